import PyProof.Rows.All
import Wide.All
import OpenK.AllK
import Wide.FinOn
import HandS.Lambda
import HandS.Nested
import KE.KDflt
import HandS.ForMost
import HandS.Exc
import HandS.ExcOwn
import HandS.TryOnly
import HandS.WordsExc
import HandS.IsInst
import HandS.Defaults
import HandS.TupAny
import HandS.Wide
import HandS.ExcIs
import PyProof.SumAnyB
import PyProof.Rows.SumGenD
import HandS.Style
import HandS.MakeKwOnly
import HandS.More
import HandS.SetFor
import HandS.TupSets
import HandS.Strs
import HandS.Deep
import HandS.HeadHook1
import HandS.HeadHook2
import HandS.HeadHook3
import HandS.HeadHook4
import PySem.Challenge.RW_hushnotice_k11_whole_bells_ring_in_calm
import KE.KStateDown
import Lean
import HandS.Base
import HandS.Call
import HandS.Ends
import HandS.Words
import HandS.Head0
import HandS.Head1
import HandS.Head2
import HandS.HeadEnd
import HandS.HeadWalk
set_option Elab.async false
set_option linter.all false
set_option maxRecDepth 100000
set_option maxHeartbeats 4000000
/-! Lambdas as values: made, kept in lists, called later by others. -/
namespace Lm
open PySem PySem.Spec PyProof.Rows L2 LamX NdefX
/-- the function data of a lambda: F its words (no statements), e its expression, dV its defaults -/
abbrev lfd (F : NF) (e : Expr) (dV doc pm ctv : Value) : FuncData := PySem.W.kdv_fn F.name F.qual F.params (.expr e) F.scope F.cl dV doc pm (.ref F.c) ctv
def LamO (f : Addr) (F : NF) (e : Expr) (dV : Value) : HO := .ext fun h => ∃ (od : Option Addr) (sl : Array (Option Value)) (doc pm ctv : Value), h.get? f = some (⟨.type "function", od, .func (lfd F e dV doc pm ctv), sl⟩ : Obj)
theorem lamO_at {P : Program} {w : World} {H : Hp} {h : Heap} {f : Addr} {F : NF} {e : Expr} {dV : Value} (hok : HOk P w H h) (q : H f = some (LamO f F e dV)) : ∃ (od : Option Addr) (sl : Array (Option Value)) (doc pm ctv : Value), h.get? f = some (⟨.type "function", od, .func (lfd F e dV doc pm ctv), sl⟩ : Obj) := by
  obtain ⟨z, _, _⟩ := hok f _ q
  exact z
section
variable {X : Cx} {pins : List (Addr × Obj)} {σ : L2.St} {H : Hp} {s : Shared}
theorem inv_lam {F : NF} {e : Expr} {dV : Value} {o : Obj} {t' : Nat} {doc pm ctv : Value} (I : Inv X pins σ H s) (ho : o = { cls := .type "function", data := .func (lfd F e dV doc pm ctv) }) :
    Inv X pins σ (upd H s.heap.objs.size (LamO s.heap.objs.size F e dV)) { s with heap := s.heap.push o, toks := t' } := by
  subst ho
  refine I.laid (a := s.heap.objs.size) (fun b u e => Heap.get?_push_of_some _ e) (Nat.le_refl _) ?_
  have z : (s.heap.push ({ cls := .type "function", data := .func (lfd F e dV doc pm ctv) } : Obj)).get? s.heap.objs.size = some ({ cls := .type "function", data := .func (lfd F e dV doc pm ctv) } : Obj) := Heap.get?_push_size _ rfl
  exact ⟨⟨_, _, doc, pm, ctv, z⟩, ⟨_, z⟩, fun h1 h2 ⟨od, sl, d, p, t, z⟩ st => ⟨od, sl, d, p, t, st _ z⟩⟩
/-- the lambda's words -/
abbrev NF.lam (X : Cx) (params : Arguments) (scope : Scope) (c' : Addr) : NF := ⟨"<lambda>", X.env.qual ++ "<lambda>", params, [], scope, cloFrom X.env.cells scope.names [], c'⟩
/-- the lambda's object is made: its code object is new, or found in the table -/
theorem lam_tail {nm : Nat → Nat → Str} {c P : Addr} {params : Arguments} {body : Expr} {scope : Scope} {pos : Pos} {dV : Value} {E : Value → Shared → Prop} {Q : Value → Shared → Prop} (I : Inv X pins σ H s) (TB : TabB X.base X.mg c P) (hcode : X.env.code = .ref c)
    (hn : nm pos.line pos.col = X.env.qual ++ "<lambda>") (hT : TabN H P nm) (hfree : ∀ y ∈ scope.names, y.2 = .free → ∃ c, X.env.cells.lookup y.1 = some c)
    (h : ∀ (f c' : Addr) (H1 : Hp) (s' : Shared), Inv X pins σ H1 s' → (∀ b o, b ≠ P → H b = some o → H1 b = some o) → (∀ b, H1 b = Option.none → H b = Option.none) → TabN H1 P nm → H f = none → H1 f = some (LamO f (NF.lam X params scope c') body dV) → H1 c' = some (CodeO c' (X.env.qual ++ "<lambda>")) →
      (∀ b o, H1 b = some o → H b = none → b = f ∨ b = c') → Q (.ref f) s') :
    wpAny (model X.prog X.w) X.A (makeTail "<lambda>" (X.env.qual ++ "<lambda>") params (.expr body) scope X.env dV .none none pos pos.line) Q E s := by
  obtain ⟨ps, hP, ht, ha⟩ := (show TabN H P nm from hT)
  have bP : s.heap.BuiltinsAt X.mg P := TB.bm.keeps I.bk
  have hP' : s.heap.get? P = some { cls := .none, data := .fields ps } := I.hok P _ hP
  cases hc : codeAmong pos ps.toList with
  | none =>
    refine PySem.W.kdv_makeTail (mg := X.mg) (c := c) (P := P) (ps := ps) (closure_ok hfree) I.ok.glob (I.mod.glob.keeps I.bk) hcode (TB.code.keeps I.bk) hP' ht hc TB.gP bP fun c' ctv doc h' tk hx hge hlt hrec htb => ?_
    obtain ⟨c2, oc, vs, t, e2, hoc, hd, hv⟩ := hrec
    cases e2
    have nC : H c' = none := I.hok.fresh hge
    have I1 := inv_table (t' := tk) (more := #[rawInt pos.line, rawInt pos.col, .ref c']) (h' := h') I hP (fun b o hb e => hx b o hb e) htb hge ⟨oc, vs, t, hoc, hd, hv⟩
    have hE : ∀ b o, b ≠ P → H b = some o → (upd (upd H P (.tbl (ps ++ #[rawInt pos.line, rawInt pos.col, .ref c']))) c' (CodeO c' (X.env.qual ++ "<lambda>"))) b = some o := fun b o n e => by
      rw [upd_ne (ne_of_none e nC), upd_ne n]
      exact e
    have eL : (ps ++ #[rawInt pos.line, rawInt pos.col, .ref c']).toList = ps.toList ++ [rawInt pos.line, rawInt pos.col, .ref c'] := by simp
    have nP : ∀ {b : Addr} {q : Str}, H b = some (CodeO b q) → b ≠ P := fun {b q} e z => by
      rw [z, hP] at e
      exact codeO_ne _ (Option.some.inj e).symm
    have T1 : TabN (upd (upd H P (.tbl (ps ++ #[rawInt pos.line, rawInt pos.col, .ref c']))) c' (CodeO c' (X.env.qual ++ "<lambda>"))) P nm := by
      refine ⟨_, by rw [upd_ne (ne_of_none hP nC), upd_same], by rw [eL]; exact PySem.TriplesOk_snoc _ _ _ _ ht, fun p' cv hcv => ?_⟩
      rw [eL] at hcv
      rcases among_app2 _ ht hcv with z | ⟨z, z1, z2⟩
      · obtain ⟨c0, e1, e2⟩ := ha p' cv z
        exact ⟨c0, e1, hE _ _ (nP e2) e2⟩
      · refine ⟨c', z, ?_⟩
        rw [← z1, ← z2, hn]
        exact upd_same
    have nF := I1.hok.fresh (Nat.le_refl _)
    have I2 := inv_lam (F := NF.lam X params scope c') (e := body) (dV := dV) (t' := tk) (doc := doc) (pm := (X.mg "__name__").getD .none) (ctv := ctv) I1 rfl
    refine h h'.objs.size c' _ _ I2 (fun b o n e => ?_) (fun b e => upd_none (upd_none (upd_none e))) (T1.ext fun b o e => ?_) (I.hok.fresh (Nat.le_trans hge (Nat.le_of_lt hlt))) upd_same ?_ (fun b o e n => ?_)
    · have e1 := hE b o n e
      exact (upd_ne (ne_of_none e1 nF)).trans e1
    · exact (upd_ne (ne_of_none e nF)).trans e
    · exact (upd_ne (Nat.ne_of_lt hlt)).trans upd_same
    · by_cases q1 : b = h'.objs.size
      · exact .inl q1
      · rw [upd_ne q1] at e
        by_cases q2 : b = c'
        · exact .inr q2
        · rw [upd_ne q2] at e
          by_cases q3 : b = P
          · rw [q3, hP] at n
            cases n
          · rw [upd_ne q3, n] at e
            cases e
  | some cv =>
    obtain ⟨c', e, hco⟩ := ha pos cv hc
    subst e
    rw [hn] at hco
    refine PySem.W.kdv_makeTailHit (mg := X.mg) (c := c) (P := P) (ps := ps) (closure_ok hfree) I.ok.glob (I.mod.glob.keeps I.bk) hcode (TB.code.keeps I.bk) hP' ht hc bP fun ctv doc h' tk hx hsz => ?_
    have I1 : Inv X pins σ H { s with heap := h', toks := tk } := I.kept hx
    have nF : H h'.objs.size = none := I1.hok.fresh (Nat.le_refl _)
    have I2 := inv_lam (F := NF.lam X params scope c') (e := body) (dV := dV) (t' := tk) (doc := doc) (pm := (X.mg "__name__").getD .none) (ctv := ctv) I1 rfl
    refine h h'.objs.size c' _ _ I2 (fun b o n e => ?_) (fun b e => upd_none e) (hT.ext fun b o e => ?_) nF upd_same ?_ (fun b o e n => ?_)
    · exact (upd_ne (ne_of_none e nF)).trans e
    · exact (upd_ne (ne_of_none e nF)).trans e
    · exact (upd_ne (ne_of_none hco nF)).trans hco
    · by_cases q1 : b = h'.objs.size
      · exact .inl q1
      · rw [upd_ne q1, n] at e
        cases e
/-- lambda: body -/
def tLam0 (P : Addr) (nm : Nat → Nat → Str) (mk : Addr → NF) (body : Expr) : TE := fun σ H Q => TabN H P nm ∧ ∀ (f c' : Addr) (H1 : Hp), (∀ b o, b ≠ P → H b = some o → H1 b = some o) → (∀ b, H1 b = Option.none → H b = Option.none) → TabN H1 P nm → H f = none → H1 f = some (LamO f (mk c') body .none) → H1 c' = some (CodeO c' (mk c').qual) →
  (∀ b o, H1 b = some o → H b = none → b = f ∨ b = c') → Q (.ref f) H1
theorem pe_lam0 {nm : Nat → Nat → Str} {c P : Addr} {params : Arguments} {body : Expr} {scope : Scope} {pos : Pos} (TB : TabB X.base X.mg c P) (hcode : X.env.code = .ref c) (hn : nm pos.line pos.col = X.env.qual ++ "<lambda>")
    (hfree : ∀ y ∈ scope.names, y.2 = .free → X.env.scope.names.lookup y.1 = some .cell ∨ X.env.scope.names.lookup y.1 = some .free) (hdef : defaultsOf params X.env = ([], [])) : PE X (.Lambda params body scope pos) (tLam0 P nm (NF.lam X params scope) body) := by
  refine ⟨fun pins s σ H Q I h => ?_⟩
  obtain ⟨hT, h⟩ := h
  refine PySem.W.kla_eval hdef ?_
  rw [makeFunction_eq]
  simp only [List.zip_nil_right, List.filterMap_nil, List.isEmpty_nil, if_true, pure_bind]
  have hfr : ∀ y ∈ scope.names, y.2 = .free → ∃ c, X.env.cells.lookup y.1 = some c := fun y hy e => (hfree y hy e).elim (fun z => I.ok.has _ (.inl z)) fun z => I.ok.has _ (.inr z)
  refine lam_tail I TB hcode hn hT hfr fun f c' H1 s' I1 k0 k1 T1 f0 f1 c1 nw => ?_
  exact ⟨.ref f, H1, I1, rfl, h f c' H1 k0 k1 T1 f0 f1 c1 nw⟩
/-- lambda a=0: body; the defaults' tuple stands at T -/
def tLam1 (P : Addr) (nm : Nat → Nat → Str) (mk : Addr → NF) (body : Expr) (i : Int) : TE := fun σ H Q => TabN H P nm ∧ ∀ (f c' T : Addr) (H1 : Hp), (∀ b o, b ≠ P → H b = some o → H1 b = some o) → (∀ b, H1 b = Option.none → H b = Option.none) → TabN H1 P nm → H f = none → H T = none → H1 T = some (.tup [.int i]) → H1 f = some (LamO f (mk c') body (.ref T)) → H1 c' = some (CodeO c' (mk c').qual) →
  (∀ b o, H1 b = some o → H b = none → b = f ∨ b = c' ∨ b = T) → Q (.ref f) H1
theorem pe_lam1 {nm : Nat → Nat → Str} {c P : Addr} {params : Arguments} {body : Expr} {scope : Scope} {pos p1 : Pos} {i : Int} {j : Nat} (TB : TabB X.base X.mg c P) (hcode : X.env.code = .ref c) (hn : nm pos.line pos.col = X.env.qual ++ "<lambda>")
    (hfree : ∀ y ∈ scope.names, y.2 = .free → X.env.scope.names.lookup y.1 = some .cell ∨ X.env.scope.names.lookup y.1 = some .free) (hd : params.defaults = [.Constant (.int i) j p1]) (hk : params.kw_defaults = []) : PE X (.Lambda params body scope pos) (tLam1 P nm (NF.lam X params scope) body i) := by
  refine ⟨fun pins s σ H Q I h => ?_⟩
  obtain ⟨hT, h⟩ := h
  refine PySem.W.kdv_lam (by rw [hd]; rfl) hk ?_
  rw [hd]
  refine PySem.W.kdv_all1 (thn ((pe_int (X := X) (i := i) (pos := p1)).run pins s σ H (fun v H1 => v = .int i ∧ H1 = H) I ⟨rfl, rfl⟩) fun u s1 ⟨v, H1, I1, r1, q1⟩ => ?_)
  obtain ⟨ev, eH⟩ := q1
  subst ev
  rw [eH] at I1
  obtain ⟨t, rfl⟩ : ∃ t, u = .int i t := r1
  refine PySem.W.kdv_all0 ?_
  rw [makeFunction_eq]
  simp only [List.zip_nil_right, List.filterMap_nil, List.isEmpty_nil, List.isEmpty_cons, Bool.false_eq_true, if_false, if_true, pure_bind]
  refine wpAny_bind (wpAny_newTextTuple ?_)
  have hf : H s1.heap.objs.size = none := I1.hok.fresh (Nat.le_refl _)
  have I2 : Inv X pins σ (upd H s1.heap.objs.size (.tup [.int i])) { s1 with heap := s1.heap.push { cls := .type "tuple", data := .seq [Value.int i t].toArray } } := I1.laid (t' := s1.toks) (fun b u e => Heap.get?_push_of_some _ e) (Nat.le_refl _) ⟨(by show 1 ≤ sizeLine; decide), [.int i t], .cons ⟨t, rfl⟩ .nil, ⟨_, Heap.get?_push_size _ rfl, rfl, _, rfl⟩⟩
  have hfr : ∀ y ∈ scope.names, y.2 = .free → ∃ c, X.env.cells.lookup y.1 = some c := fun y hy e => (hfree y hy e).elim (fun z => I.ok.has _ (.inl z)) fun z => I.ok.has _ (.inr z)
  have hT2 : TabN (upd H s1.heap.objs.size (.tup [.int i])) P nm := hT.ext fun b o e => (upd_ne (ne_of_none e hf)).trans e
  have hTP : s1.heap.objs.size ≠ P := fun z => by
    obtain ⟨ps, hP, _⟩ := hT
    rw [z, hP] at hf
    cases hf
  refine lam_tail I2 TB hcode hn hT2 hfr fun f c' H1 s' I1 k0 k1 T1 f0 f1 c1 nw => ?_
  refine ⟨.ref f, H1, I1, rfl, h f c' s1.heap.objs.size H1 (fun b o n e => k0 b o n ((upd_ne (ne_of_none e hf)).trans e)) (fun b e => upd_none (k1 b e)) T1 (upd_none f0) hf (k0 _ _ hTP upd_same) f1 c1 (fun b o e n => ?_)⟩
  by_cases q : b = s1.heap.objs.size
  · exact .inr (.inr q)
  · rcases nw b o e ((upd_ne q).trans n) with z | z
    · exact .inl z
    · exact .inr (.inl z)
end
/-! ### calls -/
section
variable {CX : CXT} {P : Program} {w : World} {K : PySem.W.Frag} {mg : Str → Option Value} {base : Heap} {N ps fr : List Str} {F : NF} {e : Expr} {dV : Value} {f : Addr} {k : Nat} {tb : List (Option V) → XK → TE}
/-- the lambda at f, called without arguments, at every state where its cells hold ws -/
def LOk (CX : CXT) (P : Program) (w : World) (K : PySem.W.Frag) (mg : Str → Option Value) (base : Heap) (k : Nat) (f : Addr) (F : NF) (e : Expr) (dV : Value) (fr : List Str) (ws : List (Option V)) (Z : Hp → Prop) (sp : Hp → VK → XK → Prop) : Prop :=
  ∀ (A : Around) (outer : List Env) (s : Shared) (H : Hp) (Q : VK) (E : XK), Room k A → Env0 P w K mg base A outer s H → H f = some (LamO f F e dV) → H F.c = some (CodeO F.c F.qual) → Z H → CellsAt F.cl fr ws s.heap H → sp H Q E →
    codeAny (model P w) A (.call (.ref f) ⟨[], []⟩) (CR CX outer P w H s Q E) s
theorem lok_of {vs : List V} {Z : Hp → Prop} {ws : List (Option V)} {sp : Hp → VK → XK → Prop} (S : NScope N ps fr F.scope) (hl : vs.length = ps.length)
    (hb : ∀ (doc pm ctv : Value) (s : Shared) (H : Hp), HOk P w H s.heap → Z H → ∃ us, Vals vs us ∧ BindsTo s (lfd F e dV doc pm ctv) ⟨[], []⟩ (ps.zip us))
    (hbody : ∀ (A : Around) (outer : List Env) (s : Shared) (H : Hp) (Q : VK) (E : XK), Room k (A.deeper (envF F f s.heap.objs.size)) → sp H Q E → ∃ tb, PE (ncx CX P w K mg base N F f A outer s H E) e tb ∧ tb (startF N vs ws) H Q) : LOk CX P w K mg base (k + 1) f F e dV fr ws Z sp := by
  intro A outer s H Q E hr e0 hf hc hZ C hsp
  have lim : s.heap.NoLimit := e0.mod.nolimit.keeps fun b o e => (e0.bs b o e).1
  obtain ⟨od, sl, doc, pm, ctv, ho⟩ := lamO_at e0.hok hf
  obtain ⟨us, r, hbd⟩ := hb doc pm ctv s H e0.hok hZ
  refine PySem.W.kla_callFunE hr.depth ho rfl S.co S.gen rfl (codeO_at e0.hok hc) (hbd _ _ _ _ ?_)
  refine wpAny_newFunctionEnv S.nocell (fun ⟨n, _⟩ hy => S.par n (List.of_mem_zip hy).1) (fun h₁ hns hsb => ⟨lim.fresh _ hsb, ?_⟩) S.kind
  show codeAny _ _ (.expr e (envF F f s.heap.objs.size)) _ _
  have kp : ∀ b o, s.heap.get? b = some o → h₁.get? b = some o := fun b o e => hsb.extBut b o (Nat.ne_of_lt (Heap.lt_size e)) (Heap.get?_push_of_some _ e)
  obtain ⟨tb, ht, hq⟩ := hbody A outer s H Q E (hr.deeper _) hsp
  have I : Inv (ncx CX P w K mg base N F f A outer s H E) [] (startF N vs ws) H { s with heap := h₁, toks := s.toks + (ps.zip us).length } := inv_startN S hr.hd e0 hl r C hns kp
  refine PySem.W.kla_codeExpr (wpAny_mono (ht.run [] _ (startF N vs ws) H Q I hq) (fun v s' hq => ?_) fun e s' hq => hq)
  obtain ⟨w', H', J', rv, q⟩ := hq
  exact ⟨w', H', J'.os, J'.bare, J'.base, J'.hok, rv, q⟩
end
end Lm

set_option Elab.async false
set_option linter.all false
set_option maxRecDepth 100000
set_option maxHeartbeats 4000000
/-! Symbolic values and a symbolic memory: tuples are values, lists, dicts, instances are owned cells of the memory; F (hidden) is the part of the abstract heap that no longer changes. -/
namespace Sy
open PySem PySem.Spec PyProof.Rows L2
inductive SV where
  | non | bl (b : Bool) | int (i : Int) | str (x : Str) | tup (xs : List SV) | lst (xs : List SV) | ref (a : Addr) | ty (n : String)
inductive MO where
  | lst (xs : List SV) | dK (kvs : List (Key × SV)) | dT (kvs : List (List Key × SV)) | ins (C : Addr) (fs : List (Str × SV)) | box (c : Addr) | bxi | tab (nm : Nat → Nat → Str) | lam (mk : Addr → NdefX.NF) (e : Expr) (d : Option Int) | pred (ψ : Hp → Hp → Prop) | xd (fs : List (Str × SV)) | raw (o : HO)
abbrev Mem := Addr → Option MO
def up (m : Mem) (a : Addr) (o : MO) : Mem := fun b => if b = a then some o else m b
theorem up_same {m : Mem} {a : Addr} {o : MO} : up m a o a = some o := by unfold up; rw [if_pos rfl]
theorem up_ne {m : Mem} {a b : Addr} {o : MO} (h : b ≠ a) : up m a o b = m b := by unfold up; rw [if_neg h]
theorem up_up {m : Mem} {a : Addr} {o u : MO} : up (up m a o) a u = up m a u := by
  funext b; unfold up; split <;> rfl
theorem up_comm {m : Mem} {a b : Addr} {o u : MO} (h : a ≠ b) : up (up m a o) b u = up (up m b u) a o := by
  funext c; unfold up
  by_cases h1 : c = b
  · subst h1; rw [if_pos rfl, if_neg (Ne.symm h), if_pos rfl]
  · rw [if_neg h1]
    by_cases h2 : c = a
    · rw [if_pos h2, if_pos h2]
    · rw [if_neg h2, if_neg h2, if_neg h1]
theorem up_id {m : Mem} {a : Addr} {o : MO} (h : m a = some o) : up m a o = m := by
  funext b; unfold up; split
  · next e => rw [e, h]
  · rfl
theorem mne {m : Mem} {a b : Addr} {o : MO} (h : m a = some o) (n : m b = none) : a ≠ b := fun e => by rw [e, n] at h; cases h
def Le (a m : Mem) : Prop := ∀ b o, a b = some o → m b = some o
theorem Le.refl (m : Mem) : Le m m := fun _ _ h => h
theorem Le.trans {a b c : Mem} (h : Le a b) (k : Le b c) : Le a c := fun x o e => k x o (h x o e)
theorem Le.new {a m : Mem} {p : Addr} {o : MO} (h : Le a m) (n : m p = none) : Le a (up m p o) := fun x u e => by
  have e2 := h x u e
  rw [up_ne (mne e2 n)]
  exact e2
theorem Le.put {a m : Mem} {p : Addr} {o : MO} (h : Le a m) : Le (up a p o) (up m p o) := fun x u e => by
  by_cases q : x = p
  · subst q; rw [up_same] at e ⊢; exact e
  · rw [up_ne q] at e ⊢; exact h x u e
theorem Le.none {a m : Mem} {p : Addr} (h : Le a m) (n : m p = none) : a p = none := by
  cases q : a p with
  | none => rfl
  | some o => rw [h p o q] at n; cases n
inductive Fg (P : Mem → Prop) (m : Mem) : Prop where
  | mk (a : Mem) (l : Le a m) (h : P a) : Fg P m
theorem Fg.of {P : Mem → Prop} {m : Mem} (h : P m) : Fg P m := ⟨m, .refl m, h⟩
/-- frozen parts -/
def Sub (F H : Hp) : Prop := ∀ a o, F a = some o → H a = some o
theorem Sub.refl (H : Hp) : Sub H H := fun _ _ h => h
theorem Sub.trans {F G H : Hp} (a : Sub F G) (b : Sub G H) : Sub F H := fun x o h => b x o (a x o h)
theorem Sub.gone {F H : Hp} (e : Sub F H) {p : Addr} (h : H p = none) : F p = none := by
  cases q : F p with
  | none => rfl
  | some o => rw [e p o q] at h; cases h
theorem Sub.new {F : Hp} {p : Addr} {o : HO} (h : F p = none) : Sub F (upd F p o) := fun a u e => by
  rw [upd_ne (ne_of_none e h)]; exact e
theorem Sub.upd2 {F H : Hp} {p : Addr} {o : HO} (e : Sub F H) : Sub (upd F p o) (upd H p o) := fun a u h => by
  by_cases ha : a = p
  · subst ha; rw [upd_same] at h ⊢; exact h
  · rw [upd_ne ha] at h ⊢; exact e a u h
theorem Sub.free {F H : Hp} {p : Addr} {o : HO} (e : Sub F H) (h : F p = none) : Sub F (upd H p o) := fun a u ha => by
  rw [upd_ne (ne_of_none ha h)]; exact e a u ha
theorem Sub.in {F H : Hp} {p : Addr} {o : HO} (e : Sub F H) (h : H p = some o) : Sub (upd F p o) H := fun a u ha => by
  by_cases hp : a = p
  · subst hp; rw [upd_same] at ha; cases ha; exact h
  · rw [upd_ne hp] at ha; exact e a u ha
theorem sql_sub {K : PySem.W.Frag} {F H : Hp} {a : Addr} {xs : List V} (e : Sub F H) (h : SqL K F a xs) : SqL K H a xs := by
  rcases h with (h | ⟨o, h⟩) | h
  · exact .inl (.inl (e _ _ h))
  · exact .inl (.inr ⟨o, e _ _ h⟩)
  · exact .inr h
theorem sqt_sub {K : PySem.W.Frag} {F H : Hp} {a : Addr} {xs : List V} (e : Sub F H) (h : SqT K F a xs) : SqT K H a xs := by
  rcases h with (h | ⟨o, h⟩) | h
  · exact .inl (.inl (e _ _ h))
  · exact .inl (.inr ⟨o, e _ _ h⟩)
  · exact .inr h
/-! ### values -/
mutual
inductive VR (K : PySem.W.Frag) (F : Hp) : V → SV → Prop
  | non : VR K F .non .non
  | bl (b : Bool) : VR K F (.bl b) (.bl b)
  | int (i : Int) : VR K F (.int i) (.int i)
  | str (x : Str) : VR K F (.str x) (.str x)
  | ty (n : String) : VR K F (.ty n) (.ty n)
  | ref (a : Addr) : VR K F (.ref a) (.ref a)
  | tup {a : Addr} {vs : List V} {xs : List SV} : SqT K F a vs → VRs K F vs xs → VR K F (.ref a) (.tup xs)
  | lst {a : Addr} {vs : List V} {xs : List SV} : SqL K F a vs → VRs K F vs xs → VR K F (.ref a) (.lst xs)
inductive VRs (K : PySem.W.Frag) (F : Hp) : List V → List SV → Prop
  | nil : VRs K F [] []
  | cons {v : V} {x : SV} {vs : List V} {xs : List SV} : VR K F v x → VRs K F vs xs → VRs K F (v :: vs) (x :: xs)
end
mutual
theorem vr_sub {K : PySem.W.Frag} {F H : Hp} (e : Sub F H) : ∀ {v : V} {d : SV}, VR K F v d → VR K H v d
  | _, _, .non => .non
  | _, _, .bl b => .bl b
  | _, _, .int i => .int i
  | _, _, .str x => .str x
  | _, _, .ty x => .ty x
  | _, _, .ref x => .ref x
  | _, _, .lst h a => .lst (sql_sub e h) (vrs_sub e a)
  | _, _, .tup h a => .tup (sqt_sub e h) (vrs_sub e a)
theorem vrs_sub {K : PySem.W.Frag} {F H : Hp} (e : Sub F H) : ∀ {vs : List V} {ds : List SV}, VRs K F vs ds → VRs K H vs ds
  | _, _, .nil => .nil
  | _, _, .cons a b => .cons (vr_sub e a) (vrs_sub e b)
end
section
variable {K : PySem.W.Frag} {F H : Hp}
theorem vrs_length : ∀ {vs : List V} {ds : List SV}, VRs K F vs ds → vs.length = ds.length
  | _, _, .nil => rfl
  | _, _, .cons _ b => by rw [List.length_cons, List.length_cons, vrs_length b]
theorem vrs_get : ∀ {vs : List V} {ds : List SV} {i : Nat} {d : SV}, VRs K F vs ds → ds[i]? = some d → ∃ v, vs[i]? = some v ∧ VR K F v d
  | _, _, _, _, .nil, e => by simp at e
  | _, _, 0, _, .cons r _, e => by simp at e; subst e; exact ⟨_, rfl, r⟩
  | _, _, i + 1, d, .cons _ t, e => by
    obtain ⟨u, h1, h2⟩ := vrs_get (i := i) (d := d) t (by simpa using e)
    exact ⟨u, by simpa using h1, h2⟩
theorem vrs_getV : ∀ {vs : List V} {ds : List SV} {i : Nat} {v : V}, VRs K F vs ds → vs[i]? = some v → ∃ d, ds[i]? = some d ∧ VR K F v d
  | _, _, _, _, .nil, e => by simp at e
  | _, _, 0, _, .cons r _, e => by simp at e; subst e; exact ⟨_, rfl, r⟩
  | _, _, i + 1, v, .cons _ t, e => by
    obtain ⟨u, h1, h2⟩ := vrs_getV (i := i) (v := v) t (by simpa using e)
    exact ⟨u, by simpa using h1, h2⟩
theorem vrs_append : ∀ {vs ws : List V} {ds es : List SV}, VRs K F vs ds → VRs K F ws es → VRs K F (vs ++ ws) (ds ++ es)
  | _, _, _, _, .nil, s => s
  | _, _, _, _, .cons r t, s => .cons r (vrs_append t s)
theorem vrs_take : ∀ {vs : List V} {ds : List SV} (n : Nat), VRs K F vs ds → VRs K F (vs.take n) (ds.take n)
  | _, _, 0, _ => .nil
  | _, _, _ + 1, .nil => .nil
  | _, _, n + 1, .cons r t => .cons r (vrs_take n t)
theorem vrs_drop : ∀ {vs : List V} {ds : List SV} (n : Nat), VRs K F vs ds → VRs K F (vs.drop n) (ds.drop n)
  | _, _, 0, r => r
  | _, _, _ + 1, .nil => .nil
  | _, _, n + 1, .cons _ t => vrs_drop n t
theorem vrs_set : ∀ {vs : List V} {ds : List SV} {v : V} {d : SV} (n : Nat), VRs K F vs ds → VR K F v d → VRs K F (vs.set n v) (ds.set n d)
  | _, _, _, _, _, .nil, _ => .nil
  | _, _, _, _, 0, .cons _ t, r => .cons r t
  | _, _, _, _, n + 1, .cons q t, r => .cons q (vrs_set n t r)
theorem vrs_erase : ∀ {vs : List V} {ds : List SV} (n : Nat), VRs K F vs ds → VRs K F (vs.eraseIdx n) (ds.eraseIdx n)
  | _, _, _, .nil => .nil
  | _, _, 0, .cons _ t => t
  | _, _, n + 1, .cons q t => .cons q (vrs_erase n t)
theorem vrs_ints : ∀ {vs : List V} {ns : List Int}, VRs K F vs (ns.map SV.int) → vs = ns.map V.int
  | _, [], .nil => rfl
  | _, _ :: _, .cons (.int _) t => by rw [vrs_ints t]; rfl
theorem vrs_of_ints : ∀ (ns : List Int), VRs K F (ns.map V.int) (ns.map SV.int)
  | [] => .nil
  | _ :: r => .cons (.int _) (vrs_of_ints r)
theorem vrs_bls : ∀ {vs : List V} {ns : List Bool}, VRs K F vs (ns.map SV.bl) → vs = ns.map V.bl
  | _, [], .nil => rfl
  | _, _ :: _, .cons (.bl _) t => by rw [vrs_bls t]; rfl
theorem vrs_strs : ∀ {vs : List V} {ns : List Str}, VRs K F vs (ns.map SV.str) → vs = ns.map V.str
  | _, [], .nil => rfl
  | _, _ :: _, .cons (.str _) t => by rw [vrs_strs t]; rfl
theorem vr_int {v : V} {i : Int} (h : VR K F v (.int i)) : v = .int i := by cases h; rfl
theorem vr_bl {v : V} {i : Bool} (h : VR K F v (.bl i)) : v = .bl i := by cases h; rfl
theorem vr_str {v : V} {i : Str} (h : VR K F v (.str i)) : v = .str i := by cases h; rfl
theorem vr_non {v : V} (h : VR K F v .non) : v = .non := by cases h; rfl
theorem vr_ref {v : V} {a : Addr} (h : VR K F v (.ref a)) : v = .ref a := by cases h; rfl
theorem vr_ty {v : V} {n : String} (h : VR K F v (.ty n)) : v = .ty n := by cases h; rfl
end
/-- keyed values -/
inductive KR {κ : Type} (K : PySem.W.Frag) (F : Hp) : List (κ × V) → List (κ × SV) → Prop
  | nil : KR K F [] []
  | cons {k : κ} {v : V} {x : SV} {vs : List (κ × V)} {xs : List (κ × SV)} : VR K F v x → KR K F vs xs → KR K F ((k, v) :: vs) ((k, x) :: xs)
section
variable {K : PySem.W.Frag} {F H : Hp} {κ : Type}
theorem kr_sub (e : Sub F H) : ∀ {vs : List (κ × V)} {xs : List (κ × SV)}, KR K F vs xs → KR K H vs xs
  | _, _, .nil => .nil
  | _, _, .cons a b => .cons (vr_sub e a) (kr_sub e b)
theorem kr_keys : ∀ {vs : List (κ × V)} {xs : List (κ × SV)}, KR K F vs xs → vs.map (·.1) = xs.map (·.1)
  | _, _, .nil => rfl
  | _, _, .cons _ b => by rw [List.map_cons, List.map_cons, kr_keys b]
theorem kr_length {vs : List (κ × V)} {xs : List (κ × SV)} (h : KR K F vs xs) : vs.length = xs.length := by
  have := congrArg List.length (kr_keys h)
  simpa using this
theorem kr_lookup [BEq κ] : ∀ {vs : List (κ × V)} {xs : List (κ × SV)} {k : κ}, KR K F vs xs → match xs.lookup k with | some x => ∃ v, vs.lookup k = some v ∧ VR K F v x | none => vs.lookup k = none
  | _, _, _, .nil => rfl
  | (k', v) :: vs, (_, x) :: xs, k, .cons r t => by
    rw [List.lookup_cons, List.lookup_cons]
    cases k == k' with
    | true => exact ⟨v, rfl, r⟩
    | false => exact kr_lookup t
end
/-! ### the memory -/
/-- what never changes where it stands -/
def Still : HO → Prop
  | .ext _ => True
  | .tup _ => True
  | .own _ => True
  | _ => False
def MOR (K : PySem.W.Frag) (F H : Hp) (m : Mem) (a : Addr) : MO → Prop
  | .lst xs => ∃ vs, H a = some (.lst vs) ∧ VRs K F vs xs
  | .dK kvs => ∃ us, H a = some (.dK us) ∧ KR K F us kvs
  | .dT kvs => ∃ us, H a = some (.dT us) ∧ KR K F us kvs
  | .ins C fs => ∃ dx us, H a = some (.ins C dx us) ∧ H dx = some (.own a) ∧ F dx = none ∧ m dx = none ∧ KR K F us fs
  | .xd fs => ∃ us, H a = some (.xd us) ∧ KR K F us fs
  | .box c => ∃ sv : Int, H a = some (.lst [.ref c, .int sv])
  | .bxi => ∃ ns : List Int, H a = some (.lst (ns.map V.int)) ∧ ns.length ≤ 63
  | .tab nm => NdefX.TabN H a nm
  | .lam mk e d => ∃ (c : Addr) (dV : Value), H a = some (Lm.LamO a (mk c) e dV) ∧ H c = some (LamX.CodeO (mk c).c (mk c).qual) ∧ (mk c).c = c ∧ (match d with | none => dV = .none | some i => ∃ T, dV = .ref T ∧ H T = some (.tup [.int i]))
  | .pred ψ => (∃ u, H a = some u ∧ Still u) ∧ ∀ F' H', Sub F F' → (∀ b u, H b = some u → Still u → H' b = some u) → ψ F' H'
  | .raw o => H a = some o
structure MR (K : PySem.W.Frag) (F H : Hp) (m : Mem) : Prop where
  sub : Sub F H
  at_ : ∀ a o, m a = some o → F a = none ∧ MOR K F H m a o
section
variable {K : PySem.W.Frag} {F H F' H' : Hp} {m m' : Mem} {a p : Addr} {o : MO} {ho : HO}
theorem mor_some : ∀ {o : MO}, MOR K F H m a o → ∃ u, H a = some u
  | .lst _, ⟨_, h, _⟩ => ⟨_, h⟩
  | .dK _, ⟨_, h, _⟩ => ⟨_, h⟩
  | .dT _, ⟨_, h, _⟩ => ⟨_, h⟩
  | .ins _ _, ⟨_, _, h, _⟩ => ⟨_, h⟩
  | .xd _, ⟨_, h, _⟩ => ⟨_, h⟩
  | .box _, ⟨_, h⟩ => ⟨_, h⟩
  | .bxi, ⟨_, h, _⟩ => ⟨_, h⟩
  | .tab _, ⟨_, h, _⟩ => ⟨_, h⟩
  | .lam _ _ _, ⟨_, _, h, _⟩ => ⟨_, h⟩
  | .pred _, ⟨⟨u, h, _⟩, _⟩ => ⟨u, h⟩
  | .raw _, h => ⟨_, h⟩
theorem MR.have_ (M : MR K F H m) (h : m a = some o) : ∃ u, H a = some u := mor_some (M.at_ a o h).2
theorem MR.gone (M : MR K F H m) (h : H p = none) : m p = none := by
  cases q : m p with
  | none => rfl
  | some o =>
    obtain ⟨u, z⟩ := M.have_ q
    rw [h] at z; cases z
/-- another frame: what is tracked stays as it is, the frozen part grows where nothing is owned -/
theorem mor_keep (sF : Sub F F') (hm : ∀ b, m b = none → (∀ o', m' b = some o' → False) ∨ b = p) (hH : ∀ b u, b ≠ p → H b = some u → H' b = some u) (hp : ∀ u, H p = some u → ¬ Still u)
    (hF : ∀ b u, H b = some u → F b = none → F' b = none) : ∀ {o : MO}, a ≠ p → MOR K F H m a o → MOR K F' H' m' a o := fun {o} n h => by
  have key : ∀ b u, H b = some u → m b = none → b ≠ p → m' b = none := fun b u hb mb np => by
    cases q : m' b with
    | none => rfl
    | some o' =>
      rcases hm b mb with z | z
      · exact (z o' q).elim
      · exact (np z).elim
  have still : ∀ b u, H b = some u → Still u → H' b = some u := fun b u e1 e2 => hH b u (fun z => hp u (by rw [← z]; exact e1) e2) e1
  cases o with
  | lst xs => obtain ⟨vs, h1, h2⟩ := h; exact ⟨vs, hH _ _ n h1, vrs_sub sF h2⟩
  | dK xs => obtain ⟨vs, h1, h2⟩ := h; exact ⟨vs, hH _ _ n h1, kr_sub sF h2⟩
  | dT xs => obtain ⟨vs, h1, h2⟩ := h; exact ⟨vs, hH _ _ n h1, kr_sub sF h2⟩
  | xd xs => obtain ⟨vs, h1, h2⟩ := h; exact ⟨vs, hH _ _ n h1, kr_sub sF h2⟩
  | ins C fs =>
    obtain ⟨dx, us, h1, h2, h3, h4, h5⟩ := h
    have nd : dx ≠ p := fun z => by subst z; exact hp _ h2 trivial
    exact ⟨dx, us, hH _ _ n h1, hH _ _ nd h2, hF _ _ h2 h3, key _ _ h2 h4 nd, kr_sub sF h5⟩
  | box c => obtain ⟨sv, h1⟩ := h; exact ⟨sv, hH _ _ n h1⟩
  | bxi => obtain ⟨ns, h1, h2⟩ := h; exact ⟨ns, hH _ _ n h1, h2⟩
  | tab nm =>
    obtain ⟨ps, h1, h2, h3⟩ := h
    refine ⟨ps, hH _ _ n h1, h2, fun pos cv hc => ?_⟩
    obtain ⟨c, e1, e2⟩ := h3 pos cv hc
    exact ⟨c, e1, still _ _ e2 trivial⟩
  | lam mk e d =>
    obtain ⟨c, dV, h1, h2, h3, h4⟩ := h
    refine ⟨c, dV, hH _ _ n h1, still _ _ h2 trivial, h3, ?_⟩
    cases d with
    | none => exact h4
    | some i =>
      obtain ⟨T, e1, e2⟩ := h4
      exact ⟨T, e1, still _ _ e2 trivial⟩
  | pred ψ =>
    obtain ⟨⟨u, h1, h2⟩, h3⟩ := h
    exact ⟨⟨u, hH _ _ n h1, h2⟩, fun F2 H2 s2 k2 => h3 F2 H2 (sF.trans s2) fun b u' e1 e2 => k2 b u' (still b u' e1 e2) e2⟩
  | raw u => exact hH _ _ n h
/-- an owned cell changes -/
theorem MR.put {o0 : MO} (M : MR K F H m) (h0 : m a = some o0) (hown : ∀ u, H a = some u → ¬ Still u) (n : MOR K F (upd H a ho) (up m a o) a o) : MR K F (upd H a ho) (up m a o) where
  sub := M.sub.free (M.at_ a o0 h0).1
  at_ := fun b u hb => by
    by_cases e : b = a
    · subst e
      rw [up_same] at hb; cases hb
      exact ⟨(M.at_ b o0 h0).1, n⟩
    · rw [up_ne e] at hb
      refine ⟨(M.at_ b u hb).1, mor_keep (p := a) (.refl F) (fun c hc => ?_) (fun c u q1 q2 => (upd_ne q1).trans q2) hown (fun _ _ _ z => z) e (M.at_ b u hb).2⟩
      by_cases e2 : c = a
      · exact .inr e2
      · exact .inl fun o' z => by rw [up_ne e2, hc] at z; cases z
/-- an owned cell is told of in another way -/
theorem MR.reab {o0 : MO} (M : MR K F H m) (h0 : m a = some o0) (hown : ∀ u, H a = some u → ¬ Still u) (n : MOR K F H (up m a o) a o) : MR K F H (up m a o) where
  sub := M.sub
  at_ := fun b u hb => by
    by_cases e : b = a
    · subst e
      rw [up_same] at hb; cases hb
      exact ⟨(M.at_ b o0 h0).1, n⟩
    · rw [up_ne e] at hb
      refine ⟨(M.at_ b u hb).1, mor_keep (p := a) (.refl F) (fun c hc => ?_) (fun c u q1 q2 => q2) hown (fun _ _ _ z => z) e (M.at_ b u hb).2⟩
      by_cases e2 : c = a
      · exact .inr e2
      · exact .inl fun o' z => by rw [up_ne e2, hc] at z; cases z
/-- a thing that stands already is owned from now on -/
theorem MR.adopt (M : MR K F H m) (h0 : m a = none) (hF : F a = none) (hn : ∀ x, H a ≠ some (.own x)) (n : MOR K F H (up m a o) a o) : MR K F H (up m a o) where
  sub := M.sub
  at_ := fun b u hb => by
    by_cases e : b = a
    · subst e
      rw [up_same] at hb; cases hb
      exact ⟨hF, n⟩
    · rw [up_ne e] at hb
      obtain ⟨z1, z2⟩ := M.at_ b u hb
      refine ⟨z1, ?_⟩
      cases u with
      | ins C fs =>
        obtain ⟨dx, us, h1, h2, h3, h4, h5⟩ := z2
        exact ⟨dx, us, h1, h2, h3, by rw [up_ne (fun q => hn _ (by rw [← q]; exact h2))]; exact h4, h5⟩
      | _ => exact z2
/-- a lambda's making: the table at P grows, other things stay -/
theorem MR.table {P : Addr} {nm : Nat → Nat → Str} {H1 : Hp} (M : MR K F H m) (hP : m P = some (.tab nm)) (k : ∀ b o, b ≠ P → H b = some o → H1 b = some o) (t : NdefX.TabN H1 P nm) : MR K F H1 m where
  sub := fun b o e => k b o (fun z => by rw [z, (M.at_ P _ hP).1] at e; cases e) (M.sub b o e)
  at_ := fun b u hb => by
    obtain ⟨z1, z2⟩ := M.at_ b u hb
    refine ⟨z1, ?_⟩
    by_cases e : b = P
    · subst e
      rw [hP] at hb; cases hb
      exact t
    · exact mor_keep (p := P) (.refl F) (fun c hc => .inl fun o' z => by rw [hc] at z; cases z) (fun c u q1 q2 => k c u q1 q2) (fun u hu => by
        obtain ⟨ps, h1, _⟩ := (M.at_ P _ hP).2
        rw [h1] at hu; cases hu; exact fun z => z) (fun _ _ _ z => z) e z2
/-- a new owned cell -/
theorem MR.new_ (M : MR K F H m) (hp : H p = none) (n : MOR K F (upd H p ho) (up m p o) p o) : MR K F (upd H p ho) (up m p o) where
  sub := M.sub.free (M.sub.gone hp)
  at_ := fun b u hb => by
    by_cases e : b = p
    · subst e
      rw [up_same] at hb; cases hb
      exact ⟨M.sub.gone hp, n⟩
    · rw [up_ne e] at hb
      refine ⟨(M.at_ b u hb).1, mor_keep (p := p) (.refl F) (fun c hc => ?_) (fun c u q1 q2 => (upd_ne q1).trans q2) (fun u z => by rw [hp] at z; cases z) (fun _ _ _ z => z) e (M.at_ b u hb).2⟩
      by_cases e2 : c = p
      · exact .inr e2
      · exact .inl fun o' z => by rw [up_ne e2, hc] at z; cases z
/-- a new thing that isn't told of -/
theorem MR.hid (M : MR K F H m) (hp : H p = none) : MR K F (upd H p ho) m where
  sub := M.sub.free (M.sub.gone hp)
  at_ := fun b u hb => ⟨(M.at_ b u hb).1, mor_keep (p := p) (.refl F) (fun c hc => .inl fun o' z => by rw [hc] at z; cases z) (fun c u q1 q2 => (upd_ne q1).trans q2) (fun u z => by rw [hp] at z; cases z) (fun _ _ _ z => z) (fun e => by
    subst e
    obtain ⟨u, z⟩ := M.have_ hb
    rw [hp] at z; cases z) (M.at_ b u hb).2⟩
/-- a new frozen thing -/
theorem MR.frz (M : MR K F H m) (hp : H p = none) : MR K (upd F p ho) (upd H p ho) m where
  sub := M.sub.upd2
  at_ := fun b u hb => by
    have nb : b ≠ p := fun e => by
      subst e
      obtain ⟨u, z⟩ := M.have_ hb
      rw [hp] at z; cases z
    exact ⟨(upd_ne nb).trans (M.at_ b u hb).1, mor_keep (p := p) (Sub.new (M.sub.gone hp)) (fun c hc => .inl fun o' z => by rw [hc] at z; cases z) (fun c u q1 q2 => (upd_ne q1).trans q2) (fun u z => by rw [hp] at z; cases z) 
      (fun c u q1 q2 => (upd_ne (ne_of_none q1 hp)).trans q2) nb (M.at_ b u hb).2⟩
/-- cells are forgotten -/
theorem MR.drop (M : MR K F H m) (h : ∀ b o, m' b = some o → m b = some o) : MR K F H m' where
  sub := M.sub
  at_ := fun b u hb => by
    have z := M.at_ b u (h b u hb)
    refine ⟨z.1, ?_⟩
    have w := z.2
    have key : ∀ c, m c = none → m' c = none := fun c hc => by
      cases q : m' c with
      | none => rfl
      | some o' => rw [h c o' q] at hc; cases hc
    cases u with
    | ins C fs => obtain ⟨dx, us, h1, h2, h3, h4, h5⟩ := w; exact ⟨dx, us, h1, h2, h3, key _ h4, h5⟩
    | _ => exact w
def del (m : Mem) (a : Addr) : Mem := fun b => if b = a then none else m b
theorem del_some {b : Addr} (h : del m a b = some o) : m b = some o ∧ b ≠ a := by
  unfold del at h
  split at h
  · cases h
  · next e => exact ⟨h, e⟩
theorem del_new (h : m p = none) : del (up m p o) p = m := by
  funext b; unfold del up
  split
  · next e => rw [e, h]
  · rfl
/-- an owned cell is frozen -/
theorem MR.freeze (M : MR K F H m) (h0 : m a = some o) (hh : H a = some ho) (hown : ¬ Still ho) : MR K (upd F a ho) H (del m a) where
  sub := M.sub.in hh
  at_ := fun b u hb => by
    obtain ⟨hb, e⟩ := del_some hb
    obtain ⟨z1, z2⟩ := M.at_ b u hb
    refine ⟨(upd_ne e).trans z1, ?_⟩
    have sF : Sub F (upd F a ho) := Sub.new (M.at_ a o h0).1
    cases u with
    | lst xs => obtain ⟨vs, h1, h2⟩ := z2; exact ⟨vs, h1, vrs_sub sF h2⟩
    | dK xs => obtain ⟨vs, h1, h2⟩ := z2; exact ⟨vs, h1, kr_sub sF h2⟩
    | dT xs => obtain ⟨vs, h1, h2⟩ := z2; exact ⟨vs, h1, kr_sub sF h2⟩
    | xd xs => obtain ⟨vs, h1, h2⟩ := z2; exact ⟨vs, h1, kr_sub sF h2⟩
    | ins C fs =>
      obtain ⟨dx, us, h1, h2, h3, h4, h5⟩ := z2
      have nd : dx ≠ a := fun q => by subst q; rw [hh] at h2; cases h2; exact hown trivial
      exact ⟨dx, us, h1, h2, (upd_ne nd).trans h3, by unfold del; rw [if_neg nd]; exact h4, kr_sub sF h5⟩
    | box c => exact z2
    | bxi => exact z2
    | tab nm => exact z2
    | lam mk e d => exact z2
    | pred ψ => exact ⟨z2.1, fun F2 H2 s2 k2 => z2.2 F2 H2 (sF.trans s2) k2⟩
    | raw u => exact z2
theorem MR.lst_ {xs : List SV} (M : MR K F H m) (h : m a = some (.lst xs)) : ∃ vs, H a = some (.lst vs) ∧ VRs K F vs xs := (M.at_ a _ h).2
theorem MR.nown {xs : List SV} (M : MR K F H m) (h : m a = some (.lst xs)) : ∀ u, H a = some u → ¬ Still u := fun u hu x => by
  obtain ⟨vs, z, _⟩ := M.lst_ h
  rw [z] at hu; cases hu; exact x
/-- a list gets another content -/
theorem MR.setL {xs ys : List SV} {ws : List V} (M : MR K F H m) (h : m a = some (.lst xs)) (r : VRs K F ws ys) : MR K F (upd H a (.lst ws)) (up m a (.lst ys)) := M.put h (M.nown h) ⟨ws, upd_same, r⟩
theorem MR.newL {ys : List SV} {ws : List V} (M : MR K F H m) (hp : H p = none) (r : VRs K F ws ys) : MR K F (upd H p (.lst ws)) (up m p (.lst ys)) := M.new_ hp ⟨ws, upd_same, r⟩
end
/-! ### slots -/
abbrev DS := List (Option SV)
structure SR (K : PySem.W.Frag) (F : Hp) (σ : L2.St) (δ : DS) : Prop where
  len : σ.length = δ.length
  at_ : ∀ (i : Nat) (d : SV), δ[i]? = some (some d) → ∃ v, σ[i]? = some (some v) ∧ VR K F v d
section
variable {K : PySem.W.Frag} {F F' H : Hp} {σ : L2.St} {δ : DS}
theorem SR.sub (h : SR K F σ δ) (s : Sub F F') : SR K F' σ δ := ⟨h.len, fun i d e => by
  obtain ⟨v, h1, h2⟩ := h.at_ i d e
  exact ⟨v, h1, vr_sub s h2⟩⟩
theorem SR.set {i : Nat} {v : V} {d : SV} (h : SR K F σ δ) (dv : VR K F v d) : SR K F (σ.set i (some v)) (δ.set i (some d)) := ⟨by rw [List.length_set, List.length_set]; exact h.len, fun j e hj => by
  by_cases hji : i = j
  · subst hji
    by_cases hl : i < δ.length
    · rw [List.getElem?_set_self hl] at hj
      cases hj
      exact ⟨v, List.getElem?_set_self (by rw [h.len]; exact hl), dv⟩
    · rw [List.getElem?_eq_none (by rw [List.length_set]; omega)] at hj
      cases hj
  · rw [List.getElem?_set_ne hji] at hj ⊢
    exact h.at_ j e hj⟩
theorem SR.setNo {i : Nat} {v : Option V} (h : SR K F σ δ) : SR K F (σ.set i v) (δ.set i none) := ⟨by rw [List.length_set, List.length_set]; exact h.len, fun j e hj => by
  by_cases hji : i = j
  · subst hji
    by_cases hl : i < δ.length
    · rw [List.getElem?_set_self hl] at hj
      cases hj
    · rw [List.getElem?_eq_none (by rw [List.length_set]; omega)] at hj
      cases hj
  · rw [List.getElem?_set_ne hji] at hj ⊢
    exact h.at_ j e hj⟩
def wipeD (δ : DS) : List Nat → DS
  | [] => δ
  | v :: vs => (wipeD δ vs).set v none
theorem SR.wipe (h : SR K F σ δ) : ∀ vs : List Nat, SR K F (L2.wipe σ vs) (wipeD δ vs)
  | [] => h
  | _ :: vs => (h.wipe vs).setNo
def startD (n : Nat) (ds : List SV) : DS := ds.map some ++ List.replicate (n - ds.length) none
theorem SR.start {N : List Str} {vs : List V} {ds : List SV} (h : VRs K F vs ds) : SR K F (L2.start N vs) (startD N.length ds) := ⟨by
  unfold L2.start startD
  rw [List.length_append, List.length_append, List.length_map, List.length_map, List.length_replicate, List.length_replicate, vrs_length h], fun i d e => by
  unfold startD at e
  unfold L2.start
  by_cases hi : i < ds.length
  · rw [List.getElem?_append_left (by rw [List.length_map]; exact hi), List.getElem?_map] at e
    obtain ⟨d', h1, h2⟩ := Option.map_eq_some_iff.mp e
    cases h2
    obtain ⟨v, h3, h4⟩ := vrs_get h h1
    refine ⟨v, ?_, h4⟩
    rw [List.getElem?_append_left (by rw [List.length_map, vrs_length h]; exact hi), List.getElem?_map, h3]
    rfl
  · rw [List.getElem?_append_right (by rw [List.length_map]; omega), List.getElem?_replicate] at e
    split at e <;> cases e⟩
end
end Sy

set_option Elab.async false
set_option linter.all false
set_option maxRecDepth 100000
set_option maxHeartbeats 4000000
/-! Readings told over symbolic values: expressions. -/
namespace Sy
open PySem PySem.Spec PyProof.Rows L2
/-- an exception: its class, its fields (none: no dict of its own) -/
structure XO where
  cls : Addr
  fs : Option (List (Str × SV)) := none
abbrev SXK := XO → Mem → Prop
def XOk (K : PySem.W.Frag) (F H : Hp) (m : Mem) (d : Option Addr) (x : XO) : Prop := match x.fs with
  | none => d = none
  | some fs => ∃ (dd : Addr) (us : List (Str × V)), d = some dd ∧ H dd = some (.xd us) ∧ F dd = none ∧ m dd = none ∧ KR K F us fs
def ExOk (K : PySem.W.Frag) (F : Hp) (E : XK) (SX : SXK) : Prop := ∀ x d F' H' m', Sub F F' → MR K F' H' m' → XOk K F' H' m' d x → SX x m' → E (.ref x.cls) d H'
theorem ExOk.go {K : PySem.W.Frag} {F F' : Hp} {E : XK} {SX : SXK} (h : ExOk K F E SX) (s : Sub F F') : ExOk K F' E SX := fun x d F2 H2 m2 s2 => h x d F2 H2 m2 (s.trans s2)
theorem ExOk.fg {K : PySem.W.Frag} {F : Hp} {E : XK} {SX : SXK} (h : ExOk K F E SX) : ExOk K F E (fun x => Fg (SX x)) := fun x d F' H' m' s M hx ⟨m2, l2, q⟩ => h x d F' H' m2 s (M.drop l2) (by
  unfold XOk at hx ⊢
  cases e : x.fs with
  | none => rw [e] at hx; exact hx
  | some fs =>
    rw [e] at hx
    obtain ⟨dd, us, h1, h2, h3, h4, h5⟩ := hx
    exact ⟨dd, us, h1, h2, h3, l2.none h4, h5⟩) q
/-- the state: slots, memory, the wish of exceptions -/
structure Rl (K : PySem.W.Frag) (E : XK) (σ : L2.St) (F H : Hp) (δ : DS) (m : Mem) (SX : SXK) : Prop where
  sr : SR K F σ δ
  mr : MR K F H m
  ex : ExOk K F E SX
section
variable {K : PySem.W.Frag} {E : XK} {σ σ' : L2.St} {F F' H H' : Hp} {δ δ' : DS} {m m' : Mem} {SX : SXK}
theorem Rl.go (r : Rl K E σ F H δ m SX) (s : Sub F F') (M : MR K F' H' m') : Rl K E σ F' H' δ m' SX := ⟨r.sr.sub s, M, r.ex.go s⟩
end
abbrev SE := SXK → DS → Mem → (SV → Mem → Prop) → Prop
abbrev SA := SXK → DS → Mem → (List SV → Mem → Prop) → Prop
abbrev STt := SXK → DS → Mem → (Bool → Mem → Prop) → Prop
def Cn (K : PySem.W.Frag) (F : Hp) (S : SV → Mem → Prop) (Q : VK) : Prop := ∀ v F' H' sv m', Sub F F' → MR K F' H' m' → VR K F' v sv → S sv m' → Q v H'
def CnA (K : PySem.W.Frag) (F : Hp) (S : List SV → Mem → Prop) (Q : List V → Hp → Prop) : Prop := ∀ v F' H' sv m', Sub F F' → MR K F' H' m' → VRs K F' v sv → S sv m' → Q v H'
def CnT (K : PySem.W.Frag) (F : Hp) (S : Bool → Mem → Prop) (Q : Bool → Hp → Prop) : Prop := ∀ b F' H' m', Sub F F' → MR K F' H' m' → S b m' → Q b H'
theorem Cn.go {K : PySem.W.Frag} {F F' : Hp} {S : SV → Mem → Prop} {Q : VK} (c : Cn K F S Q) (s : Sub F F') : Cn K F' S Q := fun v F2 H2 sv m2 s2 => c v F2 H2 sv m2 (s.trans s2)
theorem CnA.go {K : PySem.W.Frag} {F F' : Hp} {S : List SV → Mem → Prop} {Q : List V → Hp → Prop} (c : CnA K F S Q) (s : Sub F F') : CnA K F' S Q := fun v F2 H2 sv m2 s2 => c v F2 H2 sv m2 (s.trans s2)
theorem CnT.go {K : PySem.W.Frag} {F F' : Hp} {S : Bool → Mem → Prop} {Q : Bool → Hp → Prop} (c : CnT K F S Q) (s : Sub F F') : CnT K F' S Q := fun v F2 H2 m2 s2 => c v F2 H2 m2 (s.trans s2)
def SimE (K : PySem.W.Frag) (E : XK) (te : TE) (se : SE) : Prop := ∀ σ F H δ m SX S Q, Rl K E σ F H δ m SX → se SX δ m S → Cn K F S Q → te σ H Q
def SimA (K : PySem.W.Frag) (E : XK) (te : TA) (se : SA) : Prop := ∀ σ F H δ m SX S Q, Rl K E σ F H δ m SX → se SX δ m S → CnA K F S Q → te σ H Q
def SimT (K : PySem.W.Frag) (E : XK) (te : TT) (se : STt) : Prop := ∀ σ F H δ m SX S Q, Rl K E σ F H δ m SX → se SX δ m S → CnT K F S Q → te σ H Q
structure GE (K : PySem.W.Frag) (E : XK) (X : Cx) (e : Expr) (te : TE) (se : SE) : Prop where
  pe : PE X e te
  sim : SimE K E te se
structure GT (K : PySem.W.Frag) (E : XK) (X : Cx) (e : Expr) (te : TT) (se : STt) : Prop where
  pe : PT X e te
  sim : SimT K E te se
structure GW (K : PySem.W.Frag) (E : XK) (X : Cx) (e : Expr) (te : TT) (se : STt) : Prop where
  pe : PW X e te
  sim : SimT K E te se
structure GA (K : PySem.W.Frag) (E : XK) (X : Cx) (e : List Expr) (te : TA) (se : SA) : Prop where
  pe : PA X e te
  sim : SimA K E te se
abbrev SR2 := SV → SV → Mem → (SV → Mem → Prop) → Prop
def SimR (K : PySem.W.Frag) (r : R2) (s : SR2) : Prop := ∀ F H m x y a b S Q, MR K F H m → VR K F x a → VR K F y b → s a b m S → Cn K F S Q → r x y H Q
abbrev SR1 := SV → Mem → (SV → Mem → Prop) → Prop
def SimU (K : PySem.W.Frag) (r : V → Hp → VK → Prop) (s : SR1) : Prop := ∀ F H m x a S Q, MR K F H m → VR K F x a → s a m S → Cn K F S Q → r x H Q
abbrev SRC := List SV → Mem → (SV → Mem → Prop) → Prop
def SimC (K : PySem.W.Frag) (r : List V → Hp → VK → Prop) (s : SRC) : Prop := ∀ F H m xs as S Q, MR K F H m → VRs K F xs as → s as m S → Cn K F S Q → r xs H Q
abbrev SRM := SV → List SV → Mem → (SV → Mem → Prop) → Prop
def SimM (K : PySem.W.Frag) (r : V → List V → Hp → VK → Prop) (s : SRM) : Prop := ∀ F H m x xs a as S Q, MR K F H m → VR K F x a → VRs K F xs as → s a as m S → Cn K F S Q → r x xs H Q
/-! ### combinators -/
def sVar (i : Nat) : SE := fun _ δ m S => match δ[i]? with
  | some (some v) => S v m
  | _ => False
def sC (v : SV) : SE := fun _ _ m S => S v m
def sOp (r : SR2) (a b : SE) : SE := fun SX δ m S => a SX δ m fun x m1 => b SX δ m1 fun y m2 => r x y m2 S
def sUn (r : SR1) (a : SE) : SE := fun SX δ m S => a SX δ m fun x m1 => r x m1 S
/-- a branch -/
@[irreducible] def Br (b : Bool) (A B : Prop) : Prop := if b = true then A else B
theorem Br_t {A B : Prop} (h : A) : Br true A B := by unfold Br; exact h
theorem Br_f {A B : Prop} (h : B) : Br false A B := by unfold Br; exact h
theorem Br_i {b : Bool} {A B : Prop} (h1 : b = true → A) (h2 : b = false → B) : Br b A B := by
  cases b with
  | true => exact Br_t (h1 rfl)
  | false => exact Br_f (h2 rfl)
theorem Br_eq {b : Bool} {A B : Prop} : Br b A B = (if b = true then A else B) := by unfold Br; rfl
def sB (a : SE) : STt := fun SX δ m S => a SX δ m fun x m1 => match x with
  | .bl b => S b m1
  | _ => False
def sAnd (t u : STt) : STt := fun SX δ m S => t SX δ m fun c m1 => Br c (u SX δ m1 S) (S false m1)
def sOr (t u : STt) : STt := fun SX δ m S => t SX δ m fun c m1 => Br c (S true m1) (u SX δ m1 S)
def sNot (t : STt) : STt := fun SX δ m S => t SX δ m fun c m1 => S (!c) m1
def sAndV (a b : SE) : SE := fun SX δ m S => a SX δ m fun x m1 => match x with
  | .bl c => Br c (b SX δ m1 S) (S (.bl false) m1)
  | _ => False
def sOrV (a b : SE) : SE := fun SX δ m S => a SX δ m fun x m1 => match x with
  | .bl c => Br c (S (.bl true) m1) (b SX δ m1 S)
  | _ => False
def sNotV (a : SE) : SE := fun SX δ m S => a SX δ m fun x m1 => match x with
  | .bl c => S (.bl (!c)) m1
  | _ => False
def sIfE (t : STt) (a b : SE) : SE := fun SX δ m S => t SX δ m fun c m1 => Br c (a SX δ m1 S) (b SX δ m1 S)
def sNil : SA := fun _ _ m S => S [] m
def sCons (a : SE) (r : SA) : SA := fun SX δ m S => a SX δ m fun x m1 => r SX δ m1 fun xs m2 => S (x :: xs) m2
def sTup (a : SA) : SE := fun SX δ m S => a SX δ m fun xs m1 => xs.length ≤ sizeLine ∧ S (.tup xs) m1
def sLst (a : SA) : SE := fun SX δ m S => a SX δ m fun xs m1 => xs.length ≤ sizeLine ∧ ∀ p, m1 p = none → S (.ref p) (up m1 p (.lst xs))
def sChain (r r' : SR2) (a b c : SE) : SE := fun SX δ m S => a SX δ m fun x m1 => b SX δ m1 fun y m2 => r x y m2 fun z m3 => match z with
  | .bl k => Br k (c SX δ m3 fun w m4 => r' y w m4 S) (S (.bl false) m3)
  | _ => False
section
variable {K : PySem.W.Frag} {E : XK} {X : Cx} {a b c e : Expr} {es : List Expr} {ta tb tc te : TE} {sa sb sc se : SE} {pos : Pos} {t u : TT} {st su : STt} {tl : TA} {sl : SA}
theorem ge_var {i : Nat} {x : Str} (hN : X.N[i]? = some x) (hv : Vis X.env.scope x) (hd : (x == ("__debug__" : Str)) = false := by decide) (hcd : (x == ("__classdict__" : Str)) = false := by decide) : GE K E X (.Name x pos) (tVar i) (sVar i) :=
  ⟨pe_var hN hv hd hcd, fun σ F H δ m SX S Q r h c => by
    unfold sVar at h
    split at h
    · next v e =>
      obtain ⟨w, h1, h2⟩ := r.sr.at_ i v e
      exact ⟨w, h1, c w F H v m (.refl F) r.mr h2 h⟩
    · exact h.elim⟩
theorem sim_c {v : V} {d : SV} (hd : ∀ F, VR K F v d) : SimE K E (tC v) (sC d) := fun σ F H δ m SX S Q r h c => c v F H d m (.refl F) r.mr (hd F) h
theorem ge_int {i j} : GE K E X (.Constant (.int i) j pos) (tC (.int i)) (sC (.int i)) := ⟨pe_int, sim_c fun _ => .int _⟩
theorem ge_bl {i j} : GE K E X (.Constant (.bool i) j pos) (tC (.bl i)) (sC (.bl i)) := ⟨pe_bl, sim_c fun _ => .bl _⟩
theorem ge_non {j} : GE K E X (.Constant .none j pos) (tC .non) (sC .non) := ⟨pe_non, sim_c fun _ => .non⟩
theorem ge_str {i j} : GE K E X (.Constant (.str i) j pos) (tC (.str i)) (sC (.str i)) := ⟨pe_str, sim_c fun _ => .str _⟩
theorem ge_gi {x : Str} {i : Int} (hg : Gl X x) (h : ∃ t, X.mg x = some (.int i t)) (hd : (x == ("__debug__" : Str)) = false := by decide) : GE K E X (.Name x pos) (tC (.int i)) (sC (.int i)) := by
  obtain ⟨t, ht⟩ := h
  exact ⟨pe_glob (v := .int i) hg ht ⟨t, rfl⟩ hd, sim_c fun _ => .int _⟩
theorem ge_gs {x y : Str} (hg : Gl X x) (h : ∃ t, X.mg x = some (.str y t)) (hd : (x == ("__debug__" : Str)) = false := by decide) : GE K E X (.Name x pos) (tC (.str y)) (sC (.str y)) := by
  obtain ⟨t, ht⟩ := h
  exact ⟨pe_glob (v := .str y) hg ht ⟨t, rfl⟩ hd, sim_c fun _ => .str _⟩
theorem ge_gr {x : Str} {p : Addr} (hg : Gl X x) (h : X.mg x = some (.ref p)) (hd : (x == ("__debug__" : Str)) = false := by decide) : GE K E X (.Name x pos) (tC (.ref p)) (sC (.ref p)) := ⟨pe_glob (v := .ref p) hg h rfl hd, sim_c fun _ => .ref _⟩
theorem ge_ty {x : Str} {n : String} (hg : Gl X x) (hm : X.mg x = none) (hv : bootBuiltins x = some (.type n)) (hn : x ≠ "__name__" := by decide) (hd : (x == ("__debug__" : Str)) = false := by decide) : GE K E X (.Name x pos) (tC (.ty n)) (sC (.ty n)) :=
  ⟨pe_bltn (v := .ty n) hg hm hv rfl hn hd, sim_c fun _ => .ty _⟩
theorem sim_op {r : R2} {s : SR2} (hr : SimR K r s) (ha : SimE K E ta sa) (hb : SimE K E tb sb) : SimE K E (tOp r ta tb) (sOp s sa sb) := fun σ F H δ m SX S Q q h c =>
  ha σ F H δ m SX _ _ q h fun x F1 H1 sx m1 s1 M1 v1 h1 => hb σ F1 H1 δ m1 SX _ _ (q.go s1 M1) h1 fun y F2 H2 sy m2 s2 M2 v2 h2 =>
    hr F2 H2 m2 x y sx sy S Q M2 (vr_sub s2 v1) v2 h2 (c.go (s1.trans s2))
theorem ge_op {op : Operator} {r : R2} {s : SR2} (ho : OpR X (binaryOp op) r) (hr : SimR K r s) (ha : GE K E X a ta sa) (hb : GE K E X b tb sb) : GE K E X (.BinOp a op b pos) (tOp r ta tb) (sOp s sa sb) := ⟨pe_op ho ha.pe hb.pe, sim_op hr ha.sim hb.sim⟩
theorem ge_cmp {op : CmpOp} {r : R2} {s : SR2} (ho : OpR X (compareOp op) r) (hr : SimR K r s) (ha : GE K E X a ta sa) (hb : GE K E X b tb sb) (hm : behindInMarks op b = false) : GE K E X (.Compare a [op] [b] pos) (tOp r ta tb) (sOp s sa sb) := ⟨pe_cmpR ho ha.pe hb.pe hm, sim_op hr ha.sim hb.sim⟩
theorem sim_test (h : SimE K E te se) : SimT K E (tTest te) (sB se) := fun σ F H δ m SX S Q r q c =>
  h σ F H δ m SX _ _ r q fun v F1 H1 sv m1 s1 M1 v1 h1 => by
    cases v1 with
    | bl b => exact ⟨b, rfl, c b F1 H1 m1 s1 M1 h1⟩
    | _ => exact (show False from h1).elim
theorem gt_cmp {op : CmpOp} {r : R2} {s : SR2} (ho : OpR X (compareOp op) r) (hr : SimR K r s) (ha : GE K E X a ta sa) (hb : GE K E X b tb sb) (hm : behindInMarks op b = false) : GT K E X (.Compare a [op] [b] pos) (tTest (tOp r ta tb)) (sB (sOp s sa sb)) := ⟨pt_cmpR ho ha.pe hb.pe hm, sim_test (sim_op hr ha.sim hb.sim)⟩
theorem sim_chain {r r' : R2} {s s' : SR2} (hr : SimR K r s) (hr' : SimR K r' s') (ha : SimE K E ta sa) (hb : SimE K E tb sb) (hc : SimE K E tc sc) : SimE K E (tChain r r' ta tb tc) (sChain s s' sa sb sc) := fun σ F H δ m SX S Q q h c =>
  ha σ F H δ m SX _ _ q h fun x F1 H1 sx m1 s1 M1 v1 h1 => hb σ F1 H1 δ m1 SX _ _ (q.go s1 M1) h1 fun y F2 H2 sy m2 s2 M2 v2 h2 =>
    hr F2 H2 m2 x y sx sy _ _ M2 (vr_sub s2 v1) v2 h2 fun z F3 H3 sz m3 s3 M3 v3 h3 => by
      cases v3 with
      | bl k =>
        refine ⟨k, rfl, ?_⟩
        have h3 : Br k _ _ := h3
        rw [Br_eq] at h3
        have s13 := (s1.trans s2).trans s3
        split
        · next e =>
          rw [if_pos e] at h3
          exact hc σ F3 H3 δ m3 SX _ _ (q.go s13 M3) h3 fun w F4 H4 sw m4 s4 M4 v4 h4 => hr' F4 H4 m4 y w sy sw S Q M4 (vr_sub (s3.trans s4) v2) v4 h4 (c.go (s13.trans s4))
        · next e =>
          rw [if_neg e] at h3
          exact c _ F3 H3 _ m3 s13 M3 (.bl false) h3
      | _ => exact (show False from h3).elim
theorem ge_chain {op op' : CmpOp} {r r' : R2} {s s' : SR2} (ho : OpR X (compareOp op) r) (ho' : OpR X (compareOp op') r') (hr : SimR K r s) (hr' : SimR K r' s') (ha : GE K E X a ta sa) (hb : GE K E X b tb sb) (hc : GE K E X c tc sc)
    (hm : lastMarks [op, op'] [b, c] = false := by with_unfolding_all rfl) : GE K E X (.Compare a [op, op'] [b, c] pos) (tChain r r' ta tb tc) (sChain s s' sa sb sc) := ⟨pe_chain ho ho' ha.pe hb.pe hc.pe hm, sim_chain hr hr' ha.sim hb.sim hc.sim⟩
theorem gt_chain {op op' : CmpOp} {r r' : R2} {s s' : SR2} (ho : OpR X (compareOp op) r) (ho' : OpR X (compareOp op') r') (hr : SimR K r s) (hr' : SimR K r' s') (ha : GE K E X a ta sa) (hb : GE K E X b tb sb) (hc : GE K E X c tc sc)
    (hm : lastMarks [op, op'] [b, c] = false := by with_unfolding_all rfl) : GT K E X (.Compare a [op, op'] [b, c] pos) (tTest (tChain r r' ta tb tc)) (sB (sChain s s' sa sb sc)) := ⟨pt_chain ho ho' ha.pe hb.pe hc.pe hm, sim_test (sim_chain hr hr' ha.sim hb.sim hc.sim)⟩
theorem sim_val (h : SimE K E te se) : SimT K E (tB te) (sB se) := fun σ F H δ m SX S Q r q c =>
  h σ F H δ m SX _ _ r q fun v F1 H1 sv m1 s1 M1 v1 h1 => by
    cases v1 with
    | bl b => exact ⟨b, rfl, c b F1 H1 m1 s1 M1 h1⟩
    | _ => exact (show False from h1).elim
theorem gt_val (h : GE K E X e te se) (he : ∀ whole, isTrue e X.env whole = (do let v ← whole; standAt e.pos; holding [v] (truthy v)) := by intro _; rfl) : GT K E X e (tB te) (sB se) := ⟨pt_val h.pe he, sim_val h.sim⟩
theorem sim_and (ha : SimT K E t st) (hb : SimT K E u su) : SimT K E (tAnd t u) (sAnd st su) := fun σ F H δ m SX S Q r q c =>
  ha σ F H δ m SX _ _ r q fun b F1 H1 m1 s1 M1 h1 => by
    rw [Br_eq] at h1
    split
    · next e => rw [if_pos e] at h1; exact hb σ F1 H1 δ m1 SX S Q (r.go s1 M1) h1 (c.go s1)
    · next e => rw [if_neg e] at h1; exact c false F1 H1 m1 s1 M1 h1
theorem sim_or (ha : SimT K E t st) (hb : SimT K E u su) : SimT K E (tOr t u) (sOr st su) := fun σ F H δ m SX S Q r q c =>
  ha σ F H δ m SX _ _ r q fun b F1 H1 m1 s1 M1 h1 => by
    rw [Br_eq] at h1
    split
    · next e => rw [if_pos e] at h1; exact c true F1 H1 m1 s1 M1 h1
    · next e => rw [if_neg e] at h1; exact hb σ F1 H1 δ m1 SX S Q (r.go s1 M1) h1 (c.go s1)
theorem gw_pt (h : GW K E X e t st) : GT K E X e t st := ⟨h.pe.pt, h.sim⟩
theorem gw_and1 (h : GT K E X a t st) : GW K E X (.BoolOp .And [a] pos) t st := ⟨pw_and1 h.pe, h.sim⟩
theorem gw_or1 (h : GT K E X a t st) : GW K E X (.BoolOp .Or [a] pos) t st := ⟨pw_or1 h.pe, h.sim⟩
theorem gw_and (ha : GT K E X a t st) (hb : GW K E X (.BoolOp .And (b :: es) pos) u su) : GW K E X (.BoolOp .And (a :: b :: es) pos) (tAnd t u) (sAnd st su) := ⟨pw_and ha.pe hb.pe, sim_and ha.sim hb.sim⟩
theorem gw_or (ha : GT K E X a t st) (hb : GW K E X (.BoolOp .Or (b :: es) pos) u su) : GW K E X (.BoolOp .Or (a :: b :: es) pos) (tOr t u) (sOr st su) := ⟨pw_or ha.pe hb.pe, sim_or ha.sim hb.sim⟩
theorem gt_not (ha : GT K E X a t st) : GT K E X (.UnaryOp .Not a pos) (tNot t) (sNot st) := ⟨pt_not ha.pe, fun σ F H δ m SX S Q r q c => ha.sim σ F H δ m SX _ _ r q fun b F1 H1 m1 s1 M1 h1 => c _ F1 H1 m1 s1 M1 h1⟩
theorem ge_one {op} (h : GE K E X a te se) : GE K E X (.BoolOp op [a] pos) te se := ⟨pe_one h.pe, h.sim⟩
theorem ge_and (ha : GE K E X a ta sa) (hb : GE K E X (.BoolOp .And (b :: es) pos) tb sb) : GE K E X (.BoolOp .And (a :: b :: es) pos) (tAndV ta tb) (sAndV sa sb) := ⟨pe_and ha.pe hb.pe, fun σ F H δ m SX S Q r q c =>
  ha.sim σ F H δ m SX _ _ r q fun v F1 H1 sv m1 s1 M1 v1 h1 => by
    cases v1 with
    | bl k =>
      have h1 : Br k _ _ := h1
      rw [Br_eq] at h1
      refine ⟨k, rfl, ?_⟩
      split
      · next e => rw [if_pos e] at h1; exact hb.sim σ F1 H1 δ m1 SX S Q (r.go s1 M1) h1 (c.go s1)
      · next e => rw [if_neg e] at h1; exact c _ F1 H1 _ m1 s1 M1 (.bl false) h1
    | _ => exact (show False from h1).elim⟩
theorem ge_or (ha : GE K E X a ta sa) (hb : GE K E X (.BoolOp .Or (b :: es) pos) tb sb) : GE K E X (.BoolOp .Or (a :: b :: es) pos) (tOrV ta tb) (sOrV sa sb) := ⟨pe_or ha.pe hb.pe, fun σ F H δ m SX S Q r q c =>
  ha.sim σ F H δ m SX _ _ r q fun v F1 H1 sv m1 s1 M1 v1 h1 => by
    cases v1 with
    | bl k =>
      have h1 : Br k _ _ := h1
      rw [Br_eq] at h1
      refine ⟨k, rfl, ?_⟩
      split
      · next e => rw [if_pos e] at h1; exact c _ F1 H1 _ m1 s1 M1 (.bl true) h1
      · next e => rw [if_neg e] at h1; exact hb.sim σ F1 H1 δ m1 SX S Q (r.go s1 M1) h1 (c.go s1)
    | _ => exact (show False from h1).elim⟩
theorem ge_not (ha : GE K E X a ta sa) : GE K E X (.UnaryOp .Not a pos) (tNotV ta) (sNotV sa) := ⟨pe_not ha.pe, fun σ F H δ m SX S Q r q c =>
  ha.sim σ F H δ m SX _ _ r q fun v F1 H1 sv m1 s1 M1 v1 h1 => by
    cases v1 with
    | bl k => exact ⟨k, rfl, c _ F1 H1 _ m1 s1 M1 (.bl _) h1⟩
    | _ => exact (show False from h1).elim⟩
theorem ge_ifE (hc : GT K E X c t st) (ha : GE K E X a ta sa) (hb : GE K E X b tb sb) : GE K E X (.IfExp c a b pos) (tIf t ta tb) (sIfE st sa sb) := ⟨pe_ifExp hc.pe ha.pe hb.pe, fun σ F H δ m SX S Q r q c =>
  hc.sim σ F H δ m SX _ _ r q fun b F1 H1 m1 s1 M1 h1 => by
    rw [Br_eq] at h1
    split
    · next e => rw [if_pos e] at h1; exact ha.sim σ F1 H1 δ m1 SX S Q (r.go s1 M1) h1 (c.go s1)
    · next e => rw [if_neg e] at h1; exact hb.sim σ F1 H1 δ m1 SX S Q (r.go s1 M1) h1 (c.go s1)⟩
theorem ga_nil : GA K E X [] tNil sNil := ⟨pa_nil, fun σ F H δ m SX S Q r q c => c [] F H [] m (.refl F) r.mr .nil q⟩
theorem ga_cons (ha : GE K E X e te se) (hr : GA K E X es tl sl) (hs : starEach (e :: es) X.env = (false, eval e X.env) :: starEach es X.env := by rfl) : GA K E X (e :: es) (tCons te tl) (sCons se sl) := ⟨pa_cons ha.pe hr.pe hs, fun σ F H δ m SX S Q r q c =>
  ha.sim σ F H δ m SX _ _ r q fun v F1 H1 sv m1 s1 M1 v1 h1 => hr.sim σ F1 H1 δ m1 SX _ _ (r.go s1 M1) h1 fun vs F2 H2 svs m2 s2 M2 v2 h2 => c _ F2 H2 _ m2 (s1.trans s2) M2 (.cons (vr_sub s2 v1) v2) h2⟩
theorem ge_tup {x1} (h : GA K E X es tl sl) : GE K E X (.Tuple es x1 pos) (tTup tl) (sTup sl) := ⟨pe_tup h.pe, fun σ F H δ m SX S Q r q c =>
  h.sim σ F H δ m SX _ _ r q fun vs F1 H1 svs m1 s1 M1 v1 h1 => ⟨by rw [vrs_length v1]; exact h1.1, fun p hp => c (.ref p) (upd F1 p _) _ _ m1 (s1.trans (Sub.new (M1.sub.gone hp))) (M1.frz hp) (.tup (.inl (.inl upd_same)) (vrs_sub (Sub.new (M1.sub.gone hp)) v1)) h1.2⟩⟩
theorem ge_lst (h : GA K E X es tl sl) : GE K E X (.List es pos) (tLst tl) (sLst sl) := ⟨pe_lst h.pe, fun σ F H δ m SX S Q r q c =>
  h.sim σ F H δ m SX _ _ r q fun vs F1 H1 svs m1 s1 M1 v1 h1 => ⟨by rw [vrs_length v1]; exact h1.1, fun p hp => c (.ref p) F1 _ _ _ s1 (M1.newL hp v1) (.ref p) (h1.2 p (M1.gone hp))⟩⟩
theorem ge_un {op : UnaryOp} {r : V → Hp → VK → Prop} {s : SR1} (ho : UnR X (unaryOp op) r) (hr : SimU K r s) (ha : GE K E X a ta sa) : GE K E X (.UnaryOp op a pos) (tUn r ta) (sUn s sa) := ⟨pe_un ho ha.pe, fun σ F H δ m SX S Q q h c =>
  ha.sim σ F H δ m SX _ _ q h fun x F1 H1 sx m1 s1 M1 v1 h1 => hr F1 H1 m1 x sx S Q M1 v1 h1 (c.go s1)⟩
end
theorem OpR.or {X : Cx} {f : Value → Value → Sem Value} {r r' : R2} (h : OpR X f r) (h' : OpR X f r') : OpR X f (fun x y H Q => r x y H Q ∨ r' x y H Q) := by
  intro pins s σ H x y v u Q I rx ry q
  rcases q with q | q
  · exact h pins s σ H x y v u Q I rx ry q
  · exact h' pins s σ H x y v u Q I rx ry q
theorem CallR.or {X : Cx} {f : Value} {r r' : List V → Hp → VK → Prop} (h : CallR X f r) (h' : CallR X f r') : CallR X f (fun xs H Q => r xs H Q ∨ r' xs H Q) := by
  intro pins s σ H xs us Q I r q
  rcases q with q | q
  · exact h pins s σ H xs us Q I r q
  · exact h' pins s σ H xs us Q I r q
end Sy

set_option Elab.async false
set_option linter.all false
set_option maxRecDepth 100000
set_option maxHeartbeats 4000000
/-! Operators, subscripts, slices, built-ins, methods of lists over symbolic values. -/
namespace Sy
open PySem PySem.Spec PyProof.Rows L2
section
variable {K : PySem.W.Frag} {F H : Hp} {m : Mem} {x y : V} {a b : SV}
/-- a list's, a tuple's items -/
def Its (m : Mem) (x : SV) (ys : List SV) : Prop := match x with
  | .tup xs => ys = xs
  | .lst xs => ys = xs
  | .ref a => m a = some (.lst ys)
  | _ => False
theorem its_seq {ys : List SV} (M : MR K F H m) (r : VR K F x a) (h : Its m a ys) : ∃ p vs, x = .ref p ∧ (SqL K H p vs ∨ SqT K H p vs) ∧ VRs K F vs ys := by
  cases r with
  | tup h1 h2 => cases (show ys = _ from h); exact ⟨_, _, rfl, .inr (sqt_sub M.sub h1), h2⟩
  | lst h1 h2 => cases (show ys = _ from h); exact ⟨_, _, rfl, .inl (sql_sub M.sub h1), h2⟩
  | ref p =>
    obtain ⟨vs, h1, h2⟩ := M.lst_ (show m p = some (.lst ys) from h)
    exact ⟨p, vs, rfl, .inl (.inl (.inl h1)), h2⟩
  | _ => exact (show False from h).elim
def ItsL (m : Mem) (x : SV) (ys : List SV) : Prop := match x with
  | .lst xs => ys = xs
  | .ref a => m a = some (.lst ys)
  | _ => False
theorem its_lst {ys : List SV} (M : MR K F H m) (r : VR K F x a) (h : ItsL m a ys) : ∃ p vs, x = .ref p ∧ SqL K H p vs ∧ VRs K F vs ys := by
  cases r with
  | lst h1 h2 => cases (show ys = _ from h); exact ⟨_, _, rfl, sql_sub M.sub h1, h2⟩
  | ref p =>
    obtain ⟨vs, h1, h2⟩ := M.lst_ (show m p = some (.lst ys) from h)
    exact ⟨p, vs, rfl, .inl (.inl h1), h2⟩
  | _ => exact (show False from h).elim
/-! ### data that == compares at any depth -/
mutual
inductive Rd (m : Mem) : SV → PyData → Prop
  | non : Rd m .non .none
  | bl (b : Bool) : Rd m (.bl b) (.bool b)
  | int (i : Int) : Rd m (.int i) (.int i)
  | str (x : Str) : Rd m (.str x) (.str x)
  | tup {xs : List SV} {ds : List PyData} : Rds m xs ds → Rd m (.tup xs) (.tuple ds)
  | lst {xs : List SV} {ds : List PyData} : Rds m xs ds → Rd m (.lst xs) (.list ds)
  | ref {a : Addr} {xs : List SV} {ds : List PyData} : m a = some (.lst xs) → Rds m xs ds → Rd m (.ref a) (.list ds)
inductive Rds (m : Mem) : List SV → List PyData → Prop
  | nil : Rds m [] []
  | cons {x : SV} {d : PyData} {xs : List SV} {ds : List PyData} : Rd m x d → Rds m xs ds → Rds m (x :: xs) (d :: ds)
end
mutual
theorem rd_dp (M : MR K F H m) : ∀ {a : SV} {d : PyData}, Rd m a d → ∀ {x : V}, VR K F x a → Dp K H x d
  | _, _, .non, _, r => by cases r; exact .non
  | _, _, .bl b, _, r => by cases r; exact .bl b
  | _, _, .int b, _, r => by cases r; exact .int b
  | _, _, .str b, _, r => by cases r; exact .str b
  | _, _, .tup h, _, r => by
    cases r with
    | tup h1 h2 => exact .tup (sqt_sub M.sub h1) (rds_dp M h h2)
  | _, _, .lst h, _, r => by
    cases r with
    | lst h1 h2 => exact .lst (sql_sub M.sub h1) (rds_dp M h h2)
  | _, _, .ref e h, _, r => by
    cases r with
    | ref a =>
      obtain ⟨vs, h1, h2⟩ := M.lst_ e
      exact .lst (.inl (.inl h1)) (rds_dp M h h2)
theorem rds_dp (M : MR K F H m) : ∀ {as : List SV} {ds : List PyData}, Rds m as ds → ∀ {xs : List V}, VRs K F xs as → DpAll K H xs ds
  | _, _, .nil, _, r => by cases r; exact .nil
  | _, _, .cons h t, _, r => by
    cases r with
    | cons r1 r2 => exact .cons (rd_dp M h r1) (rds_dp M t r2)
end
def eqF : SV → SV → Option Bool
  | .int i, .int j => some (decide (i = j))
  | .str i, .str j => some (decide (i = j))
  | .bl i, .bl j => some (decide (i = j))
  | .non, .non => some true
  | .non, .int _ => some false
  | .non, .str _ => some false
  | .non, .bl _ => some false
  | .int _, .non => some false
  | .str _, .non => some false
  | .bl _, .non => some false
  | .int _, .str _ => some false
  | .str _, .int _ => some false
  | .bl _, .str _ => some false
  | .str _, .bl _ => some false
  | _, _ => none
theorem dec_inj {α β : Type} [DecidableEq α] [DecidableEq β] {f : α → β} (h : ∀ a b, f a = f b → a = b) (a b : α) : decide (f a = f b) = decide (a = b) := by
  by_cases e : a = b
  · rw [decide_eq_true e, decide_eq_true (congrArg f e)]
  · rw [decide_eq_false e, decide_eq_false fun z => e (h _ _ z)]
theorem eqF_ok {k : Bool} (r : VR K F x a) (q : VR K F y b) (h : eqF a b = some k) : scal x y = true ∧ decide (x = y) = k := by
  cases r <;> cases q <;> first
    | (cases (show (none : Option Bool) = some k from h); done)
    | (obtain rfl := Option.some.inj h; refine ⟨rfl, ?_⟩; first
        | exact dec_inj (fun _ _ z => V.int.inj z) _ _
        | exact dec_inj (fun _ _ z => V.str.inj z) _ _
        | exact dec_inj (fun _ _ z => V.bl.inj z) _ _
        | rfl
        | exact decide_eq_false fun z => by cases z)
end
/-! ### operators -/
def rAddG (K : PySem.W.Frag) : R2 := fun x y H Q => (rI0 fun i j => .int (i + j)) x y H Q ∨ (∃ i j, x = .str i ∧ y = .str j ∧ i.length + j.length ≤ sizeLine ∧ Q (.str (i ++ j)) H) ∨ rCatA K x y H Q ∨ rCat x y H Q
theorem op_addG {X : Cx} (K : PySem.W.Frag) (hK : X.K = K := by rfl) : OpR X (binaryOp .Add) (rAddG K) := by
  subst hK
  exact .or op_add (.or op_add_str (.or op_catA op_cat))
def sAdd : SR2 := fun x y m S => match x, y with
  | .int i, .int j => S (.int (i + j)) m
  | .str i, .str j => i.length + j.length ≤ sizeLine ∧ S (.str (i ++ j)) m
  | .tup xs, .tup ys => xs.length + ys.length ≤ sizeLine ∧ S (.tup (xs ++ ys)) m
  | .ref a, .ref b => ∃ xs ys, m a = some (.lst xs) ∧ m b = some (.lst ys) ∧ xs.length + ys.length ≤ sizeLine ∧ ∀ p, m p = none → S (.ref p) (up m p (.lst (xs ++ ys)))
  | _, _ => False
theorem vrs_nil {K : PySem.W.Frag} {F : Hp} {xs : List SV} (h : VRs K F [] xs) : xs = [] := by cases h; rfl
theorem sim_add {K : PySem.W.Frag} : SimR K (rAddG K) sAdd := fun F H m x y a b S Q M ra rb h c => by
  cases ra <;> cases rb <;> first
    | exact (show False from h).elim
    | exact .inl ⟨_, _, rfl, rfl, c _ F H _ m (.refl F) M (.int _) h⟩
    | exact .inr (.inl ⟨_, _, rfl, rfl, h.1, c _ F H _ m (.refl F) M (.str _) h.2⟩)
    | skip
  · obtain ⟨xs, ys, h1, h2, hl, q⟩ := (show ∃ xs ys, _ from h)
    obtain ⟨vs, e1, r1⟩ := M.lst_ h1
    obtain ⟨ws, e2, r2⟩ := M.lst_ h2
    exact .inr (.inr (.inr ⟨_, _, _, _, rfl, rfl, e1, e2, by rw [vrs_length r1, vrs_length r2]; exact hl, fun p hp => c (.ref p) F _ _ _ (.refl F) (M.newL hp (vrs_append r1 r2)) (.ref p) (q p (M.gone hp))⟩))
  · rename_i h1 r1 _ _ _ h2 r2
    obtain ⟨hl, h⟩ := (show _ ∧ _ from h)
    refine .inr (.inr (.inl ⟨_, _, _, _, rfl, rfl, sqt_sub M.sub h1, sqt_sub M.sub h2, by rw [vrs_length r1, vrs_length r2]; exact hl, fun e => ?_, fun e1 e2 => ?_, fun e1 e2 p hp => ?_⟩))
    · subst e
      obtain rfl := vrs_nil r1
      exact c _ F H _ m (.refl F) M (.tup h2 r2) h
    · subst e2
      obtain rfl := vrs_nil r2
      rw [List.append_nil] at h
      exact c _ F H _ m (.refl F) M (.tup h1 r1) h
    · exact c (.ref p) (upd F p _) _ _ m (Sub.new (M.sub.gone hp)) (M.frz hp) (.tup (.inl (.inl upd_same)) (vrs_sub (Sub.new (M.sub.gone hp)) (vrs_append r1 r2))) h
def sI2 (C : Int → Int → Prop) (g : Int → Int → SV) : SR2 := fun x y m S => match x, y with
  | .int i, .int j => C i j ∧ S (g i j) m
  | _, _ => False
def sI0 (g : Int → Int → SV) : SR2 := fun x y m S => match x, y with
  | .int i, .int j => S (g i j) m
  | _, _ => False
theorem sim_I0 {K : PySem.W.Frag} {g : Int → Int → V} {g' : Int → Int → SV} (hg : ∀ F i j, VR K F (g i j) (g' i j)) : SimR K (rI0 g) (sI0 g') := fun F H m x y a b S Q M ra rb h c => by
  cases ra <;> cases rb <;> first
    | exact (show False from h).elim
    | exact ⟨_, _, rfl, rfl, c _ F H _ m (.refl F) M (hg F _ _) h⟩
theorem sim_I {K : PySem.W.Frag} {C : Int → Int → Prop} {g : Int → Int → V} {g' : Int → Int → SV} (hg : ∀ F i j, VR K F (g i j) (g' i j)) : SimR K (rI C g) (sI2 C g') := fun F H m x y a b S Q M ra rb h c => by
  cases ra <;> cases rb <;> first
    | exact (show False from h).elim
    | exact ⟨_, _, rfl, rfl, h.1, c _ F H _ m (.refl F) M (hg F _ _) h.2⟩
abbrev sSub : SR2 := sI0 fun i j => .int (i - j)
theorem sim_sub {K : PySem.W.Frag} : SimR K (rI0 fun i j => .int (i - j)) sSub := sim_I0 fun _ _ _ => .int _
def CMulG (i j : Int) : Prop := CMul i j ∨ CMulW i j
def CDivG (i j : Int) : Prop := CDiv i j ∨ CDivW i j
theorem op_mulG {X : Cx} : OpR X (binaryOp .Mult) (rI CMulG fun i j => .int (i * j)) := by
  intro pins s σ H x y v u Q I rx ry ⟨i, j, e1, e2, hc, q⟩
  rcases hc with hc | hc
  · exact op_mul pins s σ H x y v u Q I rx ry ⟨i, j, e1, e2, hc, q⟩
  · exact op_mulW pins s σ H x y v u Q I rx ry ⟨i, j, e1, e2, hc, q⟩
theorem op_fdivG {X : Cx} : OpR X (binaryOp .FloorDiv) (rI CDivG fun i j => .int (i / j)) := by
  intro pins s σ H x y v u Q I rx ry ⟨i, j, e1, e2, hc, q⟩
  rcases hc with hc | hc
  · exact op_fdiv pins s σ H x y v u Q I rx ry ⟨i, j, e1, e2, hc, q⟩
  · exact op_fdivW pins s σ H x y v u Q I rx ry ⟨i, j, e1, e2, hc, q⟩
abbrev sMul : SR2 := sI2 CMulG fun i j => .int (i * j)
abbrev sDiv : SR2 := sI2 CDivG fun i j => .int (i / j)
abbrev sMod : SR2 := sI2 (fun _ j => 0 < j) fun i j => .int (i % j)
abbrev sPow : SR2 := sI2 CPow fun i j => .int (i ^ j.toNat)
abbrev sLt : SR2 := sI0 fun i j => .bl (decide (i < j))
abbrev sLe : SR2 := sI0 fun i j => .bl (decide (i ≤ j))
abbrev sGt : SR2 := sI0 fun i j => .bl (decide (j < i))
abbrev sGe : SR2 := sI0 fun i j => .bl (decide (j ≤ i))
section
variable {K : PySem.W.Frag}
theorem sim_mul : SimR K (rI CMulG fun i j => .int (i * j)) sMul := sim_I fun _ _ _ => .int _
theorem sim_fdiv : SimR K (rI CDivG fun i j => .int (i / j)) sDiv := sim_I fun _ _ _ => .int _
theorem sim_mod : SimR K (rI (fun _ j => 0 < j) fun i j => .int (i % j)) sMod := sim_I fun _ _ _ => .int _
theorem sim_pow : SimR K (rI CPow fun i j => .int (i ^ j.toNat)) sPow := sim_I fun _ _ _ => .int _
theorem sim_lt : SimR K (rI0 fun i j => .bl (decide (i < j))) sLt := sim_I0 fun _ _ _ => .bl _
theorem sim_le : SimR K (rI0 fun i j => .bl (decide (i ≤ j))) sLe := sim_I0 fun _ _ _ => .bl _
theorem sim_gt : SimR K (rI0 fun i j => .bl (decide (j < i))) sGt := sim_I0 fun _ _ _ => .bl _
theorem sim_ge : SimR K (rI0 fun i j => .bl (decide (j ≤ i))) sGe := sim_I0 fun _ _ _ => .bl _
end
def sNeg : SR1 := fun x m S => match x with
  | .int i => S (.int (-i)) m
  | _ => False
theorem sim_neg {K : PySem.W.Frag} : SimU K (rU fun i => .int (-i)) sNeg := fun F H m x a S Q M r h c => by
  cases r <;> first
    | exact (show False from h).elim
    | exact ⟨_, rfl, c _ F H _ m (.refl F) M (.int _) h⟩
/-- == -/
def rEqG (K : PySem.W.Frag) : R2 := fun x y H Q => rEq x y H Q ∨ rEqD K x y H Q
def rNeG (K : PySem.W.Frag) : R2 := fun x y H Q => rNe x y H Q ∨ rNeD K x y H Q
theorem op_eqG {X : Cx} (K : PySem.W.Frag) (hu : X.A.units + 64 < cLine) (hK : X.K = K := by rfl) : OpR X (compareOp .Eq) (rEqG K) := by
  subst hK
  exact .or op_eq (op_eqD hu)
theorem op_neG {X : Cx} (K : PySem.W.Frag) (hu : X.A.units + 64 < cLine) (hK : X.K = K := by rfl) : OpR X (compareOp .NotEq) (rNeG K) := by
  subst hK
  exact .or op_ne (op_neD hu)
def sEq : SR2 := fun x y m S => match eqF x y with
  | some k => S (.bl k) m
  | none => ∃ d e, Rd m x d ∧ Rd m y e ∧ SeqAt.shaped d = true ∧ SeqAt.shaped e = true ∧ S (.bl (PyData.eqv d e)) m
def sNe : SR2 := fun x y m S => match eqF x y with
  | some k => S (.bl (!k)) m
  | none => ∃ d e, Rd m x d ∧ Rd m y e ∧ SeqAt.shaped d = true ∧ SeqAt.shaped e = true ∧ S (.bl (!PyData.eqv d e)) m
theorem sim_eq {K : PySem.W.Frag} : SimR K (rEqG K) sEq := fun F H m x y a b S Q M ra rb h c => by
  unfold sEq at h
  split at h
  · next k e =>
    obtain ⟨h1, h2⟩ := eqF_ok ra rb e
    exact .inl ⟨h1, by rw [h2]; exact c _ F H _ m (.refl F) M (.bl _) h⟩
  · obtain ⟨d, e, h1, h2, h3, h4, q⟩ := h
    exact .inr ⟨d, e, rd_dp M h1 ra, rd_dp M h2 rb, h3, h4, c _ F H _ m (.refl F) M (.bl _) q⟩
theorem sim_ne {K : PySem.W.Frag} : SimR K (rNeG K) sNe := fun F H m x y a b S Q M ra rb h c => by
  unfold sNe at h
  split at h
  · next k e =>
    obtain ⟨h1, h2⟩ := eqF_ok ra rb e
    exact .inl ⟨h1, by rw [h2]; exact c _ F H _ m (.refl F) M (.bl _) h⟩
  · obtain ⟨d, e, h1, h2, h3, h4, q⟩ := h
    exact .inr ⟨d, e, rd_dp M h1 ra, rd_dp M h2 rb, h3, h4, c _ F H _ m (.refl F) M (.bl _) q⟩
/-- is None -/
def isNon : SV → Bool
  | .non => true
  | _ => false
theorem isNon_ok {K : PySem.W.Frag} {F : Hp} {x : V} {a : SV} (r : VR K F x a) : decide (x = V.non) = isNon a := by cases r <;> rfl
def sIsN : SR2 := fun x y m S => match y with
  | .non => S (.bl (isNon x)) m
  | _ => False
def sNotN : SR2 := fun x y m S => match y with
  | .non => S (.bl (!isNon x)) m
  | _ => False
abbrev rIsN : R2 := fun x y H Q => y = .non ∧ Q (.bl (decide (x = .non))) H
abbrev rNotN : R2 := fun x y H Q => y = .non ∧ Q (.bl (!decide (x = .non))) H
theorem sim_isN {K : PySem.W.Frag} : SimR K rIsN sIsN := fun F H m x y a b S Q M ra rb h c => by
  cases rb <;> first
    | exact (show False from h).elim
    | exact ⟨rfl, by rw [isNon_ok ra]; exact c _ F H _ m (.refl F) M (.bl _) h⟩
theorem sim_notN {K : PySem.W.Frag} : SimR K rNotN sNotN := fun F H m x y a b S Q M ra rb h c => by
  cases rb <;> first
    | exact (show False from h).elim
    | exact ⟨rfl, by rw [isNon_ok ra]; exact c _ F H _ m (.refl F) M (.bl _) h⟩
/-- in, not in: flat items of a list or a tuple -/
def flatS : SV → Bool
  | .non => true
  | .bl _ => true
  | .int _ => true
  | .str _ => true
  | _ => false
def eqS : SV → SV → Bool
  | .non, .non => true
  | .bl a, .bl b => a == b
  | .bl a, .int b => (if a then 1 else 0) == b
  | .int a, .bl b => a == (if b then 1 else 0)
  | .int a, .int b => a == b
  | .str a, .str b => a == b
  | _, _ => false
section
variable {K : PySem.W.Frag} {F : Hp}
theorem flat_ok {x : V} {a : SV} (r : VR K F x a) (h : flatS a = true) : flatV x = true := by
  cases r <;> first | rfl | cases h
theorem eqS_ok {x y : V} {a b : SV} (r : VR K F x a) (q : VR K F y b) (h : flatS a = true) (h2 : flatS b = true) : eqV x y = eqS a b := by
  cases r <;> cases q <;> first | rfl | cases h | cases h2
theorem flats_ok : ∀ {xs : List V} {as : List SV}, VRs K F xs as → as.all flatS = true → xs.all flatV = true
  | _, _, .nil, _ => rfl
  | _, _, .cons r t, h => by
    rw [List.all_cons, Bool.and_eq_true] at h ⊢
    exact ⟨flat_ok r h.1, flats_ok t h.2⟩
theorem any_ok {x : V} {a : SV} (r : VR K F x a) (h : flatS a = true) : ∀ {xs : List V} {as : List SV}, VRs K F xs as → as.all flatS = true → inV x xs = as.any (fun y => eqS y a)
  | _, _, .nil, _ => rfl
  | _, _, .cons (v := v) (vs := vs) q t, h2 => by
    rw [List.all_cons, Bool.and_eq_true] at h2
    have e : inV x (v :: vs) = (eqV v x || inV x vs) := rfl
    rw [e, List.any_cons, any_ok r h t h2.2, eqS_ok q r h2.1 h]
end
def inS (x : SV) (xs : List SV) : Bool := xs.any fun y => eqS y x
def sIn (neg : Bool) : SR2 := fun x y m S => ∃ xs, Its m y xs ∧ flatS x = true ∧ xs.all flatS = true ∧ S (.bl (if neg then !inS x xs else inS x xs)) m
theorem sim_in {K : PySem.W.Frag} (neg : Bool) : SimR K (rIn K neg) (sIn neg) := fun F H m x y a b S Q M ra rb h c => by
  obtain ⟨xs, h1, h2, h3, q⟩ := h
  obtain ⟨p, vs, rfl, hs, r⟩ := its_seq M rb h1
  refine ⟨p, vs, rfl, hs, flat_ok ra h2, flats_ok r h3, ?_⟩
  rw [any_ok ra h2 r h3]
  exact c _ F H _ m (.refl F) M (.bl _) q
theorem op_inG {X : Cx} (K : PySem.W.Frag) (hK : X.K = K := by rfl) : OpR X (compareOp .In) (rIn K false) := by subst hK; exact op_in_seq
theorem op_notInG {X : Cx} (K : PySem.W.Frag) (hK : X.K = K := by rfl) : OpR X (compareOp .NotIn) (rIn K true) := by subst hK; exact op_notIn_seq
/-! ### subscripts -/
def rIxG (K : PySem.W.Frag) : R2 := fun x y H Q => rIxL K x y H Q ∨ rIxT K x y H Q ∨ rIxS x y H Q
theorem ix_G {X : Cx} (K : PySem.W.Frag) (hK : X.K = K := by rfl) : IxR X (rIxG K) := by
  subst hK
  exact .or ix_list (.or ix_tup ix_str)
def sIx : SR2 := fun x y m S => match x, y with
  | .tup xs, .int i => ∃ v, atI xs i = some v ∧ S v m
  | .lst xs, .int i => ∃ v, atI xs i = some v ∧ S v m
  | .ref a, .int i => ∃ xs v, m a = some (.lst xs) ∧ atI xs i = some v ∧ S v m
  | .str z, .int i => ∃ c, z.length ≤ sizeLine ∧ atI z.cps.toList i = some c ∧ S (.str ⟨#[c]⟩) m
  | _, _ => False
theorem atI_vrs {K : PySem.W.Frag} {F : Hp} {vs : List V} {xs : List SV} {i : Int} {x : SV} (r : VRs K F vs xs) (h : atI xs i = some x) : ∃ v, atI vs i = some v ∧ VR K F v x := by
  unfold atI at h ⊢
  rw [← vrs_length r] at h
  obtain ⟨j, h1, h2⟩ := Option.bind_eq_some_iff.mp h
  obtain ⟨v, hv, dv⟩ := vrs_get r h2
  exact ⟨v, by rw [h1]; exact hv, dv⟩
theorem sim_ix {K : PySem.W.Frag} : SimR K (rIxG K) sIx := fun F H m x y a b S Q M ra rb h c => by
  cases ra <;> cases rb <;> first
    | exact (show False from h).elim
    | skip
  · obtain ⟨k, h1, h2, q⟩ := (show ∃ c, _ from h)
    exact .inr (.inr ⟨_, _, k, rfl, rfl, h1, h2, c _ F H _ m (.refl F) M (.str _) q⟩)
  · obtain ⟨xs, v, h1, h2, q⟩ := (show ∃ xs v, _ from h)
    obtain ⟨vs, e1, r1⟩ := M.lst_ h1
    obtain ⟨w, hw, rw_⟩ := atI_vrs r1 h2
    exact .inl ⟨_, _, _, w, rfl, rfl, .inl (.inl e1), hw, c _ F H _ m (.refl F) M rw_ q⟩
  · obtain ⟨v, h2, q⟩ := (show ∃ v, _ from h)
    rename_i h1 r1 _
    obtain ⟨w, hw, rw_⟩ := atI_vrs r1 h2
    exact .inr (.inl ⟨_, _, _, w, rfl, rfl, sqt_sub M.sub h1, hw, c _ F H _ m (.refl F) M rw_ q⟩)
  · obtain ⟨v, h2, q⟩ := (show ∃ v, _ from h)
    rename_i h1 r1 _
    obtain ⟨w, hw, rw_⟩ := atI_vrs r1 h2
    exact .inl ⟨_, _, _, w, rfl, rfl, sql_sub M.sub h1, hw, c _ F H _ m (.refl F) M rw_ q⟩
section
variable {K : PySem.W.Frag} {E : XK} {X : Cx} {a b c e : Expr} {ta tb tc te : TE} {sa sb sc se : SE} {pos p2 : Pos}
theorem ge_ix {r : R2} {s : SR2} (hr : IxR X r) (hs : SimR K r s) (ha : GE K E X a ta sa) (hb : GE K E X b tb sb) (hp : PlainIx b) : GE K E X (.Subscript a b pos) (tOp r ta tb) (sOp s sa sb) := ⟨pe_ix hr ha.pe hb.pe hp, sim_op hs ha.sim hb.sim⟩
end
/-! slices -/
abbrev SO := SXK → DS → Mem → (Option Int → Mem → Prop) → Prop
def SimO (K : PySem.W.Frag) (E : XK) (te : TO) (se : SO) : Prop := ∀ σ F H δ m SX S (Q : Option Int → Hp → Prop), Rl K E σ F H δ m SX → se SX δ m S → (∀ i F' H' m', Sub F F' → MR K F' H' m' → S i m' → Q i H') → te σ H Q
structure GO (K : PySem.W.Frag) (E : XK) (X : Cx) (e : Option Expr) (te : TO) (se : SO) : Prop where
  pe : PO X e te
  sim : SimO K E te se
def sNoPart : SO := fun _ _ m S => S none m
def sPart (a : SE) : SO := fun SX δ m S => a SX δ m fun x m1 => match x with
  | .int i => S (some i) m1
  | _ => False
abbrev SSl := SV → Option Int → Option Int → Mem → (SV → Mem → Prop) → Prop
def sSlice (r : SSl) (a : SE) (l h : SO) : SE := fun SX δ m S => a SX δ m fun x m1 => l SX δ m1 fun i m2 => h SX δ m2 fun j m3 => r x i j m3 S
def cutS' {α : Type} (xs : List α) (lo hi : Option Int) : List α := (xs.drop (HT.sIx xs.length 0 lo)).take (HT.sIx xs.length xs.length hi - HT.sIx xs.length 0 lo)
def sSl : SSl := fun x lo hi m S => match x with
  | .tup xs => S (.tup (cutS' xs lo hi)) m
  | .lst xs => ∀ p, m p = none → S (.ref p) (up m p (.lst (cutS' xs lo hi)))
  | .ref a => ∃ xs, m a = some (.lst xs) ∧ ∀ p, m p = none → S (.ref p) (up m p (.lst (cutS' xs lo hi)))
  | .str z => z.length ≤ sizeLine ∧ S (.str (cutS z lo hi)) m
  | _ => False
def rSlG (K : PySem.W.Frag) : V → Option Int → Option Int → Hp → VK → Prop := fun x lo hi H Q => rSlL K x lo hi H Q ∨ rSlA K x lo hi H Q ∨ rSlS x lo hi H Q
theorem sl_G {X : Cx} (K : PySem.W.Frag) (hK : X.K = K := by rfl) : SlR X (rSlG K) := by
  subst hK
  exact .or sl_list (.or sl_tupA sl_str)
section
variable {K : PySem.W.Frag} {E : XK} {X : Cx} {a b c e : Expr} {ta tb tc te : TE} {sa sb sc se : SE} {pos p2 : Pos} {lo hi : Option Expr} {tl th : TO} {sl sh : SO}
theorem go_none : GO K E X none tNoPart sNoPart := ⟨po_none, fun σ F H δ m SX S Q r h c => c none F H m (.refl F) r.mr h⟩
theorem go_some (h : GE K E X e te se) : GO K E X (some e) (tPart te) (sPart se) := ⟨po_some h.pe, fun σ F H δ m SX S Q r q c =>
  h.sim σ F H δ m SX _ _ r q fun v F1 H1 sv m1 s1 M1 v1 h1 => by
    cases v1 with
    | int i => exact ⟨i, rfl, c _ F1 H1 m1 s1 M1 h1⟩
    | _ => exact (show False from h1).elim⟩
theorem vrs_cut {F : Hp} {vs : List V} {xs : List SV} (r : VRs K F vs xs) (lo hi : Option Int) : VRs K F (cutV vs lo hi) (cutS' xs lo hi) := by
  unfold cutV cutS'
  rw [vrs_length r]
  exact vrs_take _ (vrs_drop _ r)
theorem cut_all {α : Type} (xs : List α) (lo hi : Option Int) (h : HT.sIx xs.length 0 lo = 0 ∧ HT.sIx xs.length xs.length hi = xs.length) : cutS' xs lo hi = xs := by
  unfold cutS'
  rw [h.1, h.2]
  simp
theorem ge_slice (ha : GE K E X e te se) (hl : GO K E X lo tl sl) (hh : GO K E X hi th sh) (hK : X.K = K := by rfl) : GE K E X (.Subscript e (.Slice lo hi none p2) pos) (tSl (rSlG K) te tl th) (sSlice sSl se sl sh) := ⟨pe_slice (sl_G K hK) ha.pe hl.pe hh.pe, fun σ F H δ m SX S Q r q c =>
  ha.sim σ F H δ m SX _ _ r q fun v F1 H1 sv m1 s1 M1 v1 h1 => hl.sim σ F1 H1 δ m1 SX _ _ (r.go s1 M1) h1 fun i F2 H2 m2 s2 M2 h2 => hh.sim σ F2 H2 δ m2 SX _ _ (r.go (s1.trans s2) M2) h2 fun j F3 H3 m3 s3 M3 h3 => by
    have v3 := vr_sub (s2.trans s3) v1
    have s13 := (s1.trans s2).trans s3
    cases v3 with
    | str z => exact .inr (.inr ⟨z, rfl, h3.1, c _ F3 H3 _ m3 s13 M3 (.str _) h3.2⟩)
    | ref a =>
      obtain ⟨xs, e1, q1⟩ := (show ∃ xs, _ from h3)
      obtain ⟨vs, e2, r2⟩ := M3.lst_ e1
      exact .inl ⟨a, vs, rfl, .inl (.inl e2), fun p hp => c (.ref p) F3 _ _ _ s13 (M3.newL hp (vrs_cut r2 i j)) (.ref p) (q1 p (M3.gone hp))⟩
    | tup g1 r2 =>
      refine .inr (.inl ⟨_, _, rfl, sqt_sub M3.sub g1, fun e => ?_, fun e p hp => ?_⟩)
      · rw [vrs_length r2] at e
        have h3 : S (.tup (cutS' _ i j)) m3 := h3
        rw [cut_all _ i j e] at h3
        exact c _ F3 H3 _ m3 s13 M3 (.tup g1 r2) h3
      · exact c (.ref p) (upd F3 p _) _ _ m3 (s13.trans (Sub.new (M3.sub.gone hp))) (M3.frz hp) (.tup (.inl (.inl upd_same)) (vrs_sub (Sub.new (M3.sub.gone hp)) (vrs_cut r2 i j))) h3
    | lst g1 r2 =>
      exact .inl ⟨_, _, rfl, sql_sub M3.sub g1, fun p hp => c (.ref p) F3 _ _ _ s13 (M3.newL hp (vrs_cut r2 i j)) (.ref p) (h3 p (M3.gone hp))⟩
    | _ => exact (show False from h3).elim⟩
end
/-! ### calls of built-ins, methods -/
def sCB (r : SRC) (a : SA) : SE := fun SX δ m S => a SX δ m fun xs m1 => r xs m1 S
def sBM (ck : SV → Mem → Prop) (r : SRM) (o : SE) (a : SA) : SE := fun SX δ m S => o SX δ m fun x m1 => ck x m1 ∧ a SX δ m1 fun xs m2 => r x xs m2 S
def sBM0 (ck : SV → Mem → Prop) (r : SRM) (o : SE) : SE := fun SX δ m S => o SX δ m fun x m1 => ck x m1 ∧ r x [] m1 S
def SimK (K : PySem.W.Frag) (T : String) (ck : SV → Mem → Prop) : Prop := ∀ F H m x a, MR K F H m → VR K F x a → ck a m → tyV K T x H
section
variable {K : PySem.W.Frag} {E : XK} {X : Cx} {a b c e o : Expr} {es : List Expr} {ta tb tc te to : TE} {sa sb sc se so : SE} {pos p apos cpos : Pos} {tl : TA} {sl : SA}
theorem sim_cb {r : List V → Hp → VK → Prop} {s : SRC} (hr : SimC K r s) (ha : SimA K E tl sl) : SimE K E (tCB r tl) (sCB s sl) := fun σ F H δ m SX S Q q h c =>
  ha σ F H δ m SX _ _ q h fun xs F1 H1 sx m1 s1 M1 v1 h1 => hr F1 H1 m1 xs sx S Q M1 v1 h1 (c.go s1)
theorem ge_callB {x : Str} {id : String} {r : List V → Hp → VK → Prop} {s : SRC} (hc : CallR X (.builtin id) r) (hr : SimC K r s) (hg : Gl X x) (hm : X.mg x = none) (hv : bootBuiltins x = some (.builtin id)) (ha : GA K E X (e :: es) tl sl) (hn : x ≠ "__name__" := by decide) (hdb : (x == ("__debug__" : Str)) = false := by decide)
    (he : starEach (e :: es) X.env = (false, eval e X.env) :: starEach es X.env := by rfl) (hpl : (backTo pos (starEach es X.env)).any (·.1) = false := by rfl) : GE K E X (.Call (.Name x p) (e :: es) [] pos) (tCB r tl) (sCB s sl) := ⟨pe_callB hc hg hm hv ha.pe hn hdb he hpl, sim_cb hr ha.sim⟩
theorem ge_callTy {x : Str} {T : String} {r : List V → Hp → VK → Prop} {s : SRC} (hc : CallR X (.type T) r) (hr : SimC K r s) (hg : Gl X x) (hm : X.mg x = none) (hv : bootBuiltins x = some (.type T)) (ha : GA K E X (e :: es) tl sl) (hn : x ≠ "__name__" := by decide) (hdb : (x == ("__debug__" : Str)) = false := by decide)
    (he : starEach (e :: es) X.env = (false, eval e X.env) :: starEach es X.env := by rfl) (hpl : (backTo pos (starEach es X.env)).any (·.1) = false := by rfl) : GE K E X (.Call (.Name x p) (e :: es) [] pos) (tCB r tl) (sCB s sl) := ⟨pe_callTy hc hg hm hv ha.pe hn hdb he hpl, sim_cb hr ha.sim⟩
theorem ge_bm {name : Str} {T id : String} {r : V → List V → Hp → VK → Prop} {s : SRM} {ck : SV → Mem → Prop} (pa : PlainAttrs T) (slot : Slot T name id) (hty : typeOf (.builtin id) = pure (.type "method_descriptor")) (hm : MtR X id r) (hk : SimK K T ck) (hr : SimM K r s) (ho : GE K E X o to so) (ha : GA K E X (e :: es) tl sl)
    (hK : X.K = K := by rfl) (hbase : attributeBase o name X.env (eval o X.env) = eval o X.env := by rfl)
    (hfew : ((backTo cpos (starEach (e :: es) X.env)).all (fun x => !x.1) && (backToKw cpos (keywordEach [] X.env)).all (fun x => x.1.isSome)
      && decide ((e :: es).length + ([] : List Keyword).length + (if ([] : List Keyword).isEmpty then 0 else 1) < 30)) = true := by rfl)
    (hline : (apos.endLine == cpos.line) = true := by rfl) (hs : starEach (e :: es) X.env = (false, eval e X.env) :: starEach es X.env := by rfl) (hplain : (backTo cpos (starEach es X.env)).any (·.1) = false := by rfl) :
    GE K E X (.Call (.Attribute o name apos) (e :: es) [] cpos) (tBM K T r to tl) (sBM ck s so sl) := by
  subst hK
  exact ⟨pe_bm pa slot hty hm ho.pe ha.pe hbase hfew hline hs hplain, fun σ F H δ m SX S Q q h c =>
    ho.sim σ F H δ m SX _ _ q h fun x F1 H1 sx m1 s1 M1 v1 h1 => ⟨hk F1 H1 m1 x sx M1 v1 h1.1, ha.sim σ F1 H1 δ m1 SX _ _ (q.go s1 M1) h1.2 fun xs F2 H2 sxs m2 s2 M2 v2 h2 => hr F2 H2 m2 x xs sx sxs S Q M2 (vr_sub s2 v1) v2 h2 (c.go (s1.trans s2))⟩⟩
theorem ge_bm0 {name : Str} {T id : String} {r : V → List V → Hp → VK → Prop} {s : SRM} {ck : SV → Mem → Prop} (pa : PlainAttrs T) (slot : Slot T name id) (hty : typeOf (.builtin id) = pure (.type "method_descriptor")) (hm : MtR X id r) (hk : SimK K T ck) (hr : SimM K r s) (ho : GE K E X o to so)
    (hK : X.K = K := by rfl) (hbase : attributeBase o name X.env (eval o X.env) = eval o X.env := by rfl) (hline : (apos.endLine == cpos.line) = true := by rfl) : GE K E X (.Call (.Attribute o name apos) [] [] cpos) (tBM0 K T r to) (sBM0 ck s so) := by
  subst hK
  exact ⟨pe_bm0 pa slot hty hm ho.pe hbase hline, fun σ F H δ m SX S Q q h c =>
    ho.sim σ F H δ m SX _ _ q h fun x F1 H1 sx m1 s1 M1 v1 h1 => ⟨hk F1 H1 m1 x sx M1 v1 h1.1, hr F1 H1 m1 x [] sx [] S Q M1 v1 .nil h1.2 (c.go s1)⟩⟩
end
def ckL (x : SV) (m : Mem) : Prop := match x with
  | .ref a => ∃ xs, m a = some (.lst xs)
  | .lst _ => True
  | _ => False
theorem simk_L {K : PySem.W.Frag} : SimK K "list" ckL := fun F H m x a M r h => by
  cases r with
  | ref p =>
    obtain ⟨xs, e⟩ := (show ∃ xs, _ from h)
    obtain ⟨vs, e2, _⟩ := M.lst_ e
    exact .inl ⟨rfl, vs, .inl (.inl e2)⟩
  | lst h1 _ => exact .inl ⟨rfl, _, sql_sub M.sub h1⟩
  | _ => exact (show False from h).elim
def sAppend : SRM := fun x vs m S => match x, vs with
  | .ref a, [y] => ∃ xs, m a = some (.lst xs) ∧ xs.length < sizeLine ∧ S .non (up m a (.lst (xs ++ [y])))
  | _, _ => False
theorem vrs_one {K : PySem.W.Frag} {F : Hp} {vs : List V} {y : SV} (h : VRs K F vs [y]) : ∃ v, vs = [v] ∧ VR K F v y := by
  cases h with
  | cons r t => cases t; exact ⟨_, rfl, r⟩
theorem vrs_two {K : PySem.W.Frag} {F : Hp} {vs : List V} {y z : SV} (h : VRs K F vs [y, z]) : ∃ v w, vs = [v, w] ∧ VR K F v y ∧ VR K F w z := by
  cases h with
  | cons r t =>
    obtain ⟨w, rfl, q⟩ := vrs_one t
    exact ⟨_, _, rfl, r, q⟩
section
variable {K : PySem.W.Frag}
theorem sim_append : SimM K rAppend sAppend := fun F H m x xs a as S Q M r rs h c => by
  cases r with
  | ref p =>
    unfold sAppend at h
    split at h
    · have e := SV.ref.inj (by assumption : SV.ref p = SV.ref _)
      subst e
      obtain ⟨ys, e1, hl, q⟩ := h
      obtain ⟨v, rfl, rv⟩ := vrs_one rs
      obtain ⟨vs, e2, r2⟩ := M.lst_ e1
      exact ⟨p, vs, v, rfl, rfl, e2, by rw [vrs_length r2]; exact hl, c _ F _ _ _ (.refl F) (M.setL e1 (vrs_append r2 (.cons rv .nil))) .non q⟩
    · exact h.elim
  | _ => exact (show False from by unfold sAppend at h; exact h).elim
def sExtend : SRM := fun x vs m S => match x, vs with
  | .ref a, [.ref b] => ∃ xs ys, m a = some (.lst xs) ∧ m b = some (.lst ys) ∧ xs.length + ys.length ≤ sizeLine ∧ S .non (up m a (.lst (xs ++ ys)))
  | _, _ => False
theorem sim_extend : SimM K rExtend sExtend := fun F H m x xs a as S Q M r rs h c => by
  cases r with
  | ref p =>
    unfold sExtend at h
    split at h
    · have e := SV.ref.inj (by assumption : SV.ref p = SV.ref _)
      subst e
      obtain ⟨ys, zs, e1, e3, hl, q⟩ := h
      obtain ⟨v, rfl, rv⟩ := vrs_one rs
      obtain rfl := vr_ref rv
      obtain ⟨vs, e2, r2⟩ := M.lst_ e1
      obtain ⟨ws, e4, r4⟩ := M.lst_ e3
      exact ⟨p, _, vs, ws, rfl, rfl, e2, e4, by rw [vrs_length r2, vrs_length r4]; exact hl, c _ F _ _ _ (.refl F) (M.setL e1 (vrs_append r2 r4)) .non q⟩
    · exact h.elim
  | _ => exact (show False from by unfold sExtend at h; exact h).elim
def sClear : SRM := fun x vs m S => match x, vs with
  | .ref a, [] => ∃ xs, m a = some (.lst xs) ∧ S .non (up m a (.lst []))
  | _, _ => False
theorem sim_clear : SimM K rClear sClear := fun F H m x xs a as S Q M r rs h c => by
  cases r with
  | ref p =>
    unfold sClear at h
    split at h
    · have e := SV.ref.inj (by assumption : SV.ref p = SV.ref _)
      subst e
      obtain ⟨ys, e1, q⟩ := h
      cases rs
      obtain ⟨vs, e2, r2⟩ := M.lst_ e1
      exact ⟨p, vs, rfl, rfl, e2, c _ F _ _ _ (.refl F) (M.setL e1 .nil) .non q⟩
    · exact h.elim
  | _ => exact (show False from by unfold sClear at h; exact h).elim
/-- list.index of a flat thing: the first place -/
def sIndex : SRM := fun x vs m S => match vs with
  | [y] => ∃ xs j z, ItsL m x xs ∧ flatS y = true ∧ xs.all flatS = true ∧ xs[j]? = some z ∧ eqS z y = true ∧ (∀ (i : Nat) z', i < j → xs[i]? = some z' → eqS z' y = false) ∧ S (.int (j : Nat)) m
  | _ => False
theorem sim_index : SimM K (rIndex K) sIndex := fun F H m x xs a as S Q M r rs h c => by
  unfold sIndex at h
  split at h
  · obtain ⟨ys, j, z, h1, h2, h3, h4, h5, h6, q⟩ := h
    obtain ⟨v, rfl, rv⟩ := vrs_one rs
    obtain ⟨p, vs, rfl, hs, r2⟩ := its_lst M r h1
    obtain ⟨w, hw, rw_⟩ := vrs_get r2 h4
    have fl : ∀ (i : Nat) z', ys[i]? = some z' → flatS z' = true := fun i z' e => List.all_eq_true.mp h3 z' (List.mem_of_getElem? e)
    refine ⟨p, vs, v, j, w, rfl, rfl, hs, flat_ok rv h2, flats_ok r2 h3, hw, by rw [eqS_ok rw_ rv (fl _ _ h4) h2]; exact h5, fun i z' hi e => ?_, c _ F H _ m (.refl F) M (.int _) q⟩
    obtain ⟨d, hd, rd⟩ := vrs_getV r2 e
    rw [eqS_ok rd rv (fl _ _ hd) h2]
    exact h6 i d hi hd
  · exact h.elim
/-- len -/
def sLen : SRC := fun vs m S => match vs with
  | [x] => match x with
    | .str z => z.length ≤ sizeLine ∧ S (.int z.length) m
    | x => ∃ ys, Its m x ys ∧ S (.int ys.length) m
  | _ => False
def rLenG (K : PySem.W.Frag) : List V → Hp → VK → Prop := fun xs H Q => (∃ p ys, xs = [.ref p] ∧ (SqL K H p ys ∨ SqT K H p ys) ∧ Q (.int ys.length) H) ∨ ∃ z, xs = [.str z] ∧ z.length ≤ sizeLine ∧ Q (.int z.length) H
theorem cr_len {X : Cx} (K : PySem.W.Frag) (hK : X.K = K := by rfl) : CallR X (.builtin "len") (rLenG K) := by
  subst hK
  exact .or call_len_seq call_len_str
theorem sim_len : SimC K (rLenG K) sLen := fun F H m xs as S Q M rs h c => by
  unfold sLen at h
  split at h
  · next x =>
    obtain ⟨v, rfl, rv⟩ := vrs_one rs
    have key : (∃ ys, Its m x ys ∧ S (.int ys.length) m) → rLenG K [v] H Q := fun ⟨ys, h1, q⟩ => by
      obtain ⟨p, vs, rfl, hs, r2⟩ := its_seq M rv h1
      exact .inl ⟨p, vs, rfl, hs, by rw [vrs_length r2]; exact c _ F H _ m (.refl F) M (.int _) q⟩
    cases x with
    | str z => obtain rfl := vr_str rv; exact .inr ⟨z, rfl, h.1, c _ F H _ m (.refl F) M (.int _) h.2⟩
    | _ => exact key h
  · exact h.elim
/-- isinstance of built-in classes -/
def tyS (m : Mem) (x : SV) (t : String) : Prop := match x with
  | .non => t = "NoneType"
  | .bl _ => t = "bool"
  | .int _ => t = "int"
  | .str _ => t = "str"
  | .tup _ => t = "tuple"
  | .lst _ => t = "list"
  | .ref a => t = "list" ∧ ∃ xs, m a = some (.lst xs)
  | _ => False
theorem tyx_ok {F H : Hp} {m : Mem} {x : V} {a : SV} {t : String} (M : MR K F H m) (r : VR K F x a) (h : tyS m a t) : TyX K H x (.type t) := by
  cases r with
  | non => cases (show t = _ from h); exact .base .non
  | bl b => cases (show t = _ from h); exact .base (.bl b)
  | int b => cases (show t = _ from h); exact .base (.int b)
  | str b => cases (show t = _ from h); exact .base (.str b)
  | ty n => exact (show False from h).elim
  | tup h1 _ =>
    cases (show t = _ from h)
    rcases sqt_sub M.sub h1 with (h | ⟨o, h⟩) | ⟨o, its, n, h1, h2, _⟩
    · exact .base (.tup h)
    · exact .fTuple h
    · exact .kTuple h1 h2
  | lst h1 _ =>
    cases (show t = _ from h)
    rcases sql_sub M.sub h1 with (h | ⟨o, h⟩) | ⟨o, its, n, h1, h2, _⟩
    · exact .base (.lst h)
    · exact .base (.frz h)
    · exact .kList h1 h2
  | ref a =>
    obtain ⟨rfl, xs, e⟩ := (show t = "list" ∧ ∃ xs, _ from h)
    obtain ⟨vs, e2, _⟩ := M.lst_ e
    exact .base (.lst e2)
def isB (t T : String) : Bool := t == T || (t == "bool" && T == "int")
theorem kit_tab : ∀ t ∈ ["NoneType", "bool", "int", "str", "list", "tuple", "dict"], ∀ T ∈ ["bool", "int", "str", "list", "tuple"], kitB t T = some (isB t T) := by decide +kernel
theorem tyS_mem {m : Mem} {a : SV} {t : String} (h : tyS m a t) : t ∈ ["NoneType", "bool", "int", "str", "list", "tuple", "dict"] := by
  cases a <;> first
    | exact (show False from h).elim
    | (cases (show t = _ from h); simp)
    | (obtain ⟨rfl, _⟩ := (show t = "list" ∧ _ from h); simp)
def sIsi : SRC := fun vs m S => match vs with
  | [x, .ty T] => T ∈ ["bool", "int", "str", "list", "tuple"] ∧ ∃ t, tyS m x t ∧ S (.bl (isB t T)) m
  | [x, .tup [.ty T, .ty U]] => (T ∈ ["bool", "int", "str", "list", "tuple"] ∧ U ∈ ["bool", "int", "str", "list", "tuple"]) ∧ ∃ t, tyS m x t ∧ S (.bl (isB t T || isB t U)) m
  | _ => False
def rIsiG (K : PySem.W.Frag) : List V → Hp → VK → Prop := fun xs H Q => rIsi K xs H Q ∨ rIsiT K xs H Q
theorem cr_isi {X : Cx} (K : PySem.W.Frag) (hK : X.K = K := by rfl) : CallR X (.builtin "isinstance") (rIsi K) := by
  subst hK
  exact call_isi
def sIsi1 : SRC := fun vs m S => match vs with
  | [x, .ty T] => T ∈ ["bool", "int", "str", "list", "tuple"] ∧ ∃ t, tyS m x t ∧ S (.bl (isB t T)) m
  | _ => False
theorem sim_isi : SimC K (rIsi K) sIsi1 := fun F H m xs as S Q M rs h c => by
  unfold sIsi1 at h
  split at h
  · obtain ⟨hT, t, ht, q⟩ := h
    obtain ⟨v, w, rfl, rv, rw_⟩ := vrs_two rs
    obtain rfl := vr_ty rw_
    exact ⟨v, _, _, _, _, rfl, .ty _, tyx_ok M rv ht, kit_ty (kit_tab _ (tyS_mem ht) _ hT), c _ F H _ m (.refl F) M (.bl _) q⟩
  · exact h.elim
/-- all, any, sum -/
def sAll : SRC := fun vs m S => match vs with
  | [x] => ∃ bs : List Bool, ItsL m x (bs.map .bl) ∧ S (.bl (bs.all id)) m
  | _ => False
def sAny : SRC := fun vs m S => match vs with
  | [x] => ∃ bs : List Bool, ItsL m x (bs.map .bl) ∧ S (.bl (bs.any id)) m
  | _ => False
def sSum : SRC := fun vs m S => match vs with
  | [x] => ∃ ns : List Int, ItsL m x (ns.map .int) ∧ S (.int ns.sum) m
  | _ => False
theorem cr_allG {X : Cx} (K : PySem.W.Frag) (hc : X.calm = true := by rfl) (hK : X.K = K := by rfl) : CallR X (.builtin "all") (rAll K) := by subst hK; exact cr_all hc
theorem cr_anyG {X : Cx} (K : PySem.W.Frag) (hc : X.calm = true := by rfl) (hK : X.K = K := by rfl) : CallR X (.builtin "any") (rAny K) := by subst hK; exact cr_any hc
theorem cr_sumG {X : Cx} (K : PySem.W.Frag) (hc : X.calm = true := by rfl) (hK : X.K = K := by rfl) : CallR X (.builtin "sum") (rSum K) := by subst hK; exact cr_sum hc
theorem sim_all : SimC K (rAll K) sAll := fun F H m xs as S Q M rs h c => by
  unfold sAll at h
  split at h
  · obtain ⟨bs, h1, q⟩ := h
    obtain ⟨v, rfl, rv⟩ := vrs_one rs
    obtain ⟨p, vs, rfl, hs, r2⟩ := its_lst M rv h1
    obtain rfl := vrs_bls r2
    exact ⟨p, bs, rfl, hs, c _ F H _ m (.refl F) M (.bl _) q⟩
  · exact h.elim
theorem sim_any : SimC K (rAny K) sAny := fun F H m xs as S Q M rs h c => by
  unfold sAny at h
  split at h
  · obtain ⟨bs, h1, q⟩ := h
    obtain ⟨v, rfl, rv⟩ := vrs_one rs
    obtain ⟨p, vs, rfl, hs, r2⟩ := its_lst M rv h1
    obtain rfl := vrs_bls r2
    exact ⟨p, bs, rfl, hs, c _ F H _ m (.refl F) M (.bl _) q⟩
  · exact h.elim
theorem sim_sum : SimC K (rSum K) sSum := fun F H m xs as S Q M rs h c => by
  unfold sSum at h
  split at h
  · obtain ⟨bs, h1, q⟩ := h
    obtain ⟨v, rfl, rv⟩ := vrs_one rs
    obtain ⟨p, vs, rfl, hs, r2⟩ := its_lst M rv h1
    obtain rfl := vrs_ints r2
    exact ⟨p, bs, rfl, hs, c _ F H _ m (.refl F) M (.int _) q⟩
  · exact h.elim
/-- min, max of two ints -/
abbrev rMin2' : List V → Hp → VK → Prop := fun xs H Q => ∃ i j, xs = [.int i, .int j] ∧ Q (.int (if j < i then j else i)) H
abbrev rMax2' : List V → Hp → VK → Prop := fun xs H Q => ∃ i j, xs = [.int i, .int j] ∧ Q (.int (if j > i then j else i)) H
def sMin2 : SRC := fun vs m S => match vs with
  | [.int i, .int j] => S (.int (if j < i then j else i)) m
  | _ => False
def sMax2 : SRC := fun vs m S => match vs with
  | [.int i, .int j] => S (.int (if j > i then j else i)) m
  | _ => False
theorem sim_min2 : SimC K rMin2' sMin2 := fun F H m xs as S Q M rs h c => by
  unfold sMin2 at h
  split at h
  · obtain ⟨v, w, rfl, rv, rw_⟩ := vrs_two rs
    obtain rfl := vr_int rv
    obtain rfl := vr_int rw_
    exact ⟨_, _, rfl, c _ F H _ m (.refl F) M (.int _) h⟩
  · exact h.elim
theorem sim_max2 : SimC K rMax2' sMax2 := fun F H m xs as S Q M rs h c => by
  unfold sMax2 at h
  split at h
  · obtain ⟨v, w, rfl, rv, rw_⟩ := vrs_two rs
    obtain rfl := vr_int rv
    obtain rfl := vr_int rw_
    exact ⟨_, _, rfl, c _ F H _ m (.refl F) M (.int _) h⟩
  · exact h.elim
/-- tuple(..), list(..) -/
abbrev rTupG (K : PySem.W.Frag) : List V → Hp → VK → Prop := fun xs H Q => ∃ p ys, xs = [.ref p] ∧ ((SqL K H p ys ∧ ∀ l, H l = none → Q (.ref l) (upd H l (.tup ys))) ∨ (SqT K H p ys ∧ Q (.ref p) H))
abbrev rLstG (K : PySem.W.Frag) : List V → Hp → VK → Prop := fun xs H Q => ∃ p ys, xs = [.ref p] ∧ (SqL K H p ys ∨ SqT K H p ys) ∧ ∀ l, H l = none → Q (.ref l) (upd H l (.lst ys))
theorem cr_tup {X : Cx} (K : PySem.W.Frag) (hK : X.K = K := by rfl) : CallR X (.type "tuple") (rTupG K) := by subst hK; exact call_tuple_of
theorem cr_lst {X : Cx} (K : PySem.W.Frag) (hK : X.K = K := by rfl) : CallR X (.type "list") (rLstG K) := by subst hK; exact call_list_of
def sTupOf : SRC := fun vs m S => match vs with
  | [x] => ∃ ys, Its m x ys ∧ S (.tup ys) m
  | _ => False
def sLstOf : SRC := fun vs m S => match vs with
  | [x] => ∃ ys, Its m x ys ∧ ∀ p, m p = none → S (.ref p) (up m p (.lst ys))
  | _ => False
theorem sim_tupOf : SimC K (rTupG K) sTupOf := fun F H m xs as S Q M rs h c => by
  unfold sTupOf at h
  split at h
  · obtain ⟨ys, h1, q⟩ := h
    obtain ⟨v, rfl, rv⟩ := vrs_one rs
    have key : ∀ p vs, v = .ref p → SqL K H p vs → VRs K F vs ys → rTupG K [v] H Q := fun p vs e hs r2 => by
      subst e
      exact ⟨p, vs, rfl, .inl ⟨hs, fun l hl => c (.ref l) (upd F l _) _ _ m (Sub.new (M.sub.gone hl)) (M.frz hl) (.tup (.inl (.inl upd_same)) (vrs_sub (Sub.new (M.sub.gone hl)) r2)) q⟩⟩
    cases rv with
    | tup g1 r2 =>
      cases (show ys = _ from h1)
      exact ⟨_, _, rfl, .inr ⟨sqt_sub M.sub g1, c _ F H _ m (.refl F) M (.tup g1 r2) q⟩⟩
    | lst g1 r2 => cases (show ys = _ from h1); exact key _ _ rfl (sql_sub M.sub g1) r2
    | ref p =>
      obtain ⟨vs, e, r2⟩ := M.lst_ (show m p = some (.lst ys) from h1)
      exact key _ _ rfl (.inl (.inl e)) r2
    | _ => exact (show False from h1).elim
  · exact h.elim
theorem sim_lstOf : SimC K (rLstG K) sLstOf := fun F H m xs as S Q M rs h c => by
  unfold sLstOf at h
  split at h
  · obtain ⟨ys, h1, q⟩ := h
    obtain ⟨v, rfl, rv⟩ := vrs_one rs
    obtain ⟨p, vs, rfl, hs, r2⟩ := its_seq M rv h1
    exact ⟨p, vs, rfl, hs, fun l hl => c (.ref l) F _ _ _ (.refl F) (M.newL hl r2) (.ref l) (q l (M.gone hl))⟩
  · exact h.elim
/-- int(..) of an int, a bool -/
abbrev rInt1 : List V → Hp → VK → Prop := fun xs H Q => (∃ i, xs = [.int i] ∧ Q (.int i) H) ∨ ∃ k, xs = [.bl k] ∧ Q (.int (if k then 1 else 0)) H
def sInt1 : SRC := fun vs m S => match vs with
  | [.int i] => S (.int i) m
  | [.bl k] => S (.int (if k then 1 else 0)) m
  | _ => False
theorem sim_int1 : SimC K rInt1 sInt1 := fun F H m xs as S Q M rs h c => by
  unfold sInt1 at h
  split at h
  · obtain ⟨v, rfl, rv⟩ := vrs_one rs
    obtain rfl := vr_int rv
    exact .inl ⟨_, rfl, c _ F H _ m (.refl F) M (.int _) h⟩
  · obtain ⟨v, rfl, rv⟩ := vrs_one rs
    obtain rfl := vr_bl rv
    exact .inr ⟨_, rfl, c _ F H _ m (.refl F) M (.int _) h⟩
  · exact h.elim
/-- str(n) -/
abbrev rStrI : List V → Hp → VK → Prop := fun xs H Q => ∃ i, xs = [.int i] ∧ i.natAbs.log2 < 1920 ∧ Q (.str (toString i)) H
def sStrI : SRC := fun vs m S => match vs with
  | [.int i] => i.natAbs.log2 < 1920 ∧ S (.str (toString i)) m
  | _ => False
theorem sim_strI : SimC K rStrI sStrI := fun F H m xs as S Q M rs h c => by
  unfold sStrI at h
  split at h
  · obtain ⟨v, rfl, rv⟩ := vrs_one rs
    obtain rfl := vr_int rv
    exact ⟨_, rfl, h.1, c _ F H _ m (.refl F) M (.str _) h.2⟩
  · exact h.elim
end
end Sy

set_option Elab.async false
set_option linter.all false
set_option maxRecDepth 100000
set_option maxHeartbeats 4000000
/-! Statements, loops, comprehensions, defs over symbolic values. -/
namespace Sy
open PySem PySem.Spec PyProof.Rows L2
structure SEnds where
  nx : DS → Mem → Prop
  rt : SV → Mem → Prop
  bk : DS → Mem → Prop := fun _ _ => False
  ct : DS → Mem → Prop := fun _ _ => False
abbrev SS := SXK → SEnds → DS → Mem → Prop
def CnS (K : PySem.W.Frag) (F : Hp) (S : DS → Mem → Prop) (Q : L2.St → Hp → Prop) : Prop := ∀ σ δ F' H' m', Sub F F' → SR K F' σ δ → MR K F' H' m' → S δ m' → Q σ H'
theorem CnS.go {K : PySem.W.Frag} {F F' : Hp} {S : DS → Mem → Prop} {Q : L2.St → Hp → Prop} (c : CnS K F S Q) (s : Sub F F') : CnS K F' S Q := fun v F2 H2 sv m2 s2 => c v F2 H2 sv m2 (s.trans s2)
structure EndOk (K : PySem.W.Frag) (F : Hp) (E : Ends) (D : SEnds) : Prop where
  nx : CnS K F D.nx E.nx
  rt : Cn K F D.rt E.rt
  bk : CnS K F D.bk E.bk
  ct : CnS K F D.ct E.ct
theorem EndOk.go {K : PySem.W.Frag} {F F' : Hp} {E : Ends} {D : SEnds} (c : EndOk K F E D) (s : Sub F F') : EndOk K F' E D := ⟨c.nx.go s, c.rt.go s, c.bk.go s, c.ct.go s⟩
def SimS (K : PySem.W.Frag) (E : XK) (ts : TS) (ss : SS) : Prop := ∀ σ F H δ m SX D Es, Rl K E σ F H δ m SX → ss SX D δ m → EndOk K F Es D → ts Es σ H
structure GS (K : PySem.W.Frag) (E : XK) (X : Cx) (st : Stmt) (ts : TS) (ss : SS) : Prop where
  pe : PS X st ts
  sim : SimS K E ts ss
structure GSs (K : PySem.W.Frag) (E : XK) (X : Cx) (st : List Stmt) (ts : TS) (ss : SS) : Prop where
  pe : PSs X st ts
  sim : SimS K E ts ss
/-! targets -/
abbrev SG := SXK → SV → DS → Mem → (DS → Mem → Prop) → Prop
abbrev SGs := SXK → List SV → DS → Mem → (DS → Mem → Prop) → Prop
def SimG (K : PySem.W.Frag) (E : XK) (g : TG) (s : SG) : Prop := ∀ σ F H δ m SX v sv S Q, Rl K E σ F H δ m SX → VR K F v sv → s SX sv δ m S → CnS K F S Q → g v σ H Q
def SimGs (K : PySem.W.Frag) (E : XK) (g : TGs) (s : SGs) : Prop := ∀ σ F H δ m SX v sv S Q, Rl K E σ F H δ m SX → VRs K F v sv → s SX sv δ m S → CnS K F S Q → g v σ H Q
structure GG (K : PySem.W.Frag) (E : XK) (X : Cx) (e : Expr) (g : TG) (s : SG) : Prop where
  pe : PG X e g
  sim : SimG K E g s
structure GGs (K : PySem.W.Frag) (E : XK) (X : Cx) (e : List Expr) (g : TGs) (s : SGs) : Prop where
  pe : PGs X e g
  sim : SimGs K E g s
def hName (i : Nat) : SG := fun _ v δ m S => S (δ.set i (some v)) m
def hNil : SGs := fun _ vs δ m S => match vs with
  | [] => S δ m
  | _ => False
def hCons (g : SG) (r : SGs) : SGs := fun SX vs δ m S => match vs with
  | v :: ws => g SX v δ m fun δ1 m1 => r SX ws δ1 m1 S
  | [] => False
def hTup (n : Nat) (r : SGs) : SG := fun SX v δ m S => match v with
  | .tup xs => xs.length = n ∧ r SX xs δ m S
  | _ => False
section
variable {K : PySem.W.Frag} {E : XK} {X : Cx} {a b c e : Expr} {es : List Expr} {ta tb tc te : TE} {sa sb sc se : SE} {pos pos' : Pos} {g : TG} {gs : TGs} {sg : SG} {sgs : SGs}
theorem gg_name {i : Nat} {x : Str} (hN : X.N.Nodup) (hi : X.N[i]? = some x) (hx : Loc X.env.scope x) (hf : X.fn x = true ∨ X.env.scope.names.lookup x = some .local := by first | exact .inl rfl | exact .inr rfl | assumption) : GG K E X (.Name x pos) (gName i) (hName i) :=
  ⟨pg_name hN hi hx hf, fun σ F H δ m SX v sv S Q r rv h c => c _ _ F H m (.refl F) (r.sr.set rv) r.mr h⟩
theorem ggs_nil : GGs K E X [] gNil hNil := ⟨pgs_nil, fun σ F H δ m SX v sv S Q r rv h c => by
  cases rv with
  | nil => exact ⟨rfl, c _ _ F H m (.refl F) r.sr r.mr h⟩
  | cons _ _ => exact (show False from h).elim⟩
theorem ggs_cons (h1 : GG K E X e g sg) (h2 : GGs K E X es gs sgs) (hs : (assignEach (e :: es) X.env).map (·.2) = assign e X.env :: (assignEach es X.env).map (·.2) := by rfl) : GGs K E X (e :: es) (gCons g gs) (hCons sg sgs) := ⟨pgs_cons h1.pe h2.pe hs, fun σ F H δ m SX v sv S Q r rv h c => by
  cases rv with
  | nil => exact (show False from h).elim
  | cons r1 r2 =>
    exact ⟨_, _, rfl, h1.sim σ F H δ m SX _ _ _ _ r r1 h fun σ1 δ1 F1 H1 m1 s1 sr1 M1 q1 => h2.sim σ1 F1 H1 δ1 m1 SX _ _ S Q ⟨sr1, M1, r.ex.go s1⟩ (vrs_sub s1 r2) q1 (c.go s1)⟩⟩
theorem gg_tup (n : Nat) {k : Nat} (hc : X.calm = true) (h : GGs K E X es gs sgs) (hn : (assignEach es X.env).length = n := by rfl) (hst : (assignEach es X.env).findIdx? (·.1) = none := by rfl) (hK : X.K = K := by rfl) : GG K E X (.Tuple es k pos) (gTup K n gs) (hTup n sgs) := by
  subst hK
  exact ⟨pg_tup hc h.pe hn hst, fun σ F H δ m SX v sv S Q r rv hh c => by
    cases rv with
    | tup h1 h2 => exact ⟨_, _, rfl, sqt_sub r.mr.sub h1, by rw [vrs_length h2]; exact hh.1, h.sim σ F H δ m SX _ _ S Q r h2 hh.2 c⟩
    | _ => exact (show False from hh).elim⟩
/-- o[i] = v of a list -/
def hSubL (o i : SE) : SG := fun SX v δ m S => o SX δ m fun x m1 => i SX δ m1 fun y m2 => match x, y with
  | .ref a, .int k => ∃ xs j, m2 a = some (.lst xs) ∧ ixN xs.length k = some j ∧ S δ (up m2 a (.lst (xs.set j v)))
  | _, _ => False
theorem gg_subL (ho : GE K E X a ta sa) (hi : GE K E X b tb sb) (ha : ∀ v, assign (.Subscript a b pos) X.env v = (do
      let ov ← holding [v] (eval a X.env)
      let iv ← holding [v, ov] (eval b X.env)
      standAt pos
      holding [v, ov, iv] (setItem ov iv v)
      release [v, ov, iv] []) := by intro _; rfl) : GG K E X (.Subscript a b pos) (gSub ta tb rSetL) (hSubL sa sb) := ⟨pg_sub ho.pe hi.pe set_list ha, fun σ F H δ m SX v sv S Q r rv h c =>
  ho.sim σ F H δ m SX _ _ r h fun x F1 H1 sx m1 s1 M1 v1 h1 => hi.sim σ F1 H1 δ m1 SX _ _ (r.go s1 M1) h1 fun y F2 H2 sy m2 s2 M2 v2 h2 => by
    have v1 := vr_sub s2 v1
    cases v1 <;> cases v2 <;> first
      | exact (show False from h2).elim
      | skip
    obtain ⟨xs, j, e1, e2, q⟩ := (show ∃ xs j, _ from h2)
    obtain ⟨vs, e3, r3⟩ := M2.lst_ e1
    have s12 := s1.trans s2
    exact ⟨_, vs, _, j, rfl, rfl, e3, by rw [vrs_length r3]; exact e2, c _ δ F2 _ _ s12 (r.sr.sub s12) (M2.setL e1 (vrs_set j r3 (vr_sub s12 rv))) q⟩⟩
end
/-! small statements -/
def sNext : SS := fun _ D δ m => D.nx δ m
def sSeq (t u : SS) : SS := fun SX D δ m => t SX { D with nx := fun δ1 m1 => u SX D δ1 m1 } δ m
def sAsg (a : SE) (g : SG) : SS := fun SX D δ m => a SX δ m fun x m1 => g SX x δ m1 D.nx
def sDrop (a : SE) : SS := fun SX D δ m => a SX δ m fun _ m1 => D.nx δ m1
def sRet (a : SE) : SS := fun SX D δ m => a SX δ m D.rt
def sRetN : SS := fun _ D _ m => D.rt .non m
def sIfS (c : STt) (t u : SS) : SS := fun SX D δ m => c SX δ m fun b m1 => Br b (t SX D δ m1) (u SX D δ m1)
def sBreak : SS := fun _ D δ m => D.bk δ m
def sCont : SS := fun _ D δ m => D.ct δ m
def sNever : SS := fun _ _ _ _ => False
section
variable {K : PySem.W.Frag} {E : XK} {X : Cx} {a b c e : Expr} {es : List Expr} {ta tb tc te : TE} {sa sb sc se : SE} {pos pos' : Pos} {g : TG} {gs : TGs} {sg : SG} {sgs : SGs} {st : Stmt} {sts rest : List Stmt} {t u : TS} {zt zu : SS} {ct : TT} {cs : STt}
theorem gss_nil : GSs K E X [] tNext sNext := ⟨pss_nil, fun σ F H δ m SX D Es r h q => q.nx σ δ F H m (.refl F) r.sr r.mr h⟩
theorem gss_one (h : GS K E X st t zt) : GSs K E X [st] t zt := ⟨pss_one h.pe, h.sim⟩
theorem gss_cons (h1 : GS K E X st t zt) (h2 : GSs K E X rest u zu) : GSs K E X (st :: rest) (tSeq t u) (sSeq zt zu) := ⟨pss_cons h1.pe h2.pe, fun σ F H δ m SX D Es r h q =>
  h1.sim σ F H δ m SX _ _ r h ⟨fun σ1 δ1 F1 H1 m1 s1 sr1 M1 q1 => h2.sim σ1 F1 H1 δ1 m1 SX D Es ⟨sr1, M1, r.ex.go s1⟩ q1 (q.go s1), q.rt, q.bk, q.ct⟩⟩
theorem gs_pass : GS K E X (.Pass pos) tNext sNext := ⟨ps_pass, fun σ F H δ m SX D Es r h q => q.nx σ δ F H m (.refl F) r.sr r.mr h⟩
theorem gs_break : GS K E X (.Break pos) tBreak sBreak := ⟨ps_break, fun σ F H δ m SX D Es r h q => q.bk σ δ F H m (.refl F) r.sr r.mr h⟩
theorem gs_cont : GS K E X (.Continue pos) tCont sCont := ⟨ps_continue, fun σ F H δ m SX D Es r h q => q.ct σ δ F H m (.refl F) r.sr r.mr h⟩
theorem gs_doc {x j} : GS K E X (.Expr (.Constant (.str x) j pos) pos') tNext sNext := ⟨ps_doc, fun σ F H δ m SX D Es r h q => q.nx σ δ F H m (.refl F) r.sr r.mr h⟩
theorem gs_never : GS K E X st tNever sNever := ⟨ps_never, fun σ F H δ m SX D Es r h q => h.elim⟩
theorem gs_expr (he : GE K E X e te se) (hs : swapsWith e none pos.line X.env = pure false := by rfl) : GS K E X (.Expr e pos) (tDrop te) (sDrop se) := ⟨ps_expr he.pe hs, fun σ F H δ m SX D Es r h q =>
  he.sim σ F H δ m SX _ _ r h fun v F1 H1 sv m1 s1 M1 v1 h1 => q.nx σ δ F1 H1 m1 s1 (r.sr.sub s1) M1 h1⟩
theorem gs_ret (he : GE K E X e te se) : GS K E X (.Return (some e) pos) (tRet te) (sRet se) := ⟨ps_ret he.pe, fun σ F H δ m SX D Es r h q => he.sim σ F H δ m SX _ _ r h q.rt⟩
theorem gs_retN : GS K E X (.Return none pos) tRetN sRetN := ⟨ps_retN, fun σ F H δ m SX D Es r h q => q.rt _ F H _ m (.refl F) r.mr .non h⟩
theorem sim_asg (he : SimE K E te se) (hg : SimG K E g sg) : SimS K E (tAsg te g) (sAsg se sg) := fun σ F H δ m SX D Es r h q =>
  he σ F H δ m SX _ _ r h fun v F1 H1 sv m1 s1 M1 v1 h1 => hg σ F1 H1 δ m1 SX v sv _ _ (r.go s1 M1) v1 h1 (q.nx.go s1)
theorem gs_asg (he : GE K E X e te se) (hg : GG K E X a g sg) (hs : swapsWithSole [a] e pos.line X.env = pure false := by rfl) (hw : swappedStores [a] e X.env = pure none := by rfl)
    (h1 : (assignEach [a] X.env).map (·.2) = [assign a X.env] := by rfl) : GS K E X (.Assign [a] e pos) (tAsg te g) (sAsg se sg) := ⟨ps_asg he.pe hg.pe hs hw h1, sim_asg he.sim hg.sim⟩
theorem gs_set {i : Nat} {x : Str} (hN : X.N.Nodup) (hi : X.N[i]? = some x) (hx : Loc X.env.scope x) (he : GE K E X e te se) (hs : swapsWith e (some (.Name x pos')) pos.line X.env = pure false := by rfl) (hf : X.fn x = true ∨ X.env.scope.names.lookup x = some .local := by first | exact .inl rfl | exact .inr rfl | assumption) : GS K E X (.Assign [.Name x pos'] e pos) (tAsg te (gName i)) (sAsg se (hName i)) :=
  ⟨ps_set hN hi hx he.pe hs hf, sim_asg he.sim fun σ F H δ m SX v sv S Q r rv h c => c _ _ F H m (.refl F) (r.sr.set rv) r.mr h⟩
theorem gs_if {s1 s2 : List Stmt} (hc : GT K E X c ct cs) (h1 : GSs K E X s1 t zt) (h2 : GSs K E X s2 u zu) : GS K E X (.If c s1 s2 pos) (tIfS ct t u) (sIfS cs zt zu) := ⟨ps_if hc.pe h1.pe h2.pe, fun σ F H δ m SX D Es r h q =>
  hc.sim σ F H δ m SX _ _ r h fun b F1 H1 m1 s1 M1 h1' => by
    rw [Br_eq] at h1'
    cases b with
    | true => exact h1.sim σ F1 H1 δ m1 SX D Es (r.go s1 M1) (by simpa using h1') (q.go s1)
    | false => exact h2.sim σ F1 H1 δ m1 SX D Es (r.go s1 M1) (by simpa using h1') (q.go s1)⟩
end
/-! ### while -/
@[irreducible] def WhileGo (c : STt) (b : SS) (SX : SXK) (D : SEnds) (δ : DS) (m : Mem) : Prop := ∃ W : Nat → DS → Mem → Prop, (∃ n, W n δ m) ∧ ∀ n δ m, W n δ m →
  c SX δ m fun t m1 => Br t (b SX { D with nx := fun δ' m' => ∃ n', n' < n ∧ Fg (W n' δ') m', ct := fun δ' m' => ∃ n', n' < n ∧ Fg (W n' δ') m', bk := D.nx } δ m1) (D.nx δ m1)
def sWhile (c : STt) (b : SS) : SS := fun SX D δ m => WhileGo c b SX D δ m
section
variable {K : PySem.W.Frag} {E : XK} {X : Cx} {c : Expr} {pos : Pos} {body : List Stmt} {t : TS} {zt : SS} {ct : TT} {cs : STt}
theorem gs_while (hp : PassesOwn (model X.prog X.w) X.A X.env X.xe) (hc : GT K E X c ct cs) (hb : GSs K E X body t zt) : GS K E X (.While c body [] pos) (tWhile ct t) (sWhile cs zt) := ⟨ps_while hp hc.pe hb.pe, fun σ F H δ m SX D Es r h q => by
  have h : WhileGo cs zt SX D δ m := h
  unfold WhileGo at h
  obtain ⟨W, ⟨n0, w0⟩, turn⟩ := h
  refine ⟨fun n σ1 H1 => ∃ F1 δ1 m1, Sub F F1 ∧ SR K F1 σ1 δ1 ∧ MR K F1 H1 m1 ∧ W n δ1 m1, ⟨n0, F, δ, m, .refl F, r.sr, r.mr, w0⟩, ?_⟩
  rintro n σ1 H1 ⟨F1, δ1, m1, s1, sr1, M1, w1⟩
  refine hc.sim σ1 F1 H1 δ1 m1 SX _ _ ⟨sr1, M1, r.ex.go s1⟩ (turn n δ1 m1 w1) fun b F2 H2 m2 s2 M2 h2 => ?_
  rw [Br_eq] at h2
  split
  · next e =>
    rw [if_pos e] at h2
    refine ⟨fun σ' H' => ∃ m', m' < n ∧ ∃ F1 δ1 m1, Sub F F1 ∧ SR K F1 σ' δ1 ∧ MR K F1 H' m1 ∧ W m' δ1 m1, fun _ _ z => z, ?_⟩
    have s12 := s1.trans s2
    have cn : CnS K F2 (fun δ' m' => ∃ n', n' < n ∧ Fg (W n' δ') m') (fun σ' H' => ∃ m', m' < n ∧ ∃ F1 δ1 m1, Sub F F1 ∧ SR K F1 σ' δ1 ∧ MR K F1 H' m1 ∧ W m' δ1 m1) := fun σ3 δ3 F3 H3 m3 s3 sr3 M3 ⟨n', hn, m4, l4, w3⟩ => ⟨n', hn, F3, δ3, m4, s12.trans s3, sr3, M3.drop l4, w3⟩
    exact hb.sim σ1 F2 H2 δ1 m2 SX _ _ ⟨sr1.sub s2, M2, r.ex.go s12⟩ h2 ⟨cn, q.rt.go s12, q.nx.go s12, cn⟩
  · next e =>
    rw [if_neg e] at h2
    exact q.nx σ1 δ1 F2 H2 m2 (s1.trans s2) (sr1.sub s2) M2 h2⟩
end
/-! ### what is walked -/
abbrev SI := SXK → DS → Mem → (List SV → (Mem → Prop) → Mem → Prop) → Prop
structure ItOk (K : PySem.W.Frag) (F : Hp) (J : It) (items : List SV) (keep : Mem → Prop) : Prop where
  go : ∀ i F' H' m' x, Sub F F' → MR K F' H' m' → keep m' → items[i]? = some x → J.go i H' ∧ ∀ v H'', J.yld i H' v H'' → ∃ F'', Sub F' F'' ∧ MR K F'' H'' m' ∧ VR K F'' v x
  stop : ∀ F' H' m', Sub F F' → MR K F' H' m' → keep m' → J.stop items.length H'
def SimI (K : PySem.W.Frag) (E : XK) (ti : TI) (si : SI) : Prop := ∀ σ F H δ m SX R R', Rl K E σ F H δ m SX → si SX δ m R → (∀ J items keep F' H' m', Sub F F' → MR K F' H' m' → ItOk K F' J items keep → R items keep m' → R' J H') → ti σ H R'
structure GI (K : PySem.W.Frag) (E : XK) (X : Cx) (tg e : Expr) (ti : TI) (si : SI) : Prop where
  pe : PI X tg e ti
  sim : SimI K E ti si
def iSeq (K : PySem.W.Frag) (tl : TE) : TI := fun σ H R => tl σ H fun x H1 => ∃ a, x = .ref a ∧ (((∃ xs, SqL K H1 a xs) ∧ R (Itl K a) H1) ∨ ((∃ xs, SqT K H1 a xs) ∧ R (Itt K a) H1))
theorem pi_seq {X : Cx} {tg l : Expr} {tl : TE} (hl : PE X l tl) : PI X tg l (iSeq X.K tl) := by
  refine ⟨fun pins s σ H R I h => ?_⟩
  refine thn (hl.run pins s σ H _ I h) fun v s1 ⟨x, H1, I1, r1, q1⟩ => ?_
  obtain ⟨a, e, q⟩ := q1
  subst e
  cases r1
  rcases q with ⟨⟨xs, hq⟩, q⟩ | ⟨⟨xs, hq⟩, q⟩
  · obtain ⟨its, rv, p, hz⟩ := I1.list hq
    refine wpAny_pyIter_list p.isList ?_
    refine ⟨s1.heap.objs.size, [s1.heap.objs.size], _, _, H1, rfl, I1.kept (t' := s1.toks) fun b o e => Heap.get?_push_of_some _ e, turn_list a _, ⟨_, Heap.get?_push_size _ rfl, rfl, rfl⟩, fun b hb => ?_, q⟩
    have e : b = s1.heap.objs.size := by simpa using hb
    subst e
    exact I1.fpOk (Nat.le_refl _) (I1.hok.fresh (Nat.le_refl _))
  · obtain ⟨its, rv, p, hz⟩ := I1.tuple hq
    refine wpAny_pyIter_tuple (show s1.heap.IsTuple a its.toArray from p) ?_
    refine ⟨s1.heap.objs.size, [s1.heap.objs.size], _, _, H1, rfl, I1.kept (t' := s1.toks) fun b o e => Heap.get?_push_of_some _ e, turn_tuple a _, ⟨_, Heap.get?_push_size _ rfl, rfl, rfl⟩, fun b hb => ?_, q⟩
    have e : b = s1.heap.objs.size := by simpa using hb
    subst e
    exact I1.fpOk (Nat.le_refl _) (I1.hok.fresh (Nat.le_refl _))
def keepOf (x : SV) (xs : List SV) (m : Mem) : Prop := match x with
  | .ref a => m a = some (.lst xs)
  | _ => True
def sSeqI (a : SE) : SI := fun SX δ m R => a SX δ m fun x m1 => ∃ xs, Its m1 x xs ∧ R xs (keepOf x xs) m1
section
variable {K : PySem.W.Frag} {F : Hp}
theorem it_l {a : Addr} {items : List SV} {keep : Mem → Prop} (h : ∀ F' H' m', Sub F F' → MR K F' H' m' → keep m' → ∃ vs, SqL K H' a vs ∧ VRs K F' vs items) : ItOk K F (Itl K a) items keep where
  go := fun i F' H' m' x s M k e => by
    obtain ⟨vs, h1, h2⟩ := h F' H' m' s M k
    obtain ⟨v, hv, rv⟩ := vrs_get h2 e
    refine ⟨⟨vs, v, h1, hv⟩, fun w H'' hy => ?_⟩
    obtain ⟨rfl, hy⟩ := hy
    have z := hy vs h1
    rw [hv] at z
    cases z
    exact ⟨F', .refl F', M, rv⟩
  stop := fun F' H' m' s M k => by
    obtain ⟨vs, h1, h2⟩ := h F' H' m' s M k
    exact ⟨vs, h1, by rw [vrs_length h2]; exact Nat.le_refl _⟩
theorem it_t {a : Addr} {items : List SV} {keep : Mem → Prop} (h : ∀ F' H' m', Sub F F' → MR K F' H' m' → keep m' → ∃ vs, SqT K H' a vs ∧ VRs K F' vs items) : ItOk K F (Itt K a) items keep where
  go := fun i F' H' m' x s M k e => by
    obtain ⟨vs, h1, h2⟩ := h F' H' m' s M k
    obtain ⟨v, hv, rv⟩ := vrs_get h2 e
    refine ⟨⟨vs, v, h1, hv⟩, fun w H'' hy => ?_⟩
    obtain ⟨rfl, hy⟩ := hy
    have z := hy vs h1
    rw [hv] at z
    cases z
    exact ⟨F', .refl F', M, rv⟩
  stop := fun F' H' m' s M k => by
    obtain ⟨vs, h1, h2⟩ := h F' H' m' s M k
    exact ⟨vs, h1, by rw [vrs_length h2]; exact Nat.le_refl _⟩
/-- lo, lo + 1, .. -/
def rngS : Int → Nat → List SV
  | _, 0 => []
  | lo, n + 1 => .int lo :: rngS (lo + 1) n
theorem rngS_length : ∀ (n : Nat) (lo : Int), (rngS lo n).length = n
  | 0, _ => rfl
  | n + 1, lo => by rw [rngS, List.length_cons, rngS_length n]
theorem rngS_get : ∀ (n : Nat) (lo : Int) (i : Nat) (x : SV), (rngS lo n)[i]? = some x → i < n ∧ x = .int (lo + (i : Nat))
  | 0, _, _, _, e => by simp [rngS] at e
  | n + 1, lo, 0, x, e => by
    simp [rngS] at e
    exact ⟨Nat.succ_pos _, by rw [← e]; simp⟩
  | n + 1, lo, i + 1, x, e => by
    obtain ⟨h1, h2⟩ := rngS_get n (lo + 1) i x (by simpa [rngS] using e)
    exact ⟨Nat.succ_lt_succ h1, by rw [h2]; congr 1; push_cast; omega⟩
theorem it_r {lo : Int} {n : Nat} : ItOk K F (Itr lo n) (rngS lo n) (fun _ => True) where
  go := fun i F' H' m' x s M k e => by
    obtain ⟨h1, rfl⟩ := rngS_get n lo i x e
    refine ⟨h1, fun w H'' hy => ?_⟩
    obtain ⟨rfl, rfl⟩ := hy
    exact ⟨F', .refl F', M, .int _⟩
  stop := fun F' H' m' s M k => by rw [rngS_length]; exact Nat.le_refl _
end
def sRng1 (a : SA) : SI := fun SX δ m R => a SX δ m fun xs m1 => match xs with
  | [.int j] => (-(2 ^ 62) ≤ j ∧ j < 2 ^ 62) ∧ R (rngS 0 j.toNat) (fun _ => True) m1
  | _ => False
def sRng2 (a : SA) : SI := fun SX δ m R => a SX δ m fun xs m1 => match xs with
  | [.int i, .int j] => (-(2 ^ 62) ≤ i ∧ i < 2 ^ 62 ∧ -(2 ^ 62) ≤ j ∧ j < 2 ^ 62) ∧ R (rngS i (j - i).toNat) (fun _ => True) m1
  | _ => False
theorem one_int {xs : List SV} {P : Int → Prop} (h : match xs with | [.int j] => P j | _ => False) : ∃ j, xs = [.int j] ∧ P j := by
  split at h
  · exact ⟨_, rfl, h⟩
  · exact h.elim
theorem two_int {xs : List SV} {P : Int → Int → Prop} (h : match xs with | [.int i, .int j] => P i j | _ => False) : ∃ i j, xs = [.int i, .int j] ∧ P i j := by
  split at h
  · exact ⟨_, _, rfl, h⟩
  · exact h.elim
section
variable {K : PySem.W.Frag} {E : XK} {X : Cx} {tg a b l e : Expr} {ta tl : TE} {sa sl : SE} {pos p : Pos} {t : TA} {s : SA}
theorem gi_seq (h : GE K E X l tl sl) (hK : X.K = K := by rfl) : GI K E X tg l (iSeq K tl) (sSeqI sl) := by
  subst hK
  exact ⟨pi_seq h.pe, fun σ F H δ m SX R R' r hh c => h.sim σ F H δ m SX _ _ r hh fun v F1 H1 sv m1 s1 M1 v1 h1 => by
    obtain ⟨xs, hi, q⟩ := h1
    cases v1 with
    | tup g1 g2 =>
      cases (show xs = _ from hi)
      exact ⟨_, rfl, .inr ⟨⟨_, sqt_sub M1.sub g1⟩, c _ _ _ F1 H1 m1 s1 M1 (it_t fun F2 H2 m2 s2 M2 _ => ⟨_, sqt_sub (s2.trans M2.sub) g1, vrs_sub s2 g2⟩) q⟩⟩
    | lst g1 g2 =>
      cases (show xs = _ from hi)
      exact ⟨_, rfl, .inl ⟨⟨_, sql_sub M1.sub g1⟩, c _ _ _ F1 H1 m1 s1 M1 (it_l fun F2 H2 m2 s2 M2 _ => ⟨_, sql_sub (s2.trans M2.sub) g1, vrs_sub s2 g2⟩) q⟩⟩
    | ref p =>
      obtain ⟨vs, e1, _⟩ := M1.lst_ (show m1 p = some (.lst xs) from hi)
      exact ⟨_, rfl, .inl ⟨⟨_, .inl (.inl e1)⟩, c _ _ _ F1 H1 m1 s1 M1 (it_l fun F2 H2 m2 s2 M2 k => by
        obtain ⟨ws, e2, r2⟩ := M2.lst_ (show m2 p = some (.lst xs) from k)
        exact ⟨ws, .inl (.inl e2), r2⟩) q⟩⟩
    | _ => exact (show False from hi).elim⟩
theorem gi_range1 (hg : Gl X "range") (hm : X.mg "range" = none) (ha : GA K E X [a] t s) (hs : starEach [a] X.env = [(false, eval a X.env)] := by rfl) : GI K E X tg (.Call (.Name "range" p) [a] [] pos) (iRng1 t) (sRng1 s) := ⟨pi_range1 hg hm ha.pe hs, fun σ F H δ m SX R R' r hh c => ha.sim σ F H δ m SX _ _ r hh fun v F1 H1 sv m1 s1 M1 v1 h1 => by
  obtain ⟨j, rfl, h1⟩ := one_int h1
  obtain ⟨w, rfl, rw_⟩ := vrs_one v1
  obtain rfl := vr_int rw_
  exact ⟨_, rfl, h1.1.1, h1.1.2, c _ _ _ F1 H1 m1 s1 M1 it_r h1.2⟩⟩
theorem gi_range2 (hg : Gl X "range") (hm : X.mg "range" = none) (ha : GA K E X [a, b] t s) (hs : starEach [a, b] X.env = [(false, eval a X.env), (false, eval b X.env)] := by rfl) (hs2 : starEach [b] X.env = [(false, eval b X.env)] := by rfl) : GI K E X tg (.Call (.Name "range" p) [a, b] [] pos) (iRng2 t) (sRng2 s) := ⟨pi_range2 hg hm ha.pe hs hs2, fun σ F H δ m SX R R' r hh c => ha.sim σ F H δ m SX _ _ r hh fun v F1 H1 sv m1 s1 M1 v1 h1 => by
  obtain ⟨i, j, rfl, h1⟩ := two_int h1
  obtain ⟨w, u, rfl, rw_, ru⟩ := vrs_two v1
  obtain rfl := vr_int rw_
  obtain rfl := vr_int ru
  exact ⟨_, _, rfl, h1.1, c _ _ _ F1 H1 m1 s1 M1 it_r h1.2⟩⟩
end
/-! ### for -/
/-- I: what holds with the items that are left -/
@[irreducible] def ForGo (keep : Mem → Prop) (g : SG) (b : SS) (SX : SXK) (D : SEnds) (items : List SV) (δ : DS) (m : Mem) : Prop := ∃ I : List SV → DS → Mem → Prop, I items δ m ∧
  (∀ x r δ m, I (x :: r) δ m → keep m ∧ g SX x δ m fun δ1 m1 => b SX { D with nx := fun δ' => Fg (I r δ'), ct := fun δ' => Fg (I r δ'), bk := D.nx } δ1 m1) ∧ ∀ δ m, I [] δ m → keep m ∧ D.nx δ m
def sFor (si : SI) (g : SG) (b : SS) : SS := fun SX D δ m => si SX δ m fun items keep m1 => ForGo keep g b SX D items δ m1
theorem drop_cons {α : Type} {xs : List α} {i : Nat} {x : α} {r : List α} (h : xs.drop i = x :: r) : xs[i]? = some x ∧ xs.drop (i + 1) = r := by
  have h1 : i < xs.length := by
    by_cases q : i < xs.length
    · exact q
    · rw [List.drop_eq_nil_of_le (by omega)] at h; cases h
  rw [List.drop_eq_getElem_cons h1] at h
  injection h with h2 h3
  exact ⟨by rw [List.getElem?_eq_getElem h1, h2], h3⟩
section
variable {K : PySem.W.Frag} {E : XK} {X : Cx} {tg iter : Expr} {pos : Pos} {body : List Stmt} {t : TS} {zt : SS} {ti : TI} {si : SI} {g : TG} {sg : SG}
theorem gs_for (hp : PassesOwn (model X.prog X.w) X.A X.env X.xe) (hc : X.calm = true) (hi : GI K E X tg iter ti si) (hg : GG K E X tg g sg) (hb : GSs K E X body t zt) (hs : ∀ x, foldedSetIterable iter X.env x = pure x := by intro _; rfl) :
    GS K E X (.For tg iter body [] pos) (tFor ti g t) (sFor si sg zt) := ⟨ps_for hp hc hi.pe hg.pe hb.pe hs, fun σ F H δ m SX D Es r h q => hi.sim σ F H δ m SX _ _ r h fun J items keep F1 H1 m1 s1 M1 iok h1 => by
  unfold ForGo at h1
  obtain ⟨I, i0, step, done⟩ := h1
  refine ⟨fun i n σ' H' => ∃ F' δ' m' rest, Sub F1 F' ∧ SR K F' σ' δ' ∧ MR K F' H' m' ∧ items.drop i = rest ∧ n = rest.length ∧ i ≤ items.length ∧ I rest δ' m', ⟨_, F1, δ, m1, items, .refl F1, r.sr.sub s1, M1, rfl, rfl, Nat.zero_le _, i0⟩, ?_⟩
  rintro i n σ' H' ⟨F', δ', m', rest, s', sr', M', hd, rfl, hle, hI⟩
  cases rest with
  | nil =>
    obtain ⟨k, hn⟩ := done δ' m' hI
    have hl : items.length ≤ i := by simpa using hd
    obtain rfl : i = items.length := by omega
    exact .inl ⟨iok.stop F' H' m' s' M' k, q.nx σ' δ' F' H' m' (s1.trans s') sr' M' hn⟩
  | cons x rest =>
    obtain ⟨hx, hd2⟩ := drop_cons hd
    obtain ⟨k, hs⟩ := step x rest δ' m' hI
    obtain ⟨g1, g2⟩ := iok.go i F' H' m' x s' M' k hx
    refine .inr ⟨g1, fun σ2 H2 => ∃ F2 δ2 m2, Sub F1 F2 ∧ SR K F2 σ2 δ2 ∧ MR K F2 H2 m2 ∧ I rest δ2 m2, fun σ2 H2 ⟨F2, δ2, m2, a1, a2, a3, a4⟩ => ⟨rest.length, by simp, F2, δ2, m2, rest, a1, a2, a3, hd2, rfl, (List.getElem?_eq_some_iff.mp hx).1, a4⟩, fun v H'' hy => ?_⟩
    obtain ⟨F3, s3, M3, v3⟩ := g2 v H'' hy
    have s13 := s1.trans (s'.trans s3)
    refine hg.sim σ' F3 H'' δ' m' SX v x _ _ ⟨sr'.sub s3, M3, r.ex.go s13⟩ v3 hs fun σ4 δ4 F4 H4 m4 s4 sr4 M4 h4 => ?_
    have cn : CnS K F4 (fun δ' => Fg (I rest δ')) (fun σ2 H2 => ∃ F2 δ2 m2, Sub F1 F2 ∧ SR K F2 σ2 δ2 ∧ MR K F2 H2 m2 ∧ I rest δ2 m2) := fun σ5 δ5 F5 H5 m5 s5 sr5 M5 ⟨m6, l6, h5⟩ => ⟨F5, δ5, m6, (s'.trans s3).trans (s4.trans s5), sr5, M5.drop l6, h5⟩
    exact hb.sim σ4 F4 H4 δ4 m4 SX _ _ ⟨sr4, M4, r.ex.go (s13.trans s4)⟩ h4 ⟨cn, q.rt.go (s13.trans s4), q.nx.go (s13.trans s4), cn⟩⟩
end
/-! ### comprehensions -/
theorem wipe_set {σ : L2.St} {x : Option V} : ∀ {vs : List Nat} {v : Nat}, v ∈ vs → wipe (σ.set v x) vs = wipe σ vs
  | [], _, h => by cases h
  | w :: vs, v, h => by
    show (wipe (σ.set v x) vs).set w none = (wipe σ vs).set w none
    by_cases hv : v ∈ vs
    · rw [wipe_set hv]
    · have e : v = w := (List.mem_cons.mp h).resolve_right hv
      subst e
      have com : ∀ (us : List Nat), v ∉ us → wipe (σ.set v x) us = (wipe σ us).set v x := by
        intro us
        induction us with
        | nil => intro _; rfl
        | cons a us ih =>
          intro hn
          show (wipe (σ.set v x) us).set a none = ((wipe σ us).set a none).set v x
          rw [ih (fun z => hn (List.mem_cons_of_mem _ z)), List.set_comm]
          exact fun z => hn (by rw [z]; exact List.mem_cons_self)
      rw [com vs hv, List.set_set]
theorem wipe_wipe {σ2 σ : L2.St} {vs : List Nat} (h : wipe σ2 vs = wipe (wipe σ vs) vs) : wipe σ2 vs = wipe σ vs := by
  have key : ∀ us : List Nat, wipe (wipe σ us) us = wipe σ us := by
    intro us
    have step : ∀ (us ws : List Nat) (τ : L2.St), (∀ u ∈ us, u ∈ ws) → wipe (wipe τ us) ws = wipe τ ws := by
      intro us
      induction us with
      | nil => intro ws τ _; rfl
      | cons a us ih =>
        intro ws τ hs
        show wipe ((wipe τ us).set a none) ws = wipe τ ws
        rw [wipe_set (hs a List.mem_cons_self)]
        exact ih ws τ fun u hu => hs u (List.mem_cons_of_mem _ hu)
    exact step us us σ fun _ z => z
  rw [h, key]

/-- the target only writes to vs -/
def WpG (g : TG) (vs : List Nat) : Prop := ∀ v σ H (Q Q' : L2.St → Hp → Prop), g v σ H Q → (∀ σ' H', Q σ' H' → wipe σ' vs = wipe σ vs → Q' σ' H') → g v σ H Q'
def WpGs (g : TGs) (vs : List Nat) : Prop := ∀ v σ H (Q Q' : L2.St → Hp → Prop), g v σ H Q → (∀ σ' H', Q σ' H' → wipe σ' vs = wipe σ vs → Q' σ' H') → g v σ H Q'
theorem wp_name {i : Nat} {vs : List Nat} (h : i ∈ vs) : WpG (gName i) vs := fun v σ H Q Q' q k => k _ _ q (wipe_set h)
theorem wps_nil {vs : List Nat} : WpGs gNil vs := fun v σ H Q Q' q k => ⟨q.1, k _ _ q.2 rfl⟩
theorem wps_cons {g : TG} {gs : TGs} {vs : List Nat} (h1 : WpG g vs) (h2 : WpGs gs vs) : WpGs (gCons g gs) vs := fun v σ H Q Q' q k => by
  obtain ⟨x, r, e, q⟩ := q
  exact ⟨x, r, e, h1 x σ H _ _ q fun σ1 H1 q1 w1 => h2 r σ1 H1 Q Q' q1 fun σ2 H2 q2 w2 => k σ2 H2 q2 (w2.trans w1)⟩
theorem wp_tup {K : PySem.W.Frag} {n : Nat} {gs : TGs} {vs : List Nat} (h : WpGs gs vs) : WpG (gTup K n gs) vs := fun v σ H Q Q' q k => by
  obtain ⟨a, xs, e, h1, h2, q⟩ := q
  exact ⟨a, xs, e, h1, h2, h xs σ H Q Q' q k⟩
def sYes : STt := fun _ _ m S => S true m
structure GTs (K : PySem.W.Frag) (E : XK) (X : Cx) (e : List Expr) (te : TT) (se : STt) : Prop where
  pe : PTs X e te
  sim : SimT K E te se
/-- D: the new list's place; I: the items that are left, what is made so far -/
@[irreducible] def LcGo (p : Addr) (keep : Mem → Prop) (g : SG) (tt : STt) (te : SE) (vs : List Nat) (SX : SXK) (δ : DS) (items : List SV) (m : Mem) (S : SV → Mem → Prop) : Prop := ∃ I : List SV → List SV → Mem → Prop, I items [] (up m p (.lst [])) ∧
  (∀ x r acc m, I (x :: r) acc m → keep m ∧ g SX x (wipeD δ vs) m fun δ1 m1 => tt SX δ1 m1 fun b m2 => Br b (te SX δ1 m2 fun y m3 => m3 p = some (.lst acc) ∧ Fg (I r (acc ++ [y])) (up m3 p (.lst (acc ++ [y])))) (Fg (I r acc) m2)) ∧
  ∀ acc m, I [] acc m → keep m ∧ S (.ref p) m
def sLc (si : SI) (g : SG) (tt : STt) (te : SE) (vs : List Nat) : SE := fun SX δ m S => si SX δ m fun items keep m1 => items.length ≤ sizeLine ∧ ∀ p, m1 p = none → LcGo p keep g tt te vs SX δ items m1 S
section
variable {K : PySem.W.Frag} {E : XK} {X : Cx} {pos spos py : Pos} {ti : TI} {si : SI} {g : TG} {sg : SG} {elt tg iter c : Expr} {ifs : List Expr} {scope : Scope} {own : List (Str × Nat)} {tt : TT} {st : STt} {te : TE} {se : SE}
theorem gts_nil : GTs K E X [] tYes sYes := ⟨pts_nil, fun σ F H δ m SX S Q r h q => q true F H m (.refl F) r.mr h⟩
theorem gts_one (h : GT K E X c tt st) : GTs K E X [c] tt st := ⟨pts_one h.pe, h.sim⟩
theorem sim_lc {vs : List Nat} (hi : SimI K E ti si) (hg : SimG K E g sg) (hw : WpG g vs) (ht : SimT K E tt st) (he : SimE K E te se) : SimE K E (tLc ti g tt te vs) (sLc si sg st se vs) := fun σ F H δ m SX S Q r h q => hi σ F H δ m SX _ _ r h fun J items keep F1 H1 m1 s1 M1 iok h1 => by
  obtain ⟨hlen, h1⟩ := h1
  intro D hD
  have h1 := h1 D (M1.gone hD)
  unfold LcGo at h1
  obtain ⟨I, i0, step, done⟩ := h1
  refine ⟨fun i n H' => ∃ F' m' rest acc, Sub F1 F' ∧ MR K F' H' m' ∧ items.drop i = rest ∧ n = rest.length ∧ i ≤ items.length ∧ acc.length ≤ i ∧ I rest acc m', ⟨_, F1, _, items, [], .refl F1, M1.newL hD .nil, rfl, rfl, Nat.zero_le _, Nat.zero_le _, i0⟩, ?_⟩
  rintro i n H' ⟨F', m', rest, acc, s', M', hd, rfl, hle, hacc, hI⟩
  cases rest with
  | nil =>
    obtain ⟨k, hn⟩ := done acc m' hI
    have hl : items.length ≤ i := by simpa using hd
    obtain rfl : i = items.length := by omega
    exact .inl ⟨iok.stop F' H' m' s' M' k, q (.ref D) F' H' _ m' (s1.trans s') M' (.ref D) hn⟩
  | cons x rest =>
    obtain ⟨hx, hd2⟩ := drop_cons hd
    have hi1 := (List.getElem?_eq_some_iff.mp hx).1
    obtain ⟨k, hs⟩ := step x rest acc m' hI
    obtain ⟨g1, g2⟩ := iok.go i F' H' m' x s' M' k hx
    refine .inr ⟨g1, fun H2 => ∃ F2 m2 acc2, Sub F1 F2 ∧ MR K F2 H2 m2 ∧ acc2.length ≤ i + 1 ∧ I rest acc2 m2, fun H2 ⟨F2, m2, acc2, a1, a2, a3, a4⟩ => ⟨rest.length, by simp, F2, m2, rest, acc2, a1, a2, hd2, rfl, hi1, a3, a4⟩, fun v H'' hy => ?_⟩
    obtain ⟨F3, s3, M3, v3⟩ := g2 v H'' hy
    have s13 := s1.trans (s'.trans s3)
    refine hw v _ H'' _ _ (hg (wipe σ vs) F3 H'' (wipeD δ vs) m' SX v x _ (fun σ2 H2 => tt σ2 H2 fun b H3 =>
      if b = true then te σ2 H3 fun y H4 => ∃ acc, H4 D = some (.lst acc) ∧ acc.length < sizeLine ∧ ∃ F2 m2 acc2, Sub F1 F2 ∧ MR K F2 (upd H4 D (.lst (acc ++ [y]))) m2 ∧ acc2.length ≤ i + 1 ∧ I rest acc2 m2 else ∃ F2 m2 acc2, Sub F1 F2 ∧ MR K F2 H3 m2 ∧ acc2.length ≤ i + 1 ∧ I rest acc2 m2) ⟨(r.sr.sub s13).wipe vs, M3, r.ex.go s13⟩ v3 hs fun σ4 δ4 F4 H4 m4 s4 sr4 M4 h4 => ?_) (fun σ2 H2 q2 w2 => ⟨wipe_wipe w2, q2⟩)
    refine ht σ4 F4 H4 δ4 m4 SX _ _ ⟨sr4, M4, r.ex.go (s13.trans s4)⟩ h4 fun b F5 H5 m5 s5 M5 h5 => ?_
    rw [Br_eq] at h5
    have s15 := (s13.trans s4).trans s5
    have t15 := ((s'.trans s3).trans s4).trans s5
    split
    · next e =>
      rw [if_pos e] at h5
      refine he σ4 F5 H5 δ4 m5 SX _ _ ⟨sr4.sub s5, M5, r.ex.go s15⟩ h5 fun y F6 H6 sy m6 s6 M6 v6 h6 => ?_
      obtain ⟨e1, m7, l7, h6⟩ := h6
      obtain ⟨vs', e2, r2⟩ := M6.lst_ e1
      exact ⟨vs', e2, by rw [vrs_length r2]; omega, F6, _, _, t15.trans s6, (M6.setL e1 (vrs_append r2 (.cons v6 .nil))).drop l7, by rw [List.length_append]; simp; omega, h6⟩
    · next e =>
      rw [if_neg e] at h5
      obtain ⟨m7, l7, h5⟩ := h5
      exact ⟨F5, m7, acc, t15, M5.drop l7, by omega, h5⟩
theorem ge_lc (hc : X.calm = true) (hN : X.N.Nodup) (hi : GI K E X tg iter ti si) (ok : BlkOk X.N X.env.scope scope own)
    (hg : ∀ (s : Shared) (H : Hp) (C : Addr) (cl : List (Str × Addr)) (fp : List Addr), GG K E (X.blk s H scope (compEnvC scope cl C X.env) fp) tg g sg) (hw : WpG g (own.map (·.2))) (ht : ∀ (s : Shared) (H : Hp) (C : Addr) (cl : List (Str × Addr)) (fp : List Addr), GTs K E (X.blk s H scope (compEnvC scope cl C X.env) fp) ifs tt st)
    (he : ∀ (s : Shared) (H : Hp) (C : Addr) (cl : List (Str × Addr)) (fp : List Addr), GE K E (X.blk s H scope (compEnvC scope cl C X.env) fp) elt te se) (hs : ∀ x, foldedSetIterable iter X.env x = pure x := by intro _; rfl) :
    GE K E X (.ListComp elt [⟨tg, iter, ifs, 0⟩] scope pos) (tLc ti g tt te (own.map (·.2))) (sLc si sg st se (own.map (·.2))) :=
  ⟨pe_lc hc hN hi.pe ok (fun s H C cl fp => (hg s H C cl fp).pe) (fun s H C cl fp => (ht s H C cl fp).pe) (fun s H C cl fp => (he s H C cl fp).pe) hs,
    sim_lc hi.sim (hg X.s_0 X.H_0 0 [] []).sim hw (ht X.s_0 X.H_0 0 [] []).sim (he X.s_0 X.H_0 0 [] []).sim⟩
theorem gs_setLc {i : Nat} {y : Str} (hc : X.calm = true) (hN : X.N.Nodup) (hy : X.N[i]? = some y) (hyl : X.env.scope.names.lookup y = some .local)
    (hsw : swapsWith (.ListComp elt [⟨tg, iter, ifs, 0⟩] scope pos) (some (.Name y py)) spos.line X.env = pure true) (hi : GI K E X tg iter ti si) (ok : BlkOk X.N X.env.scope scope own)
    (hg : ∀ (s : Shared) (H : Hp) (C : Addr) (cl : List (Str × Addr)) (fp : List Addr), GG K E (X.blk s H scope (compEnvC scope cl C X.env) fp) tg g sg) (hw : WpG g (own.map (·.2))) (ht : ∀ (s : Shared) (H : Hp) (C : Addr) (cl : List (Str × Addr)) (fp : List Addr), GTs K E (X.blk s H scope (compEnvC scope cl C X.env) fp) ifs tt st)
    (he : ∀ (s : Shared) (H : Hp) (C : Addr) (cl : List (Str × Addr)) (fp : List Addr), GE K E (X.blk s H scope (compEnvC scope cl C X.env) fp) elt te se) (hs : ∀ x, foldedSetIterable iter X.env x = pure x := by intro _; rfl) :
    GS K E X (.Assign [.Name y py] (.ListComp elt [⟨tg, iter, ifs, 0⟩] scope pos) spos) (tAsg (tLc ti g tt te (own.map (·.2))) (gName i)) (sAsg (sLc si sg st se (own.map (·.2))) (hName i)) :=
  ⟨ps_setLc hc hN hy hyl hsw hi.pe ok (fun s H C cl fp => (hg s H C cl fp).pe) (fun s H C cl fp => (ht s H C cl fp).pe) (fun s H C cl fp => (he s H C cl fp).pe) hs,
    sim_asg (sim_lc hi.sim (hg X.s_0 X.H_0 0 [] []).sim hw (ht X.s_0 X.H_0 0 [] []).sim (he X.s_0 X.H_0 0 [] []).sim) fun σ F H δ m SX v sv S Q r rv h c => c _ _ F H m (.refl F) (r.sr.set rv) r.mr h⟩
end
/-! ### defs -/
abbrev SpS := List SV → Mem → SXK → (SV → Mem → Prop) → Prop
def lift (K : PySem.W.Frag) (sp : SpS) : Sp := fun vs H Q E => ∃ F svs m SX S, MR K F H m ∧ VRs K F vs svs ∧ sp svs m SX S ∧ ExOk K F E SX ∧ Cn K F S Q
def sCall (sp : SpS) (dvs : List SV) (a : SA) : SE := fun SX δ m S => a SX δ m fun vs m1 => sp (vs ++ dvs) m1 SX S
abbrev FnP (K : PySem.W.Frag) (x : Str) (st : Stmt) (f : Addr) (fd : FuncData) : Prop := FunD K x x (defArgs st) (defBody st) (defScope st) [] [] f fd
section
variable {K : PySem.W.Frag} {E : XK} {X : Cx} {CX : CXT} {k : Nat} {f C : Addr} {fd : FuncData} {ps : List Str} {sp : SpS} {dvs : List V} {svs : List SV} {ds : List Value} {x : Str} {p pos : Pos} {e : Expr} {es : List Expr} {t : TA} {s : SA}
theorem sim_call (hd : ∀ F, VRs K F dvs svs) (ha : SimA K E t s) : SimE K E (tCall (lift K sp) dvs E t) (sCall sp svs s) := fun σ F H δ m SX S Q r h c =>
  ha σ F H δ m SX _ _ r h fun vs F1 H1 sv m1 s1 M1 v1 h1 => ⟨F1, sv ++ svs, m1, SX, S, M1, vrs_append v1 (hd F1), h1, r.ex.go s1, c.go s1⟩
theorem ge_call (F : FnOk X.prog X.w X.K X.mg X.base CX k f fd ps (lift K sp)) (hr : Room k X.A) (hg : Gl X x) (hm : X.mg x = some (.ref f)) (hk : PySem.W.keepIn X.K (.ref f) = true) (hb : Binds X.K fd ps ds) (hd : Vals dvs ds) (hds : ∀ F, VRs K F dvs svs) (hx : Passes CX X E)
    (ha : GA K E X (e :: es) t s) (hdb : (x == ("__debug__" : Str)) = false := by decide) (he : starEach (e :: es) X.env = (false, eval e X.env) :: starEach es X.env := by rfl) (hpl : (backTo pos (starEach es X.env)).any (·.1) = false := by rfl) :
    GE K E X (.Call (.Name x p) (e :: es) [] pos) (tCall (lift K sp) dvs E t) (sCall sp svs s) := ⟨pe_call F hr hg hm hk hb hd hx ha.pe hdb he hpl, sim_call hds ha.sim⟩
end
section
variable {P : Program} {w : World} {K : PySem.W.Frag} {mg : Str → Option Value} {base : Heap}
theorem fn_sy {x : Str} {st : Stmt} {f : Addr} {fd : FuncData} {N ps : List Str} {k : Nat} {sp : SpS} {dvs : List V} {kws : List (Str × V)} (Fn : FunD K x x (defArgs st) (defBody st) (defScope st) dvs kws f fd) (S : FnScope N ps (defScope st)) (hl : ∀ svs m SX Sv, sp svs m SX Sv → svs.length = ps.length)
    (hev : ∀ (cdv : Value) (A : Around) (outer : List Env) (s : Shared) (H : Hp) (E : XK), Room k (A.deeper (envOfC x (defScope st) s.heap.objs.size f cdv)) → ∃ ts ss, GSs K E (cxOf CX0 P w K mg base N x (defScope st) f cdv A outer s H E).nox (defBody st) ts ss ∧
      ∀ svs m SX Sv, sp svs m SX Sv → ss (fun x => Fg (SX x)) { nx := fun _ m' => Fg (Sv .non) m', rt := fun v => Fg (Sv v) } (startD N.length svs) m) : FnOk P w K mg base CX0 (k + 1) f fd ps (lift K sp) := by
  refine FunD.ok Fn S (fun vs H Q E h => by
    obtain ⟨F, svs, m, SX, Sv, _, h2, h3, _⟩ := h
    rw [vrs_length h2]; exact hl _ _ _ _ h3) (fun cdv A outer s H vs Q E hr h => ?_)
  obtain ⟨F, svs, m, SX, Sv, M, r, hsp, hx, c⟩ := h
  obtain ⟨ts, ss, hder, hev⟩ := hev cdv A outer s H E hr
  refine ⟨ts, PSs.nox hder.pe, ?_⟩
  exact hder.sim _ F H _ m (fun x => Fg (SX x)) { nx := fun _ m' => Fg (Sv .non) m', rt := fun v => Fg (Sv v) } _ ⟨SR.start r, M, hx.fg⟩ (hev svs m SX Sv hsp) ⟨fun σ' δ' F' H' m' s' _ M' ⟨m2, l2, q⟩ => c .non F' H' .non m2 s' (M'.drop l2) .non q, fun v F' H' sv m' s' M' rv ⟨m2, l2, q⟩ => c v F' H' sv m2 s' (M'.drop l2) rv q, fun _ _ _ _ _ _ _ _ q => q.elim, fun _ _ _ _ _ _ _ _ q => q.elim⟩
theorem fn_syX {x : Str} {st : Stmt} {f : Addr} {fd : FuncData} {N ps : List Str} {k : Nat} {sp : SpS} {dvs : List V} {kws : List (Str × V)} (Fn : FunD K x x (defArgs st) (defBody st) (defScope st) dvs kws f fd) (S : FnScope N ps (defScope st)) (hl : ∀ svs m SX Sv, sp svs m SX Sv → svs.length = ps.length)
    (hev : ∀ (cdv : Value) (A : Around) (outer : List Env) (s : Shared) (H : Hp) (E : XK), Room k (A.deeper (envOfC x (defScope st) s.heap.objs.size f cdv)) → ∃ ts ss, GSs K E (cxOf (L2.CX P w) P w K mg base N x (defScope st) f cdv A outer s H E) (defBody st) ts ss ∧
      ∀ svs m SX Sv, sp svs m SX Sv → ss (fun x => Fg (SX x)) { nx := fun _ m' => Fg (Sv .non) m', rt := fun v => Fg (Sv v) } (startD N.length svs) m) : FnOk P w K mg base (L2.CX P w) (k + 1) f fd ps (lift K sp) := by
  refine FunD.ok Fn S (fun vs H Q E h => by
    obtain ⟨F, svs, m, SX, Sv, _, h2, h3, _⟩ := h
    rw [vrs_length h2]; exact hl _ _ _ _ h3) (fun cdv A outer s H vs Q E hr h => ?_)
  obtain ⟨F, svs, m, SX, Sv, M, r, hsp, hx, c⟩ := h
  obtain ⟨ts, ss, hder, hev⟩ := hev cdv A outer s H E hr
  refine ⟨ts, hder.pe, ?_⟩
  exact hder.sim _ F H _ m (fun x => Fg (SX x)) { nx := fun _ m' => Fg (Sv .non) m', rt := fun v => Fg (Sv v) } _ ⟨SR.start r, M, hx.fg⟩ (hev svs m SX Sv hsp) ⟨fun σ' δ' F' H' m' s' _ M' ⟨m2, l2, q⟩ => c .non F' H' .non m2 s' (M'.drop l2) .non q, fun v F' H' sv m' s' M' rv ⟨m2, l2, q⟩ => c v F' H' sv m2 s' (M'.drop l2) rv q, fun _ _ _ _ _ _ _ _ q => q.elim, fun _ _ _ _ _ _ _ _ q => q.elim⟩
theorem passE {N : List Str} {x : Str} {sc : Scope} {f : Addr} {cdv : Value} {A : Around} {outer : List Env} {s : Shared} {H : Hp} {E : XK} : Passes (L2.CX P w) (cxOf (L2.CX P w) P w K mg base N x sc f cdv A outer s H E) E :=
  passes_call (X := cxOf (L2.CX P w) P w K mg base N x sc f cdv A outer s H E) (takes_of rfl rfl rfl rfl) fun _ _ _ _ h => h
end
/-- raise of an own class without an __init__ -/
def sRaise (C : Addr) : SS := fun SX _ _ m => SX ⟨C, none⟩ m
theorem sim_raise {K : PySem.W.Frag} {E : XK} {C : Addr} : SimS K E (fun _ _ H => E (.ref C) none H) (sRaise C) := fun σ F H δ m SX D Es r h q => r.ex ⟨C, none⟩ none F H m (.refl F) r.mr rfl h
end Sy

set_option Elab.async false
set_option linter.all false
set_option maxRecDepth 100000
set_option maxHeartbeats 4000000
namespace Sy
open PySem PySem.Spec PyProof.Rows L2
section
variable {K : PySem.W.Frag} {E : XK} {X : Cx}
theorem gv (i : Nat) {x : Str} {pos : Pos} (hN : X.N[i]? = some x := by rfl) (hv : Vis X.env.scope x := by first | exact Or.inl rfl | exact Or.inr (Or.inl rfl) | exact Or.inr (Or.inr rfl)) (hd : (x == ("__debug__" : Str)) = false := by decide)
    (hcd : (x == ("__classdict__" : Str)) = false := by decide) : GE K E X (.Name x pos) (tVar i) (sVar i) := ge_var hN hv hd hcd
theorem gs_raise {C : Addr} {st : Stmt} (h : PS X st (fun _ _ H => E (.ref C) none H)) : GS K E X st (fun _ _ H => E (.ref C) none H) (sRaise C) := ⟨h, sim_raise⟩
end
theorem mt_indexG {X : Cx} (K : PySem.W.Frag) (hK : X.K = K := by rfl) : MtR X "list.index" (rIndex K) := by subst hK; exact mt_index
def sPopAt : SRM := fun x vs m S => match x, vs with
  | .ref a, [.int i] => ∃ xs k y, m a = some (.lst xs) ∧ -(2 ^ 63) ≤ i ∧ i < 2 ^ 63 ∧ seqIndex? i xs.length = some k ∧ xs[k]? = some y ∧ S y (up m a (.lst (xs.eraseIdx k)))
  | _, _ => False
theorem sim_popAt {K : PySem.W.Frag} : SimM K rPopAt sPopAt := fun F H m x xs a as S Q M r rs h c => by
  cases r with
  | ref p =>
    unfold sPopAt at h
    split at h
    · have e := SV.ref.inj (by assumption : SV.ref p = SV.ref _)
      subst e
      obtain ⟨ys, k, y, e1, h1, h2, h3, h4, q⟩ := h
      obtain ⟨v, rfl, rv⟩ := vrs_one rs
      obtain rfl := vr_int rv
      obtain ⟨vs, e2, r2⟩ := M.lst_ e1
      obtain ⟨w, hw, rw_⟩ := vrs_get r2 h4
      exact ⟨p, vs, _, k, w, rfl, rfl, e2, h1, h2, by rw [vrs_length r2]; exact h3, hw, c _ F _ _ _ (.refl F) (M.setL e1 (vrs_erase k r2)) rw_ q⟩
    · exact h.elim
  | _ => exact (show False from by unfold sPopAt at h; exact h).elim
/-- a cut behind a statement: J is what is known there -/
@[irreducible] def CutGo (z : SS) (SX : SXK) (D : SEnds) (δ : DS) (m : Mem) : Prop := ∃ J : DS → Mem → Prop, z SX { D with nx := fun δ' => Fg (J δ') } δ m ∧ ∀ δ' m', J δ' m' → D.nx δ' m'
def sCut (z : SS) : SS := fun SX D δ m => CutGo z SX D δ m
theorem cut_by {z : SS} {SX : SXK} {D : SEnds} {δ : DS} {m : Mem} (J : DS → Mem → Prop) (h1 : z SX { D with nx := fun δ' => Fg (J δ') } δ m) (h2 : ∀ δ' m', J δ' m' → D.nx δ' m') : CutGo z SX D δ m := by
  unfold CutGo
  exact ⟨J, h1, h2⟩
theorem gs_cut {K : PySem.W.Frag} {E : XK} {X : Cx} {st : Stmt} {t : TS} {z : SS} (h : GS K E X st t z) : GS K E X st t (sCut z) := ⟨h.pe, fun σ F H δ m SX D Es r hh q => by
  have hh : CutGo z SX D δ m := hh
  unfold CutGo at hh
  obtain ⟨J, h1, h2⟩ := hh
  exact h.sim σ F H δ m SX _ Es r h1 ⟨fun σ1 δ1 F1 H1 m1 s1 sr1 M1 ⟨m2, l2, j⟩ => q.nx σ1 δ1 F1 H1 m2 s1 sr1 (M1.drop l2) (h2 δ1 m2 j), q.rt, q.bk, q.ct⟩⟩
/-- a value of a kind that isinstance tells -/
def Dat (m : Mem) (x : SV) : Prop := ∃ t, tyS m x t
def isInt : SV → Bool
  | .int _ => true
  | _ => false
theorem tyS_int {m : Mem} {x : SV} {t : String} (h : tyS m x t) : (isB t "int" && !isB t "bool") = isInt x := by
  cases x <;> first
    | exact (show False from h).elim
    | (cases (show t = _ from h); rfl)
    | (obtain ⟨rfl, _⟩ := (show t = "list" ∧ _ from h); rfl)
mutual
inductive DD (m : Mem) : SV → Prop
  | non : DD m .non
  | bl (b : Bool) : DD m (.bl b)
  | int (i : Int) : DD m (.int i)
  | str (x : Str) : DD m (.str x)
  | tup {xs : List SV} : DDs m xs → DD m (.tup xs)
  | lst {xs : List SV} : DD m (.lst xs)
  | ref {a : Addr} {xs : List SV} : m a = some (.lst xs) → DD m (.ref a)
inductive DDs (m : Mem) : List SV → Prop
  | nil : DDs m []
  | cons {x : SV} {xs : List SV} : DD m x → DDs m xs → DDs m (x :: xs)
end
theorem DD.dat {m : Mem} {x : SV} (h : DD m x) : Dat m x := by
  cases h with
  | non => exact ⟨_, rfl⟩
  | bl => exact ⟨_, rfl⟩
  | int => exact ⟨_, rfl⟩
  | str => exact ⟨_, rfl⟩
  | tup => exact ⟨_, rfl⟩
  | lst => exact ⟨_, rfl⟩
  | ref e => exact ⟨_, rfl, _, e⟩
theorem DDs.mem {m : Mem} : ∀ {xs : List SV} {x : SV}, DDs m xs → x ∈ xs → DD m x
  | _, _, .cons a b, h => by
    rcases List.mem_cons.mp h with rfl | h
    · exact a
    · exact b.mem h
theorem DDs.of {m : Mem} : ∀ {xs : List SV}, (∀ x ∈ xs, DD m x) → DDs m xs
  | [], _ => .nil
  | _ :: _, h => .cons (h _ List.mem_cons_self) (.of fun x hx => h x (List.mem_cons_of_mem _ hx))
theorem Br_true {A B : Prop} : Br true A B = A := by rw [Br_eq]; simp
theorem Br_false {A B : Prop} : Br false A B = B := by rw [Br_eq]; simp
section
variable {keep : Mem → Prop} {g : SG} {b : SS} {SX : SXK} {D : SEnds} {items : List SV} {δ : DS} {m : Mem} {p : Addr} {tt : STt} {te : SE} {vs : List Nat} {S : SV → Mem → Prop} {c : STt}
theorem for_inv (I : List SV → DS → Mem → Prop) (h0 : I items δ m) (step : ∀ x r δ m, I (x :: r) δ m → keep m ∧ g SX x δ m fun δ1 m1 => b SX { D with nx := fun δ' => Fg (I r δ'), ct := fun δ' => Fg (I r δ'), bk := D.nx } δ1 m1) (done : ∀ δ m, I [] δ m → keep m ∧ D.nx δ m) : ForGo keep g b SX D items δ m := by
  unfold ForGo
  exact ⟨I, h0, step, done⟩
/-- a loop turn by turn -/
def forRun (keep : Mem → Prop) (g : SG) (b : SS) (SX : SXK) (D : SEnds) : List SV → DS → Mem → Prop
  | [], δ, m => keep m ∧ D.nx δ m
  | x :: r, δ, m => keep m ∧ g SX x δ m fun δ1 m1 => b SX { D with nx := fun δ' => Fg (forRun keep g b SX D r δ'), ct := fun δ' => Fg (forRun keep g b SX D r δ'), bk := D.nx } δ1 m1
theorem for_run (h : forRun keep g b SX D items δ m) : ForGo keep g b SX D items δ m :=
  for_inv (forRun keep g b SX D) h (fun x r δ m h => h) fun δ m h => h
theorem while_inv (W : Nat → DS → Mem → Prop) (n : Nat) (h0 : W n δ m) (step : ∀ n δ m, W n δ m → c SX δ m fun t m1 => Br t (b SX { D with nx := fun δ' m' => ∃ n', n' < n ∧ Fg (W n' δ') m', ct := fun δ' m' => ∃ n', n' < n ∧ Fg (W n' δ') m', bk := D.nx } δ m1) (D.nx δ m1)) : WhileGo c b SX D δ m := by
  unfold WhileGo
  exact ⟨W, ⟨n, h0⟩, step⟩
theorem lc_inv (I : List SV → List SV → Mem → Prop) (h0 : I items [] (up m p (.lst []))) (step : ∀ x r acc m, I (x :: r) acc m → keep m ∧ g SX x (wipeD δ vs) m fun δ1 m1 => tt SX δ1 m1 fun b m2 => Br b (te SX δ1 m2 fun y m3 => m3 p = some (.lst acc) ∧ Fg (I r (acc ++ [y])) (up m3 p (.lst (acc ++ [y])))) (Fg (I r acc) m2))
    (done : ∀ acc m, I [] acc m → keep m ∧ S (.ref p) m) : LcGo p keep g tt te vs SX δ items m S := by
  unfold LcGo
  exact ⟨I, h0, step, done⟩
/-- the memory stays (but for what is made and forgotten), the items by a test and a function -/
theorem lc_filt (pr : SV → Bool) (f : SV → SV) (hk : ∀ acc, keep (up m p (.lst acc)))
    (step : ∀ x ∈ items, ∀ acc (K1 : SV → Mem → Prop) (K0 : Mem → Prop), (∀ m', Le (up m p (.lst acc)) m' → pr x = true → K1 (f x) m') → (∀ m', Le (up m p (.lst acc)) m' → pr x = false → K0 m') → g SX x (wipeD δ vs) (up m p (.lst acc)) fun δ1 m1 => tt SX δ1 m1 fun b m2 => Br b (te SX δ1 m2 K1) (K0 m2))
    (done : S (.ref p) (up m p (.lst ((items.filter pr).map f)))) : LcGo p keep g tt te vs SX δ items m S := by
  refine lc_inv (fun r acc m' => m' = up m p (.lst acc) ∧ ∃ pre, pre ++ r = items ∧ acc = (pre.filter pr).map f) ⟨rfl, [], rfl, rfl⟩ (fun x r acc m' h => ?_) (fun acc m' h => ?_)
  · obtain ⟨rfl, pre, e, ha⟩ := h
    refine ⟨hk _, step x (by rw [← e]; simp) acc _ _ (fun m' l q => ⟨l _ _ up_same, _, (by rw [← up_up (m := m)]; exact Le.put l), rfl, pre ++ [x], by rw [← e]; simp, by rw [ha, List.filter_append, List.map_append]; simp [q]⟩) (fun m' l q => ⟨_, l, rfl, pre ++ [x], by rw [← e]; simp, by rw [ha, List.filter_append, List.map_append]; simp [q]⟩)⟩
  · obtain ⟨rfl, pre, e, ha⟩ := h
    rw [List.append_nil] at e
    subst e
    exact ⟨hk _, by rw [ha]; exact done⟩
theorem filter_yes {α : Type} (xs : List α) : xs.filter (fun _ => true) = xs := by simp
theorem lc_map (f : SV → SV) (hk : ∀ acc, keep (up m p (.lst acc)))
    (step : ∀ x ∈ items, ∀ acc (K1 : SV → Mem → Prop), (∀ m', Le (up m p (.lst acc)) m' → K1 (f x) m') → g SX x (wipeD δ vs) (up m p (.lst acc)) fun δ1 m1 => te SX δ1 m1 K1)
    (done : S (.ref p) (up m p (.lst (items.map f)))) : LcGo p keep g sYes te vs SX δ items m S := by
  refine lc_filt (fun _ => true) f hk (fun x hx acc K1 K0 h1 _ => ?_) (by rw [filter_yes]; exact done)
  have e : (fun δ1 m1 => sYes SX δ1 m1 fun b m2 => Br b (te SX δ1 m2 K1) (K0 m2)) = fun δ1 m1 => te SX δ1 m1 K1 := by
    funext δ1 m1
    exact Br_true
  rw [e]
  exact step x hx acc K1 fun m' l => h1 m' l rfl
theorem DDs.le {a m : Mem} (l : Le a m) : ∀ {xs : List SV}, DDs a xs → DDs m xs := by
  intro xs
  exact fun h => DDs.rec (motive_1 := fun x _ => DD m x) (motive_2 := fun xs _ => DDs m xs) .non .bl .int .str (fun _ ih => .tup ih) .lst (fun e => .ref (l _ _ e)) .nil (fun _ _ a b => .cons a b) h
theorem DD.le {a m : Mem} (l : Le a m) {x : SV} (h : DD a x) : DD m x := by
  cases h with
  | non => exact .non
  | bl b => exact .bl b
  | int i => exact .int i
  | str z => exact .str z
  | tup h => exact .tup (h.le l)
  | lst => exact .lst
  | ref e => exact .ref (l _ _ e)
end
end Sy

set_option Elab.async false
set_option linter.all false
set_option maxRecDepth 100000
set_option maxHeartbeats 4000000
/-! Lambdas kept in lists, called two defs further down; the error that such a call lets out. -/
namespace Sy
open PySem PySem.Spec PyProof.Rows L2 LamX NdefX Lm
/-- lambda: made -/
def sLam (P : Addr) (nm : Nat → Nat → Str) (mk : Addr → NF) (e : Expr) (d : Option Int) : SE := fun _ _ m S => m P = some (.tab nm) ∧ ∀ f, m f = none → S (.ref f) (up m f (.lam mk e d))
section
variable {K : PySem.W.Frag} {E : XK} {X : Cx}
theorem sim_lam0 {P : Addr} {nm : Nat → Nat → Str} {mk : Addr → NF} {e : Expr} (hc : ∀ c, (mk c).c = c) : SimE K E (tLam0 P nm mk e) (sLam P nm mk e none) := fun σ F H δ m SX S Q r h c => by
  obtain ⟨hP, h⟩ := h
  have M := r.mr
  refine ⟨(M.at_ P _ hP).2, fun f c' H1 k0 k1 T1 f0 f1 c1 nw => ?_⟩
  have M1 := M.table hP k0 T1
  have n1 : MOR K F H1 (up m f (.lam mk e none)) f (.lam mk e none) := ⟨c', _, f1, by rw [hc c']; exact c1, hc c', rfl⟩
  exact c (.ref f) F H1 (.ref f) _ (.refl F) (M1.adopt (M.gone f0) (M.sub.gone f0) (fun x z => by rw [f1] at z; cases z) n1) (.ref f) (h f (M.gone f0))
theorem sim_lam1 {P : Addr} {nm : Nat → Nat → Str} {mk : Addr → NF} {e : Expr} {i : Int} (hc : ∀ c, (mk c).c = c) : SimE K E (tLam1 P nm mk e i) (sLam P nm mk e (some i)) := fun σ F H δ m SX S Q r h c => by
  obtain ⟨hP, h⟩ := h
  have M := r.mr
  refine ⟨(M.at_ P _ hP).2, fun f c' T H1 k0 k1 T1 f0 T0 T2 f1 c1 nw => ?_⟩
  have M1 := M.table hP k0 T1
  have n1 : MOR K F H1 (up m f (.lam mk e (some i))) f (.lam mk e (some i)) := ⟨c', _, f1, by rw [hc c']; exact c1, hc c', T, rfl, T2⟩
  exact c (.ref f) F H1 (.ref f) _ (.refl F) (M1.adopt (M.gone f0) (M.sub.gone f0) (fun x z => by rw [f1] at z; cases z) n1) (.ref f) (h f (M.gone f0))
theorem ge_lam0 {nm : Nat → Nat → Str} {c P : Addr} {params : Arguments} {body : Expr} {scope : Scope} {pos : Pos} (TB : TabB X.base X.mg c P) (hcode : X.env.code = .ref c) (hn : nm pos.line pos.col = X.env.qual ++ "<lambda>")
    (hfree : ∀ y ∈ scope.names, y.2 = .free → X.env.scope.names.lookup y.1 = some .cell ∨ X.env.scope.names.lookup y.1 = some .free) (hdef : defaultsOf params X.env = ([], [])) : GE K E X (.Lambda params body scope pos) (tLam0 P nm (NF.lam X params scope) body) (sLam P nm (NF.lam X params scope) body none) :=
  ⟨pe_lam0 TB hcode hn hfree hdef, sim_lam0 fun _ => rfl⟩
theorem ge_lam1 {nm : Nat → Nat → Str} {c P : Addr} {params : Arguments} {body : Expr} {scope : Scope} {pos p1 : Pos} {i : Int} {j : Nat} (TB : TabB X.base X.mg c P) (hcode : X.env.code = .ref c) (hn : nm pos.line pos.col = X.env.qual ++ "<lambda>")
    (hfree : ∀ y ∈ scope.names, y.2 = .free → X.env.scope.names.lookup y.1 = some .cell ∨ X.env.scope.names.lookup y.1 = some .free) (hd : params.defaults = [.Constant (.int i) j p1]) (hk : params.kw_defaults = []) : GE K E X (.Lambda params body scope pos) (tLam1 P nm (NF.lam X params scope) body i) (sLam P nm (NF.lam X params scope) body (some i)) :=
  ⟨pe_lam1 TB hcode hn hfree hd hk, sim_lam1 fun _ => rfl⟩
end
/-! ### cells under the ground for the time of a call -/
structure CellsB (base : Heap) (cl : List (Str × Addr)) (fr : List Str) (ws : List (Option V)) : Prop where
  len : ws.length = fr.length
  all : ∀ y c, cl.lookup y = some c → ∃ v, base.IsCell c v
  inj : ∀ x y c, cl.lookup x = some c → cl.lookup y = some c → x = y
  has : ∀ (i : Nat) (y : Str), fr[i]? = some y → ∃ c, cl.lookup y = some c ∧ ∀ v, ws[i]? = some (some v) → ∃ u, L2.RelV v u ∧ base.IsCell c (some u)
theorem CellsB.at {base : Heap} {cl : List (Str × Addr)} {fr : List Str} {ws : List (Option V)} (C : CellsB base cl fr ws) {h : Heap} {H : Hp} (bs : ∀ b o, base.get? b = some o → h.get? b = some o ∧ H b = none) : CellsAt cl fr ws h H := by
  have up : ∀ {c : Addr} {v : Option Value}, base.IsCell c v → h.IsCell c v ∧ H c = none := fun ⟨o, e, d⟩ => ⟨⟨o, (bs _ _ e).1, d⟩, (bs _ _ e).2⟩
  refine ⟨C.len, fun y c e => ?_, C.inj, fun i y e => ?_⟩
  · obtain ⟨v, z⟩ := C.all y c e
    exact ⟨(up z).2, v, (up z).1⟩
  · obtain ⟨c, hc, hv⟩ := C.has i y e
    refine ⟨c, hc, fun v hw => ?_⟩
    obtain ⟨u, r, z⟩ := hv v hw
    exact ⟨u, r, (up z).1⟩
/-- some objects of a heap, no other -/
theorem part (h : Heap) (p : Addr → Bool) : ∃ G : Heap, (∀ b o, h.get? b = some o → p b = true → G.get? b = some o) ∧ (∀ b o, G.get? b = some o → h.get? b = some o ∧ p b = true) ∧ G.objs.size = h.objs.size := by
  have hm : ∀ b, b ∈ (List.range h.objs.size).filter (fun b => !p b) ↔ b < h.objs.size ∧ p b = false := fun b => by
    rw [List.mem_filter, List.mem_range]
    simp
  refine ⟨PySem.W.hideAll h ((List.range h.objs.size).filter fun b => !p b), fun b o e hp => PySem.W.hideAll_get _ e fun z => ?_, fun b o e => ?_, PySem.W.hideAll_size _ _⟩
  · have q := ((hm b).mp z).2
    rw [hp] at q
    cases q
  · have e2 := PySem.W.of_hideAll _ e
    refine ⟨e2, ?_⟩
    cases q : p b with
    | true => rfl
    | false =>
      have n := PySem.W.hideAll_none (h := h) _ ((hm b).mpr ⟨Heap.lt_size e2, q⟩)
      rw [e] at n
      cases n
theorem frames_up {h base base' : Heap} : ∀ {l : List Env}, h.FunFrames base l → (∀ L ∈ frs l, base'.get? L = none) → h.FunFrames base' l
  | [], _, _ => trivial
  | env :: r, ⟨hk, ⟨L, o, hf, _, ho, hd⟩, hr⟩, q => by
    have hm : L ∈ frs (env :: r) := List.mem_filterMap.mpr ⟨env, List.mem_cons_self, hf⟩
    refine ⟨hk, ⟨L, o, hf, q L hm, ho, hd⟩, frames_up hr fun L2 h2 => q L2 ?_⟩
    obtain ⟨e2, m2, f2⟩ := List.mem_filterMap.mp h2
    exact List.mem_filterMap.mpr ⟨e2, List.mem_cons_of_mem _ m2, f2⟩
section
variable {X : Cx} {pins : List (Addr × Obj)} {σ : L2.St} {H : Hp} {s : Shared}
theorem base_up (I : Inv X pins σ H s) (hfn : ∀ x, X.fn x = true) (hst : X.stack = X.env :: X.outer) (hfr : X.env.frame = some X.env.locals) :
    ∃ base', Env0 X.prog X.w X.K X.mg base' X.A X.stack s H ∧ ∀ cl fr js, Caps X cl fr js → CellsB base' cl fr (js.map (slotAt σ)) := by
  obtain ⟨G, g1, g2, g3⟩ := part s.heap fun b => (X.base.get? b).isSome || X.env.cells.any fun q => decide (X.env.cells.lookup q.1 = some b)
  have up : ∀ b o, X.base.get? b = some o → G.get? b = some o := fun b o e => g1 b o (I.bk b o e) (by rw [e]; rfl)
  have cellHere : ∀ (y : Str) (c : Addr), X.env.cells.lookup y = some c → ∀ v, s.heap.IsCell c v → G.IsCell c v := fun y c e v ⟨o, ho, hd⟩ => ⟨o, g1 c o ho (by
    rw [Bool.or_eq_true]
    exact .inr (List.any_eq_true.mpr ⟨(y, c), PySem.mem_of_lookup e, decide_eq_true e⟩)), hd⟩
  have known : ∀ b o, G.get? b = some o → (∃ o', X.base.get? b = some o') ∨ ∃ y, X.env.cells.lookup y = some b := fun b o e => by
    have hp := (g2 b o e).2
    rw [Bool.or_eq_true] at hp
    rcases hp with hp | hp
    · exact .inl (Option.isSome_iff_exists.mp hp)
    · obtain ⟨q, _, hq⟩ := List.any_eq_true.mp hp
      exact .inr ⟨q.1, of_decide_eq_true hq⟩
  have M := I.mod
  obtain ⟨mb, hb1, hb2⟩ := M.blt
  refine ⟨G, ⟨I.ok.frames, ⟨M.kin.keeps up, M.glob.keeps up, ⟨mb, hb1.keeps up, hb2⟩, M.nolimit.keeps up⟩, fun b o e => ⟨(g2 b o e).1, ?_⟩, by rw [g3]; exact Nat.le_refl _, frames_up I.stack (fun L hL => ?_), I.stkFree, I.hok, I.bare⟩, fun cl fr js cp => ?_⟩
  · rcases known b o e with ⟨o', e'⟩ | ⟨y, e'⟩
    · exact (I.bs b o' e').2
    · exact I.freeC y b e'
  · cases q : G.get? L with
    | none => rfl
    | some o =>
      exfalso
      rcases known L o q with ⟨o', e'⟩ | ⟨y, e'⟩
      · have z := (I.stack.mem hL).1
        rw [e'] at z
        cases z
      · rw [hst] at hL
        obtain ⟨env, hm, hf⟩ := List.mem_filterMap.mp hL
        rcases List.mem_cons.mp hm with rfl | hm
        · rw [hfr] at hf
          cases hf
          obtain ⟨v, o1, h1, d1⟩ := I.cell y _ e'
          obtain ⟨m, ⟨o2, es, ep, h2, d2, _⟩, _⟩ := I.loc
          rw [h1] at h2
          cases h2
          rw [d1] at d2
          cases d2
        · have hL2 : L ∈ frs X.outer := List.mem_filterMap.mpr ⟨env, hm, hf⟩
          obtain ⟨_, o3, h3, _⟩ := I.ok.funs.mem hL2
          exact absurd (I.ok.cab y L (hfn y) e') (Nat.not_le.mpr (Heap.lt_size h3))
  · have C := cells_of I cp
    refine ⟨C.len, fun y c e => ?_, C.inj, fun i y e => ?_⟩
    · obtain ⟨_, v, z⟩ := C.all y c e
      exact ⟨v, cellHere y c (cp.sub y c e) v z⟩
    · obtain ⟨c, hc, hv⟩ := C.has i y e
      refine ⟨c, hc, fun v hw => ?_⟩
      obtain ⟨u, r, z⟩ := hv v hw
      exact ⟨u, r, cellHere y c (cp.sub y c hc) _ z⟩
/-- f(..), what is called may rest on the frame's cells -/
def tCallB (X : Cx) (sp : Heap → Sp) (t : TA) : TE := fun σ H Q => t σ H fun vs H1 => ∀ base', X.Ok → (∀ cl fr js, Caps X cl fr js → CellsB base' cl fr (js.map (slotAt σ))) → sp base' vs H1 Q E0
theorem pe_callBase {x : Str} {f : Addr} {fd : FuncData} {ps : List Str} {k : Nat} {sp : Heap → Sp} {e : Expr} {es : List Expr} {t : TA} {p pos : Pos} (F : ∀ base', FnOk X.prog X.w X.K X.mg base' CX0 k f fd ps (sp base')) (hr : Room k X.A) (hg : Gl X x) (hm : X.mg x = some (.ref f)) (hk : PySem.W.keepIn X.K (.ref f) = true) (hb : Binds X.K fd ps [])
    (ha : PA X (e :: es) t) (hfn : ∀ x, X.fn x = true) (hst : X.stack = X.env :: X.outer) (hfr : X.env.frame = some X.env.locals) (hdb : (x == ("__debug__" : Str)) = false := by decide) (he : starEach (e :: es) X.env = (false, eval e X.env) :: starEach es X.env := by rfl) (hpl : (backTo pos (starEach es X.env)).any (·.1) = false := by rfl) :
    PE X (.Call (.Name x p) (e :: es) [] pos) (tCallB X sp t) := by
  refine ⟨fun pins s σ H Q I h => ?_⟩
  refine wpAny_Call_Name_kw (ld_glob I hg hm ?_ hdb)
  refine PySem.W.callWith_K (h₀ := X.base) I.ok.mod.kin hk (thn (ha.run pos pins s σ H _ I h) fun us s1 ⟨vs, H1, I1, r, q⟩ => ⟨I1.kIn, ?_⟩) he hpl
  obtain ⟨G, e0, hC⟩ := base_up I1 hfn hst hfr
  have hsp := q G I1.ok hC
  have hl : us.length = ps.length := by rw [← r.length]; exact (F G).len _ _ _ _ hsp
  have hbd : BindsTo s1 fd ⟨us, []⟩ (ps.zip us) := by
    have z := hb s1 us I1.kIn (by rw [List.append_nil]; exact hl)
    rw [List.append_nil] at z
    exact z
  show wpAny _ _ (call (.ref f) us) _ _ _
  refine wpAny_call (codeAny_mono ((F G).run X.A X.stack s1 H1 ⟨us, []⟩ us vs Q E0 hr e0 hbd r hsp) fun r s' hq => ?_)
  cases r with
  | error e => exact (show False from hq).elim
  | ok fl =>
    cases fl with
    | ret u => exact I1.after hq
    | next => exact False.elim hq
    | brk => exact False.elim hq
    | cont => exact False.elim hq
end

/-- a callable at f, called without arguments: what is asked is φ -/
abbrev Phi := Mem → SXK → (SV → Mem → Prop) → Prop
def ActC (P : Program) (w : World) (K : PySem.W.Frag) (mg : Str → Option Value) (base : Heap) (k : Nat) (f : Addr) (φ : Phi) : Hp → Hp → Prop := fun F H => (∃ N e dV, H f = some (LamO f N e dV)) ∧
  ∀ (A : Around) (outer : List Env) (s : Shared) (m : Mem) (Q : VK) (E : XK) (SX : SXK) (S : SV → Mem → Prop), Room k A → Env0 P w K mg base A outer s H → MR K F H m → φ m SX S → ExOk K F E SX → Cn K F S Q →
    codeAny (model P w) A (.call (.ref f) ⟨[], []⟩) (CR (L2.CX P w) outer P w H s Q E) s
/-- the reading of work() -/
def tWork (P : Program) (w : World) (K : PySem.W.Frag) (mg : Str → Option Value) (base : Heap) (k i : Nat) (W : WX) : TE := fun σ H Q => ∃ (F : Hp) (f : Addr) (φ : Phi) (m : Mem) (SX : SXK) (S : SV → Mem → Prop), σ[i]? = some (some (.ref f)) ∧ MR K F H m ∧ m f = some (.pred (ActC P w K mg base k f φ)) ∧ φ m SX S ∧ ExOk K F (fun cls d H' => W cls d σ H') SX ∧ Cn K F S Q
section
variable {X : Cx}
theorem pe_work {k j i : Nat} {a : Str} {W : WX} {p1 p2 : Pos} (tk : Takes X W) (hr : Room j X.A) (hk : k ≤ j) (hN : X.N[i]? = some a) (hv : Vis X.env.scope a)
    (hd : (a == ("__debug__" : Str)) = false := by decide) (hcd : (a == ("__classdict__" : Str)) = false := by decide) : PE X (.Call (.Name a p1) [] [] p2) (tWork X.prog X.w X.K X.mg X.base k i W) := by
  refine ⟨fun pins s σ H Q I h => ?_⟩
  obtain ⟨F, f, φ, m, SX, S, hs, M, hm, hφ, hE, cQ⟩ := h
  refine wpAny_Call_Name_kw (thn ((pe_var (pos := p1) (i := i) hN hv hd hcd).run pins s σ H (fun v H1 => v = .ref f ∧ H1 = H) I ⟨.ref f, hs, rfl, rfl⟩) fun u s1 ⟨v, H1, I1, r1, q1⟩ => ?_)
  obtain ⟨ev, eH⟩ := q1
  subst ev
  rw [eH] at I1
  obtain rfl : u = Value.ref f := r1
  obtain ⟨fn, act⟩ := (M.at_ f _ hm).2.2 F H (.refl F) fun b u e _ => e
  have fa : PySem.W.FnAt f s1.heap := by
    obtain ⟨N, e, dV, hf⟩ := fn
    obtain ⟨od, sl, doc, pm, ctv, ho⟩ := lamO_at I1.hok hf
    exact ⟨_, od, _, sl, ho⟩
  refine PySem.W.callWith_F0 (first := []) fa ?_
  show wpAny _ _ (call (.ref f) []) _ _ _
  refine wpAny_call (codeAny_mono (act X.A X.stack s1 m Q (fun cls d H' => W cls d σ H') SX S (hr.mono hk) I1.env0 M hφ hE cQ) fun r s' hq => ?_)
  cases r with
  | error e => exact tk e s' (XE.of_call I1 (fun cls d H' z => z) hq)
  | ok fl =>
    cases fl with
    | ret u => exact I1.after hq
    | next => exact False.elim hq
    | brk => exact False.elim hq
    | cont => exact False.elim hq
end
/-! ### what a lambda does -/
def startFD (n : Nat) (vs : List SV) (ws : List (Option SV)) : DS := vs.map some ++ (ws ++ List.replicate (n - vs.length - ws.length) none)
/-- the cells' values -/
def WR (K : PySem.W.Frag) (F : Hp) (ws : List (Option V)) (ds : List (Option SV)) : Prop := ws.length = ds.length ∧ ∀ (i : Nat) d, ds[i]? = some (some d) → ∃ v, ws[i]? = some (some v) ∧ VR K F v d
theorem sr_startF {K : PySem.W.Frag} {F : Hp} {N : List Str} {vs : List V} {svs : List SV} {ws : List (Option V)} {ds : List (Option SV)} (h : VRs K F vs svs) (hw : WR K F ws ds) : SR K F (startF N vs ws) (startFD N.length svs ds) := by
  have l1 := vrs_length h
  have l2 := hw.1
  unfold startF startFD
  refine ⟨by simp [l1, l2], fun i d e => ?_⟩
  by_cases h1 : i < svs.length
  · rw [List.getElem?_append_left (by rw [List.length_map]; exact h1), List.getElem?_map] at e
    obtain ⟨d', h3, h4⟩ := Option.map_eq_some_iff.mp e
    cases h4
    obtain ⟨v, h5, h6⟩ := vrs_get h h3
    exact ⟨v, by rw [List.getElem?_append_left (by rw [List.length_map, l1]; exact h1), List.getElem?_map, h5]; rfl, h6⟩
  · rw [List.getElem?_append_right (by rw [List.length_map]; omega), List.length_map] at e
    rw [List.getElem?_append_right (by rw [List.length_map]; omega), List.length_map, l1]
    by_cases h2 : i - svs.length < ds.length
    · rw [List.getElem?_append_left h2] at e
      obtain ⟨v, h5, h6⟩ := hw.2 _ d e
      exact ⟨v, by rw [List.getElem?_append_left (by omega)]; exact h5, h6⟩
    · rw [List.getElem?_append_right (by omega), List.getElem?_replicate] at e
      split at e <;> cases e
section
variable {P : Program} {w : World} {K : PySem.W.Frag} {mg : Str → Option Value} {base : Heap} {k : Nat} {f c : Addr} {mk : Addr → NF} {e : Expr} {N ps fr : List Str} {φ : Phi} {ds : List (Option SV)} {ws : List (Option V)} {F H : Hp}
theorem act_core {dV : Value} {vs : List V} {svs : List SV} {F0 : NF} (S : NScope N ps fr F0.scope) (hlen : vs.length = ps.length) (hvs : ∀ F, VRs K F vs svs) (Z : Hp → Prop)
    (hb : ∀ (doc pm ctv : Value) (s : Shared) (H : Hp), HOk P w H s.heap → Z H → ∃ us, Vals vs us ∧ BindsTo s (lfd F0 e dV doc pm ctv) ⟨[], []⟩ (ps.zip us)) (CB : CellsB base F0.cl fr ws) (hw : WR K F ws ds)
    (hf : H f = some (LamO f F0 e dV)) (hc : H F0.c = some (CodeO F0.c F0.qual)) (hZ : Z H)
    (hbody : ∀ (A : Around) (outer : List Env) (s : Shared) (H : Hp) (E : XK), Room k (A.deeper (envF F0 f s.heap.objs.size)) → ∃ tb sb, GE K E (ncx (L2.CX P w) P w K mg base N F0 f A outer s H E) e tb sb ∧ ∀ m SX Sv, φ m SX Sv → sb (fun x => Fg (SX x)) (startFD N.length svs ds) m (fun v => Fg (Sv v))) :
    ActC P w K mg base (k + 1) f φ F H := by
  refine ⟨⟨_, _, _, hf⟩, fun A outer s m Q E SX Sv hr e0 M hφ hE cQ => ?_⟩
  refine lok_of (CX := L2.CX P w) (k := k) (vs := vs) (ws := ws) (Z := Z) (sp := fun H' Q' E' => H' = H ∧ Q' = Q ∧ E' = E) S hlen hb (fun A outer s H' Q' E' hr ⟨e1, e2, e3⟩ => ?_) A outer s H Q E hr e0 hf hc hZ (CB.at e0.bs) ⟨rfl, rfl, rfl⟩
  subst e1 e2 e3
  obtain ⟨tb, sb, hder, hq⟩ := hbody A outer s _ _ hr
  refine ⟨tb, hder.pe, ?_⟩
  exact hder.sim _ F _ _ m (fun x => Fg (SX x)) (fun v => Fg (Sv v)) _ ⟨sr_startF (hvs F) hw, M, hE.fg⟩ (hq m SX Sv hφ) fun v F' H' sv m' s' M' rv ⟨m2, l2, q⟩ => cQ v F' H' sv m2 s' (M'.drop l2) rv q
end
/-! ### a call while the frame's cells lie under the ground -/
section
variable {X : Cx}
/-- what the new ground knows -/
def Grd (X : Cx) (base' : Heap) (σ : L2.St) : Prop := X.Ok ∧ ∀ cl fr js, Caps X cl fr js → CellsB base' cl fr (js.map (slotAt σ))
/-- a lambda of this frame does φ -/
def Beh (P : Program) (w : World) (K : PySem.W.Frag) (mg : Str → Option Value) (X : Cx) (k : Nat) (base' : Heap) (δ : DS) (mk : Addr → NF) (e : Expr) (d : Option Int) (φ : Phi) : Prop :=
  ∀ (σ : L2.St) (F H : Hp) (f c : Addr) (dV : Value), SR K F σ δ → Grd X base' σ → H f = some (LamO f (mk c) e dV) → H c = some (CodeO (mk c).c (mk c).qual) → (mk c).c = c → (match d with | none => dV = .none | some i => ∃ T, dV = .ref T ∧ H T = some (.tup [.int i])) → ActC P w K mg base' k f φ F H
inductive Conv (P : Program) (w : World) (K : PySem.W.Frag) (mg : Str → Option Value) (X : Cx) (k : Nat) (base' : Heap) (δ : DS) : Mem → Mem → Prop
  | refl (m : Mem) : Conv P w K mg X k base' δ m m
  | step {m m' : Mem} {f : Addr} {mk : Addr → NF} {e : Expr} {d : Option Int} (φ : Phi) : m f = some (.lam mk e d) → Beh P w K mg X k base' δ mk e d φ → Conv P w K mg X k base' δ (up m f (.pred (ActC P w K mg base' k f φ))) m' → Conv P w K mg X k base' δ m m'
theorem conv_ok {P : Program} {w : World} {K : PySem.W.Frag} {mg : Str → Option Value} {k : Nat} {base' : Heap} {δ : DS} {m m' : Mem} {σ : L2.St} {F H : Hp} (h : Conv P w K mg X k base' δ m m') (g : Grd X base' σ) (sr : SR K F σ δ) (M : MR K F H m) : MR K F H m' := by
  induction h with
  | refl => exact M
  | step φ hm hb _ ih =>
    refine ih ?_
    obtain ⟨c, dV, h1, h2, h3, h4⟩ := (M.at_ _ _ hm).2
    rename_i m0 m1 f mk e d _
    have hfF : F f = none := (M.at_ f _ hm).1
    have n1 : MOR K F H (up m0 f (.pred (ActC P w K mg base' k f φ))) f (.pred (ActC P w K mg base' k f φ)) := by
      refine ⟨⟨_, h1, trivial⟩, fun F' H' sF kH => hb σ F' H' f c dV (sr.sub sF) g (kH _ _ h1 trivial) (kH _ _ h2 trivial) h3 ?_⟩
      cases d with
      | none => exact h4
      | some i =>
        obtain ⟨T, e1, e2⟩ := h4
        exact ⟨T, e1, kH _ _ e2 trivial⟩
    refine ⟨M.sub, fun b u hbu => ?_⟩
    by_cases e : b = f
    · subst e
      rw [up_same] at hbu; cases hbu
      exact ⟨hfF, n1⟩
    · rw [up_ne e] at hbu
      obtain ⟨z1, z2⟩ := M.at_ b u hbu
      refine ⟨z1, ?_⟩
      cases u with
      | ins C fs =>
        obtain ⟨dx, us, q1, q2, q3, q4, q5⟩ := z2
        exact ⟨dx, us, q1, q2, q3, by rw [up_ne (fun q => by rw [q, hm] at q4; cases q4)]; exact q4, q5⟩
      | _ => exact z2
def sCallB (P : Program) (w : World) (K : PySem.W.Frag) (mg : Str → Option Value) (X : Cx) (k : Nat) (sp : Heap → SpS) (a : SA) : SE := fun SX δ m S => a SX δ m fun vs m1 => ∀ base', ∃ m2, Conv P w K mg X k base' δ m1 m2 ∧ sp base' vs m2 (fun _ _ => False) S
theorem ge_callBase {K : PySem.W.Frag} {E : XK} {x : Str} {f : Addr} {fd : FuncData} {ps : List Str} {k k2 : Nat} {sp : Heap → SpS} {e : Expr} {es : List Expr} {t : TA} {sa : SA} {p pos : Pos} (F : ∀ base', FnOk X.prog X.w X.K X.mg base' CX0 k f fd ps (lift K (sp base'))) (hr : Room k X.A) (hg : Gl X x) (hm : X.mg x = some (.ref f)) (hk : PySem.W.keepIn X.K (.ref f) = true) (hb : Binds X.K fd ps [])
    (ha : GA K E X (e :: es) t sa) (hfn : ∀ x, X.fn x = true) (hst : X.stack = X.env :: X.outer) (hfr : X.env.frame = some X.env.locals) (hdb : (x == ("__debug__" : Str)) = false := by decide) (he : starEach (e :: es) X.env = (false, eval e X.env) :: starEach es X.env := by rfl) (hpl : (backTo pos (starEach es X.env)).any (·.1) = false := by rfl) (hK : X.K = K := by rfl) :
    GE K E X (.Call (.Name x p) (e :: es) [] pos) (tCallB X (fun b => lift K (sp b)) t) (sCallB X.prog X.w K X.mg X k2 sp sa) :=
  ⟨pe_callBase F hr hg hm hk hb ha.pe hfn hst hfr hdb he hpl, fun σ F0 H δ m SX S Q r h c => ha.sim σ F0 H δ m SX _ _ r h fun vs F1 H1 svs m1 s1 M1 v1 h1 => fun base' hok hC => by
    obtain ⟨m2, cv, q⟩ := h1 base'
    exact ⟨F1, svs, m2, fun _ _ => False, S, conv_ok cv ⟨hok, hC⟩ (r.sr.sub s1) M1, v1, q, fun x d F' H' m' _ _ _ z => z.elim, c.go s1⟩⟩
end
/-! ### how often, isinstance of a caught error -/
section
variable {X : Cx}
/-! ### how often a flat value stands in a list of flat ones -/
def rCntF (K : PySem.W.Frag) : V → List V → Hp → VK → Prop := fun x xs H Q => ∃ (a : Addr) (ys : List V) (y : V), x = V.ref a ∧ xs = [y] ∧ SqL K H a ys ∧ flatV y = true ∧ ys.all flatV = true ∧ Q (.int ((ys.countP fun z => eqV z y) : Nat)) H
theorem countU {y : V} : ∀ {ys : List V} {us : List Value}, Vals ys us → ys.all flatV = true → us.countP (eqU y) = ys.countP fun z => eqV z y
  | _, _, .nil, _ => rfl
  | z :: _, u :: _, .cons r rs, f => by
    have f2 : (flatV z && _) = true := f
    obtain ⟨f3, f4⟩ := Bool.and_eq_true_iff.mp f2
    have ih := countU (y := y) rs f4
    rw [List.countP_cons, List.countP_cons, ih, eqU_of r f3]
theorem mt_countF : MtR X "list.count" (rCntF X.K) := by
  intro pins s σ H x xs v us Q I rx rxs h
  obtain ⟨a, ys, y, rfl, rfl, hs, fy, fys, q⟩ := h
  cases rx
  obtain ⟨uy, rfl, ry⟩ := rxs.one
  obtain ⟨its, rv, ⟨⟨cls, dd, data, sl⟩, n, ho, hc, hdn, hd⟩, hlen⟩ := I.list hs
  simp only at hc hd
  subst hc hd
  refine call_meets PySem.F.slot_list_count ⟨_, ho, rfl⟩ PySem.F.entry_list_count (PySem.F.args_list_count_2 _ _)
    (SeqAt.list_countAt a its.toArray n dd sl uy (eqU y)) ⟨ho, fun u' hu' => mem_eqAt ry fy rv fys u' (by simpa using hu'), ?_⟩
  have ec : its.toArray.toList.countP (eqU y) = ys.countP fun z => eqV z y := countU rv fys
  refine ⟨.int ((ys.countP fun z => eqV z y) : Nat), H, I.tok _, ⟨s.toks, ?_⟩, q⟩
  show Value.int ((its.toArray.toList.countP (eqU y) : Nat) : Int) s.toks = Value.int (((ys.countP fun z => eqV z y) : Nat) : Int) s.toks
  rw [ec]
end

def sCount : SRM := fun x vs m S => match vs with
  | [y] => ∃ xs, ItsL m x xs ∧ flatS y = true ∧ xs.all flatS = true ∧ S (.int ((xs.countP fun z => eqS z y : Nat))) m
  | _ => False
section
variable {K : PySem.W.Frag}
theorem countV_ok {F : Hp} {y : V} {b : SV} (ry : VR K F y b) (fb : flatS b = true) : ∀ {xs : List V} {as : List SV}, VRs K F xs as → as.all flatS = true → (xs.countP fun z => eqV z y) = as.countP fun z => eqS z b
  | _, _, .nil, _ => rfl
  | _, _, .cons r t, h => by
    rw [List.all_cons, Bool.and_eq_true] at h
    rw [List.countP_cons, List.countP_cons, countV_ok ry fb t h.2, eqS_ok r ry h.1 fb]
theorem sim_count : SimM K (rCntF K) sCount := fun F H m x xs a as S Q M r rs h c => by
  unfold sCount at h
  split at h
  · obtain ⟨ys, h1, h2, h3, q⟩ := h
    obtain ⟨v, rfl, rv⟩ := vrs_one rs
    obtain ⟨p, vs, rfl, hs, r2⟩ := its_lst M r h1
    refine ⟨p, vs, v, rfl, rfl, hs, flat_ok rv h2, flats_ok r2 h3, ?_⟩
    rw [countV_ok rv h2 r2 h3]
    exact c _ F H _ m (.refl F) M (.int _) q
  · exact h.elim
theorem mt_countG {X : Cx} (K : PySem.W.Frag) (hK : X.K = K := by rfl) : MtR X "list.count" (rCntF K) := by subst hK; exact mt_countF
def sIsE (K : PySem.W.Frag) (D a : Addr) : SRC := fun vs m S => match vs with
  | [.ref b, .ref C] => b = a ∧ ∃ k, PySem.W.kitOne K (.ref D) (.ref C) = some k ∧ S (.bl k) m
  | [.ref b, .ty n] => b = a ∧ ∃ k, PySem.W.kitOne K (.ref D) (.type n) = some k ∧ S (.bl k) m
  | _ => False
theorem sim_isE {D a : Addr} : SimC K (rIsE K D a) (sIsE K D a) := fun F H m xs as S Q M rs h c => by
  unfold sIsE at h
  split at h
  · obtain ⟨rfl, k, hk, q⟩ := h
    obtain ⟨v, w, rfl, rv, rw_⟩ := vrs_two rs
    obtain rfl := vr_ref rv
    obtain rfl := vr_ref rw_
    exact ⟨.ref _, .ref _, k, rfl, fun u e => e, hk, c _ F H _ m (.refl F) M (.bl _) q⟩
  · obtain ⟨rfl, k, hk, q⟩ := h
    obtain ⟨v, w, rfl, rv, rw_⟩ := vrs_two rs
    obtain rfl := vr_ref rv
    obtain rfl := vr_ty rw_
    exact ⟨.ty _, .type _, k, rfl, fun u e => e, hk, c _ F H _ m (.refl F) M (.bl _) q⟩
  · exact h.elim
theorem ge_never {E : XK} {X : Cx} {e : Expr} : GE K E X e (fun _ _ _ => False) (fun _ _ _ _ => False) := ⟨⟨fun _ _ _ _ _ _ h => h.elim⟩, fun _ _ _ _ _ _ _ _ _ h _ => h.elim⟩
end
/-! ### a def whose code object is known (it makes lambdas) -/
section
variable {P : Program} {w : World} {K : PySem.W.Frag} {mg : Str → Option Value} {base : Heap}
theorem fn_syT {CX : CXT} {k : Nat} {f : Addr} {name qual : Str} {params : Arguments} {body : List Stmt} {scope : Scope} {dV kV doc pm cdv ct oc : Value} {an od : Option Addr} {osl : Array (Option Value)} {N ps : List Str} {sp : SpS}
    (lk : K.lookup f = some ⟨oc, od, .func (PySem.W.fnOf name qual params body scope dV kV doc pm an cdv ct), osl⟩) (hcd : PySem.W.codeIn K cdv qual = true) (S : FnScope N ps scope) (hl : ∀ svs m SX Sv, sp svs m SX Sv → svs.length = ps.length)
    (hev : ∀ (A : Around) (outer : List Env) (s : Shared) (H : Hp) (E : XK), Room k (A.deeper (envOfC qual scope s.heap.objs.size f cdv)) → ∃ ts ss, GSs K E (cxOf CX P w K mg base N qual scope f cdv A outer s H E) body ts ss ∧
      ∀ svs m SX Sv, sp svs m SX Sv → ss (fun x => Fg (SX x)) { nx := fun _ m' => Fg (Sv .non) m', rt := fun v => Fg (Sv v) } (startD N.length svs) m) : FnOk P w K mg base CX (k + 1) f (PySem.W.fnOf name qual params body scope dV kV doc pm an cdv ct) ps (lift K sp) := by
  refine fn_of lk hcd S (fun vs H Q E h => by
    obtain ⟨F, svs, m, SX, Sv, _, h2, h3, _⟩ := h
    rw [vrs_length h2]; exact hl _ _ _ _ h3) (fun A outer s H vs Q E hr h => ?_)
  obtain ⟨F, svs, m, SX, Sv, M, r, hsp, hx, c⟩ := h
  obtain ⟨ts, ss, hder, hev⟩ := hev A outer s H E hr
  refine ⟨ts, hder.pe, ?_⟩
  exact hder.sim _ F H _ m (fun x => Fg (SX x)) { nx := fun _ m' => Fg (Sv .non) m', rt := fun v => Fg (Sv v) } _ ⟨SR.start r, M, hx.fg⟩ (hev svs m SX Sv hsp) ⟨fun σ' δ' F' H' m' s' _ M' ⟨m2, l2, q⟩ => c .non F' H' .non m2 s' (M'.drop l2) .non q, fun v F' H' sv m' s' M' rv ⟨m2, l2, q⟩ => c v F' H' sv m2 s' (M'.drop l2) rv q, fun _ _ _ _ _ _ _ _ q => q.elim, fun _ _ _ _ _ _ _ _ q => q.elim⟩
end
end Sy

set_option Elab.async false
set_option linter.all false
set_option maxRecDepth 100000
set_option maxHeartbeats 4000000
/-! sum of a list of truths -/
namespace Sy
open PySem PySem.Spec PyProof.Rows L2
def cntB (bs : List Bool) : Int := (bs.map b2i).sum
def rSumB (K : PySem.W.Frag) : List V → Hp → VK → Prop := fun vs H Q => ∃ (a : Addr) (bs : List Bool), vs = [V.ref a] ∧ SqL K H a (bs.map V.bl) ∧ Q (.int (cntB bs)) H
theorem cr_sumB {X : Cx} (hc : X.calm = true) : CallR X (.builtin "sum") (rSumB X.K) := by
  intro pins s σ H vs us Q I r h
  obtain ⟨a, bs, rfl, hs, q⟩ := h
  obtain ⟨its, rv, hl, _⟩ := I.list hs
  rw [Vals.ref1 r]
  have hb := rv.bls
  subst hb
  have hlA := hl.isList
  have hlt : a < s.heap.objs.size := by obtain ⟨_, e, _⟩ := hlA; exact Heap.lt_size e
  have hsz : (bs.map Value.bool).toArray.size = bs.length := by simp
  refine call_sum_walkAnyB (iter_any hlA fun s₂ e2 st hne => ?_)
  subst e2
  have W := (Walks.list (prog := X.prog) (w := X.w) (A := X.A.in1) (I.ok.hd hc) s.heap.objs.size a hne (bs.map Value.bool).toArray).toS
  rw [hsz] at W
  refine ⟨s.heap.objs.size, _, _, _, _, _, _, fun i => (bs.map b2i).getD i 0, rfl, W, st, fun b hb => ?_, fun i v hP => ?_, fun s' t' hm => ?_⟩
  · rcases List.mem_cons.mp hb with rfl | hb
    · exact Heap.lt_size (Heap.get?_push_size _ rfl)
    · obtain rfl := List.mem_singleton.mp hb
      exact Nat.lt_of_lt_of_le hlt (by simp [Heap.size_push])
  · have hv : (bs.map Value.bool)[i]? = some v := by simpa using hP
    rw [List.getElem?_map] at hv
    obtain ⟨b, hb, rfl⟩ := Option.map_eq_some_iff.mp hv
    refine .inr ⟨b, rfl, ?_⟩
    show (bs.map b2i).getD i 0 = _
    rw [List.getD_eq_getElem?_getD, List.getElem?_map, hb]
    cases b <;> rfl
  · obtain ⟨h', g', d', tk', os'⟩ := s'
    have e1 : g' = s.gens := hm.gens
    have e2 : d' = s.drawn := hm.drawn
    have e3 : os' = s.os := hm.os
    subst e1 e2 e3
    refine ⟨.int (cntB bs), H, I.kept fun b o e => hm.heap b o (fun hb => absurd (Heap.lt_size e) ((List.mem_singleton.mp hb) ▸ Nat.lt_irrefl _)) (Heap.get?_push_of_some _ e), ⟨t', ?_⟩, q⟩
    rw [preSum_getD, List.take_of_length_le (by simp)]
    rfl

def rSumG (K : PySem.W.Frag) : List V → Hp → VK → Prop := fun xs H Q => rSum K xs H Q ∨ rSumB K xs H Q
theorem cr_sumA {X : Cx} (K : PySem.W.Frag) (hc : X.calm = true := by rfl) (hK : X.K = K := by rfl) : CallR X (.builtin "sum") (rSumG K) := by
  subst hK
  exact .or (cr_sum hc) (cr_sumB hc)
def sSumA : SRC := fun vs m S => match vs with
  | [x] => (∃ ns : List Int, ItsL m x (ns.map .int) ∧ S (.int ns.sum) m) ∨ (∃ bs : List Bool, ItsL m x (bs.map .bl) ∧ S (.int (cntB bs)) m)
  | _ => False
theorem sim_sumA {K : PySem.W.Frag} : SimC K (rSumG K) sSumA := fun F H m xs as S Q M rs h c => by
  unfold sSumA at h
  split at h
  · rcases h with ⟨bs, h1, q⟩ | ⟨bs, h1, q⟩
    · obtain ⟨v, rfl, rv⟩ := vrs_one rs
      obtain ⟨p, vs, rfl, hs, r2⟩ := its_lst M rv h1
      obtain rfl := vrs_ints r2
      exact .inl ⟨p, bs, rfl, hs, c _ F H _ m (.refl F) M (.int _) q⟩
    · obtain ⟨v, rfl, rv⟩ := vrs_one rs
      obtain ⟨p, vs, rfl, hs, r2⟩ := its_lst M rv h1
      obtain rfl := vrs_bls r2
      exact .inr ⟨p, bs, rfl, hs, c _ F H _ m (.refl F) M (.int _) q⟩
  · exact h.elim
end Sy
namespace Sy
open PySem PySem.Spec PyProof.Rows L2
def slotD (δ : DS) (j : Nat) : Option SV := match δ[j]? with
  | some o => o
  | none => none
theorem wr_of {K : PySem.W.Frag} {F : Hp} {σ : L2.St} {δ : DS} (sr : SR K F σ δ) (js : List Nat) : WR K F (js.map (NdefX.slotAt σ)) (js.map (slotD δ)) := by
  refine ⟨by simp, fun i d e => ?_⟩
  rw [List.getElem?_map] at e
  obtain ⟨j, h1, h2⟩ := Option.map_eq_some_iff.mp e
  have h3 : δ[j]? = some (some d) := by
    unfold slotD at h2
    split at h2
    · next o q => rw [q, h2]
    · cases h2
  obtain ⟨v, h4, h5⟩ := sr.at_ j d h3
  exact ⟨v, by rw [List.getElem?_map, h1]; show some (NdefX.slotAt σ j) = _; rw [NdefX.slotAt_of h4], h5⟩
end Sy
namespace Sy
open PySem PySem.Spec PyProof.Rows L2
section
variable {P : Program} {w : World} {K : PySem.W.Frag} {mg : Str → Option Value} {base : Heap}
theorem fn_syT0 {k : Nat} {f : Addr} {name qual : Str} {params : Arguments} {body : List Stmt} {scope : Scope} {dV kV doc pm cdv ct oc : Value} {an od : Option Addr} {osl : Array (Option Value)} {N ps : List Str} {sp : SpS}
    (lk : K.lookup f = some ⟨oc, od, .func (PySem.W.fnOf name qual params body scope dV kV doc pm an cdv ct), osl⟩) (hcd : PySem.W.codeIn K cdv qual = true) (S : FnScope N ps scope) (hl : ∀ svs m SX Sv, sp svs m SX Sv → svs.length = ps.length)
    (hev : ∀ (A : Around) (outer : List Env) (s : Shared) (H : Hp) (E : XK), Room k (A.deeper (envOfC qual scope s.heap.objs.size f cdv)) → ∃ ts ss, GSs K E (cxOf CX0 P w K mg base N qual scope f cdv A outer s H E).nox body ts ss ∧
      ∀ svs m SX Sv, sp svs m SX Sv → ss (fun x => Fg (SX x)) { nx := fun _ m' => Fg (Sv .non) m', rt := fun v => Fg (Sv v) } (startD N.length svs) m) : FnOk P w K mg base CX0 (k + 1) f (PySem.W.fnOf name qual params body scope dV kV doc pm an cdv ct) ps (lift K sp) := by
  refine fn_of lk hcd S (fun vs H Q E h => by
    obtain ⟨F, svs, m, SX, Sv, _, h2, h3, _⟩ := h
    rw [vrs_length h2]; exact hl _ _ _ _ h3) (fun A outer s H vs Q E hr h => ?_)
  obtain ⟨F, svs, m, SX, Sv, M, r, hsp, hx, c⟩ := h
  obtain ⟨ts, ss, hder, hev⟩ := hev A outer s H E hr
  refine ⟨ts, PSs.nox hder.pe, ?_⟩
  exact hder.sim _ F H _ m (fun x => Fg (SX x)) { nx := fun _ m' => Fg (Sv .non) m', rt := fun v => Fg (Sv v) } _ ⟨SR.start r, M, hx.fg⟩ (hev svs m SX Sv hsp) ⟨fun σ' δ' F' H' m' s' _ M' ⟨m2, l2, q⟩ => c .non F' H' .non m2 s' (M'.drop l2) .non q, fun v F' H' sv m' s' M' rv ⟨m2, l2, q⟩ => c v F' H' sv m2 s' (M'.drop l2) rv q, fun _ _ _ _ _ _ _ _ q => q.elim, fun _ _ _ _ _ _ _ _ q => q.elim⟩
end
end Sy

set_option Elab.async false
set_option linter.all false
set_option maxRecDepth 100000
set_option maxHeartbeats 4000000
/-! Instances and their fields, methods, constructors over symbolic values. -/
namespace Sy
open PySem PySem.Spec PyProof.Rows L2
theorem _root_.L2.Room.u1 {k : Nat} {A : Around} (r : L2.Room k A) : A.units + 1 < cLine := by have := r.un; omega
/-- a field is stored -/
def putS (f : Str) (v : SV) : List (Str × SV) → List (Str × SV)
  | [] => [(f, v)]
  | (g, x) :: r => if g = f then (g, v) :: r else (g, x) :: putS f v r
section
variable {K : PySem.W.Frag} {F H : Hp} {m : Mem}
theorem kr_putF {f : Str} {v : V} {x : SV} (r : VR K F v x) : ∀ {us : List (Str × V)} {fs : List (Str × SV)}, KR K F us fs → KR K F (putF f v us) (putS f x fs)
  | _, _, .nil => .cons r .nil
  | (g, _) :: us, (_, _) :: fs, .cons a b => by
    unfold putF putS
    by_cases e : g = f
    · rw [if_pos e, if_pos e]; exact .cons r b
    · rw [if_neg e, if_neg e]; exact .cons a (kr_putF r b)
theorem kr_look {us : List (Str × V)} {fs : List (Str × SV)} {f : Str} {x : SV} (h : KR K F us fs) (e : fs.lookup f = some x) : ∃ v, us.lookup f = some v ∧ VR K F v x := by
  have z := kr_lookup (k := f) h
  rw [e] at z
  exact z
theorem kr_lookN {us : List (Str × V)} {fs : List (Str × SV)} {f : Str} (h : KR K F us fs) (e : fs.lookup f = none) : us.lookup f = none := by
  have z := kr_lookup (k := f) h
  rw [e] at z
  exact z
end
/-- o.f of an instance of the class at C -/
def sFldR (C : Addr) (f : Str) (a : SE) : SE := fun SX δ m S => a SX δ m fun x m1 => match x with
  | .ref p => ∃ fs v, m1 p = some (.ins C fs) ∧ fs.lookup f = some v ∧ S v m1
  | _ => False
/-- o.f = v -/
def sFldW (C : Addr) (f : Str) (a tv : SE) : SS := fun SX D δ m => tv SX δ m fun y m1 => a SX δ m1 fun x m2 => match x with
  | .ref p => ∃ fs, m2 p = some (.ins C fs) ∧ fs.length < 1000 ∧ D.nx δ (up m2 p (.ins C (putS f y fs)))
  | _ => False
/-- o.m(..) -/
def sMeth (C : Addr) (nm : Str) (sp : SpS) (dvs : List SV) (a : SE) (t : SA) : SE := fun SX δ m S => a SX δ m fun x m1 => match x with
  | .ref p => ∃ fs, m1 p = some (.ins C fs) ∧ fs.lookup nm = none ∧ t SX δ m1 fun vs m2 => sp (.ref p :: (vs ++ dvs)) m2 SX S
  | _ => False
/-- C(..) -/
def sMake (C : Addr) (sp : SpS) (dvs : List SV) (t : SA) : SE := fun SX δ m S => t SX δ m fun vs m1 => ∀ p, m1 p = none → sp (.ref p :: (vs ++ dvs)) (up m1 p (.ins C [])) SX (fun v m2 => v = .non ∧ S (.ref p) m2)
/-- a method's promise, a constructor's -/
abbrev FnM (K : PySem.W.Frag) (x q : Str) (st : Stmt) (f : Addr) (fd : FuncData) : Prop := FunD K x q (defArgs st) (defBody st) (defScope st) [] [] f fd
section
variable {K : PySem.W.Frag} {E : XK} {X : Cx} {CX : CXT} {k : Nat} {f C : Addr} {fd : FuncData} {ps : List Str} {sp : SpS} {dvs : List V} {svs : List SV} {ds : List Value} {x nm : Str} {p pos apos pos' : Pos} {e o value : Expr} {es : List Expr} {t : TA} {s : SA} {ta tv : TE} {sa sv : SE}
theorem ge_fld (c : Cls K C) (na : NoAttr K C x) (he : GE K E X e ta sa) (hb : attributeBase e x X.env (eval e X.env) = eval e X.env := by rfl) (hK : X.K = K := by rfl) : GE K E X (.Attribute e x pos) (tFld K ta x) (sFldR C x sa) := by
  subst hK
  exact ⟨pe_fld he.pe hb, fun σ F H δ m SX S Q r h q => he.sim σ F H δ m SX _ _ r h fun v F1 H1 sv m1 s1 M1 v1 h1 => by
    cases v1 <;> first
      | exact (show False from h1).elim
      | skip
    obtain ⟨fs, u, e1, e2, h1⟩ := (show ∃ fs u, _ from h1)
    obtain ⟨dx, us, g1, g2, g3, g4, g5⟩ := (M1.at_ _ _ e1).2
    obtain ⟨w, l, rw_⟩ := kr_look g5 e2
    exact ⟨_, C, dx, us, w, rfl, g1, c, na, l, q w F1 H1 u m1 s1 M1 rw_ h1⟩⟩
theorem MR.setF {F H : Hp} {m : Mem} {a dx : Addr} {us : List (Str × V)} {fs fs' : List (Str × SV)} {us' : List (Str × V)} (M : MR K F H m) (h : m a = some (.ins C fs)) (h1 : H a = some (.ins C dx us)) (h2 : H dx = some (.own a)) (h3 : F dx = none) (h4 : m dx = none) (r : KR K F us' fs') : MR K F (upd H a (.ins C dx us')) (up m a (.ins C fs')) := by
  have ne : dx ≠ a := fun z => by rw [z, h1] at h2; cases h2
  exact M.put h (fun u hu x => by rw [h1] at hu; cases hu; exact x) ⟨dx, us', upd_same, by rw [upd_ne ne]; exact h2, h3, by rw [up_ne ne]; exact h4, r⟩
theorem gs_fld (c : Cls K C) (na : NoAttr K C x) (ha : GE K E X o ta sa) (hv : GE K E X value tv sv) (hs : swapsWith value (some (.Attribute o x pos')) pos.line X.env = pure false := by rfl) (hK : X.K = K := by rfl) : GS K E X (.Assign [.Attribute o x pos'] value pos) (sFld K ta tv x) (sFldW C x sa sv) := by
  subst hK
  exact ⟨ps_fld ha.pe hv.pe hs, fun σ F H δ m SX D Es r h q => hv.sim σ F H δ m SX _ _ r h fun y F1 H1 sy m1 s1 M1 v1 h1 => ha.sim σ F1 H1 δ m1 SX _ _ (r.go s1 M1) h1 fun u F2 H2 su m2 s2 M2 v2 h2 => by
    cases v2 <;> first
      | exact (show False from h2).elim
      | skip
    obtain ⟨fs, e1, e2, h2⟩ := (show ∃ fs, _ from h2)
    obtain ⟨dx, us, g1, g2, g3, g4, g5⟩ := (M2.at_ _ _ e1).2
    have s12 := s1.trans s2
    exact ⟨_, C, dx, us, rfl, g1, c, na, by rw [kr_length g5]; exact e2, q.nx σ δ F2 _ _ s12 (r.sr.sub s12) (M2.setF e1 g1 g2 g3 g4 (kr_putF (vr_sub s2 v1) g5)) h2⟩⟩
theorem sim_meth (hd : ∀ F, VRs K F dvs svs) (he : SimE K E ta sa) (ha : SimA K E t s) : SimE K E (tMeth C nm (lift K sp) dvs E ta t) (sMeth C nm sp svs sa s) := fun σ F H δ m SX S Q r h q => he σ F H δ m SX _ _ r h fun v F1 H1 sv m1 s1 M1 v1 h1 => by
  cases v1 <;> first
    | exact (show False from h1).elim
    | skip
  obtain ⟨fs, e1, e2, h1⟩ := (show ∃ fs, _ from h1)
  obtain ⟨dx, us, g1, g2, g3, g4, g5⟩ := (M1.at_ _ _ e1).2
  refine ⟨_, dx, us, rfl, g1, kr_lookN g5 e2, ha σ F1 H1 δ m1 SX _ _ (r.go s1 M1) h1 fun vs F2 H2 svs2 m2 s2 M2 v2 h2 => ?_⟩
  have s12 := s1.trans s2
  exact ⟨F2, _, m2, SX, S, M2, .cons (.ref _) (vrs_append v2 (hd F2)), h2, r.ex.go s12, q.go s12⟩
theorem ge_meth {pl : Sem Bool} (c : Cls K C) (hm : Meth K C nm f) (F : FnOk X.prog X.w X.K X.mg X.base CX k f fd ps (lift K sp)) (hr : Room k X.A) (hb : Binds X.K fd ps ds) (hd : Vals dvs ds) (hds : ∀ F, VRs K F dvs svs) (hx : Passes CX X E) (he : GE K E X o ta sa) (ha : GA K E X (e :: es) t s)
    (hst : starEach (e :: es) X.env = (false, eval e X.env) :: starEach es X.env := by rfl) (hpl : (backTo pos (starEach es X.env)).any (·.1) = false := by rfl)
    (ht : eval (.Call (.Attribute o nm apos) (e :: es) [] pos) X.env = (do
      let ov ← eval o X.env
      standAt apos.atName
      let (f, first) ← holding [ov] (getMethod ov nm pl)
      callWith pos f first (backTo pos (starEach (e :: es) X.env)) (backToKw pos (keywordEach [] X.env))) := by rfl) (hK : X.K = K := by rfl) : GE K E X (.Call (.Attribute o nm apos) (e :: es) [] pos) (tMeth C nm (lift K sp) dvs E ta t) (sMeth C nm sp svs sa s) := by
  subst hK
  exact ⟨pe_meth (pl := pl) he.pe c hm F hr hb hd hx ha.pe hst hpl ht, sim_meth hds he.sim ha.sim⟩
theorem ge_meth0 {pl : Sem Bool} (c : Cls K C) (hm : Meth K C nm f) (F : FnOk X.prog X.w X.K X.mg X.base CX k f fd ps (lift K sp)) (hr : Room k X.A) (hb : Binds X.K fd ps ds) (hd : Vals dvs ds) (hds : ∀ F, VRs K F dvs svs) (hx : Passes CX X E) (he : GE K E X o ta sa)
    (ht : eval (.Call (.Attribute o nm apos) [] [] pos) X.env = (do
      let ov ← eval o X.env
      standAt apos.atName
      let (f, first) ← holding [ov] (getMethod ov nm pl)
      callWith pos f first (backTo pos (starEach [] X.env)) (backToKw pos (keywordEach [] X.env))) := by rfl) (hK : X.K = K := by rfl) : GE K E X (.Call (.Attribute o nm apos) [] [] pos) (tMeth C nm (lift K sp) dvs E ta tNil) (sMeth C nm sp svs sa sNil) := by
  subst hK
  exact ⟨pe_meth0 (pl := pl) he.pe c hm F hr hb hd hx ht, sim_meth hds he.sim (ga_nil (X := X)).sim⟩
theorem MR.newI {F H : Hp} {m : Mem} {q dx : Addr} (M : MR K F H m) (h1 : H q = none) (h2 : H dx = none) (ne : dx ≠ q) : MR K F (upd (upd H dx (.own q)) q (.ins C dx [])) (up m q (.ins C [])) :=
  (M.hid h2).new_ (by rw [upd_ne (Ne.symm ne)]; exact h1) ⟨dx, [], upd_same, by rw [upd_ne ne]; exact upd_same, M.sub.gone h2, by rw [up_ne ne]; exact M.gone h2, .nil⟩
theorem sim_make (hd : ∀ F, VRs K F dvs svs) (ha : SimA K E t s) : SimE K E (tMake C (lift K sp) dvs E t) (sMake C sp svs s) := fun σ F H δ m SX S Q r h q => ha σ F H δ m SX _ _ r h fun vs F1 H1 sv m1 s1 M1 v1 h1 => fun a dx n1 n2 ne =>
  ⟨F1, _, _, SX, _, M1.newI n1 n2 ne, .cons (.ref _) (vrs_append v1 (hd F1)), h1 a (M1.gone n1), r.ex.go s1, fun v F2 H2 sv2 m2 s2 M2 v2 ⟨e, h2⟩ => by
    subst e
    exact ⟨vr_non v2, q _ F2 H2 _ m2 (s1.trans s2) M2 (.ref a) h2⟩⟩
theorem ge_make (Mm : Mk K C f) (F : FnOk X.prog X.w X.K X.mg X.base CX k f fd ps (lift K sp)) (hr : Room (k + 1) X.A) (hg : Gl X x) (hm : X.mg x = some (.ref C)) (hb : Binds X.K fd ps ds) (hd : Vals dvs ds) (hds : ∀ F, VRs K F dvs svs) (hx : Passes CX X E)
    (ha : GA K E X (e :: es) t s) (hdb : (x == ("__debug__" : Str)) = false := by decide) (he : starEach (e :: es) X.env = (false, eval e X.env) :: starEach es X.env := by rfl) (hpl : (backTo pos (starEach es X.env)).any (·.1) = false := by rfl) (hK : X.K = K := by rfl) :
    GE K E X (.Call (.Name x p) (e :: es) [] pos) (tMake C (lift K sp) dvs E t) (sMake C sp svs s) := by
  subst hK
  exact ⟨pe_make Mm F hr hg hm hb hd hx ha.pe hdb he hpl, sim_make hds ha.sim⟩
theorem ge_make0 (Mm : Mk K C f) (F : FnOk X.prog X.w X.K X.mg X.base CX k f fd ps (lift K sp)) (hr : Room (k + 1) X.A) (hg : Gl X x) (hm : X.mg x = some (.ref C)) (hb : Binds X.K fd ps ds) (hd : Vals dvs ds) (hds : ∀ F, VRs K F dvs svs) (hx : Passes CX X E)
    (hdb : (x == ("__debug__" : Str)) = false := by decide) (hK : X.K = K := by rfl) :
    GE K E X (.Call (.Name x p) [] [] pos) (tMake C (lift K sp) dvs E tNil) (sMake C sp svs sNil) := by
  subst hK
  exact ⟨pe_make0 Mm F hr hg hm hb hd hx hdb, sim_make hds (ga_nil (X := X)).sim⟩
end
/-! ### keywords -/
structure GK (K : PySem.W.Frag) (E : XK) (X : Cx) (e : List Keyword) (te : TA) (se : SA) : Prop where
  pe : PK X e te
  sim : SimA K E te se
def tMethK (C : Addr) (m : Str) (sp : Sp) (gV : List V → List V → List V) (E : XK) (ta : TE) (tk : TA) : TE := fun σ H Q => ta σ H fun x H1 => ∃ a dx fs, x = .ref a ∧ H1 a = some (.ins C dx fs) ∧ fs.lookup m = none ∧
  tk σ H1 fun zs H2 => sp (gV [x] zs) H2 Q E
/-- o.m(k = v) -/
def sMethK (C : Addr) (nm : Str) (sp : SpS) (a : SE) (t : SA) : SE := fun SX δ m S => a SX δ m fun x m1 => match x with
  | .ref p => ∃ fs, m1 p = some (.ins C fs) ∧ fs.lookup nm = none ∧ t SX δ m1 fun vs m2 => sp (.ref p :: vs) m2 SX S
  | _ => False
section
variable {K : PySem.W.Frag} {E : XK} {X : Cx} {CX : CXT} {k : Nat} {f C : Addr} {fd : FuncData} {ps ks : List Str} {sp : SpS} {x nm : Str} {p pos apos kpos : Pos} {e o : Expr} {es : List Expr} {kws : List Keyword} {t tk : TA} {s sk : SA} {ta te : TE} {sa se : SE} {nk : Option Str}
theorem gk_nil : GK K E X [] tNil sNil := ⟨pk_nil, (ga_nil (X := X)).sim⟩
theorem gk_cons (ha : GE K E X e te se) (hr : GK K E X kws tk sk) : GK K E X (⟨nk, e, kpos⟩ :: kws) (tCons te tk) (sCons se sk) := ⟨pk_cons ha.pe hr.pe, fun σ F H δ m SX S Q r q c =>
  ha.sim σ F H δ m SX _ _ r q fun v F1 H1 sv m1 s1 M1 v1 h1 => hr.sim σ F1 H1 δ m1 SX _ _ (r.go s1 M1) h1 fun vs F2 H2 svs m2 s2 M2 v2 h2 => c _ F2 H2 _ m2 (s1.trans s2) M2 (.cons (vr_sub s2 v1) v2) h2⟩
theorem FunD.kbindsN {x qual : Str} {params : Arguments} {body : List Stmt} {scope : Scope} (F : FunD K x qual params body scope [] [] f fd) (n : Nat) (ks : List Str)
    (h : ∀ (kV doc pm : Value) (an : Option Addr) (cdv ct : Value) (us ws : List Value), us.length = n → ws.length = ks.length → bindArgs (PySem.W.fnOf x qual params body scope .none kV doc pm an cdv ct) ⟨us, ks.zip ws⟩ = pure (ps.zip (us ++ ws))) : KBn K fd ps n ks (fun us ws => us ++ ws) (fun vs zs => vs ++ zs) := by
  obtain ⟨oc, od, dV, kV, doc, pm, an, cdv, ct, osl, rfl, lk, hcd, hD, hK⟩ := F.ex
  rcases hD with ⟨_, rfl⟩ | ⟨e, _⟩
  · exact ⟨fun s us ws _ l1 l2 => .of_eq (h kV doc pm an cdv ct us ws l1 l2), fun r1 r2 => r1.append r2⟩
  · exact absurd rfl e
theorem run_fnkn {sp : Sp} {g : List Value → List Value → List Value} {gV : List V → List V → List V} {n : Nat} {pins : List (Addr × Obj)} {σ : L2.St} {H : Hp} {s : Shared} {Q : VK} {us ws : List Value} {vs zs : List V} (F : FnOk X.prog X.w X.K X.mg X.base CX k f fd ps sp) (hr : Room k X.A) (hb : KBn X.K fd ps n ks g gV) (hx : Passes CX X E)
    (I : Inv X pins σ H s) (r : Vals vs us) (rz : Vals zs ws) (l1 : vs.length = n) (l2 : zs.length = ks.length) (h : sp (gV vs zs) H Q E) : wpAny (model X.prog X.w) X.A (call (.ref f) us (ks.zip ws)) (EP X pins σ Q) X.xe s := by
  have r2 := hb.rel r rz
  refine wpAny_call (codeAny_mono (F.run X.A X.stack s H ⟨us, ks.zip ws⟩ (g us ws) (gV vs zs) Q E hr I.env0 (hb.to s us ws I.kIn (r.length.symm.trans l1) (rz.length.symm.trans l2)) r2 h) fun r s' hq => ?_)
  cases r with
  | error e => exact hx pins σ H s e s' I hq
  | ok fl =>
    cases fl with
    | ret u => exact I.after hq
    | next => exact False.elim hq
    | brk => exact False.elim hq
    | cont => exact False.elim hq
theorem pe_methK0 {sp : Sp} {g : List Value → List Value → List Value} {gV : List V → List V → List V} {pl : Sem Bool} (c : Cls X.K C) (hm : Meth X.K C nm f) (F : FnOk X.prog X.w X.K X.mg X.base CX k f fd ps sp) (hr : Room k X.A) (hb : KBn X.K fd ps 1 ks g gV) (hx : Passes CX X E) (he : PE X o ta) (hkw : PK X kws tk)
    (hlen : ∀ σ H Q, tk σ H Q → tk σ H fun zs H' => zs.length = ks.length ∧ Q zs H')
    (hall : (backToKw pos (keywordEach kws X.env)).all (·.1.isSome) = true := by rfl) (hks : (backToKw pos (keywordEach kws X.env)).filterMap (·.1) = ks := by rfl)
    (hpl : ((backTo pos (starEach [] X.env)).any (·.1) || (backToKw pos (keywordEach kws X.env)).any (·.1.isNone)) = false := by rfl)
    (ht : eval (.Call (.Attribute o nm apos) [] kws pos) X.env = (do
      let ov ← eval o X.env
      standAt apos.atName
      let (f, first) ← holding [ov] (getMethod ov nm pl)
      callWith pos f first (backTo pos (starEach [] X.env)) (backToKw pos (keywordEach kws X.env))) := by rfl) : PE X (.Call (.Attribute o nm apos) [] kws pos) (tMethK C nm sp gV E ta tk) := by
  refine ⟨fun pins s σ H Q I h => ?_⟩
  refine PySem.W.methodCall_KW (pl := pl) (thn (he.run pins s σ H _ I h) fun u s1 ⟨x, H1, I1, rx, a, dx, fs, ex, ea, l, q⟩ => ?_) ht
  subst ex
  obtain rfl : u = Value.ref a := rx
  refine getmeth_ok I1 ea c hm l ?_
  refine PySem.W.callWith_KW0 (first := [.ref a]) (h₀ := X.base) I.ok.mod.kin hm.kp hall (thn (hkw.run pos pins s1 σ H1 _ I1 (hlen _ _ _ q)) fun ws s2 ⟨zs, H2, I2, rz, lz, q2⟩ => ⟨I2.kIn, ?_⟩) hpl
  rw [hks]
  exact run_fnkn (us := [.ref a]) (vs := [.ref a]) F hr hb hx I2 (.cons rfl .nil) rz rfl lz q2
theorem tcons_len1 {te : TE} {ks : List Str} (h : ks.length = 1) : ∀ σ H Q, (tCons te tNil) σ H Q → (tCons te tNil) σ H fun zs H' => zs.length = ks.length ∧ Q zs H' := fun σ H Q q => by
  have e : (fun (v : V) (H1 : Hp) => ([v].length = ks.length ∧ Q [v] H1)) = fun v H1 => Q [v] H1 := by
    funext v H1
    rw [h]
    exact propext ⟨fun z => z.2, fun z => ⟨rfl, z⟩⟩
  show te σ H (fun (v : V) (H1 : Hp) => ([v].length = ks.length ∧ Q [v] H1))
  rw [e]
  exact q
/-- o.m(k = v) with one keyword -/
theorem ge_methK1 {pl : Sem Bool} {ky : Str} (c : Cls K C) (hm : Meth K C nm f) (F : FnOk X.prog X.w X.K X.mg X.base CX k f fd ps (lift K sp)) (hr : Room k X.A) (hb : KBn K fd ps 1 [ky] (fun us ws => us ++ ws) (fun vs zs => vs ++ zs)) (hx : Passes CX X E) (he : GE K E X o ta sa) (hv : GE K E X e te se)
    (hall : (backToKw pos (keywordEach [⟨nk, e, kpos⟩] X.env)).all (·.1.isSome) = true := by rfl) (hks : (backToKw pos (keywordEach [⟨nk, e, kpos⟩] X.env)).filterMap (·.1) = [ky] := by rfl)
    (hpl : ((backTo pos (starEach [] X.env)).any (·.1) || (backToKw pos (keywordEach [⟨nk, e, kpos⟩] X.env)).any (·.1.isNone)) = false := by rfl)
    (ht : eval (.Call (.Attribute o nm apos) [] [⟨nk, e, kpos⟩] pos) X.env = (do
      let ov ← eval o X.env
      standAt apos.atName
      let (f, first) ← holding [ov] (getMethod ov nm pl)
      callWith pos f first (backTo pos (starEach [] X.env)) (backToKw pos (keywordEach [⟨nk, e, kpos⟩] X.env))) := by rfl) (hK : X.K = K := by rfl) : GE K E X (.Call (.Attribute o nm apos) [] [⟨nk, e, kpos⟩] pos) (tMethK C nm (lift K sp) (fun vs zs => vs ++ zs) E ta (tCons te tNil)) (sMethK C nm sp sa (sCons se sNil)) := by
  subst hK
  exact ⟨pe_methK0 (pl := pl) c hm F hr hb hx he.pe (pk_cons hv.pe pk_nil) (tcons_len1 rfl) hall hks hpl ht, fun σ F H δ m SX S Q r h q => he.sim σ F H δ m SX _ _ r h fun v F1 H1 sv m1 s1 M1 v1 h1 => by
    cases v1 <;> first
      | exact (show False from h1).elim
      | skip
    obtain ⟨fs, e1, e2, h1⟩ := (show ∃ fs, _ from h1)
    obtain ⟨dx, us, g1, g2, g3, g4, g5⟩ := (M1.at_ _ _ e1).2
    refine ⟨_, dx, us, rfl, g1, kr_lookN g5 e2, (gk_cons (nk := nk) (kpos := kpos) hv (gk_nil)).sim σ F1 H1 δ m1 SX _ _ (r.go s1 M1) h1 fun vs F2 H2 svs2 m2 s2 M2 v2 h2 => ?_⟩
    have s12 := s1.trans s2
    exact ⟨F2, _, m2, SX, S, M2, .cons (.ref _) v2, h2, r.ex.go s12, q.go s12⟩⟩
end
/-! ### defs with a qualified name -/
section
variable {P : Program} {w : World} {K : PySem.W.Frag} {mg : Str → Option Value} {base : Heap}
theorem fn_syQ {x q : Str} {st : Stmt} {f : Addr} {fd : FuncData} {N ps : List Str} {k : Nat} {sp : SpS} {dvs : List V} {kws : List (Str × V)} (Fn : FunD K x q (defArgs st) (defBody st) (defScope st) dvs kws f fd) (S : FnScope N ps (defScope st)) (hl : ∀ svs m SX Sv, sp svs m SX Sv → svs.length = ps.length)
    (hev : ∀ (cdv : Value) (A : Around) (outer : List Env) (s : Shared) (H : Hp) (E : XK), Room k (A.deeper (envOfC q (defScope st) s.heap.objs.size f cdv)) → ∃ ts ss, GSs K E (cxOf CX0 P w K mg base N q (defScope st) f cdv A outer s H E).nox (defBody st) ts ss ∧
      ∀ svs m SX Sv, sp svs m SX Sv → ss (fun x => Fg (SX x)) { nx := fun _ m' => Fg (Sv .non) m', rt := fun v => Fg (Sv v) } (startD N.length svs) m) : FnOk P w K mg base CX0 (k + 1) f fd ps (lift K sp) := by
  refine FunD.ok Fn S (fun vs H Q E h => by
    obtain ⟨F, svs, m, SX, Sv, _, h2, h3, _⟩ := h
    rw [vrs_length h2]; exact hl _ _ _ _ h3) (fun cdv A outer s H vs Q E hr h => ?_)
  obtain ⟨F, svs, m, SX, Sv, M, r, hsp, hx, c⟩ := h
  obtain ⟨ts, ss, hder, hev⟩ := hev cdv A outer s H E hr
  refine ⟨ts, PSs.nox hder.pe, ?_⟩
  exact hder.sim _ F H _ m (fun x => Fg (SX x)) { nx := fun _ m' => Fg (Sv .non) m', rt := fun v => Fg (Sv v) } _ ⟨SR.start r, M, hx.fg⟩ (hev svs m SX Sv hsp) ⟨fun σ' δ' F' H' m' s' _ M' ⟨m2, l2, q⟩ => c .non F' H' .non m2 s' (M'.drop l2) .non q, fun v F' H' sv m' s' M' rv ⟨m2, l2, q⟩ => c v F' H' sv m2 s' (M'.drop l2) rv q, fun _ _ _ _ _ _ _ _ q => q.elim, fun _ _ _ _ _ _ _ _ q => q.elim⟩
theorem fn_syXQ {x q : Str} {st : Stmt} {f : Addr} {fd : FuncData} {N ps : List Str} {k : Nat} {sp : SpS} {dvs : List V} {kws : List (Str × V)} (Fn : FunD K x q (defArgs st) (defBody st) (defScope st) dvs kws f fd) (S : FnScope N ps (defScope st)) (hl : ∀ svs m SX Sv, sp svs m SX Sv → svs.length = ps.length)
    (hev : ∀ (cdv : Value) (A : Around) (outer : List Env) (s : Shared) (H : Hp) (E : XK), Room k (A.deeper (envOfC q (defScope st) s.heap.objs.size f cdv)) → ∃ ts ss, GSs K E (cxOf (L2.CX P w) P w K mg base N q (defScope st) f cdv A outer s H E) (defBody st) ts ss ∧
      ∀ svs m SX Sv, sp svs m SX Sv → ss (fun x => Fg (SX x)) { nx := fun _ m' => Fg (Sv .non) m', rt := fun v => Fg (Sv v) } (startD N.length svs) m) : FnOk P w K mg base (L2.CX P w) (k + 1) f fd ps (lift K sp) := by
  refine FunD.ok Fn S (fun vs H Q E h => by
    obtain ⟨F, svs, m, SX, Sv, _, h2, h3, _⟩ := h
    rw [vrs_length h2]; exact hl _ _ _ _ h3) (fun cdv A outer s H vs Q E hr h => ?_)
  obtain ⟨F, svs, m, SX, Sv, M, r, hsp, hx, c⟩ := h
  obtain ⟨ts, ss, hder, hev⟩ := hev cdv A outer s H E hr
  refine ⟨ts, hder.pe, ?_⟩
  exact hder.sim _ F H _ m (fun x => Fg (SX x)) { nx := fun _ m' => Fg (Sv .non) m', rt := fun v => Fg (Sv v) } _ ⟨SR.start r, M, hx.fg⟩ (hev svs m SX Sv hsp) ⟨fun σ' δ' F' H' m' s' _ M' ⟨m2, l2, q⟩ => c .non F' H' .non m2 s' (M'.drop l2) .non q, fun v F' H' sv m' s' M' rv ⟨m2, l2, q⟩ => c v F' H' sv m2 s' (M'.drop l2) rv q, fun _ _ _ _ _ _ _ _ q => q.elim, fun _ _ _ _ _ _ _ _ q => q.elim⟩
end
end Sy

set_option Elab.async false
set_option linter.all false
set_option maxRecDepth 100000
set_option maxHeartbeats 4000000
/-! Dicts with keys ints and texts, displays, enumerate, sorted, copies backward over symbolic values. -/
namespace Sy
open PySem PySem.Spec PyProof.Rows L2
def keyS : SV → Option Key
  | .int i => some (.inl i)
  | .str x => some (.inr x)
  | _ => none
def kS : Key → SV
  | .inl i => .int i
  | .inr x => .str x
theorem key_V {K : PySem.W.Frag} {F : Hp} {y : V} {a : SV} {k : Key} (r : VR K F y a) (h : keyS a = some k) : y = kV k := by
  cases r <;> first
    | (cases h; rfl)
    | (cases (show (none : Option Key) = some k from h))
theorem kS_V {K : PySem.W.Frag} {F : Hp} {y : V} {k : Key} (r : VR K F y (kS k)) : y = kV k := by
  cases k with
  | inl i => exact vr_int r
  | inr x => exact vr_str r
section
variable {κ : Type} [DecidableEq κ]
def valS (kvs : List (κ × SV)) (k : κ) : Option SV := (kvs.find? fun kv => decide (kv.1 = k)).map (·.2)
def putD (kvs : List (κ × SV)) (k : κ) (v : SV) : List (κ × SV) :=
  if (kvs.any fun kv => decide (kv.1 = k)) = true then kvs.map (fun kv => if kv.1 = k then (kv.1, v) else kv) else kvs ++ [(k, v)]
def dropD (kvs : List (κ × SV)) (k : κ) : List (κ × SV) := kvs.filter fun kv => decide (kv.1 ≠ k)
variable {K : PySem.W.Frag} {F : Hp}
theorem kr_val {k : κ} : ∀ {us : List (κ × V)} {kvs : List (κ × SV)}, KR K F us kvs → (valS kvs k = none ∧ valV us k = none) ∨ ∃ x v, valS kvs k = some x ∧ valV us k = some v ∧ VR K F v x
  | _, _, .nil => .inl ⟨rfl, rfl⟩
  | (g, v) :: us, (_, x) :: kvs, .cons a b => by
    by_cases e : g = k
    · refine .inr ⟨x, v, ?_, ?_, a⟩
      · simp [valS, List.find?_cons, e]
      · simp [valV, List.find?_cons, e]
    · have h1 : valS ((g, x) :: kvs) k = valS kvs k := by simp [valS, List.find?_cons, e]
      have h2 : valV ((g, v) :: us) k = valV us k := by simp [valV, List.find?_cons, e]
      rw [h1, h2]
      exact kr_val b
theorem kr_any {k : κ} {us : List (κ × V)} {kvs : List (κ × SV)} (h : KR K F us kvs) : (us.any fun kv => decide (kv.1 = k)) = kvs.any fun kv => decide (kv.1 = k) := by
  have e : ∀ {β : Type} (xs : List (κ × β)), (xs.any fun kv => decide (kv.1 = k)) = (xs.map (·.1)).any fun q => decide (q = k) := fun xs => by
    rw [List.any_map]; rfl
  rw [e us, e kvs, kr_keys h]
theorem kr_app : ∀ {us vs : List (κ × V)} {xs ys : List (κ × SV)}, KR K F us xs → KR K F vs ys → KR K F (us ++ vs) (xs ++ ys)
  | _, _, _, _, .nil, s => s
  | _, _, _, _, .cons r t, s => .cons r (kr_app t s)
theorem kr_rep {k : κ} {v : V} {x : SV} (r : VR K F v x) : ∀ {us : List (κ × V)} {kvs : List (κ × SV)}, KR K F us kvs → KR K F (us.map fun kv => if kv.1 = k then (kv.1, v) else kv) (kvs.map fun kv => if kv.1 = k then (kv.1, x) else kv)
  | _, _, .nil => .nil
  | (g, _) :: us, (_, _) :: kvs, .cons a b => by
    rw [List.map_cons, List.map_cons]
    by_cases e : g = k
    · simp only [e, if_true]; exact .cons r (kr_rep r b)
    · simp only [e, if_false]; exact .cons a (kr_rep r b)
theorem kr_putK {k : κ} {v : V} {x : SV} {us : List (κ × V)} {kvs : List (κ × SV)} (h : KR K F us kvs) (r : VR K F v x) : KR K F (putK us k v) (putD kvs k x) := by
  unfold putK putD
  rw [kr_any h]
  split
  · exact kr_rep r h
  · exact kr_app h (.cons r .nil)
theorem kr_drop {k : κ} : ∀ {us : List (κ × V)} {kvs : List (κ × SV)}, KR K F us kvs → KR K F (dropK us k) (dropD kvs k)
  | _, _, .nil => .nil
  | (g, v) :: us, (_, x) :: kvs, .cons a b => by
    have ih := kr_drop (k := k) b
    unfold dropK dropD at ih ⊢
    rw [List.filter_cons, List.filter_cons]
    by_cases e : g = k
    · simp only [e]; simpa using ih
    · simp only [e]; simpa [e] using KR.cons (k := g) a ih
end
/-! ### readings -/
def sDGet (d i : SE) : SE := fun SX δ m S => d SX δ m fun x m1 => i SX δ m1 fun y m2 => match x with
  | .ref a => ∃ kvs k v, m2 a = some (.dK kvs) ∧ keyS y = some k ∧ valS kvs k = some v ∧ S v m2
  | _ => False
/-- d.get(k) -/
def sDGet1 (d i : SE) : SE := fun SX δ m S => d SX δ m fun x m1 => match x with
  | .ref a => (∃ kvs, m1 a = some (.dK kvs)) ∧ i SX δ m1 fun y m2 => ∃ kvs k, m2 a = some (.dK kvs) ∧ keyS y = some k ∧ S ((valS kvs k).getD .non) m2
  | _ => False
/-- d[k] = v -/
def sDPutS (d i v : SE) : SS := fun SX D δ m => v SX δ m fun z m1 => d SX δ m1 fun x m2 => i SX δ m2 fun y m3 => match x with
  | .ref a => ∃ kvs k, m3 a = some (.dK kvs) ∧ keyS y = some k ∧ kvs.length < sizeLine ∧ D.nx δ (up m3 a (.dK (putD kvs k z)))
  | _ => False
def sDNew : SE := fun _ _ m S => ∀ p, m p = none → S (.ref p) (up m p (.dK []))
def sPairs : List (SE × SE) → SXK → DS → Mem → (List (SV × SV) → Mem → Prop) → Prop
  | [], _, _, m, S => S [] m
  | (k, v) :: r, SX, δ, m, S => k SX δ m fun x m1 => v SX δ m1 fun y m2 => sPairs r SX δ m2 fun ps m3 => S ((x, y) :: ps) m3
def mergeS (kvs more : List (Key × SV)) : List (Key × SV) := more.foldl (fun acc kv => putD acc kv.1 kv.2) kvs
def sDisp (srs : List (SE × SE)) : SE := fun SX δ m S => ∀ p, m p = none → sPairs srs SX δ (up m p (.dK [])) fun ps m2 => m2 p = some (.dK []) ∧ ∃ kvs : List (Key × SV), ps = kvs.map (fun kv => (kS kv.1, kv.2)) ∧ kvs.length ≤ 15 ∧ S (.ref p) (up m2 p (.dK (mergeS [] kvs)))
section
variable {K : PySem.W.Frag} {F H : Hp} {m : Mem} {a p : Addr}
theorem MR.nst {kvs : List (Key × SV)} (M : MR K F H m) (h : m a = some (.dK kvs)) : ∀ u, H a = some u → ¬ Still u := fun u hu x => by
  obtain ⟨us, z, _⟩ := (M.at_ _ _ h).2
  rw [z] at hu; cases hu; exact x
theorem MR.setD {kvs kvs' : List (Key × SV)} {us' : List (Key × V)} (M : MR K F H m) (h : m a = some (.dK kvs)) (r : KR K F us' kvs') : MR K F (upd H a (.dK us')) (up m a (.dK kvs')) := M.put h (M.nst h) ⟨us', upd_same, r⟩
theorem MR.newD {kvs' : List (Key × SV)} {us' : List (Key × V)} (M : MR K F H m) (h : H p = none) (r : KR K F us' kvs') : MR K F (upd H p (.dK us')) (up m p (.dK kvs')) := M.new_ h ⟨us', upd_same, r⟩
theorem kr_merge : ∀ {more : List (Key × V)} {rs : List (Key × SV)} {us : List (Key × V)} {kvs : List (Key × SV)}, KR K F more rs → KR K F us kvs → KR K F (mergeK us more) (mergeS kvs rs)
  | _, _, _, _, .nil, h => h
  | (k, v) :: more, (_, x) :: rs, us, kvs, .cons a b, h => by
    show KR K F (mergeK (putK us k v) more) (mergeS (putD kvs k x) rs)
    exact kr_merge b (kr_putK h a)
end
inductive PR2 (K : PySem.W.Frag) (F : Hp) : List (V × V) → List (SV × SV) → Prop
  | nil : PR2 K F [] []
  | cons {x y : V} {a b : SV} {ps : List (V × V)} {qs : List (SV × SV)} : VR K F x a → VR K F y b → PR2 K F ps qs → PR2 K F ((x, y) :: ps) ((a, b) :: qs)
theorem pr2_kr {K : PySem.W.Frag} {F : Hp} : ∀ {ps : List (V × V)} {kvs : List (Key × SV)}, PR2 K F ps (kvs.map fun kv => (kS kv.1, kv.2)) → ∃ us : List (Key × V), ps = us.map (fun kv => (kV kv.1, kv.2)) ∧ KR K F us kvs
  | [], [], _ => ⟨[], rfl, .nil⟩
  | _ :: _, [], h => by cases h
  | [], _ :: _, h => by cases h
  | (x, y) :: ps, (k, b) :: kvs, h => by
    rw [List.map_cons] at h
    cases h with
    | cons r1 r2 r3 =>
      obtain ⟨us, e, h2⟩ := pr2_kr r3
      subst e
      obtain rfl := kS_V r1
      exact ⟨(k, y) :: us, rfl, .cons r2 h2⟩
structure GPs (K : PySem.W.Frag) (E : XK) (X : Cx) (pos : Pos) (ks : List (Option Expr)) (vs : List Expr) (trs : List (TE × TE)) (srs : List (SE × SE)) : Prop where
  pe : PPs X pos ks vs trs
  sim : ∀ σ F H δ m SX (S : List (SV × SV) → Mem → Prop) (Q : List (V × V) → Hp → Prop), Rl K E σ F H δ m SX → sPairs srs SX δ m S → (∀ ps F' H' qs m', Sub F F' → MR K F' H' m' → PR2 K F' ps qs → S qs m' → Q ps H') → tPairs trs σ H Q
theorem pr2_sub {K : PySem.W.Frag} {F F' : Hp} (s : Sub F F') : ∀ {ps : List (V × V)} {qs : List (SV × SV)}, PR2 K F ps qs → PR2 K F' ps qs
  | _, _, .nil => .nil
  | _, _, .cons a b c => .cons (vr_sub s a) (vr_sub s b) (pr2_sub s c)
section
variable {K : PySem.W.Frag} {E : XK} {X : Cx} {pos apos cpos pos' : Pos} {o i e k v value : Expr} {ks : List (Option Expr)} {vs : List Expr} {trs : List (TE × TE)} {srs : List (SE × SE)} {td ty tk tv : TE} {sd sy sk sv : SE}
theorem gps_nil : GPs K E X pos [] [] [] [] := ⟨pps_nil, fun σ F H δ m SX S Q r h c => c [] F H [] m (.refl F) r.mr .nil h⟩
theorem gps_cons (hk : GE K E X k tk sk) (hv : GE K E X v tv sv) (hr : GPs K E X pos ks vs trs srs) : GPs K E X pos (some k :: ks) (v :: vs) ((tk, tv) :: trs) ((sk, sv) :: srs) := ⟨pps_cons hk.pe hv.pe hr.pe, fun σ F H δ m SX S Q r h c =>
  hk.sim σ F H δ m SX _ _ r h fun x F1 H1 a m1 s1 M1 v1 h1 => hv.sim σ F1 H1 δ m1 SX _ _ (r.go s1 M1) h1 fun y F2 H2 b m2 s2 M2 v2 h2 => hr.sim σ F2 H2 δ m2 SX _ _ (r.go (s1.trans s2) M2) h2 fun ps F3 H3 qs m3 s3 M3 v3 h3 =>
    c _ F3 H3 _ m3 ((s1.trans s2).trans s3) M3 (.cons (vr_sub (s2.trans s3) v1) (vr_sub s3 v2) v3) h3⟩
theorem ge_disp (h : GPs K E X pos ks vs trs srs) (hall : ks.all (·.isSome) = true) (hl : ks.length = vs.length) (h0 : ks ≠ []) (h15 : ks.length ≤ 15) : GE K E X (.Dict ks vs pos) (tDisp trs) (sDisp srs) := ⟨pe_disp h.pe hall hl h0 h15, fun σ F H δ m SX S Q r hh c => fun p hp =>
  h.sim σ F _ δ _ SX _ _ ⟨r.sr, r.mr.newD hp (us' := []) .nil, r.ex⟩ (hh p (r.mr.gone hp)) fun ps F1 H1 qs m1 s1 M1 v1 ⟨e1, kvs, e2, l, q⟩ => by
    subst e2
    obtain ⟨us, rfl, r2⟩ := pr2_kr v1
    obtain ⟨us0, e3, r3⟩ := (M1.at_ _ _ e1).2
    cases r3
    exact ⟨e3, us, rfl, by rw [kr_length r2]; exact l, c (.ref p) F1 _ _ _ s1 (M1.setD e1 (kr_merge r2 .nil)) (.ref p) q⟩⟩
theorem ge_dnew : GE K E X (.Dict [] [] pos) tDNewK sDNew := ⟨pe_dnewK, fun σ F H δ m SX S Q r h c => fun p hp => c (.ref p) F _ _ _ (.refl F) (r.mr.newD hp .nil) (.ref p) (h p (r.mr.gone hp))⟩
theorem ge_dget (hu : X.A.units + 1 < cLine) (ho : GE K E X o td sd) (hi : GE K E X i ty sy) (hs : NoSl i := by intro _ _; rfl) : GE K E X (.Subscript o i pos) (tDGet td ty) (sDGet sd sy) := ⟨pe_dget hu ho.pe hi.pe hs, fun σ F H δ m SX S Q r h c =>
  ho.sim σ F H δ m SX _ _ r h fun x F1 H1 a m1 s1 M1 v1 h1 => hi.sim σ F1 H1 δ m1 SX _ _ (r.go s1 M1) h1 fun y F2 H2 b m2 s2 M2 v2 h2 => by
    cases v1 <;> first
      | exact (show False from h2).elim
      | skip
    obtain ⟨kvs, k, u, e1, e2, e3, q⟩ := (show ∃ kvs k u, _ from h2)
    obtain ⟨us, g1, g2⟩ := (M2.at_ _ _ e1).2
    rcases kr_val (k := k) g2 with ⟨z, _⟩ | ⟨x', w, z1, z2, rw_⟩
    · rw [z] at e3; cases e3
    · rw [z1] at e3; cases e3
      refine ⟨_, w, rfl, ?_, c w F2 H2 _ m2 (s1.trans s2) M2 rw_ q⟩
      rw [key_V v2 e2, ← z2]
      exact .k g1⟩
theorem ge_dget1 (hu : X.A.units + 1 < cLine) (ho : GE K E X o td sd) (he : GE K E X e ty sy) (mm : M1 X o "get" apos e cpos := by exact ⟨rfl, rfl, rfl, rfl⟩) : GE K E X (.Call (.Attribute o "get" apos) [e] [] cpos) (tDGet1 td ty) (sDGet1 sd sy) := ⟨pe_dget1 hu ho.pe he.pe mm, fun σ F H δ m SX S Q r h c =>
  ho.sim σ F H δ m SX _ _ r h fun x F1 H1 a m1 s1 M1 v1 h1 => by
    cases v1 <;> first
      | exact (show False from h1).elim
      | skip
    obtain ⟨⟨kvs0, e0⟩, h1⟩ := (show (∃ kvs, _) ∧ _ from h1)
    obtain ⟨us0, g0, _⟩ := (M1.at_ _ _ e0).2
    refine ⟨_, rfl, .inl ⟨us0, .inl g0⟩, he.sim σ F1 H1 δ m1 SX _ _ (r.go s1 M1) h1 fun y F2 H2 b m2 s2 M2 v2 h2 => ?_⟩
    obtain ⟨kvs, k, e1, e2, q⟩ := h2
    obtain ⟨us, g1, g2⟩ := (M2.at_ _ _ e1).2
    refine ⟨valV us k, ?_, ?_⟩
    · rw [key_V v2 e2]; exact .k g1
    · rcases kr_val (k := k) g2 with ⟨z1, z2⟩ | ⟨x', w, z1, z2, rw_⟩
      · rw [z1] at q; rw [z2]
        exact c .non F2 H2 .non m2 (s1.trans s2) M2 .non q
      · rw [z1] at q; rw [z2]
        exact c w F2 H2 x' m2 (s1.trans s2) M2 rw_ q⟩
theorem gs_dput (hu : X.A.units + 1 < cLine) (ho : GE K E X o td sd) (hi : GE K E X i ty sy) (hv : GE K E X value tv sv) (hs : swapsWith value (some (.Subscript o i pos')) pos.line X.env = pure false := by rfl) : GS K E X (.Assign [.Subscript o i pos'] value pos) (sDPut td ty tv) (sDPutS sd sy sv) := ⟨ps_dput hu ho.pe hi.pe hv.pe hs, fun σ F H δ m SX D Es r h q =>
  hv.sim σ F H δ m SX _ _ r h fun z F1 H1 a m1 s1 M1 v1 h1 => ho.sim σ F1 H1 δ m1 SX _ _ (r.go s1 M1) h1 fun x F2 H2 b m2 s2 M2 v2 h2 => hi.sim σ F2 H2 δ m2 SX _ _ (r.go (s1.trans s2) M2) h2 fun y F3 H3 b m3 s3 M3 v3 h3 => by
    cases v2 <;> first
      | exact (show False from h3).elim
      | skip
    obtain ⟨kvs, k, e1, e2, e3, q2⟩ := (show ∃ kvs k, _ from h3)
    obtain ⟨us, g1, g2⟩ := (M3.at_ _ _ e1).2
    have s123 := (s1.trans s2).trans s3
    refine ⟨_, _, rfl, ?_, q.nx σ δ F3 _ _ s123 (r.sr.sub s123) (M3.setD e1 (kr_putK (k := k) g2 (vr_sub (s2.trans s3) v1))) q2⟩
    rw [key_V v3 e2]
    exact .k g1 (by rw [kr_length g2]; exact e3)⟩
end
/-! ### sorted of a dict with int keys -/
def rSortDI : List V → Hp → VK → Prop := fun xs H Q => ∃ (a : Addr) (kvs : List (Key × V)) (ks : List Int), xs = [.ref a] ∧ L2.Rd H a (.dK kvs) ∧ kvs.map (·.1) = ks.map Sum.inl ∧ ks.length < 64 ∧
    ∀ (ys : List Int) (p : Addr), ys.Perm ks → ys.Pairwise (· ≤ ·) → H p = none → Q (.ref p) (upd H p (.lst (ys.map V.int)))
theorem cr_sortDI {X : Cx} (hc : X.calm = true := by rfl) : CallR X (.builtin "sorted") rSortDI := call_sortedDI hc
def srtI (ks : List Int) : List Int := ks.mergeSort (fun a b => decide (a ≤ b))
theorem srt_uniq : ∀ {xs ys : List Int}, xs.Perm ys → xs.Pairwise (· ≤ ·) → ys.Pairwise (· ≤ ·) → xs = ys := fun p h1 h2 => p.eq_of_pairwise (fun a b _ _ h3 h4 => Int.le_antisymm h3 h4) h1 h2
theorem srtI_perm (ks : List Int) : (srtI ks).Perm ks := List.mergeSort_perm ks _
theorem srtI_pw (ks : List Int) : (srtI ks).Pairwise (· ≤ ·) := by
  have h := List.pairwise_mergeSort (le := fun a b : Int => decide (a ≤ b)) (fun a b c h1 h2 => by simp at h1 h2 ⊢; omega) (fun a b => by simp; omega) ks
  exact h.imp fun q => by simpa using q
def sSortDI : SRC := fun vs m S => match vs with
  | [.ref a] => ∃ (kvs : List (Key × SV)) (ks : List Int), m a = some (.dK kvs) ∧ kvs.map (·.1) = ks.map Sum.inl ∧ ks.length < 64 ∧ ∀ p, m p = none → S (.ref p) (up m p (.lst ((srtI ks).map SV.int)))
  | _ => False
theorem sim_sortDI {K : PySem.W.Frag} : SimC K rSortDI sSortDI := fun F H m xs as S Q M rs h c => by
  unfold sSortDI at h
  split at h
  · obtain ⟨kvs, ks, e1, e2, e3, q⟩ := h
    obtain ⟨v, rfl, rv⟩ := vrs_one rs
    obtain rfl := vr_ref rv
    obtain ⟨us, g1, g2⟩ := (M.at_ _ _ e1).2
    refine ⟨_, us, ks, rfl, .inl g1, by rw [kr_keys g2]; exact e2, e3, fun ys p h1 h2 hp => ?_⟩
    have e : ys = srtI ks := srt_uniq (h1.trans (srtI_perm ks).symm) h2 (srtI_pw ks)
    subst e
    exact c (.ref p) F _ _ _ (.refl F) (M.newL hp (vrs_of_ints _)) (.ref p) (q p (M.gone hp))
  · exact h.elim
/-! ### enumerate(list) -/
def enS : Int → List SV → List SV
  | _, [] => []
  | i, x :: r => .tup [.int i, x] :: enS (i + 1) r
theorem enS_len : ∀ (xs : List SV) (i : Int), (enS i xs).length = xs.length
  | [], _ => rfl
  | _ :: r, i => by rw [enS, List.length_cons, List.length_cons, enS_len r]
theorem enS_get : ∀ (xs : List SV) (i : Int) (j : Nat) (y : SV), (enS i xs)[j]? = some y → ∃ x, xs[j]? = some x ∧ y = .tup [.int (i + (j : Nat)), x]
  | [], _, _, _, e => by simp [enS] at e
  | x :: r, i, 0, y, e => by
    simp [enS] at e
    exact ⟨x, rfl, by rw [← e]; simp⟩
  | x :: r, i, j + 1, y, e => by
    obtain ⟨x', h1, h2⟩ := enS_get r (i + 1) j y (by simpa [enS] using e)
    refine ⟨x', by simpa using h1, ?_⟩
    rw [h2]
    congr 3
    push_cast
    omega
def sEnumI (a : SA) : SI := fun SX δ m R => a SX δ m fun xs m1 => match xs with
  | [x] => ∃ ys, ItsL m1 x ys ∧ R (enS 0 ys) (keepOf x ys) m1
  | _ => False
theorem one_any {xs : List SV} {P : SV → Prop} (h : match xs with | [x] => P x | _ => False) : ∃ x, xs = [x] ∧ P x := by
  split at h
  · exact ⟨_, rfl, h⟩
  · exact h.elim
theorem it_e {K : PySem.W.Frag} {F : Hp} {a : Addr} {ys : List SV} {keep : Mem → Prop} (h : ∀ F' H' m', Sub F F' → MR K F' H' m' → keep m' → ∃ vs, SqL K H' a vs ∧ VRs K F' vs ys) : ItOk K F (Ite K a) (enS 0 ys) keep where
  go := fun i F' H' m' x s M k e => by
    obtain ⟨vs, h1, h2⟩ := h F' H' m' s M k
    obtain ⟨z, hz, rfl⟩ := enS_get _ _ _ _ e
    obtain ⟨v, hv, rv⟩ := vrs_get h2 hz
    refine ⟨⟨vs, v, h1, hv⟩, fun w H'' hy => ?_⟩
    obtain ⟨T, y, rfl, hT, rfl, hy⟩ := hy
    have q := hy vs h1
    rw [hv] at q
    cases q
    refine ⟨upd F' T _, Sub.new (M.sub.gone hT), M.frz hT, .tup (.inl (.inl upd_same)) (.cons ?_ (.cons (vr_sub (Sub.new (M.sub.gone hT)) rv) .nil))⟩
    have e0 : (0 : Int) + (i : Nat) = (i : Nat) := by omega
    rw [e0]
    exact .int _
  stop := fun F' H' m' s M k => by
    obtain ⟨vs, h1, h2⟩ := h F' H' m' s M k
    exact ⟨vs, h1, by rw [enS_len, vrs_length h2]; exact Nat.le_refl _⟩
section
variable {K : PySem.W.Frag} {E : XK} {X : Cx} {e : Expr} {p pos tpos : Pos} {elts : List Expr} {kk : Nat} {t : TA} {s : SA} {te : TE} {se : SE}
theorem gi_enumerate (hg : Gl X "enumerate") (hm : X.mg "enumerate" = none) (ha : GA K E X [e] t s) (hs : starEach [e] X.env = [(false, eval e X.env)] := by rfl) (hK : X.K = K := by rfl) : GI K E X (.Tuple elts kk tpos) (.Call (.Name "enumerate" p) [e] [] pos) (iEnum K t) (sEnumI s) := by
  subst hK
  exact ⟨pi_enum hg hm ha.pe hs, fun σ F H δ m SX R R' r hh c => ha.sim σ F H δ m SX _ _ r hh fun v F1 H1 sv m1 s1 M1 v1 h1 => by
    obtain ⟨x, rfl, ys, hi, q⟩ := one_any h1
    obtain ⟨w, rfl, rw_⟩ := vrs_one v1
    cases rw_ with
    | lst g1 g2 =>
      cases (show ys = _ from hi)
      exact ⟨_, _, rfl, sql_sub M1.sub g1, c _ _ _ F1 H1 m1 s1 M1 (it_e fun F2 H2 m2 s2 M2 _ => ⟨_, sql_sub (s2.trans M2.sub) g1, vrs_sub s2 g2⟩) q⟩
    | ref b =>
      obtain ⟨vs, e1, _⟩ := M1.lst_ (show m1 b = some (.lst ys) from hi)
      exact ⟨_, _, rfl, .inl (.inl e1), c _ _ _ F1 H1 m1 s1 M1 (it_e fun F2 H2 m2 s2 M2 k => by
        obtain ⟨ws, e2, r2⟩ := M2.lst_ (show m2 b = some (.lst ys) from k)
        exact ⟨ws, .inl (.inl e2), r2⟩) q⟩
    | _ => exact (show False from hi).elim⟩
/-! ### xs[::-1], [..] * n -/
def sRev (a : SE) : SE := fun SX δ m S => a SX δ m fun x m1 => ∃ ys, ItsL m1 x ys ∧ ∀ p, m1 p = none → S (.ref p) (up m1 p (.lst ys.reverse))
theorem vrs_rev {F : Hp} : ∀ {vs : List V} {xs : List SV}, VRs K F vs xs → VRs K F vs.reverse xs.reverse
  | _, _, .nil => .nil
  | _, _, .cons a b => by
    rw [List.reverse_cons, List.reverse_cons]
    exact vrs_append (vrs_rev b) (.cons a .nil)
theorem ge_rev {k : Nat} {p1 p2 p3 : Pos} (he : GE K E X e te se) (hK : X.K = K := by rfl) : GE K E X (.Subscript e (.Slice none none (some (.UnaryOp .USub (.Constant (.int 1) k p1) p2)) p3) pos) (tRevL K te) (sRev se) := by
  subst hK
  exact ⟨pe_revL he.pe, fun σ F H δ m SX S Q r h c => he.sim σ F H δ m SX _ _ r h fun x F1 H1 a m1 s1 M1 v1 h1 => by
    obtain ⟨ys, hi, q⟩ := h1
    obtain ⟨p, vs, rfl, hs, r2⟩ := its_lst M1 v1 hi
    exact ⟨p, vs, rfl, hs, fun d hd => c (.ref d) F1 _ _ _ s1 (M1.newL hd (vrs_rev r2)) (.ref d) (q d (M1.gone hd))⟩⟩
def sRep : SR2 := fun x y m S => match x, y with
  | .ref a, .int k => ∃ xs, m a = some (.lst xs) ∧ (-(2 ^ 63) ≤ k ∧ k < 2 ^ 63 ∧ xs.length * k.toNat ≤ sizeLine) ∧ ∀ p, m p = none → S (.ref p) (up m p (.lst (List.replicate k.toNat xs).flatten))
  | _, _ => False
theorem vrs_rep {F : Hp} {vs : List V} {xs : List SV} (h : VRs K F vs xs) : ∀ n : Nat, VRs K F (List.replicate n vs).flatten (List.replicate n xs).flatten
  | 0 => .nil
  | n + 1 => by
    rw [List.replicate_succ, List.replicate_succ, List.flatten_cons, List.flatten_cons]
    exact vrs_append h (vrs_rep h n)
theorem sim_rep : SimR K rRep sRep := fun F H m x y a b S Q M ra rb h c => by
  cases ra <;> cases rb <;> first
    | exact (show False from h).elim
    | skip
  obtain ⟨xs, e1, ⟨h1, h2, h3⟩, q⟩ := (show ∃ xs, _ from h)
  obtain ⟨vs, e2, r2⟩ := M.lst_ e1
  exact ⟨_, _, vs, rfl, rfl, e2, h1, h2, by rw [vrs_length r2]; exact h3, fun p hp => c (.ref p) F _ _ _ (.refl F) (M.newL hp (vrs_rep r2 _)) (.ref p) (q p (M.gone hp))⟩
end
end Sy

set_option Elab.async false
set_option linter.all false
set_option maxRecDepth 100000
set_option maxHeartbeats 4000000
/-! A def that may raise, called where it doesn't (within a comprehension). -/
namespace Sy
open PySem PySem.Spec PyProof.Rows L2
def calm (sp : SpS) : SpS := fun vs m _ S => sp vs m (fun _ _ => False) S
theorem fn_calm {P : Program} {w : World} {K : PySem.W.Frag} {mg : Str → Option Value} {base : Heap} {k : Nat} {f : Addr} {fd : FuncData} {ps : List Str} {sp : SpS} (F : FnOk P w K mg base (L2.CX P w) k f fd ps (lift K sp)) : FnOk P w K mg base CX0 k f fd ps (lift K (calm sp)) := by
  have key : ∀ vs H Q E, lift K (calm sp) vs H Q E → lift K sp vs H Q (fun _ _ _ => False) := fun vs H Q E ⟨F0, svs, m, SX, S, M, r, h, _, c⟩ => ⟨F0, svs, m, fun _ _ => False, S, M, r, h, fun x d F' H' m' _ _ _ z => z.elim, c⟩
  refine ⟨fun vs H Q E h => F.len _ _ _ _ (key vs H Q E h), fun A outer s H args us vs Q E hr he hb hv hs => ?_⟩
  refine codeAny_mono (F.run A outer s H args us vs Q _ hr he hb hv (key vs H Q E hs)) fun r s' hq => ?_
  cases r with
  | error e =>
    obtain ⟨_, _, _, _, _, _, _, _, _, _, _, _, z⟩ := hq
    exact z.elim
  | ok fl =>
    cases fl with
    | ret u => exact hq
    | next => exact hq
    | brk => exact hq
    | cont => exact hq
end Sy

set_option Elab.async false
set_option linter.all false
set_option maxRecDepth 100000
set_option maxHeartbeats 4000000
/-! a, b = x, y of plain names -/
namespace Sy
open PySem PySem.Spec PyProof.Rows L2
def sPar (i j : Nat) (sa : SA) : SS := fun SX D δ m => sa SX δ m fun vs m1 => match vs with
  | [v, w] => D.nx ((δ.set i (some v)).set j (some w)) m1
  | _ => False
def sPar3 (i j l : Nat) (sa : SA) : SS := fun SX D δ m => sa SX δ m fun vs m1 => match vs with
  | [u, v, w] => D.nx (((δ.set i (some u)).set j (some v)).set l (some w)) m1
  | _ => False
theorem two_any {xs : List SV} {P : SV → SV → Prop} (h : match xs with | [x, y] => P x y | _ => False) : ∃ x y, xs = [x, y] ∧ P x y := by
  split at h
  · exact ⟨_, _, rfl, h⟩
  · exact h.elim
theorem three_any {xs : List SV} {P : SV → SV → SV → Prop} (h : match xs with | [x, y, z] => P x y z | _ => False) : ∃ x y z, xs = [x, y, z] ∧ P x y z := by
  split at h
  · exact ⟨_, _, _, rfl, h⟩
  · exact h.elim
section
variable {K : PySem.W.Frag} {E : XK} {X : Cx} {a b c : Expr} {ta : TA} {sa : SA} {pos px py pz pt pt2 : Pos} {kt k2 : Nat} {i j l : Nat} {x y z : Str}
theorem gs_par (hc : X.calm = true) (hN : X.N.Nodup) (hi : X.N[i]? = some x) (hj : X.N[j]? = some y) (hij : i ≠ j)
    (hx : X.env.scope.names.lookup x = some .local) (hy : X.env.scope.names.lookup y = some .local) (ha : GA K E X [a, b] ta sa)
    (hw : swappedStores [.Tuple [.Name x px, .Name y py] kt pt] (.Tuple [a, b] k2 pt2) X.env = pure (some [x, y]) := by rfl)
    (hs : swapsWithSole [.Tuple [.Name x px, .Name y py] kt pt] (.Tuple [a, b] k2 pt2) pos.line X.env = pure false := by rfl) :
    GS K E X (.Assign [.Tuple [.Name x px, .Name y py] kt pt] (.Tuple [a, b] k2 pt2) pos) (tPar i j ta) (sPar i j sa) :=
  ⟨ps_par hc hN hi hj hij hx hy ha.pe hw hs, fun σ F H δ m SX D Es r h q => ha.sim σ F H δ m SX _ _ r h fun vs F1 H1 svs m1 s1 M1 v1 h1 => by
    obtain ⟨v, w, rfl, h1⟩ := two_any h1
    obtain ⟨v', w', rfl, r1, r2⟩ := vrs_two v1
    exact ⟨v', w', rfl, q.nx _ _ F1 H1 m1 s1 (((r.sr.sub s1).set r1).set r2) M1 h1⟩⟩
theorem vrs_three {F : Hp} {vs : List V} {x y z : SV} (h : VRs K F vs [x, y, z]) : ∃ u v w, vs = [u, v, w] ∧ VR K F u x ∧ VR K F v y ∧ VR K F w z := by
  cases h with
  | cons r t =>
    obtain ⟨v, w, rfl, q1, q2⟩ := vrs_two t
    exact ⟨_, _, _, rfl, r, q1, q2⟩
theorem gs_par3 (hc : X.calm = true) (hN : X.N.Nodup) (hi : X.N[i]? = some x) (hj : X.N[j]? = some y) (hl : X.N[l]? = some z) (hij : i ≠ j) (hil : i ≠ l) (hjl : j ≠ l)
    (hx : X.env.scope.names.lookup x = some .local) (hy : X.env.scope.names.lookup y = some .local) (hz : X.env.scope.names.lookup z = some .local) (ha : GA K E X [a, b, c] ta sa)
    (hw : swappedStores [.Tuple [.Name x px, .Name y py, .Name z pz] kt pt] (.Tuple [a, b, c] k2 pt2) X.env = pure (some [x, y, z]) := by rfl)
    (hs : swapsWithSole [.Tuple [.Name x px, .Name y py, .Name z pz] kt pt] (.Tuple [a, b, c] k2 pt2) pos.line X.env = pure false := by rfl) :
    GS K E X (.Assign [.Tuple [.Name x px, .Name y py, .Name z pz] kt pt] (.Tuple [a, b, c] k2 pt2) pos) (tPar3 i j l ta) (sPar3 i j l sa) :=
  ⟨ps_par3 hc hN hi hj hl hij hil hjl hx hy hz ha.pe hw hs, fun σ F H δ m SX D Es r h q => ha.sim σ F H δ m SX _ _ r h fun vs F1 H1 svs m1 s1 M1 v1 h1 => by
    obtain ⟨u, v, w, rfl, h1⟩ := three_any h1
    obtain ⟨u', v', w', rfl, r1, r2, r3⟩ := vrs_three v1
    exact ⟨u', v', w', rfl, q.nx _ _ F1 H1 m1 s1 ((((r.sr.sub s1).set r1).set r2).set r3) M1 h1⟩⟩
theorem op_notBA : OpR X (compareOp .IsNot) (fun x y H Q => ∃ b : Bool, y = .bl b ∧ Q (.bl (!decide (x = .bl b))) H) := by
  intro pins s σ H x y v u Q I rx ry h
  obtain ⟨b, rfl, q⟩ := h
  cases (show u = Value.bool b from ry)
  have no : ∀ {v : Value}, plainIs v (.bool b) = true → v ≠ .bool b → x ≠ .bl b → wpAny (model X.prog X.w) X.A (compareOp .IsNot v (.bool b)) (EP X pins σ Q) X.xe s := fun h1 h2 h3 =>
    wpAny_isNot_other h1 h2 ⟨.bl true, H, I, rfl, by rw [decide_eq_false h3] at q; exact q⟩
  cases x with
  | bl a =>
    cases (show v = Value.bool a from rx)
    by_cases e : a = b
    · subst e
      exact wpAny_isNot_self rfl ⟨.bl false, H, I, rfl, by simpa using q⟩
    · exact no rfl (fun z => e (Value.bool.inj z)) fun z => e (V.bl.inj z)
  | _ => first
    | (cases rx; exact no rfl (fun z => by cases z) fun z => by cases z)
    | (obtain ⟨t, rfl⟩ := rx; exact no rfl (fun z => by cases z) fun z => by cases z)
end
def isBl (x : SV) (b : Bool) : Bool := match x with
  | .bl a => decide (a = b)
  | _ => false
def sNotBA : SR2 := fun x y m S => match y with
  | .bl b => S (.bl (!isBl x b)) m
  | _ => False
theorem sim_notBA {K : PySem.W.Frag} : SimR K (fun x y H Q => ∃ b : Bool, y = .bl b ∧ Q (.bl (!decide (x = .bl b))) H) sNotBA := fun F H m x y a b S Q M ra rb h c => by
  cases rb <;> first
    | exact (show False from h).elim
    | skip
  rename_i b
  refine ⟨b, rfl, ?_⟩
  have e : decide (x = V.bl b) = isBl a b := by
    cases ra with
    | bl a => exact dec_inj (fun _ _ z => V.bl.inj z) _ _
    | _ => exact decide_eq_false fun z => by cases z
  rw [e]
  exact c _ F H _ m (.refl F) M (.bl _) h
/-- one def, two promises -/
theorem fn_or {P : Program} {w : World} {K : PySem.W.Frag} {mg : Str → Option Value} {base : Heap} {CX : CXT} {k : Nat} {f : Addr} {fd : FuncData} {ps : List Str} {sp sp' : SpS} (F : FnOk P w K mg base CX k f fd ps (lift K sp)) (G : FnOk P w K mg base CX k f fd ps (lift K sp')) : FnOk P w K mg base CX k f fd ps (lift K fun vs m SX S => sp vs m SX S ∨ sp' vs m SX S) := by
  have key : ∀ vs H Q E, lift K (fun vs m SX S => sp vs m SX S ∨ sp' vs m SX S) vs H Q E → lift K sp vs H Q E ∨ lift K sp' vs H Q E := fun vs H Q E ⟨F0, svs, m, SX, S, M, r, h, x, c⟩ => h.elim (fun h => .inl ⟨F0, svs, m, SX, S, M, r, h, x, c⟩) (fun h => .inr ⟨F0, svs, m, SX, S, M, r, h, x, c⟩)
  refine ⟨fun vs H Q E h => (key vs H Q E h).elim (F.len _ _ _ _) (G.len _ _ _ _), fun A outer s H args us vs Q E hr he hb hv hs => (key vs H Q E hs).elim (F.run A outer s H args us vs Q E hr he hb hv) (G.run A outer s H args us vs Q E hr he hb hv)⟩
end Sy

set_option Elab.async false
set_option linter.all false
set_option maxRecDepth 100000
set_option maxHeartbeats 4000000
/-! sorted(set(xs)), len(set(xs)) of a list of ints; d.get(k, x). -/
namespace Sy
open PySem PySem.Spec PyProof.Rows L2
/-- an empty set's object -/
abbrev nset (w : World) : Obj := { cls := .type "set", dict := none, data := .set #[] 0 (.fresh 0 0 (!w.params.followText "set-order")) }
section
variable {P : Program} {w : World} {A : Around} {E : Value → Shared → Prop} {s : Shared}
/-- what stands behind the making of a set out of ns -/
def Made (w : World) (s : Shared) (ns : List Int) (r : Value) (s2 : Shared) : Prop := r = .none ∧ ∃ h' tk c, s2 = { s with heap := h', toks := tk } ∧ SetR w h' s.heap.objs.size (fun j => decide (j ∈ ns)) c ∧ c ≤ ns.length ∧ ∀ b o, s.heap.get? b = some o → h'.get? b = some o
theorem fill_list {l : Addr} {items : Array Value} (ns : List Int) (hh : A.handled = none) (hl : s.heap.IsList l items) (hit : IntsAre items.toList ns) (hb : ns.length + 1 < scanBound) :
    codeAny (model P w) A (.call (.builtin "set.__init__") ⟨[.ref s.heap.objs.size, .ref l], []⟩) (wants (Made w s ns) E) { s with heap := s.heap.push (nset w) } := by
  have sz : items.size = ns.length := (Array.length_toList).symm.trans (IntsAre.length hit)
  have here : (s.heap.push (nset w)).get? s.heap.objs.size = some (nset w) := Heap.get?_push_size _ rfl
  have ty : Shared.TypeIs { s with heap := s.heap.push (nset w) } (.ref s.heap.objs.size) "set" := ⟨_, here, rfl⟩
  refine codeAny_call_builtin F.called_set.init.plain F.entry_set_init (check_set_init_1 ty ?_)
  obtain ⟨⟨c0, d0, t0, f0⟩, g0, g1, n0, g2⟩ := hl
  simp only at g1 g2
  subst g1 g2
  have there : (s.heap.push (nset w)).get? l = some { cls := .type "list", dict := d0, data := .seq items n0, slots := f0 } := Heap.get?_push_of_some _ g0
  have a1 := F.sub_list_set
  have a2 := F.sub_list_frozenset
  have a3 : (Value.type "list" == Value.type "dict") = false := by decide
  have il : (s.heap.push (nset w)).IsList l items := ⟨_, there, rfl, n0, rfl⟩
  unfold Builtin.«set.__init__» noKeywords Builtin.Frozenset.updateFrom
  generalize pe : pyIter = PI
  wp_walk
  subst pe
  refine wpAny_pyIter_list il (wpAny_bind (wpAny_runValue ?_))
  have lo : l < s.heap.objs.size := Heap.lt_size g0
  have up1 : (s.heap.push (nset w)).objs.size = s.heap.objs.size + 1 := Heap.size_push ..
  have calm : A.in1.in1.handled = none := by simp [hh]
  have far : l ≠ (s.heap.push (nset w)).objs.size := fun z => absurd (Nat.lt_of_lt_of_le lo (Nat.le_succ _)) (by rw [z, up1]; exact Nat.lt_irrefl _)
  have self : ∀ n : Nat, ¬ n = n + 1 := fun n z => by omega
  have out : s.heap.objs.size ∉ [(s.heap.push (nset w)).objs.size, l] := by
    rw [up1]
    intro z
    rcases List.mem_cons.mp z with z | z
    · exact self _ z
    · exact absurd lo (by rw [← List.mem_singleton.mp z]; exact Nat.lt_irrefl _)
  have vals : ∀ (i : Nat) (v : Value), items[i]? = some v → ∃ k t, ns[i]? = some k ∧ v = .int k t := fun i v hv => by
    have hi : i < ns.length := sz ▸ (Array.getElem?_eq_some_iff.mp hv).1
    obtain ⟨t, e⟩ := IntsAre.int_at hit i v (by rw [Array.getElem?_toList]; exact hv)
    exact ⟨ns[i], t, List.getElem?_eq_getElem hi, by rw [e, List.getD_eq_getElem?_getD, List.getElem?_eq_getElem hi]; rfl⟩
  refine set_update_ints ((Walks.list calm _ l far items).toS) s.heap.objs.size out ns sz hb vals (items.size - 0) 0 _ (by omega) (Nat.zero_le _) ?ini ⟨0, Nat.le_refl 0, ?st⟩ fun s' c' hm hc' hS' => ?_
  case ini => exact ⟨⟨_, Heap.get?_push_size _ rfl, rfl, rfl⟩, il.push _⟩
  case st => exact setR_new_at (w := w) (h := (s.heap.push (nset w)).push { cls := .type "list_iterator", data := .fields #[.ref l, .int 0 0] }) (Heap.get?_push_of_some _ here)
  obtain ⟨h', g2, d2, tk', o2⟩ := s'
  obtain rfl : g2 = s.gens := hm.gens
  obtain rfl : d2 = s.drawn := hm.drawn
  obtain rfl : o2 = s.os := hm.os
  show wpAny _ _ _ _ _ _
  refine wpAny_pure ?_
  show wpAny _ _ (ret Value.none) _ _ _
  refine wpAny_pure ⟨rfl, h', tk', c', rfl, hS', sz ▸ hc', fun b o e => hm.heap b o (fun z => ?_) (Heap.get?_push_of_some _ (Heap.get?_push_of_some _ e))⟩
  have lb := Heap.lt_size e
  rcases List.mem_cons.mp z with z | z
  · rw [z] at lb; exact Nat.lt_irrefl _ lb
  · rw [List.mem_singleton.mp z, up1] at lb
    exact absurd lb (Nat.not_lt.mpr (Nat.le_succ _))
theorem set_lst {l : Addr} {items : Array Value} (ns : List Int) {Q : Value → Shared → Prop} (hh : A.handled = none) (hl : s.heap.IsList l items) (hit : IntsAre items.toList ns) (hb : ns.length + 1 < scanBound)
    (h : ∀ (h' : Heap) (tk c : Nat), SetR w h' s.heap.objs.size (fun j => decide (j ∈ ns)) c → c ≤ ns.length → (∀ b o, s.heap.get? b = some o → h'.get? b = some o) → Q (.ref s.heap.objs.size) { s with heap := h', toks := tk }) : wpAny (model P w) A (call (.type "set") [.ref l]) Q E s := by
  obtain ⟨c, tl, b1⟩ := F.called_set.mro
  have b2 := F.called_set.made
  have b3 := F.called_set.sub
  refine wpAny_call (codeAny_of_tree ?_)
  show wpAny _ _ (callAny (.type "set") _) _ _ _
  refine wpAny_pure ⟨Code.quiet_builtin _ (by decide +kernel), codeAny_builtin F.entry_type_call ?_⟩
  rw [Around.under_plain (weight_type_call_type "set" [.ref l] []) rfl]
  have b4 := F.called_set.notType
  have b5 := F.called_set.canCreate
  have b6 := F.typeCall_set_1 (.ref l)
  repeat (any_goals (first | assumption | wp_step))
  refine codeAny_mono (code_set_led1 (.ref l) (E := E) (Q₁ := fun obj s1 => obj = .ref s.heap.objs.size ∧ s1 = { s with heap := s.heap.push (nset w) }) ⟨rfl, rfl⟩) fun r s1 hr => ?_
  match r, hr with
  | .error e, hr => exact hr
  | .ok (.ret obj), hr =>
    obtain ⟨rfl, rfl⟩ := hr
    have ty : Shared.TypeIs { s with heap := s.heap.push (nset w) } (.ref s.heap.objs.size) "set" := ⟨_, Heap.get?_push_size _ rfl, rfl⟩
    have b7 := F.called_set.init.lookup
    have b8 := F.called_set.init.bind (.ref s.heap.objs.size)
    repeat (any_goals (first | assumption | wp_step))
    refine codeAny_mono (fill_list (E := E) ns (by simp [hh]) hl hit hb) fun r2 s2 hr2 => ?_
    match r2, hr2 with
    | .error e, hr2 => exact hr2
    | .ok (.ret r), hr2 =>
      obtain ⟨rfl, h', tk, c', rfl, z1, z2, z3⟩ := hr2
      repeat (any_goals (first | assumption | wp_step))
      exact h _ _ _ z1 z2 z3
    | .ok .next, hr2 => exact hr2.elim
    | .ok .brk, hr2 => exact hr2.elim
    | .ok .cont, hr2 => exact hr2.elim
  | .ok .next, hr => exact hr.elim
  | .ok .brk, hr => exact hr.elim
  | .ok .cont, hr => exact hr.elim
end
def rSetI (K : PySem.W.Frag) (w : World) : List V → Hp → VK → Prop := fun xs H Q => ∃ (l : Addr) (ns : List Int), xs = [V.ref l] ∧ SqL K H l (ns.map V.int) ∧ ns.length < 64 ∧ ∀ (p : Addr) (c : Nat), H p = none → c ≤ ns.length → Q (.ref p) (upd H p (SetO w p (fun j => decide (j ∈ ns)) c))
theorem cr_setI {X : Cx} (K : PySem.W.Frag) (hc : X.calm = true := by rfl) (hK : X.K = K := by rfl) : CallR X (.type "set") (rSetI K X.w) := by
  subst hK
  intro pins s σ H vs us Q I r h
  obtain ⟨l, ns, rfl, hs, hn, q⟩ := h
  obtain ⟨its, rv, hl, _⟩ := I.list hs
  rw [Vals.ref1 r]
  refine set_lst ns (I.ok.hd hc) hl.isList (by simpa using rv.ints) (by unfold scanBound; omega) fun h' tk c R hc2 keep => ?_
  exact ⟨.ref _, upd H s.heap.objs.size (SetO X.w s.heap.objs.size (fun j => decide (j ∈ ns)) c), I.laid (t' := tk) keep (Nat.le_refl _) (setO_new R), rfl, q _ c (I.hok.fresh (Nat.le_refl _)) hc2⟩
def sSetI (w : World) : SRC := fun vs m S => match vs with
  | [x] => ∃ ns : List Int, ItsL m x (ns.map .int) ∧ ns.length < 64 ∧ ∀ (p : Addr) (c : Nat), m p = none → c ≤ ns.length → S (.ref p) (up m p (.raw (SetO w p (fun j => decide (j ∈ ns)) c)))
  | _ => False
theorem sim_setI {K : PySem.W.Frag} {w : World} : SimC K (rSetI K w) (sSetI w) := fun F H m xs as S Q M rs h c => by
  unfold sSetI at h
  split at h
  · obtain ⟨ns, h1, hn, q⟩ := h
    obtain ⟨v, rfl, rv⟩ := vrs_one rs
    obtain ⟨p, vs, rfl, hs, r2⟩ := its_lst M rv h1
    obtain rfl := vrs_ints r2
    exact ⟨p, ns, rfl, hs, hn, fun l k hl hk => c (.ref l) F _ _ _ (.refl F) (M.new_ (o := .raw (SetO w l (fun j => decide (j ∈ ns)) k)) hl (show upd H l _ l = some _ from upd_same)) (.ref l) (q l k (M.gone hl) hk)⟩
  · exact h.elim
def sSortS (w : World) : SRC := fun vs m S => match vs with
  | [.ref a] => ∃ (ns : List Int) (c : Nat), m a = some (.raw (SetO w a (fun j => decide (j ∈ ns)) c)) ∧ c < 64 ∧ ∀ (ys : List Int) (p : Addr), ys.Pairwise (· < ·) → (∀ k, k ∈ ys ↔ k ∈ ns) → m p = none → S (.ref p) (up m p (.lst (ys.map .int)))
  | _ => False
theorem sim_sortS {K : PySem.W.Frag} {w : World} : SimC K (rSortedSet w) (sSortS w) := fun F H m xs as S Q M rs h c => by
  unfold sSortS at h
  split at h
  · obtain ⟨ns, k, e1, e2, q⟩ := h
    obtain ⟨v, rfl, rv⟩ := vrs_one rs
    obtain rfl := vr_ref rv
    exact ⟨_, _, k, rfl, (M.at_ _ _ e1).2, e2, fun ys p h1 h2 _ hp => c (.ref p) F _ _ _ (.refl F) (M.newL hp (vrs_of_ints _)) (.ref p) (q ys p h1 (fun j => (h2 j).trans (by simp)) (M.gone hp))⟩
  · exact h.elim
/-- len(set(xs)), unlike ints -/
def sLenSet (a : SE) : SE := fun SX δ m S => a SX δ m fun x m1 => ∃ ns : List Int, ItsL m1 x (ns.map .int) ∧ ns.length < 64 ∧ ns.Nodup ∧ S (.int ns.length) m1
theorem ge_lenSet {K : PySem.W.Frag} {E : XK} {X : Cx} {a : Expr} {ta : TE} {sa : SE} {p p2 q pos : Pos} (hc : X.calm = true) (hg : Gl X "len") (hm : X.mg "len" = none) (hg2 : Gl X "set") (hm2 : X.mg "set" = none) (ha : GE K E X a ta sa)
    (na : starEach [a] X.env = (false, eval a X.env) :: starEach [] X.env := by rfl) (hK : X.K = K := by rfl) : GE K E X (.Call (.Name "len" p) [.Call (.Name "set" p2) [a] [] q] [] pos) (tLenSetI K ta) (sLenSet sa) := by
  subst hK
  exact ⟨pe_lenSetI hc hg hm hg2 hm2 ha.pe na, fun σ F H δ m SX S Q r h c => ha.sim σ F H δ m SX _ _ r h fun v F1 H1 sv m1 s1 M1 v1 h1 => by
    obtain ⟨ns, h1, h2, h3, q⟩ := h1
    obtain ⟨p, vs, rfl, hs, r2⟩ := its_lst M1 v1 h1
    obtain rfl := vrs_ints r2
    exact ⟨p, ns, rfl, hs, h2, h3, c _ F1 H1 _ m1 s1 M1 (.int _) q⟩⟩
/-- d.get(k, x) -/
def sDGet2 (d i f : SE) : SE := fun SX δ m S => d SX δ m fun x m1 => match x with
  | .ref a => (∃ kvs, m1 a = some (.dK kvs)) ∧ i SX δ m1 fun y m2 => f SX δ m2 fun z m3 => ∃ kvs k, m3 a = some (.dK kvs) ∧ keyS y = some k ∧ S ((valS kvs k).getD z) m3
  | _ => False
theorem ge_dget2 {K : PySem.W.Frag} {E : XK} {X : Cx} {o e f : Expr} {td ty tx : TE} {sd sy sx : SE} {apos cpos : Pos} (hu : X.A.units + 1 < cLine) (ho : GE K E X o td sd) (he : GE K E X e ty sy) (hf : GE K E X f tx sx) (mm : M2 X o "get" apos e f cpos := by exact ⟨rfl, rfl, rfl, rfl⟩) : GE K E X (.Call (.Attribute o "get" apos) [e, f] [] cpos) (tDGet2 td ty tx) (sDGet2 sd sy sx) := ⟨pe_dget2 hu ho.pe he.pe hf.pe mm, fun σ F H δ m SX S Q r h c =>
  ho.sim σ F H δ m SX _ _ r h fun x F1 H1 a m1 s1 M1 v1 h1 => by
    cases v1 <;> first
      | exact (show False from h1).elim
      | skip
    obtain ⟨⟨kvs0, e0⟩, h1⟩ := (show (∃ kvs, _) ∧ _ from h1)
    obtain ⟨us0, g0, _⟩ := (M1.at_ _ _ e0).2
    refine ⟨_, rfl, .inl ⟨us0, .inl g0⟩, he.sim σ F1 H1 δ m1 SX _ _ (r.go s1 M1) h1 fun y F2 H2 b m2 s2 M2 v2 h2 => hf.sim σ F2 H2 δ m2 SX _ _ (r.go (s1.trans s2) M2) h2 fun z F3 H3 d m3 s3 M3 v3 h3 => ?_⟩
    obtain ⟨kvs, k, e1, e2, q⟩ := h3
    obtain ⟨us, g1, g2⟩ := (M3.at_ _ _ e1).2
    have s13 := (s1.trans s2).trans s3
    refine ⟨valV us k, ?_, ?_⟩
    · rw [key_V v2 e2]; exact .k g1
    · rcases kr_val (k := k) g2 with ⟨z1, z2⟩ | ⟨x', w, z1, z2, rw_⟩
      · rw [z1] at q; rw [z2]
        exact c z F3 H3 d m3 s13 M3 v3 q
      · rw [z1] at q; rw [z2]
        exact c w F3 H3 x' m3 s13 M3 rw_ q⟩
end Sy

set_option Elab.async false
set_option linter.all false
set_option maxRecDepth 100000
set_option maxHeartbeats 4000000
/-! k in d; x in a list of data of any depth. -/
namespace Sy
open PySem PySem.Spec PyProof.Rows L2
theorem _root_.L2.Room.u65 {k : Nat} {A : Around} (r : L2.Room k A) : A.units + 65 < cLine := by have := r.un; omega
def sInD (neg : Bool) : SR2 := fun x y m S => ∃ d ds, Rd m x d ∧ Rd m y (.list ds) ∧ SeqAt.shaped d = true ∧ SeqAt.shaped (.list ds) = true ∧ S (.bl (if neg then !(ds.any fun z => PyData.eqv z d) else ds.any fun z => PyData.eqv z d)) m
section
variable {K : PySem.W.Frag} {E : XK} {X : Cx} {a b : Expr} {ta tb : TE} {sa sb : SE} {pos : Pos}
theorem op_inDG (K : PySem.W.Frag) (hu : X.A.units + 65 < cLine) (hK : X.K = K := by rfl) : OpR X (compareOp .In) (rInD K) := by subst hK; exact op_inD hu
theorem op_notInDG (K : PySem.W.Frag) (hu : X.A.units + 65 < cLine) (hK : X.K = K := by rfl) : OpR X (compareOp .NotIn) (rNotInD K) := by subst hK; exact op_notInD hu
theorem sim_inD : SimR K (rInD K) (sInD false) := fun F H m x y a b S Q M ra rb h c => by
  obtain ⟨d, ds, h1, h2, h3, h4, q⟩ := h
  exact ⟨d, ds, rd_dp M h1 ra, rd_dp M h2 rb, h3, h4, c _ F H _ m (.refl F) M (.bl _) q⟩
theorem sim_notInD : SimR K (rNotInD K) (sInD true) := fun F H m x y a b S Q M ra rb h c => by
  obtain ⟨d, ds, h1, h2, h3, h4, q⟩ := h
  exact ⟨d, ds, rd_dp M h1 ra, rd_dp M h2 rb, h3, h4, c _ F H _ m (.refl F) M (.bl _) q⟩
/-- k in d -/
def sDIn (i d : SE) : SE := fun SX δ m S => i SX δ m fun y m1 => d SX δ m1 fun x m2 => match x with
  | .ref a => ∃ kvs k, m2 a = some (.dK kvs) ∧ keyS y = some k ∧ S (.bl (valS kvs k).isSome) m2
  | _ => False
theorem sim_din (hi : SimE K E ta sa) (ho : SimE K E tb sb) : SimE K E (tDIn ta tb) (sDIn sa sb) := fun σ F H δ m SX S Q r h c =>
  hi σ F H δ m SX _ _ r h fun y F1 H1 sy m1 s1 M1 v1 h1 => ho σ F1 H1 δ m1 SX _ _ (r.go s1 M1) h1 fun x F2 H2 sx m2 s2 M2 v2 h2 => by
    cases v2 <;> first
      | exact (show False from h2).elim
      | skip
    obtain ⟨kvs, k, e1, e2, q⟩ := (show ∃ kvs k, _ from h2)
    obtain ⟨us, g1, g2⟩ := (M2.at_ _ _ e1).2
    refine ⟨_, valV us k, rfl, ?_, ?_⟩
    · rw [key_V (vr_sub s2 v1) e2]; exact .k g1
    · have e : (valV us k).isSome = (valS kvs k).isSome := by
        rcases kr_val (k := k) g2 with ⟨z1, z2⟩ | ⟨x', w, z1, z2, _⟩
        · rw [z1, z2]; rfl
        · rw [z1, z2]; rfl
      rw [e]
      exact c _ F2 H2 _ m2 (s1.trans s2) M2 (.bl _) q
theorem ge_din (hu : X.A.units + 1 < cLine) (hi : GE K E X a ta sa) (ho : GE K E X b tb sb) (hm : behindInMarks .In b = false) : GE K E X (.Compare a [.In] [b] pos) (tDIn ta tb) (sDIn sa sb) := ⟨pe_cmp (pc_din hu hi.pe ho.pe) hm, sim_din hi.sim ho.sim⟩
theorem gt_din (hu : X.A.units + 1 < cLine) (hi : GE K E X a ta sa) (ho : GE K E X b tb sb) (hm : behindInMarks .In b = false) : GT K E X (.Compare a [.In] [b] pos) (tB (tDIn ta tb)) (sB (sDIn sa sb)) := ⟨pt_cmp (pc_din hu hi.pe ho.pe) hm, sim_val (sim_din hi.sim ho.sim)⟩
end
mutual
/-- data without dicts, its == -/
def NoD : PyData → Prop
  | .list a => NoDs a
  | .tuple a => NoDs a
  | .dict _ => False
  | _ => True
def NoDs : List PyData → Prop
  | [] => True
  | a :: r => NoD a ∧ NoDs r
end
mutual
theorem eqv_refl : ∀ d : PyData, NoD d → PyData.eqv d d = true
  | .none, _ => by simp [PyData.eqv]
  | .bool b, _ => by cases b <;> simp [PyData.eqv]
  | .int _, _ => by simp [PyData.eqv]
  | .str _, _ => by simp [PyData.eqv]
  | .list a, h => by simp only [PyData.eqv]; exact eqvAll_refl a h
  | .tuple a, h => by simp only [PyData.eqv]; exact eqvAll_refl a h
  | .dict _, h => h.elim
theorem eqvAll_refl : ∀ d : List PyData, NoDs d → PyData.eqvAll d d = true
  | [], _ => by simp [PyData.eqvAll]
  | a :: r, h => by
    simp only [PyData.eqvAll, Bool.and_eq_true]
    exact ⟨eqv_refl a h.1, eqvAll_refl r h.2⟩
end
theorem noDs_of : ∀ {ds : List PyData}, (∀ d ∈ ds, NoD d) → NoDs ds
  | [], _ => trivial
  | _ :: _, h => ⟨h _ List.mem_cons_self, noDs_of fun d hd => h d (List.mem_cons_of_mem _ hd)⟩
/-- data that == compares -/
def Shp (n : Nat) (d : PyData) : Prop := PyData.canLay0 d = true ∧ PyData.depth d ≤ n
theorem shp_list {n : Nat} {ds : List PyData} (h : ∀ d ∈ ds, Shp n d) : Shp (n + 1) (.list ds) ∧ Shp (n + 1) (.tuple ds) := by
  have key : ∀ (ds : List PyData), (∀ d ∈ ds, Shp n d) → PyData.canLayAll0 ds = true ∧ PyData.depthAll ds ≤ n := fun ds => by
    induction ds with
    | nil => exact fun _ => ⟨by simp [PyData.canLayAll0], by simp [PyData.depthAll]⟩
    | cons a r ih =>
      intro h
      obtain ⟨i1, i2⟩ := ih fun d hd => h d (List.mem_cons_of_mem _ hd)
      obtain ⟨j1, j2⟩ := h a List.mem_cons_self
      refine ⟨by simp [PyData.canLayAll0, i1, j1], ?_⟩
      simp only [PyData.depthAll]
      omega
  obtain ⟨k1, k2⟩ := key ds h
  exact ⟨⟨by simp only [PyData.canLay0, k1], by simp only [PyData.depth]; omega⟩, ⟨by simp only [PyData.canLay0, k1], by simp only [PyData.depth]; omega⟩⟩
theorem shp_ok {n : Nat} {d : PyData} (h : Shp n d) (hn : n ≤ 64) : SeqAt.shaped d = true := by
  unfold SeqAt.shaped
  rw [h.1, Bool.true_and]
  exact decide_eq_true (Nat.le_trans h.2 hn)
theorem shp_int {n : Nat} (i : Int) : Shp n (.int i) := ⟨by simp [PyData.canLay0], by simp [PyData.depth]⟩
theorem shp_none {n : Nat} : Shp n .none := ⟨by simp [PyData.canLay0], by simp [PyData.depth]⟩
theorem shp_bool {n : Nat} (b : Bool) : Shp n (.bool b) := ⟨by simp [PyData.canLay0], by simp [PyData.depth]⟩
theorem shp_str {n : Nat} {x : Str} (h : PyData.strOk x = true) : Shp n (.str x) := ⟨by simp [PyData.canLay0, h], by simp [PyData.depth]⟩
end Sy

set_option Elab.async false
set_option linter.all false
set_option maxRecDepth 100000
set_option maxHeartbeats 4000000
namespace Hn
open PySem PySem.Spec PyProof.Rows L2 Sy
def top (i : Nat) : Stmt := PySem.Challenge.pw_hushnotice_k11_whole_bells_ring_in_calm.main.body.getD i (.Pass ⟨0, 0, 0, 0⟩)
abbrev s_is_number : Stmt := top 8
abbrev s_is_whole : Stmt := top 9
abbrev s_refuse_bad_many : Stmt := top 10
abbrev s_refuse_bad_device : Stmt := top 11
abbrev s_refuse_bad_bell : Stmt := top 12
abbrev s_word_to : Stmt := top 28
abbrev s_law_begun : Stmt := top 32
abbrev s_law_take : Stmt := top 33
abbrev s_law_alike : Stmt := top 34
abbrev s_law_house : Stmt := top 35
abbrev s_law_post : Stmt := top 36
abbrev s_law_hear : Stmt := top 37
abbrev s_law_turn : Stmt := top 38
abbrev s_law_round : Stmt := top 39
abbrev s_law_rang_at : Stmt := top 40
abbrev s_law_taken : Stmt := top 41
abbrev s_law_is_quiet : Stmt := top 42
abbrev s_law : Stmt := top 43
theorem sc_is_number : FnScope ["x"] ["x"] (defScope s_is_number) := ⟨rfl, rfl, rfl, by decide +kernel, rfl, by decide +kernel, by decide +kernel⟩
theorem sc_is_whole : FnScope ["x", "low", "high"] ["x", "low", "high"] (defScope s_is_whole) := ⟨rfl, rfl, rfl, by decide +kernel, rfl, by decide +kernel, by decide +kernel⟩
theorem sc_refuse_bad_many : FnScope ["many"] ["many"] (defScope s_refuse_bad_many) := ⟨rfl, rfl, rfl, by decide +kernel, rfl, by decide +kernel, by decide +kernel⟩
theorem sc_refuse_bad_device : FnScope ["device", "many"] ["device", "many"] (defScope s_refuse_bad_device) := ⟨rfl, rfl, rfl, by decide +kernel, rfl, by decide +kernel, by decide +kernel⟩
theorem sc_refuse_bad_bell : FnScope ["bell", "many"] ["bell", "many"] (defScope s_refuse_bad_bell) := ⟨rfl, rfl, rfl, by decide +kernel, rfl, by decide +kernel, by decide +kernel⟩
theorem sc_word_to : FnScope ["device", "state", "owner"] ["device", "state", "owner"] (defScope s_word_to) := ⟨rfl, rfl, rfl, by decide +kernel, rfl, by decide +kernel, by decide +kernel⟩
theorem sc_law_begun : FnScope ["_law_script", "_law_stirred", "_law_cell"] ["_law_script"] (defScope s_law_begun) := ⟨rfl, rfl, rfl, by decide +kernel, rfl, by decide +kernel, by decide +kernel⟩
theorem sc_law_take : FnScope ["_law_box", "_law_many", "_law_number"] ["_law_box", "_law_many"] (defScope s_law_take) := ⟨rfl, rfl, rfl, by decide +kernel, rfl, by decide +kernel, by decide +kernel⟩
theorem sc_law_alike : FnScope ["_law_found", "_law_due", "_law_k"] ["_law_found", "_law_due"] (defScope s_law_alike) := ⟨rfl, rfl, rfl, by decide +kernel, rfl, by decide +kernel, by decide +kernel⟩
theorem sc_law_house : FnScope ["_law_box", "_law_many", "_law_k"] ["_law_box"] (defScope s_law_house) := ⟨rfl, rfl, rfl, by decide +kernel, rfl, by decide +kernel, by decide +kernel⟩
theorem sc_law_post : FnScope ["_law_box", "_law_h", "_law_k", "_law_some", "_law_letter"] ["_law_box", "_law_h"] (defScope s_law_post) := ⟨rfl, rfl, rfl, by decide +kernel, rfl, by decide +kernel, by decide +kernel⟩
theorem sc_law_hear : FnScope ["_law_box", "_law_h", "_law_k", "_law_goal", "_law_letter", "_law_way"] ["_law_box", "_law_h"] (defScope s_law_hear) := ⟨rfl, rfl, rfl, by decide +kernel, rfl, by decide +kernel, by decide +kernel⟩
theorem sc_law_turn : FnScope ["_law_box", "_law_h", "_law_way", "_law_k", "_law_bell"] ["_law_box", "_law_h"] (defScope s_law_turn) := ⟨rfl, rfl, rfl, by decide +kernel, rfl, by decide +kernel, by decide +kernel⟩
theorem sc_law_round : FnScope ["_law_h", "_law_told", "_law_k", "_law_letter", "_law_device", "_law_one"] ["_law_h"] (defScope s_law_round) := ⟨rfl, rfl, rfl, by decide +kernel, rfl, by decide +kernel, by decide +kernel⟩
theorem sc_law_rang_at : FnScope ["_law_h", "_law_bell", "_law_k"] ["_law_h", "_law_bell"] (defScope s_law_rang_at) := ⟨rfl, rfl, rfl, by decide +kernel, rfl, by decide +kernel, by decide +kernel⟩
theorem sc_law_taken : FnScope ["_law_box", "_law_h", "_law_found", "_law_k", "_law_bell"] ["_law_box", "_law_h"] (defScope s_law_taken) := ⟨rfl, rfl, rfl, by decide +kernel, rfl, by decide +kernel, by decide +kernel⟩
theorem sc_law_is_quiet : FnScope ["_law_h", "_law_taken_here", "_law_bell", "_law_state", "_law_some", "_law_k"] ["_law_h", "_law_taken_here"] (defScope s_law_is_quiet) := ⟨rfl, rfl, rfl, by decide +kernel, rfl, by decide +kernel, by decide +kernel⟩
theorem sc_law : FnScope ["_law_script", "_law_box", "_law_h", "_law_turn_here", "_law_k", "_law_bell", "_law_calm", "_law_some", "_law_taken_here", "_law_states", "_law_rang", "_law_device", "_law_goal", "_law_letter"] ["_law_script"] (defScope s_law) := ⟨rfl, rfl, rfl, by decide +kernel, rfl, by decide +kernel, by decide +kernel⟩
abbrev s_Desk___init__ : Stmt := inClass (top 29) 0
theorem sc_Desk___init__ : FnScope ["self", "many"] ["self", "many"] (defScope s_Desk___init__) := ⟨rfl, rfl, rfl, by decide +kernel, rfl, by decide +kernel, by decide +kernel⟩
abbrev s_Desk_offer : Stmt := inClass (top 29) 1
theorem sc_Desk_offer : FnScope ["self"] ["self"] (defScope s_Desk_offer) := ⟨rfl, rfl, rfl, by decide +kernel, rfl, by decide +kernel, by decide +kernel⟩
abbrev s_Desk_withdraw : Stmt := inClass (top 29) 2
theorem sc_Desk_withdraw : FnScope ["self", "bell", "state", "owner"] ["self", "bell"] (defScope s_Desk_withdraw) := ⟨rfl, rfl, rfl, by decide +kernel, rfl, by decide +kernel, by decide +kernel⟩
abbrev s_Desk_letters : Stmt := inClass (top 29) 3
theorem sc_Desk_letters : FnScope ["self", "device", "bell", "state", "owner"] ["self", "device"] (defScope s_Desk_letters) := ⟨rfl, rfl, rfl, by decide +kernel, rfl, by decide +kernel, by decide +kernel⟩
abbrev s_Desk_hear : Stmt := inClass (top 29) 4
theorem sc_Desk_hear : FnScope ["self", "letter", "word", "device", "bell", "state", "_"] ["self", "letter"] (defScope s_Desk_hear) := ⟨rfl, rfl, rfl, by decide +kernel, rfl, by decide +kernel, by decide +kernel⟩
abbrev s_Desk_state : Stmt := inClass (top 29) 5
theorem sc_Desk_state : FnScope ["self", "bell", "state", "owner"] ["self", "bell"] (defScope s_Desk_state) := ⟨rfl, rfl, rfl, by decide +kernel, rfl, by decide +kernel, by decide +kernel⟩
abbrev s_Device___init__ : Stmt := inClass (top 30) 0
theorem sc_Device___init__ : FnScope ["self", "number"] ["self", "number"] (defScope s_Device___init__) := ⟨rfl, rfl, rfl, by decide +kernel, rfl, by decide +kernel, by decide +kernel⟩
abbrev s_Device_turn : Stmt := inClass (top 30) 1
theorem sc_Device_turn : FnScope ["self", "on"] ["self", "on"] (defScope s_Device_turn) := ⟨rfl, rfl, rfl, by decide +kernel, rfl, by decide +kernel, by decide +kernel⟩
abbrev s_Device_hear : Stmt := inClass (top 30) 2
theorem sc_Device_hear : FnScope ["self", "letter", "word", "device", "bell", "state"] ["self", "letter"] (defScope s_Device_hear) := ⟨rfl, rfl, rfl, by decide +kernel, rfl, by decide +kernel, by decide +kernel⟩
abbrev s_Device_take : Stmt := inClass (top 30) 3
theorem sc_Device_take : FnScope ["self", "bell"] ["self", "bell"] (defScope s_Device_take) := ⟨rfl, rfl, rfl, by decide +kernel, rfl, by decide +kernel, by decide +kernel⟩
abbrev s_Device_letters : Stmt := inClass (top 30) 4
theorem sc_Device_letters : FnScope ["self", "wanted", "bell"] ["self"] (defScope s_Device_letters) := ⟨rfl, rfl, rfl, by decide +kernel, rfl, by decide +kernel, by decide +kernel⟩
abbrev s_Device_rings : Stmt := inClass (top 30) 5
theorem sc_Device_rings : FnScope ["self"] ["self"] (defScope s_Device_rings) := ⟨rfl, rfl, rfl, by decide +kernel, rfl, by decide +kernel, by decide +kernel⟩
abbrev s_Device_rang : Stmt := inClass (top 30) 6
theorem sc_Device_rang : FnScope ["self"] ["self"] (defScope s_Device_rang) := ⟨rfl, rfl, rfl, by decide +kernel, rfl, by decide +kernel, by decide +kernel⟩
abbrev s_Device__among : Stmt := inClass (top 30) 7
theorem sc_Device__among : FnScope ["self", "state", "bell"] ["self", "state"] (defScope s_Device__among) := ⟨rfl, rfl, rfl, by decide +kernel, rfl, by decide +kernel, by decide +kernel⟩
open He in
structure Tx (K : PySem.W.Frag) (mg : Str → Option Value) where
  fd_is_number : FuncData
  F_is_number : FnP K "is_number" s_is_number (ga K "is_number") fd_is_number
  fd_is_whole : FuncData
  F_is_whole : FnP K "is_whole" s_is_whole (ga K "is_whole") fd_is_whole
  fd_refuse_bad_many : FuncData
  F_refuse_bad_many : FnP K "refuse_bad_many" s_refuse_bad_many (ga K "refuse_bad_many") fd_refuse_bad_many
  fd_refuse_bad_device : FuncData
  F_refuse_bad_device : FnP K "refuse_bad_device" s_refuse_bad_device (ga K "refuse_bad_device") fd_refuse_bad_device
  fd_refuse_bad_bell : FuncData
  F_refuse_bad_bell : FnP K "refuse_bad_bell" s_refuse_bad_bell (ga K "refuse_bad_bell") fd_refuse_bad_bell
  fd_word_to : FuncData
  F_word_to : FnP K "word_to" s_word_to (ga K "word_to") fd_word_to
  fd__law_begun : FuncData
  F__law_begun : FnP K "_law_begun" s_law_begun (ga K "_law_begun") fd__law_begun
  fd__law_take : FuncData
  F__law_take : FnP K "_law_take" s_law_take (ga K "_law_take") fd__law_take
  fd__law_alike : FuncData
  F__law_alike : FnP K "_law_alike" s_law_alike (ga K "_law_alike") fd__law_alike
  fd__law_house : FuncData
  F__law_house : FnP K "_law_house" s_law_house (ga K "_law_house") fd__law_house
  fd__law_post : FuncData
  F__law_post : FnP K "_law_post" s_law_post (ga K "_law_post") fd__law_post
  fd__law_hear : FuncData
  F__law_hear : FnP K "_law_hear" s_law_hear (ga K "_law_hear") fd__law_hear
  fd__law_turn : FuncData
  F__law_turn : FnP K "_law_turn" s_law_turn (ga K "_law_turn") fd__law_turn
  fd__law_round : FuncData
  F__law_round : FnP K "_law_round" s_law_round (ga K "_law_round") fd__law_round
  fd__law_rang_at : FuncData
  F__law_rang_at : FnP K "_law_rang_at" s_law_rang_at (ga K "_law_rang_at") fd__law_rang_at
  fd__law_taken : FuncData
  F__law_taken : FnP K "_law_taken" s_law_taken (ga K "_law_taken") fd__law_taken
  fd__law_is_quiet : FuncData
  F__law_is_quiet : FnP K "_law_is_quiet" s_law_is_quiet (ga K "_law_is_quiet") fd__law_is_quiet
  fd_law : FuncData
  F_law : FnP K "law" s_law (ga K "law") fd_law
  g_is_number : mg "is_number" = some (.ref (ga K "is_number"))
  k_is_number : PySem.W.keepIn K (.ref (ga K "is_number")) = true
  g_is_whole : mg "is_whole" = some (.ref (ga K "is_whole"))
  k_is_whole : PySem.W.keepIn K (.ref (ga K "is_whole")) = true
  g_refuse_bad_many : mg "refuse_bad_many" = some (.ref (ga K "refuse_bad_many"))
  k_refuse_bad_many : PySem.W.keepIn K (.ref (ga K "refuse_bad_many")) = true
  g_refuse_bad_device : mg "refuse_bad_device" = some (.ref (ga K "refuse_bad_device"))
  k_refuse_bad_device : PySem.W.keepIn K (.ref (ga K "refuse_bad_device")) = true
  g_refuse_bad_bell : mg "refuse_bad_bell" = some (.ref (ga K "refuse_bad_bell"))
  k_refuse_bad_bell : PySem.W.keepIn K (.ref (ga K "refuse_bad_bell")) = true
  g_word_to : mg "word_to" = some (.ref (ga K "word_to"))
  k_word_to : PySem.W.keepIn K (.ref (ga K "word_to")) = true
  g__law_begun : mg "_law_begun" = some (.ref (ga K "_law_begun"))
  k__law_begun : PySem.W.keepIn K (.ref (ga K "_law_begun")) = true
  g__law_take : mg "_law_take" = some (.ref (ga K "_law_take"))
  k__law_take : PySem.W.keepIn K (.ref (ga K "_law_take")) = true
  g__law_alike : mg "_law_alike" = some (.ref (ga K "_law_alike"))
  k__law_alike : PySem.W.keepIn K (.ref (ga K "_law_alike")) = true
  g__law_house : mg "_law_house" = some (.ref (ga K "_law_house"))
  k__law_house : PySem.W.keepIn K (.ref (ga K "_law_house")) = true
  g__law_post : mg "_law_post" = some (.ref (ga K "_law_post"))
  k__law_post : PySem.W.keepIn K (.ref (ga K "_law_post")) = true
  g__law_hear : mg "_law_hear" = some (.ref (ga K "_law_hear"))
  k__law_hear : PySem.W.keepIn K (.ref (ga K "_law_hear")) = true
  g__law_turn : mg "_law_turn" = some (.ref (ga K "_law_turn"))
  k__law_turn : PySem.W.keepIn K (.ref (ga K "_law_turn")) = true
  g__law_round : mg "_law_round" = some (.ref (ga K "_law_round"))
  k__law_round : PySem.W.keepIn K (.ref (ga K "_law_round")) = true
  g__law_rang_at : mg "_law_rang_at" = some (.ref (ga K "_law_rang_at"))
  k__law_rang_at : PySem.W.keepIn K (.ref (ga K "_law_rang_at")) = true
  g__law_taken : mg "_law_taken" = some (.ref (ga K "_law_taken"))
  k__law_taken : PySem.W.keepIn K (.ref (ga K "_law_taken")) = true
  g__law_is_quiet : mg "_law_is_quiet" = some (.ref (ga K "_law_is_quiet"))
  k__law_is_quiet : PySem.W.keepIn K (.ref (ga K "_law_is_quiet")) = true
  g_law : mg "law" = some (.ref (ga K "law"))
  k_law : PySem.W.keepIn K (.ref (ga K "law")) = true
  g_NoticeError : mg "NoticeError" = some (.ref (ga K "NoticeError"))
  k_NoticeError : PySem.W.keepIn K (.ref (ga K "NoticeError")) = true
  g_BadDevice : mg "BadDevice" = some (.ref (ga K "BadDevice"))
  k_BadDevice : PySem.W.keepIn K (.ref (ga K "BadDevice")) = true
  g_BadBell : mg "BadBell" = some (.ref (ga K "BadBell"))
  k_BadBell : PySem.W.keepIn K (.ref (ga K "BadBell")) = true
  g_NotRinging : mg "NotRinging" = some (.ref (ga K "NotRinging"))
  k_NotRinging : PySem.W.keepIn K (.ref (ga K "NotRinging")) = true
  g_IsOff : mg "IsOff" = some (.ref (ga K "IsOff"))
  k_IsOff : PySem.W.keepIn K (.ref (ga K "IsOff")) = true
  g_Desk : mg "Desk" = some (.ref (ga K "Desk"))
  k_Desk : PySem.W.keepIn K (.ref (ga K "Desk")) = true
  g_Device : mg "Device" = some (.ref (ga K "Device"))
  k_Device : PySem.W.keepIn K (.ref (ga K "Device")) = true
  x_NoticeError : PySem.W.excIn K (ga K "NoticeError") veBase "ValueError.__new__" = true
  e_NoticeError : PySem.W.subIn K (.ref (ga K "NoticeError")) (.type "BaseException") = some true
  t_NoticeError : PySem.W.typeIn K (.ref (ga K "NoticeError")) = some (.type "type")
  x_BadDevice : PySem.W.excIn K (ga K "BadDevice") veBase "ValueError.__new__" = true
  e_BadDevice : PySem.W.subIn K (.ref (ga K "BadDevice")) (.type "BaseException") = some true
  t_BadDevice : PySem.W.typeIn K (.ref (ga K "BadDevice")) = some (.type "type")
  x_BadBell : PySem.W.excIn K (ga K "BadBell") veBase "ValueError.__new__" = true
  e_BadBell : PySem.W.subIn K (.ref (ga K "BadBell")) (.type "BaseException") = some true
  t_BadBell : PySem.W.typeIn K (.ref (ga K "BadBell")) = some (.type "type")
  x_NotRinging : PySem.W.excIn K (ga K "NotRinging") veBase "ValueError.__new__" = true
  e_NotRinging : PySem.W.subIn K (.ref (ga K "NotRinging")) (.type "BaseException") = some true
  t_NotRinging : PySem.W.typeIn K (.ref (ga K "NotRinging")) = some (.type "type")
  x_IsOff : PySem.W.excIn K (ga K "IsOff") veBase "ValueError.__new__" = true
  e_IsOff : PySem.W.subIn K (.ref (ga K "IsOff")) (.type "BaseException") = some true
  t_IsOff : PySem.W.typeIn K (.ref (ga K "IsOff")) = some (.type "type")
  i_MOST_DEVICES : ∃ t, mg "MOST_DEVICES" = some (.int (4) t)
  i_OPEN : ∃ t, mg "OPEN" = some (.str "open" t)
  i_GRANTED : ∃ t, mg "GRANTED" = some (.str "granted" t)
  i_TAKEN : ∃ t, mg "TAKEN" = some (.str "taken" t)
  i_WITHDRAWN : ∃ t, mg "WITHDRAWN" = some (.str "withdrawn" t)
  i_WANTED : ∃ t, mg "WANTED" = some (.str "wanted" t)
  i_RINGING : ∃ t, mg "RINGING" = some (.str "ringing" t)
  i_TO_BE_NOTED : ∃ t, mg "TO_BE_NOTED" = some (.str "to be noted" t)
  i_OVER : ∃ t, mg "OVER" = some (.str "over" t)
  i_OFFER : ∃ t, mg "OFFER" = some (.str "offer" t)
  i_GRANT : ∃ t, mg "GRANT" = some (.str "grant" t)
  i_GONE : ∃ t, mg "GONE" = some (.str "gone" t)
  i_NOTED : ∃ t, mg "NOTED" = some (.str "noted" t)
  i_WANT : ∃ t, mg "WANT" = some (.str "want" t)
  i_TOOK : ∃ t, mg "TOOK" = some (.str "took" t)
  c_Desk : Cls K (ga K "Desk")
  mk_Desk : Mk K (ga K "Desk") (ma K (ga K "Desk") "__init__")
  n_Desk__many : NoAttr K (ga K "Desk") "_many"
  n_Desk__bells : NoAttr K (ga K "Desk") "_bells"
  fd_Desk___init__ : FuncData
  F_Desk___init__ : FnM K "__init__" "Desk.__init__" s_Desk___init__ (ma K (ga K "Desk") "__init__") fd_Desk___init__
  M_Desk___init__ : Meth K (ga K "Desk") "__init__" (ma K (ga K "Desk") "__init__")
  fd_Desk_offer : FuncData
  F_Desk_offer : FnM K "offer" "Desk.offer" s_Desk_offer (ma K (ga K "Desk") "offer") fd_Desk_offer
  M_Desk_offer : Meth K (ga K "Desk") "offer" (ma K (ga K "Desk") "offer")
  fd_Desk_withdraw : FuncData
  F_Desk_withdraw : FnM K "withdraw" "Desk.withdraw" s_Desk_withdraw (ma K (ga K "Desk") "withdraw") fd_Desk_withdraw
  M_Desk_withdraw : Meth K (ga K "Desk") "withdraw" (ma K (ga K "Desk") "withdraw")
  fd_Desk_letters : FuncData
  F_Desk_letters : FnM K "letters" "Desk.letters" s_Desk_letters (ma K (ga K "Desk") "letters") fd_Desk_letters
  M_Desk_letters : Meth K (ga K "Desk") "letters" (ma K (ga K "Desk") "letters")
  fd_Desk_hear : FuncData
  F_Desk_hear : FnM K "hear" "Desk.hear" s_Desk_hear (ma K (ga K "Desk") "hear") fd_Desk_hear
  M_Desk_hear : Meth K (ga K "Desk") "hear" (ma K (ga K "Desk") "hear")
  fd_Desk_state : FuncData
  F_Desk_state : FnM K "state" "Desk.state" s_Desk_state (ma K (ga K "Desk") "state") fd_Desk_state
  M_Desk_state : Meth K (ga K "Desk") "state" (ma K (ga K "Desk") "state")
  c_Device : Cls K (ga K "Device")
  mk_Device : Mk K (ga K "Device") (ma K (ga K "Device") "__init__")
  n_Device__number : NoAttr K (ga K "Device") "_number"
  n_Device__on : NoAttr K (ga K "Device") "_on"
  n_Device__bells : NoAttr K (ga K "Device") "_bells"
  n_Device__rung : NoAttr K (ga K "Device") "_rung"
  fd_Device___init__ : FuncData
  F_Device___init__ : FnM K "__init__" "Device.__init__" s_Device___init__ (ma K (ga K "Device") "__init__") fd_Device___init__
  M_Device___init__ : Meth K (ga K "Device") "__init__" (ma K (ga K "Device") "__init__")
  fd_Device_turn : FuncData
  F_Device_turn : FnM K "turn" "Device.turn" s_Device_turn (ma K (ga K "Device") "turn") fd_Device_turn
  M_Device_turn : Meth K (ga K "Device") "turn" (ma K (ga K "Device") "turn")
  fd_Device_hear : FuncData
  F_Device_hear : FnM K "hear" "Device.hear" s_Device_hear (ma K (ga K "Device") "hear") fd_Device_hear
  M_Device_hear : Meth K (ga K "Device") "hear" (ma K (ga K "Device") "hear")
  fd_Device_take : FuncData
  F_Device_take : FnM K "take" "Device.take" s_Device_take (ma K (ga K "Device") "take") fd_Device_take
  M_Device_take : Meth K (ga K "Device") "take" (ma K (ga K "Device") "take")
  fd_Device_letters : FuncData
  F_Device_letters : FnM K "letters" "Device.letters" s_Device_letters (ma K (ga K "Device") "letters") fd_Device_letters
  M_Device_letters : Meth K (ga K "Device") "letters" (ma K (ga K "Device") "letters")
  fd_Device_rings : FuncData
  F_Device_rings : FnM K "rings" "Device.rings" s_Device_rings (ma K (ga K "Device") "rings") fd_Device_rings
  M_Device_rings : Meth K (ga K "Device") "rings" (ma K (ga K "Device") "rings")
  fd_Device_rang : FuncData
  F_Device_rang : FnM K "rang" "Device.rang" s_Device_rang (ma K (ga K "Device") "rang") fd_Device_rang
  M_Device_rang : Meth K (ga K "Device") "rang" (ma K (ga K "Device") "rang")
  fd_Device__among : FuncData
  F_Device__among : FnM K "_among" "Device._among" s_Device__among (ma K (ga K "Device") "_among") fd_Device__among
  M_Device__among : Meth K (ga K "Device") "_among" (ma K (ga K "Device") "_among")
  z_isinstance : mg "isinstance" = none
  z_bool : mg "bool" = none
  z_int : mg "int" = none
  z_tuple : mg "tuple" = none
  z_list : mg "list" = none
  z_len : mg "len" = none
  z_all : mg "all" = none
  z_any : mg "any" = none
  z_range : mg "range" = none
  z_min : mg "min" = none
  z_max : mg "max" = none
  z_sum : mg "sum" = none
  z_str : mg "str" = none
  z_sorted : mg "sorted" = none
  z_enumerate : mg "enumerate" = none
  z_zip : mg "zip" = none
  z_dict : mg "dict" = none
  z_set : mg "set" = none
  z_ValueError : mg "ValueError" = none
section
variable {K : PySem.W.Frag} {mg : Str → Option Value}
theorem b_is_number (T : Tx K mg) : Binds K T.fd_is_number ["x"] [] := FunD.bindsN T.F_is_number fun _ _ _ _ _ _ us hl => match us, hl with | [_], _ => rfl
theorem b_is_whole (T : Tx K mg) : Binds K T.fd_is_whole ["x", "low", "high"] [] := FunD.bindsN T.F_is_whole fun _ _ _ _ _ _ us hl => match us, hl with | [_, _, _], _ => rfl
theorem b_refuse_bad_many (T : Tx K mg) : Binds K T.fd_refuse_bad_many ["many"] [] := FunD.bindsN T.F_refuse_bad_many fun _ _ _ _ _ _ us hl => match us, hl with | [_], _ => rfl
theorem b_refuse_bad_device (T : Tx K mg) : Binds K T.fd_refuse_bad_device ["device", "many"] [] := FunD.bindsN T.F_refuse_bad_device fun _ _ _ _ _ _ us hl => match us, hl with | [_, _], _ => rfl
theorem b_refuse_bad_bell (T : Tx K mg) : Binds K T.fd_refuse_bad_bell ["bell", "many"] [] := FunD.bindsN T.F_refuse_bad_bell fun _ _ _ _ _ _ us hl => match us, hl with | [_, _], _ => rfl
theorem b_word_to (T : Tx K mg) : Binds K T.fd_word_to ["device", "state", "owner"] [] := FunD.bindsN T.F_word_to fun _ _ _ _ _ _ us hl => match us, hl with | [_, _, _], _ => rfl
theorem b_law_begun (T : Tx K mg) : Binds K T.fd__law_begun ["_law_script"] [] := FunD.bindsN T.F__law_begun fun _ _ _ _ _ _ us hl => match us, hl with | [_], _ => rfl
theorem b_law_take (T : Tx K mg) : Binds K T.fd__law_take ["_law_box", "_law_many"] [] := FunD.bindsN T.F__law_take fun _ _ _ _ _ _ us hl => match us, hl with | [_, _], _ => rfl
theorem b_law_alike (T : Tx K mg) : Binds K T.fd__law_alike ["_law_found", "_law_due"] [] := FunD.bindsN T.F__law_alike fun _ _ _ _ _ _ us hl => match us, hl with | [_, _], _ => rfl
theorem b_law_house (T : Tx K mg) : Binds K T.fd__law_house ["_law_box"] [] := FunD.bindsN T.F__law_house fun _ _ _ _ _ _ us hl => match us, hl with | [_], _ => rfl
theorem b_law_post (T : Tx K mg) : Binds K T.fd__law_post ["_law_box", "_law_h"] [] := FunD.bindsN T.F__law_post fun _ _ _ _ _ _ us hl => match us, hl with | [_, _], _ => rfl
theorem b_law_hear (T : Tx K mg) : Binds K T.fd__law_hear ["_law_box", "_law_h"] [] := FunD.bindsN T.F__law_hear fun _ _ _ _ _ _ us hl => match us, hl with | [_, _], _ => rfl
theorem b_law_turn (T : Tx K mg) : Binds K T.fd__law_turn ["_law_box", "_law_h"] [] := FunD.bindsN T.F__law_turn fun _ _ _ _ _ _ us hl => match us, hl with | [_, _], _ => rfl
theorem b_law_round (T : Tx K mg) : Binds K T.fd__law_round ["_law_h"] [] := FunD.bindsN T.F__law_round fun _ _ _ _ _ _ us hl => match us, hl with | [_], _ => rfl
theorem b_law_rang_at (T : Tx K mg) : Binds K T.fd__law_rang_at ["_law_h", "_law_bell"] [] := FunD.bindsN T.F__law_rang_at fun _ _ _ _ _ _ us hl => match us, hl with | [_, _], _ => rfl
theorem b_law_taken (T : Tx K mg) : Binds K T.fd__law_taken ["_law_box", "_law_h"] [] := FunD.bindsN T.F__law_taken fun _ _ _ _ _ _ us hl => match us, hl with | [_, _], _ => rfl
theorem b_law_is_quiet (T : Tx K mg) : Binds K T.fd__law_is_quiet ["_law_h", "_law_taken_here"] [] := FunD.bindsN T.F__law_is_quiet fun _ _ _ _ _ _ us hl => match us, hl with | [_, _], _ => rfl
theorem b_law (T : Tx K mg) : Binds K T.fd_law ["_law_script"] [] := FunD.bindsN T.F_law fun _ _ _ _ _ _ us hl => match us, hl with | [_], _ => rfl
theorem b_Desk___init__ (T : Tx K mg) : Binds K T.fd_Desk___init__ ["self", "many"] [] := FunD.bindsN T.F_Desk___init__ fun _ _ _ _ _ _ us hl => match us, hl with | [_, _], _ => rfl
theorem b_Desk_offer (T : Tx K mg) : Binds K T.fd_Desk_offer ["self"] [] := FunD.bindsN T.F_Desk_offer fun _ _ _ _ _ _ us hl => match us, hl with | [_], _ => rfl
theorem b_Desk_withdraw (T : Tx K mg) : Binds K T.fd_Desk_withdraw ["self", "bell"] [] := FunD.bindsN T.F_Desk_withdraw fun _ _ _ _ _ _ us hl => match us, hl with | [_, _], _ => rfl
theorem b_Desk_letters (T : Tx K mg) : Binds K T.fd_Desk_letters ["self", "device"] [] := FunD.bindsN T.F_Desk_letters fun _ _ _ _ _ _ us hl => match us, hl with | [_, _], _ => rfl
theorem b_Desk_hear (T : Tx K mg) : Binds K T.fd_Desk_hear ["self", "letter"] [] := FunD.bindsN T.F_Desk_hear fun _ _ _ _ _ _ us hl => match us, hl with | [_, _], _ => rfl
theorem b_Desk_state (T : Tx K mg) : Binds K T.fd_Desk_state ["self", "bell"] [] := FunD.bindsN T.F_Desk_state fun _ _ _ _ _ _ us hl => match us, hl with | [_, _], _ => rfl
theorem b_Device___init__ (T : Tx K mg) : Binds K T.fd_Device___init__ ["self", "number"] [] := FunD.bindsN T.F_Device___init__ fun _ _ _ _ _ _ us hl => match us, hl with | [_, _], _ => rfl
theorem kb_Device_turn (T : Tx K mg) : KBn K T.fd_Device_turn ["self", "on"] 1 ["on"] (fun us ws => us ++ ws) (fun vs zs => vs ++ zs) := FunD.kbindsN T.F_Device_turn 1 ["on"] fun _ _ _ _ _ _ us ws h1 h2 => match us, ws, h1, h2 with | [_], [_], _, _ => rfl
theorem b_Device_hear (T : Tx K mg) : Binds K T.fd_Device_hear ["self", "letter"] [] := FunD.bindsN T.F_Device_hear fun _ _ _ _ _ _ us hl => match us, hl with | [_, _], _ => rfl
theorem b_Device_take (T : Tx K mg) : Binds K T.fd_Device_take ["self", "bell"] [] := FunD.bindsN T.F_Device_take fun _ _ _ _ _ _ us hl => match us, hl with | [_, _], _ => rfl
theorem b_Device_letters (T : Tx K mg) : Binds K T.fd_Device_letters ["self"] [] := FunD.bindsN T.F_Device_letters fun _ _ _ _ _ _ us hl => match us, hl with | [_], _ => rfl
theorem b_Device_rings (T : Tx K mg) : Binds K T.fd_Device_rings ["self"] [] := FunD.bindsN T.F_Device_rings fun _ _ _ _ _ _ us hl => match us, hl with | [_], _ => rfl
theorem b_Device_rang (T : Tx K mg) : Binds K T.fd_Device_rang ["self"] [] := FunD.bindsN T.F_Device_rang fun _ _ _ _ _ _ us hl => match us, hl with | [_], _ => rfl
theorem b_Device__among (T : Tx K mg) : Binds K T.fd_Device__among ["self", "state"] [] := FunD.bindsN T.F_Device__among fun _ _ _ _ _ _ us hl => match us, hl with | [_, _], _ => rfl
end
end Hn

set_option Elab.async false
set_option linter.all false
set_option maxRecDepth 100000
set_option maxHeartbeats 8000000
namespace Hn
open PySem PySem.Spec PyProof.Rows L2 Sy Lm
section
variable {P : Program} {w : World} {K : PySem.W.Frag} {mg : Str → Option Value} {base : Heap}
local macro_rules | `(tactic| walk_at "r") => `(tactic| (conv => whnf))
local macro_rules | `(tactic| walk_at "sp") => `(tactic| (first | rfl | contradiction | exact (False.elim ‹_›)))
local macro_rules | `(tactic| walk_at "len") => `(tactic| (exact Nat.le_trans (show _ ≤ 100000 by first | (simp; done) | (rw [rngS_length]; decide)) (by decide)))
local macro_rules | `(tactic| walk_at "f") => `(tactic| (refine Br_i (fun hb => Bool.noConfusion (show false = true from hb)) (fun _ => ?_)))
local macro_rules | `(tactic| walk_at "t") => `(tactic| (refine Br_i (fun _ => ?_) (fun hb => Bool.noConfusion (show true = false from hb))))
local macro_rules | `(tactic| walk_at "le") => `(tactic| first | exact Le.refl _ | (refine Le.put ?_; walk_at "le") | (refine Le.new ?_ (by assumption); walk_at "le"))
def spNum : SpS := fun vs m _ S => match vs with
  | [x] => Dat m x ∧ S (.bl (isInt x)) m
  | _ => False
def isWh (x : SV) (lo hi : Int) : Bool := match x with
  | .int i => decide (lo ≤ i) && decide (i ≤ hi)
  | _ => false
def spWhole : SpS := fun vs m _ S => match vs with
  | [x, .int lo, .int hi] => Dat m x ∧ S (.bl (isWh x lo hi)) m
  | _ => False
def isTupN (x : SV) (n : Int) : Bool := match x with
  | .tup xs => decide ((xs.length : Int) = n)
  | _ => false
def isTupU (x : SV) (n : Int) : Bool := match x with
  | .tup xs => decide ((xs.length : Int) ≤ n)
  | _ => false
def spTupN : SpS := fun vs m _ S => match vs with
  | [x, .int n] => Dat m x ∧ S (.bl (isTupN x n)) m
  | _ => False
def spTupU : SpS := fun vs m _ S => match vs with
  | [x, .int n] => Dat m x ∧ S (.bl (isTupU x n)) m
  | _ => False
theorem ok_is_number (T : Tx K mg) : FnOk P w K mg base CX0 1 (He.ga K "is_number") T.fd_is_number ["x"] (lift K spNum) := by
  refine fn_sy T.F_is_number sc_is_number (fun svs m SX Sv h => ?_) (fun cdv A outer s H E hr => ⟨_, _, (gss_one (gs_ret (ge_and (ge_callB (cr_isi K) sim_isi (by rfl) T.z_isinstance (by decide +kernel) (ga_cons (gv 0) (ga_cons (ge_ty (n := "int") (by rfl) T.z_int (by decide +kernel)) ga_nil))) (ge_one (ge_not (ge_callB (cr_isi K) sim_isi (by rfl) T.z_isinstance (by decide +kernel) (ga_cons (gv 0) (ga_cons (ge_ty (n := "bool") (by rfl) T.z_bool (by decide +kernel)) ga_nil)))))))), fun svs m SX Sv h => ?_⟩)
  · unfold spNum at h
    split at h <;> first | rfl | exact h.elim
  · unfold spNum at h
    split at h
    · obtain ⟨⟨t, ht⟩, q⟩ := h
      have e := tyS_int ht
      walk_at "r"
      refine ⟨by decide, t, ht, ?_⟩
      walk_at "r"
      refine Br_i (fun h1 => ?_) (fun h1 => ?_)
      · walk_at "r"
        refine ⟨by decide, t, ht, ?_⟩
        walk_at "r"
        rw [← e, h1, Bool.true_and] at q
        exact .of q
      · rw [← e, h1, Bool.false_and] at q
        exact .of q
    · exact h.elim
theorem ok_is_whole (T : Tx K mg) : FnOk P w K mg base CX0 2 (He.ga K "is_whole") T.fd_is_whole ["x", "low", "high"] (lift K spWhole) := by
  have G_is_number := ok_is_number (P := P) (w := w) (base := base) T
  have b_is_number := b_is_number T
  refine fn_sy T.F_is_whole sc_is_whole (fun svs m SX Sv h => ?_) (fun cdv A outer s H E hr => ⟨_, _, (gss_one (gs_ret (ge_and (ge_call G_is_number (hr) (by rfl) T.g_is_number T.k_is_number b_is_number .nil (fun _ => .nil) pass0 (ga_cons (gv 0) ga_nil)) (ge_one (ge_chain op_le op_le sim_le sim_le (gv 1) (gv 0) (gv 2)))))), fun svs m SX Sv h => ?_⟩)
  · unfold spWhole at h
    split at h <;> first | rfl | exact h.elim
  · unfold spWhole at h
    split at h
    · obtain ⟨ht, q⟩ := h
      walk_at "r"
      refine ⟨ht, ?_⟩
      walk_at "r"
      refine Br_i (fun h1 => ?_) (fun h1 => ?_)
      · rename_i x _ _
        cases x <;> first | (cases h1; done) | skip
        walk_at "r"
        refine Br_i (fun h2 => ?_) (fun h2 => ?_)
        · walk_at "r"
          unfold isWh at q
          simp only at q
          rw [h2, Bool.true_and] at q
          exact .of q
        · unfold isWh at q
          simp only at q
          rw [h2, Bool.false_and] at q
          exact .of q
      · rename_i x _ _
        cases x <;> first | exact .of q | (cases h1; done)
    · exact h.elim
end
end Hn

set_option Elab.async false
set_option linter.all false
set_option maxRecDepth 100000
set_option maxHeartbeats 8000000
namespace Hn
open PySem PySem.Spec PyProof.Rows L2 Sy Lm
section
variable {P : Program} {w : World} {K : PySem.W.Frag} {mg : Str → Option Value} {base : Heap}
local macro_rules | `(tactic| walk_at "r") => `(tactic| (conv => whnf))
local macro_rules | `(tactic| walk_at "sp") => `(tactic| (first | rfl | contradiction | exact (False.elim ‹_›)))
local macro_rules | `(tactic| walk_at "len") => `(tactic| (exact Nat.le_trans (show _ ≤ 100000 by first | (simp; done) | (rw [rngS_length]; decide)) (by decide)))
local macro_rules | `(tactic| walk_at "f") => `(tactic| (refine Br_i (fun hb => Bool.noConfusion (show false = true from hb)) (fun _ => ?_)))
local macro_rules | `(tactic| walk_at "t") => `(tactic| (refine Br_i (fun _ => ?_) (fun hb => Bool.noConfusion (show true = false from hb))))
local macro_rules | `(tactic| walk_at "le") => `(tactic| first | exact Le.refl _ | (refine Le.put ?_; walk_at "le") | (refine Le.new ?_ (by assumption); walk_at "le"))
theorem line_le {n : Nat} (h : n ≤ 100000) : n ≤ sizeLine := Nat.le_trans h (by decide)
theorem kp {m : Mem} {a p : Addr} {o u : MO} (h : m a = some o) (n : m p = none) : up m p u a = some o := by rw [up_ne (mne h n)]; exact h
/-- a whole number from lo to hi, or the class at C -/
def spRef1 (C : Addr) : SpS := fun vs m SX S => match vs with
  | [x] => Dat m x ∧ ((isWh x 1 4 = true → S .non m) ∧ (isWh x 1 4 = false → SX ⟨C, none⟩ m))
  | _ => False
def spRef2 (C : Addr) : SpS := fun vs m SX S => match vs with
  | [x, .int n] => Dat m x ∧ ((isWh x 0 (n - 1) = true → S .non m) ∧ (isWh x 0 (n - 1) = false → SX ⟨C, none⟩ m))
  | _ => False
theorem ok_refuse_bad_many (T : Tx K mg) : FnOk P w K mg base (L2.CX P w) 3 (He.ga K "refuse_bad_many") T.fd_refuse_bad_many ["many"] (lift K (spRef1 (He.ga K "BadDevice"))) := by
  have G_is_whole := ok_is_whole (P := P) (w := w) (base := base) T
  have b_is_whole := b_is_whole T
  refine fn_syX T.F_refuse_bad_many sc_refuse_bad_many (fun svs m SX Sv h => ?_) (fun cdv A outer s H E hr => ⟨_, _, (gss_one (gs_if (gt_not (gt_val (ge_call G_is_whole (hr) (by rfl) T.g_is_whole T.k_is_whole b_is_whole .nil (fun _ => .nil) pass0 (ga_cons (gv 0) (ga_cons ge_int (ga_cons (ge_gi (by rfl) T.i_MOST_DEVICES) ga_nil)))))) (gss_one (gs_raise (ps_raise rfl (takes_of rfl rfl rfl rfl) (pmk_own PySem.F.excBase_ValueError T.x_BadDevice T.g_BadDevice T.k_BadDevice (raises_own T.e_BadDevice T.t_BadDevice) (by exact rfl))))) gss_nil)), fun svs m SX Sv h => ?_⟩)
  · unfold spRef1 at h
    split at h <;> first | rfl | exact h.elim
  · unfold spRef1 at h
    split at h
    · obtain ⟨hd, q1, q2⟩ := h
      walk_at "r"
      refine ⟨hd, ?_⟩
      walk_at "r"
      refine Br_i (fun h2 => ?_) (fun h2 => ?_)
      · walk_at "r"
        exact .of (q2 (by simpa using h2))
      · exact .of (q1 (by simpa using h2))
    · exact h.elim
theorem ok_refuse_bad_device (T : Tx K mg) : FnOk P w K mg base (L2.CX P w) 3 (He.ga K "refuse_bad_device") T.fd_refuse_bad_device ["device", "many"] (lift K (spRef2 (He.ga K "BadDevice"))) := by
  have G_is_whole := ok_is_whole (P := P) (w := w) (base := base) T
  have b_is_whole := b_is_whole T
  refine fn_syX T.F_refuse_bad_device sc_refuse_bad_device (fun svs m SX Sv h => ?_) (fun cdv A outer s H E hr => ⟨_, _, (gss_one (gs_if (gt_not (gt_val (ge_call G_is_whole (hr) (by rfl) T.g_is_whole T.k_is_whole b_is_whole .nil (fun _ => .nil) pass0 (ga_cons (gv 0) (ga_cons ge_int (ga_cons (ge_op op_sub sim_sub (gv 1) ge_int) ga_nil)))))) (gss_one (gs_raise (ps_raise rfl (takes_of rfl rfl rfl rfl) (pmk_own PySem.F.excBase_ValueError T.x_BadDevice T.g_BadDevice T.k_BadDevice (raises_own T.e_BadDevice T.t_BadDevice) (by exact rfl))))) gss_nil)), fun svs m SX Sv h => ?_⟩)
  · unfold spRef2 at h
    split at h <;> first | rfl | exact h.elim
  · unfold spRef2 at h
    split at h
    · obtain ⟨hd, q1, q2⟩ := h
      walk_at "r"
      refine ⟨hd, ?_⟩
      walk_at "r"
      refine Br_i (fun h2 => ?_) (fun h2 => ?_)
      · walk_at "r"
        exact .of (q2 (by simpa using h2))
      · exact .of (q1 (by simpa using h2))
    · exact h.elim
theorem ok_refuse_bad_bell (T : Tx K mg) : FnOk P w K mg base (L2.CX P w) 3 (He.ga K "refuse_bad_bell") T.fd_refuse_bad_bell ["bell", "many"] (lift K (spRef2 (He.ga K "BadBell"))) := by
  have G_is_whole := ok_is_whole (P := P) (w := w) (base := base) T
  have b_is_whole := b_is_whole T
  refine fn_syX T.F_refuse_bad_bell sc_refuse_bad_bell (fun svs m SX Sv h => ?_) (fun cdv A outer s H E hr => ⟨_, _, (gss_one (gs_if (gt_not (gt_val (ge_call G_is_whole (hr) (by rfl) T.g_is_whole T.k_is_whole b_is_whole .nil (fun _ => .nil) pass0 (ga_cons (gv 0) (ga_cons ge_int (ga_cons (ge_op op_sub sim_sub (gv 1) ge_int) ga_nil)))))) (gss_one (gs_raise (ps_raise rfl (takes_of rfl rfl rfl rfl) (pmk_own PySem.F.excBase_ValueError T.x_BadBell T.g_BadBell T.k_BadBell (raises_own T.e_BadBell T.t_BadBell) (by exact rfl))))) gss_nil)), fun svs m SX Sv h => ?_⟩)
  · unfold spRef2 at h
    split at h <;> first | rfl | exact h.elim
  · unfold spRef2 at h
    split at h
    · obtain ⟨hd, q1, q2⟩ := h
      walk_at "r"
      refine ⟨hd, ?_⟩
      walk_at "r"
      refine Br_i (fun h2 => ?_) (fun h2 => ?_)
      · walk_at "r"
        exact .of (q2 (by simpa using h2))
      · exact .of (q1 (by simpa using h2))
    · exact h.elim
def optI : Option Int → SV
  | none => .non
  | some i => .int i
/-- what a desk's letter says -/
def wordTo (dev : Int) (b : Str × Option Int) : Str := if b.1 = "open" then "offer" else if b.2 ≠ some dev ∨ b.1 = "withdrawn" then "gone" else if b.1 = "granted" then "grant" else "noted"
def spWordTo : SpS := fun vs m _ S => ∃ (dev : Int) (b : Str × Option Int), vs = [.int dev, .str b.1, optI b.2] ∧ S (.str (wordTo dev b)) m
theorem ok_word_to (T : Tx K mg) : FnOk P w K mg base CX0 1 (He.ga K "word_to") T.fd_word_to ["device", "state", "owner"] (lift K spWordTo) := by
  refine fn_sy T.F_word_to sc_word_to (fun svs m SX Sv h => ?_) (fun cdv A outer s H E hr => ⟨_, _, (gss_cons (gs_if (gt_cmp (op_eqG K hr.units) sim_eq (gv 1) (ge_gs (by rfl) T.i_OPEN) (nomark _)) (gss_one (gs_ret (ge_gs (by rfl) T.i_OFFER))) gss_nil)
      (gss_cons (gs_if (gw_pt (gw_or (gt_cmp (op_neG K hr.units) sim_ne (gv 2) (gv 0) (nomark _)) (gw_or1 (gt_cmp (op_eqG K hr.units) sim_eq (gv 1) (ge_gs (by rfl) T.i_WITHDRAWN) (nomark _))))) (gss_one (gs_ret (ge_gs (by rfl) T.i_GONE))) gss_nil)
      (gss_cons (gs_if (gt_cmp (op_eqG K hr.units) sim_eq (gv 1) (ge_gs (by rfl) T.i_GRANTED) (nomark _)) (gss_one (gs_ret (ge_gs (by rfl) T.i_GRANT))) gss_nil)
      (gss_one (gs_ret (ge_gs (by rfl) T.i_NOTED)))))), fun svs m SX Sv h => ?_⟩)
  · obtain ⟨dev, b, rfl, _⟩ := h
    rfl
  · obtain ⟨dev, ⟨st, ow⟩, rfl, q⟩ := h
    have run : ∀ w : Str, wordTo dev (st, ow) = w → Fg (Sv (.str w)) m := fun w e => .of (by rw [← e]; exact q)
    walk_at "r"
    refine Br_i (fun h => ?_) (fun h => ?_)
    · exact run _ (by unfold wordTo; rw [if_pos (of_decide_eq_true h)])
    have h1 := of_decide_eq_false h
    have later : (ow ≠ some dev ∨ st = "withdrawn") → Fg (Sv (.str "gone")) m := fun h2 => run _ (by unfold wordTo; rw [if_neg h1, if_pos h2])
    have last : ow = some dev → ¬ st = "withdrawn" → Br (decide (st = "granted")) (Fg (Sv (.str "grant")) m) (Fg (Sv (.str "noted")) m) := fun e h3 => by
      have h2 : ¬ (ow ≠ some dev ∨ st = "withdrawn") := fun z => z.elim (fun z => z e) h3
      exact Br_i (fun h => run _ (by unfold wordTo; rw [if_neg h1, if_neg h2, if_pos (of_decide_eq_true h)])) (fun h => run _ (by unfold wordTo; rw [if_neg h1, if_neg h2, if_neg (of_decide_eq_false h)]))
    cases ow with
    | none =>
      walk_at "r"
      walk_at "t"
      walk_at "r"
      walk_at "t"
      exact later (.inl fun z => by cases z)
    | some o =>
      walk_at "r"
      refine Br_i (fun h2 => ?_) (fun h2 => ?_)
      · walk_at "r"
        walk_at "t"
        walk_at "r"
        exact later (.inl fun z => by cases z; simp at h2)
      · have e : o = dev := by simpa using h2
        walk_at "r"
        refine Br_i (fun h3 => ?_) (fun h3 => ?_)
        · exact later (.inr (of_decide_eq_true h3))
        · walk_at "r"
          exact last (by rw [e]) (of_decide_eq_false h3)
end
end Hn

set_option Elab.async false
set_option linter.all false
set_option maxRecDepth 100000
set_option maxHeartbeats 8000000
namespace Hn
open PySem PySem.Spec PyProof.Rows L2 Sy Lm
section
variable {P : Program} {w : World} {K : PySem.W.Frag} {mg : Str → Option Value} {base : Heap}
local macro_rules | `(tactic| walk_at "r") => `(tactic| (conv => whnf))
local macro_rules | `(tactic| walk_at "sp") => `(tactic| (first | rfl | contradiction | exact (False.elim ‹_›)))
local macro_rules | `(tactic| walk_at "len") => `(tactic| (exact Nat.le_trans (show _ ≤ 100000 by first | (simp; done) | (rw [rngS_length]; decide)) (by decide)))
local macro_rules | `(tactic| walk_at "f") => `(tactic| (refine Br_i (fun hb => Bool.noConfusion (show false = true from hb)) (fun _ => ?_)))
local macro_rules | `(tactic| walk_at "t") => `(tactic| (refine Br_i (fun _ => ?_) (fun hb => Bool.noConfusion (show true = false from hb))))
local macro_rules | `(tactic| walk_at "le") => `(tactic| first | exact Le.refl _ | (refine Le.put ?_; walk_at "le") | (refine Le.new ?_ (by assumption); walk_at "le"))
def bellV (b : Str × Option Int) : SV := .tup [.str b.1, optI b.2]
def deskF (n : Int) (b : Addr) : List (Str × SV) := [("_many", .int n), ("_bells", .ref b)]
structure IsDesk (K : PySem.W.Frag) (m : Mem) (d b : Addr) (n : Int) (bs : List (Str × Option Int)) : Prop where
  d : m d = some (.ins (He.ga K "Desk") (deskF n b))
  b : m b = some (.lst (bs.map bellV))
  z : bs.length < 100
  n : 1 ≤ n ∧ n ≤ 4
theorem putS_1 {f : Str} {v : SV} : putS f v [] = [(f, v)] := rfl
theorem putS_2 {f g : Str} {v w : SV} (h : ¬ f = g) : putS g v [(f, w)] = [(f, w), (g, v)] := by unfold putS; rw [if_neg h]; rfl
theorem putS_3 {f g e : Str} {v w u : SV} (h : ¬ f = e) (h2 : ¬ g = e) : putS e v [(f, w), (g, u)] = [(f, w), (g, u), (e, v)] := by unfold putS; rw [if_neg h, putS_2 h2]
theorem putS_4 {f g e k : Str} {v w u z : SV} (h : ¬ f = k) (h2 : ¬ g = k) (h3 : ¬ e = k) : putS k v [(f, w), (g, u), (e, z)] = [(f, w), (g, u), (e, z), (k, v)] := by unfold putS; rw [if_neg h, putS_3 h2 h3]
theorem look_1 {f : Str} {v : SV} {r : List (Str × SV)} : ((f, v) :: r).lookup f = some v := by simp [List.lookup]
theorem look_n {f g : Str} {v : SV} {r : List (Str × SV)} (h : ¬ g = f) : ((f, v) :: r).lookup g = r.lookup g := by
  have e : (g == f) = false := by simpa using h
  simp [List.lookup, e]
theorem desk_many {n : Int} {b : Addr} : (deskF n b).lookup ("_many" : Str) = some (.int n) := look_1
theorem desk_bells {n : Int} {b : Addr} : (deskF n b).lookup ("_bells" : Str) = some (.ref b) := (look_n (by decide +kernel)).trans look_1
theorem desk_no {n : Int} {b : Addr} {f : Str} (h1 : ¬ f = "_many") (h2 : ¬ f = "_bells") : (deskF n b).lookup f = none := by
  unfold deskF; rw [look_n h1, look_n h2]; rfl
def spDeskInit (K : PySem.W.Frag) : SpS := fun vs m SX S => ∃ (d : Addr) (x : SV), vs = [.ref d, x] ∧ m d = some (.ins (He.ga K "Desk") []) ∧ Dat m x ∧
  (∀ n, x = .int n → isWh x 1 4 = true → ∀ b, m b = none → S .non (up (up m b (.lst [])) d (.ins (He.ga K "Desk") (deskF n b)))) ∧ (isWh x 1 4 = false → SX ⟨He.ga K "BadDevice", none⟩ m)
theorem isWh_int {x : SV} {lo hi : Int} (h : isWh x lo hi = true) : ∃ i, x = .int i ∧ lo ≤ i ∧ i ≤ hi := by
  cases x <;> first
    | (cases h; done)
    | skip
  rename_i i
  have h : (decide (lo ≤ i) && decide (i ≤ hi)) = true := h
  rw [Bool.and_eq_true] at h
  exact ⟨i, rfl, of_decide_eq_true h.1, of_decide_eq_true h.2⟩
theorem ok_Desk___init__ (T : Tx K mg) : FnOk P w K mg base (L2.CX P w) 4 (He.ma K (He.ga K "Desk") "__init__") T.fd_Desk___init__ ["self", "many"] (lift K (spDeskInit K)) := by
  have G_refuse_bad_many := ok_refuse_bad_many (P := P) (w := w) (base := base) T
  have b_refuse_bad_many := b_refuse_bad_many T
  refine fn_syXQ T.F_Desk___init__ sc_Desk___init__ (fun svs m SX Sv h => ?_) (fun cdv A outer s H E hr => ⟨_, _, (gss_cons (gs_expr (ge_call G_refuse_bad_many (hr) (by rfl) T.g_refuse_bad_many T.k_refuse_bad_many b_refuse_bad_many .nil (fun _ => .nil) passE (ga_cons (gv 1) ga_nil)))
      (gss_cons (gs_fld T.c_Desk T.n_Desk__many (gv 0) (gv 1))
      (gss_one (gs_fld T.c_Desk T.n_Desk__bells (gv 0) (ge_lst ga_nil))))), fun svs m SX Sv h => ?_⟩)
  · obtain ⟨d, x, rfl, _⟩ := h
    rfl
  · obtain ⟨d, x, rfl, hd, hx, q1, q2⟩ := h
    walk_at "r"
    refine ⟨hx, fun h => ?_, fun h => .of (q2 h)⟩
    obtain ⟨n, rfl, _, _⟩ := isWh_int h
    walk_at "r"
    refine ⟨_, hd, by decide, ?_⟩
    walk_at "r"
    refine ⟨by walk_at "len", fun b hb => ?_⟩
    have ne : b ≠ d := fun e => by rw [e, up_same] at hb; cases hb
    walk_at "r"
    refine ⟨_, (by rw [up_ne (Ne.symm ne)]; exact up_same), by rw [putS_1]; simp, ?_⟩
    walk_at "r"
    rw [up_ne ne] at hb
    rw [putS_1, putS_2 (by decide +kernel), up_comm (Ne.symm ne), up_up]
    exact .of (q1 n rfl h b hb)
def spOffer (K : PySem.W.Frag) : SpS := fun vs m _ S => ∃ d b n bs, vs = [.ref d] ∧ IsDesk K m d b n bs ∧ S (.int bs.length) (up m b (.lst ((bs ++ [(("open" : Str), none)]).map bellV)))
def wdr (bs : List (Str × Option Int)) (i : Nat) : List (Str × Option Int) := match bs[i]? with
  | some (st, ow) => if st = "taken" then bs else bs.set i ("withdrawn", ow)
  | none => bs
def spWithdraw (K : PySem.W.Frag) : SpS := fun vs m SX S => ∃ d b n bs x, vs = [.ref d, x] ∧ IsDesk K m d b n bs ∧ Dat m x ∧
  (∀ (i : Nat) st ow, x = .int i → bs[i]? = some (st, ow) → S (optI ow) (up m b (.lst ((wdr bs i).map bellV)))) ∧ (isWh x 0 (bs.length - 1) = false → SX ⟨He.ga K "BadBell", none⟩ m)
def lets (dev : Int) : Int → List (Str × Option Int) → List SV
  | _, [] => []
  | i, b :: r => .tup [.str (wordTo dev b), .int dev, .int i] :: lets dev (i + 1) r
def spDeskLetters (K : PySem.W.Frag) : SpS := fun vs m SX S => ∃ d b n bs x, vs = [.ref d, x] ∧ IsDesk K m d b n bs ∧ Dat m x ∧
  (∀ dev, x = .int dev → 0 ≤ dev → dev < n → ∀ p, m p = none → S (.ref p) (up m p (.lst (lets dev 0 bs)))) ∧ (isWh x 0 (n - 1) = false → SX ⟨He.ga K "BadDevice", none⟩ m)
def hearD (bs : List (Str × Option Int)) (w : Str) (dev : Int) (i : Nat) : List (Str × Option Int) := match bs[i]? with
  | some (st, _) => if w = "want" ∧ st = "open" then bs.set i ("granted", some dev) else if w = "took" then bs.set i ("taken", some dev) else bs
  | none => bs
def spDeskHear (K : PySem.W.Frag) : SpS := fun vs m _ S => ∃ d b n bs w dev, ∃ i : Nat, vs = [.ref d, .tup [.str w, .int dev, .int i]] ∧ IsDesk K m d b n bs ∧ i < bs.length ∧ S .non (up m b (.lst ((hearD bs w dev i).map bellV)))
def stV (b : Str × Option Int) : SV := if b.1 = "open" then .tup [.str "open"] else .tup [.str b.1, optI b.2]
def spState (K : PySem.W.Frag) : SpS := fun vs m SX S => ∃ d b n bs x, vs = [.ref d, x] ∧ IsDesk K m d b n bs ∧ Dat m x ∧
  (∀ (i : Nat) q, x = .int i → bs[i]? = some q → S (stV q) m) ∧ (isWh x 0 (bs.length - 1) = false → SX ⟨He.ga K "BadBell", none⟩ m)
theorem bell_at {bs : List (Str × Option Int)} {i : Nat} {q : Str × Option Int} (h : bs[i]? = some q) : atI (bs.map bellV) (i : Int) = some (.tup [.str q.1, optI q.2]) := atI_nat (by rw [List.getElem?_map, h]; rfl)
theorem bell_of {x : SV} {bs : List (Str × Option Int)} (h : isWh x 0 (bs.length - 1) = true) : ∃ i : Nat, ∃ st ow, x = .int i ∧ i < bs.length ∧ bs[i]? = some (st, ow) := by
  obtain ⟨i, rfl, h1, h2⟩ := isWh_int h
  refine ⟨i.toNat, (bs[i.toNat]'(by omega)).1, (bs[i.toNat]'(by omega)).2, by congr 1; omega, by omega, ?_⟩
  rw [List.getElem?_eq_getElem (by omega)]
theorem ixN_n {n i : Nat} (h : i < n) : ixN n (i : Int) = some i := by
  unfold ixN
  first
    | (rw [if_pos (by omega), if_pos (by omega)]; congr 1)
    | (rw [if_pos (by omega)]; simp; omega)
theorem ok_Desk_offer (T : Tx K mg) : FnOk P w K mg base CX0 1 (He.ma K (He.ga K "Desk") "offer") T.fd_Desk_offer ["self"] (lift K (spOffer K)) := by
  refine fn_syQ T.F_Desk_offer sc_Desk_offer (fun svs m SX Sv h => ?_) (fun cdv A outer s H E hr => ⟨_, _, (gss_cons (gs_expr (ge_bm PySem.F.plainAttrs_list PySem.F.slot_list_append PySem.F.type_list_append mt_append simk_L sim_append (ge_fld T.c_Desk T.n_Desk__bells (gv 0)) (ga_cons (ge_tup (ga_cons (ge_gs (by rfl) T.i_OPEN) (ga_cons ge_non ga_nil))) ga_nil)))
      (gss_one (gs_ret (ge_op op_sub sim_sub (ge_callB (cr_len K) sim_len (by rfl) T.z_len (by decide +kernel) (ga_cons (ge_fld T.c_Desk T.n_Desk__bells (gv 0)) ga_nil)) ge_int)))), fun svs m SX Sv h => ?_⟩)
  · obtain ⟨d, b, n, bs, rfl, _⟩ := h
    rfl
  · obtain ⟨d, b, n, bs, rfl, D, q⟩ := h
    have z := D.z
    have nd : b ≠ d := fun e => by have := D.b; rw [e, D.d] at this; cases this
    walk_at "r"
    refine ⟨_, _, D.d, desk_bells, ?_⟩
    walk_at "r"
    refine ⟨⟨_, D.b⟩, ?_⟩
    walk_at "r"
    refine ⟨by walk_at "len", ?_⟩
    walk_at "r"
    refine ⟨_, D.b, Nat.lt_of_lt_of_le (show _ < 100 by rw [List.length_map]; exact z) (by decide), ?_⟩
    walk_at "r"
    refine ⟨_, _, (by rw [up_ne (Ne.symm nd)]; exact D.d), desk_bells, ?_⟩
    walk_at "r"
    refine ⟨_, up_same, ?_⟩
    walk_at "r"
    rw [List.length_append, List.length_map]
    show Fg (Sv (.int (((bs.length + [SV.tup [SV.str "open", SV.non]].length : Nat) : Int) - 1))) _
    have e : ((bs.length + [SV.tup [SV.str "open", SV.non]].length : Nat) : Int) - 1 = bs.length := by simp
    rw [e]
    refine .of ?_
    rw [List.map_append] at q
    exact q
theorem ok_Desk_withdraw (T : Tx K mg) : FnOk P w K mg base (L2.CX P w) 4 (He.ma K (He.ga K "Desk") "withdraw") T.fd_Desk_withdraw ["self", "bell"] (lift K (spWithdraw K)) := by
  have G_refuse_bad_bell := ok_refuse_bad_bell (P := P) (w := w) (base := base) T
  have b_refuse_bad_bell := b_refuse_bad_bell T
  refine fn_syXQ T.F_Desk_withdraw sc_Desk_withdraw (fun svs m SX Sv h => ?_) (fun cdv A outer s H E hr => ⟨_, _, (gss_cons (gs_expr (ge_call G_refuse_bad_bell (hr) (by rfl) T.g_refuse_bad_bell T.k_refuse_bad_bell b_refuse_bad_bell .nil (fun _ => .nil) passE (ga_cons (gv 1) (ga_cons (ge_callB (cr_len K) sim_len (by rfl) T.z_len (by decide +kernel) (ga_cons (ge_fld T.c_Desk T.n_Desk__bells (gv 0)) ga_nil)) ga_nil))))
      (gss_cons (gs_asg (ge_ix (ix_G K) sim_ix (ge_fld T.c_Desk T.n_Desk__bells (gv 0)) (gv 1) (fun _ _ => rfl)) (gg_tup 2 (by rfl) (ggs_cons (gg_name (i := 2) sc_Desk_withdraw.nd rfl (.inl rfl)) (ggs_cons (gg_name (i := 3) sc_Desk_withdraw.nd rfl (.inl rfl)) ggs_nil))))
      (gss_cons (gs_if (gt_cmp (op_neG K hr.units) sim_ne (gv 2) (ge_gs (by rfl) T.i_TAKEN) (nomark _)) (gss_one (gs_asg (ge_tup (ga_cons (ge_gs (by rfl) T.i_WITHDRAWN) (ga_cons (gv 3) ga_nil))) (gg_subL (ge_fld T.c_Desk T.n_Desk__bells (gv 0)) (gv 1)))) gss_nil)
      (gss_one (gs_ret (gv 3)))))), fun svs m SX Sv h => ?_⟩)
  · obtain ⟨d, b, n, bs, x, rfl, _⟩ := h
    rfl
  · obtain ⟨d, b, n, bs, x, rfl, D, hx, q1, q2⟩ := h
    have z := D.z
    walk_at "r"
    refine ⟨_, _, D.d, desk_bells, ?_⟩
    walk_at "r"
    refine ⟨_, D.b, ?_⟩
    walk_at "r"
    rw [List.length_map]
    refine ⟨hx, fun h => ?_, fun h => .of (q2 h)⟩
    obtain ⟨i, st, ow, rfl, hi, hb⟩ := bell_of h
    have q := q1 i st ow rfl hb
    have e : wdr bs i = if st = "taken" then bs else bs.set i ("withdrawn", ow) := by unfold wdr; rw [hb]
    rw [e] at q
    walk_at "r"
    refine ⟨_, _, D.d, desk_bells, ?_⟩
    walk_at "r"
    refine ⟨_, _, D.b, bell_at hb, ?_⟩
    walk_at "r"
    refine ⟨rfl, ?_⟩
    walk_at "r"
    refine Br_i (fun h => ?_) (fun h => ?_)
    · rw [if_neg (by simpa using h)] at q
      walk_at "r"
      refine ⟨by walk_at "len", ?_⟩
      walk_at "r"
      refine ⟨_, _, D.d, desk_bells, ?_⟩
      walk_at "r"
      refine ⟨_, _, D.b, ixN_n (by rw [List.length_map]; exact hi), ?_⟩
      walk_at "r"
      rw [List.map_set] at q
      exact .of q
    · rw [if_pos (by simpa using h), up_id D.b] at q
      walk_at "r"
      exact .of q
theorem ok_Desk_hear (T : Tx K mg) : FnOk P w K mg base CX0 1 (He.ma K (He.ga K "Desk") "hear") T.fd_Desk_hear ["self", "letter"] (lift K (spDeskHear K)) := by
  refine fn_syQ T.F_Desk_hear sc_Desk_hear (fun svs m SX Sv h => ?_) (fun cdv A outer s H E hr => ⟨_, _, (gss_cons (gs_asg (gv 1) (gg_tup 3 (by rfl) (ggs_cons (gg_name (i := 2) sc_Desk_hear.nd rfl (.inl rfl)) (ggs_cons (gg_name (i := 3) sc_Desk_hear.nd rfl (.inl rfl)) (ggs_cons (gg_name (i := 4) sc_Desk_hear.nd rfl (.inl rfl)) ggs_nil)))))
      (gss_cons (gs_asg (ge_ix (ix_G K) sim_ix (ge_fld T.c_Desk T.n_Desk__bells (gv 0)) (gv 4) (fun _ _ => rfl)) (gg_tup 2 (by rfl) (ggs_cons (gg_name (i := 5) sc_Desk_hear.nd rfl (.inl rfl)) (ggs_cons (gg_name (i := 6) sc_Desk_hear.nd rfl (.inl rfl)) ggs_nil))))
      (gss_one (gs_if (gw_pt (gw_and (gt_cmp (op_eqG K hr.units) sim_eq (gv 2) (ge_gs (by rfl) T.i_WANT) (nomark _)) (gw_and1 (gt_cmp (op_eqG K hr.units) sim_eq (gv 5) (ge_gs (by rfl) T.i_OPEN) (nomark _))))) (gss_one (gs_asg (ge_tup (ga_cons (ge_gs (by rfl) T.i_GRANTED) (ga_cons (gv 3) ga_nil))) (gg_subL (ge_fld T.c_Desk T.n_Desk__bells (gv 0)) (gv 4)))) (gss_one (gs_if (gt_cmp (op_eqG K hr.units) sim_eq (gv 2) (ge_gs (by rfl) T.i_TOOK) (nomark _)) (gss_one (gs_asg (ge_tup (ga_cons (ge_gs (by rfl) T.i_TAKEN) (ga_cons (gv 3) ga_nil))) (gg_subL (ge_fld T.c_Desk T.n_Desk__bells (gv 0)) (gv 4)))) gss_nil)))))), fun svs m SX Sv h => ?_⟩)
  · obtain ⟨d, b, n, bs, w, dev, i, rfl, _⟩ := h
    rfl
  · obtain ⟨d, b, n, bs, w, dev, i, rfl, D, hi, q⟩ := h
    obtain ⟨⟨st, ow⟩, hb⟩ : ∃ q, bs[i]? = some q := ⟨_, List.getElem?_eq_getElem hi⟩
    have e : hearD bs w dev i = if w = "want" ∧ st = "open" then bs.set i ("granted", some dev) else if w = "took" then bs.set i ("taken", some dev) else bs := by unfold hearD; rw [hb]
    rw [e] at q
    walk_at "r"
    refine ⟨rfl, ?_⟩
    walk_at "r"
    refine ⟨_, _, D.d, desk_bells, ?_⟩
    walk_at "r"
    refine ⟨_, _, D.b, bell_at hb, ?_⟩
    walk_at "r"
    refine ⟨rfl, ?_⟩
    walk_at "r"
    refine Br_i (fun h1 => ?_) (fun h1 => ?_)
    · have h1 := of_decide_eq_true h1
      walk_at "r"
      refine Br_i (fun h2 => ?_) (fun h2 => ?_)
      · have h2 := of_decide_eq_true h2
        walk_at "r"
        refine ⟨by walk_at "len", ?_⟩
        walk_at "r"
        refine ⟨_, _, D.d, desk_bells, ?_⟩
        walk_at "r"
        refine ⟨_, _, D.b, ixN_n (by rw [List.length_map]; exact hi), ?_⟩
        walk_at "r"
        rw [if_pos ⟨h1, h2⟩, List.map_set] at q
        exact .of q
      · have hw : ¬ (w = "want" ∧ st = "open") := fun z => of_decide_eq_false h2 z.2
        walk_at "r"
        refine Br_i (fun h => ?_) (fun h => ?_)
        · have h := of_decide_eq_true h
          walk_at "r"
          refine ⟨by walk_at "len", ?_⟩
          walk_at "r"
          refine ⟨_, _, D.d, desk_bells, ?_⟩
          walk_at "r"
          refine ⟨_, _, D.b, ixN_n (by rw [List.length_map]; exact hi), ?_⟩
          walk_at "r"
          rw [if_neg hw, if_pos h, List.map_set] at q
          exact .of q
        · have h := of_decide_eq_false h
          rw [if_neg hw, if_neg h, up_id D.b] at q
          walk_at "r"
          exact .of q
    · have hw : ¬ (w = "want" ∧ st = "open") := fun z => of_decide_eq_false h1 z.1
      walk_at "f"
      walk_at "r"
      refine Br_i (fun h => ?_) (fun h => ?_)
      · have h := of_decide_eq_true h
        walk_at "r"
        refine ⟨by walk_at "len", ?_⟩
        walk_at "r"
        refine ⟨_, _, D.d, desk_bells, ?_⟩
        walk_at "r"
        refine ⟨_, _, D.b, ixN_n (by rw [List.length_map]; exact hi), ?_⟩
        walk_at "r"
        rw [if_neg hw, if_pos h, List.map_set] at q
        exact .of q
      · have h := of_decide_eq_false h
        rw [if_neg hw, if_neg h, up_id D.b] at q
        walk_at "r"
        exact .of q
theorem ok_Desk_state (T : Tx K mg) : FnOk P w K mg base (L2.CX P w) 4 (He.ma K (He.ga K "Desk") "state") T.fd_Desk_state ["self", "bell"] (lift K (spState K)) := by
  have G_refuse_bad_bell := ok_refuse_bad_bell (P := P) (w := w) (base := base) T
  have b_refuse_bad_bell := b_refuse_bad_bell T
  refine fn_syXQ T.F_Desk_state sc_Desk_state (fun svs m SX Sv h => ?_) (fun cdv A outer s H E hr => ⟨_, _, (gss_cons (gs_expr (ge_call G_refuse_bad_bell (hr) (by rfl) T.g_refuse_bad_bell T.k_refuse_bad_bell b_refuse_bad_bell .nil (fun _ => .nil) passE (ga_cons (gv 1) (ga_cons (ge_callB (cr_len K) sim_len (by rfl) T.z_len (by decide +kernel) (ga_cons (ge_fld T.c_Desk T.n_Desk__bells (gv 0)) ga_nil)) ga_nil))))
      (gss_cons (gs_asg (ge_ix (ix_G K) sim_ix (ge_fld T.c_Desk T.n_Desk__bells (gv 0)) (gv 1) (fun _ _ => rfl)) (gg_tup 2 (by rfl) (ggs_cons (gg_name (i := 2) sc_Desk_state.nd rfl (.inl rfl)) (ggs_cons (gg_name (i := 3) sc_Desk_state.nd rfl (.inl rfl)) ggs_nil))))
      (gss_cons (gs_if (gt_cmp (op_eqG K hr.units) sim_eq (gv 2) (ge_gs (by rfl) T.i_OPEN) (nomark _)) (gss_one (gs_ret (ge_tup (ga_cons (ge_gs (by rfl) T.i_OPEN) ga_nil)))) gss_nil)
      (gss_one (gs_ret (ge_tup (ga_cons (gv 2) (ga_cons (gv 3) ga_nil)))))))), fun svs m SX Sv h => ?_⟩)
  · obtain ⟨d, b, n, bs, x, rfl, _⟩ := h
    rfl
  · obtain ⟨d, b, n, bs, x, rfl, D, hx, q1, q2⟩ := h
    have z := D.z
    walk_at "r"
    refine ⟨_, _, D.d, desk_bells, ?_⟩
    walk_at "r"
    refine ⟨_, D.b, ?_⟩
    walk_at "r"
    rw [List.length_map]
    refine ⟨hx, fun h => ?_, fun h => .of (q2 h)⟩
    obtain ⟨i, st, ow, rfl, hi, hb⟩ := bell_of h
    have q := q1 i _ rfl hb
    unfold stV at q
    walk_at "r"
    refine ⟨_, _, D.d, desk_bells, ?_⟩
    walk_at "r"
    refine ⟨_, _, D.b, bell_at hb, ?_⟩
    walk_at "r"
    refine ⟨rfl, ?_⟩
    walk_at "r"
    refine Br_i (fun h => ?_) (fun h => ?_)
    · rw [if_pos (by simpa using h)] at q
      walk_at "r"
      refine ⟨by walk_at "len", ?_⟩
      exact .of q
    · rw [if_neg (by simpa using h)] at q
      walk_at "r"
      refine ⟨by walk_at "len", ?_⟩
      exact .of q
end
end Hn

set_option Elab.async false
set_option linter.all false
set_option maxRecDepth 100000
set_option maxHeartbeats 8000000
namespace Hn
open PySem PySem.Spec PyProof.Rows L2 Sy Lm
section
variable {P : Program} {w : World} {K : PySem.W.Frag} {mg : Str → Option Value} {base : Heap}
local macro_rules | `(tactic| walk_at "r") => `(tactic| (conv => whnf))
local macro_rules | `(tactic| walk_at "sp") => `(tactic| (first | rfl | contradiction | exact (False.elim ‹_›)))
local macro_rules | `(tactic| walk_at "len") => `(tactic| (exact Nat.le_trans (show _ ≤ 100000 by first | (simp; done) | (rw [rngS_length]; decide)) (by decide)))
local macro_rules | `(tactic| walk_at "f") => `(tactic| (refine Br_i (fun hb => Bool.noConfusion (show false = true from hb)) (fun _ => ?_)))
local macro_rules | `(tactic| walk_at "t") => `(tactic| (refine Br_i (fun _ => ?_) (fun hb => Bool.noConfusion (show true = false from hb))))
local macro_rules | `(tactic| walk_at "le") => `(tactic| first | exact Le.refl _ | (refine Le.put ?_; walk_at "le") | (refine Le.new ?_ (by assumption); walk_at "le"))
def letF (dev : Int) : SV → SV
  | .tup [.int i, .tup [.str s, .non]] => .tup [.str (wordTo dev (s, none)), .int dev, .int i]
  | .tup [.int i, .tup [.str s, .int o]] => .tup [.str (wordTo dev (s, some o)), .int dev, .int i]
  | _ => .non
theorem lets_map (dev : Int) : ∀ (bs : List (Str × Option Int)) (i : Int), (enS i (bs.map bellV)).map (letF dev) = lets dev i bs
  | [], _ => rfl
  | (s, none) :: r, i => by rw [List.map_cons, enS, List.map_cons, lets_map dev r]; rfl
  | (s, some o) :: r, i => by rw [List.map_cons, enS, List.map_cons, lets_map dev r]; rfl
theorem ok_Desk_letters (T : Tx K mg) : FnOk P w K mg base (L2.CX P w) 4 (He.ma K (He.ga K "Desk") "letters") T.fd_Desk_letters ["self", "device"] (lift K (spDeskLetters K)) := by
  have G_refuse_bad_device := ok_refuse_bad_device (P := P) (w := w) (base := base) T
  have b_refuse_bad_device := b_refuse_bad_device T
  have G_word_to := ok_word_to (P := P) (w := w) (base := base) T
  have b_word_to := b_word_to T
  refine fn_syXQ T.F_Desk_letters sc_Desk_letters (fun svs m SX Sv h => ?_) (fun cdv A outer s H E hr => ⟨_, _, (gss_cons (gs_expr (ge_call G_refuse_bad_device (hr) (by rfl) T.g_refuse_bad_device T.k_refuse_bad_device b_refuse_bad_device .nil (fun _ => .nil) passE (ga_cons (gv 1) (ga_cons (ge_fld T.c_Desk T.n_Desk__many (gv 0)) ga_nil))))
      (gss_one (gs_ret (ge_lc (own := [("bell", 2), ("state", 3), ("owner", 4)]) (by rfl) sc_Desk_letters.nd (gi_enumerate (by rfl) T.z_enumerate (ga_cons (ge_fld T.c_Desk T.n_Desk__bells (gv 0)) ga_nil)) (blkOk_by (own := [("bell", 2), ("state", 3), ("owner", 4)]) (N := ["self", "device", "bell", "state", "owner"]) (sc := (defScope s_Desk_letters)) (by decide +kernel)) (fun _ _ _ _ _ => (gg_tup 2 (by rfl) (ggs_cons (gg_name (i := 2) sc_Desk_letters.nd rfl (.inl rfl)) (ggs_cons (gg_tup 2 (by rfl) (ggs_cons (gg_name (i := 3) sc_Desk_letters.nd rfl (.inl rfl)) (ggs_cons (gg_name (i := 4) sc_Desk_letters.nd rfl (.inl rfl)) ggs_nil))) ggs_nil)))) (wp_tup (wps_cons (wp_name (by decide)) (wps_cons (wp_tup (wps_cons (wp_name (by decide)) (wps_cons (wp_name (by decide)) wps_nil))) wps_nil))) (fun _ _ _ _ _ => gts_nil) (fun _ _ _ _ _ => (ge_tup (ga_cons (ge_call G_word_to (hr.mono (by decide)) (by rfl) T.g_word_to T.k_word_to b_word_to .nil (fun _ => .nil) pass0 (ga_cons (gv 1) (ga_cons (gv 3) (ga_cons (gv 4) ga_nil)))) (ga_cons (gv 1) (ga_cons (gv 2) ga_nil))))))))), fun svs m SX Sv h => ?_⟩)
  · obtain ⟨d, b, n, bs, x, rfl, _⟩ := h
    rfl
  · obtain ⟨d, b, n, bs, x, rfl, D, hx, q1, q2⟩ := h
    have z := D.z
    walk_at "r"
    refine ⟨_, _, D.d, desk_many, ?_⟩
    walk_at "r"
    refine ⟨hx, fun h => ?_, fun h => .of (q2 h)⟩
    obtain ⟨dev, rfl, h1, h2⟩ := isWh_int h
    walk_at "r"
    refine ⟨_, _, D.d, desk_bells, ?_⟩
    walk_at "r"
    refine ⟨_, D.b, by rw [enS_len, List.length_map]; exact Nat.le_trans (Nat.le_of_lt z) (by decide), fun p hp => ?_⟩
    refine lc_map (letF dev) (fun acc => (up_ne (mne D.b hp)).trans D.b) (fun y hy acc K1 hk => ?_) (.of (by rw [lets_map]; exact q1 dev rfl h1 (by omega) p hp))
    obtain ⟨j, hj⟩ := List.getElem?_of_mem hy
    obtain ⟨y', hy', rfl⟩ := enS_get _ _ _ _ hj
    rw [List.getElem?_map] at hy'
    obtain ⟨⟨st, ow⟩, _, rfl⟩ := Option.map_eq_some_iff.mp hy'
    cases ow with
    | none =>
      walk_at "r"
      refine ⟨rfl, ?_⟩
      walk_at "r"
      refine ⟨rfl, ?_⟩
      walk_at "r"
      refine ⟨dev, (st, none), rfl, ?_⟩
      walk_at "r"
      refine ⟨by walk_at "len", ?_⟩
      exact hk _ (.refl _)
    | some o =>
      walk_at "r"
      refine ⟨rfl, ?_⟩
      walk_at "r"
      refine ⟨rfl, ?_⟩
      walk_at "r"
      refine ⟨dev, (st, some o), rfl, ?_⟩
      walk_at "r"
      refine ⟨by walk_at "len", ?_⟩
      exact hk _ (.refl _)
end
end Hn

set_option Elab.async false
set_option linter.all false
set_option maxRecDepth 100000
set_option maxHeartbeats 8000000
namespace Hn
open PySem PySem.Spec PyProof.Rows L2 Sy Lm
section
variable {P : Program} {w : World} {K : PySem.W.Frag} {mg : Str → Option Value} {base : Heap}
local macro_rules | `(tactic| walk_at "r") => `(tactic| (conv => whnf))
local macro_rules | `(tactic| walk_at "sp") => `(tactic| (first | rfl | contradiction | exact (False.elim ‹_›)))
local macro_rules | `(tactic| walk_at "len") => `(tactic| (exact Nat.le_trans (show _ ≤ 100000 by first | (simp; done) | (rw [rngS_length]; decide)) (by decide)))
local macro_rules | `(tactic| walk_at "f") => `(tactic| (refine Br_i (fun hb => Bool.noConfusion (show false = true from hb)) (fun _ => ?_)))
local macro_rules | `(tactic| walk_at "t") => `(tactic| (refine Br_i (fun _ => ?_) (fun hb => Bool.noConfusion (show true = false from hb))))
local macro_rules | `(tactic| walk_at "le") => `(tactic| first | exact Le.refl _ | (refine Le.put ?_; walk_at "le") | (refine Le.new ?_ (by assumption); walk_at "le"))
def dkE (q : Int × Str) : Key × SV := (.inl q.1, .str q.2)
def lookB (dbs : List (Int × Str)) (i : Int) : Option Str := (dbs.find? fun q => decide (q.1 = i)).map (·.2)
def putB (dbs : List (Int × Str)) (i : Int) (s : Str) : List (Int × Str) := if (dbs.any fun q => decide (q.1 = i)) = true then dbs.map (fun q => if q.1 = i then (q.1, s) else q) else dbs ++ [(i, s)]
theorem inl_dec {a b : Int} : decide ((Sum.inl a : Key) = Sum.inl b) = decide (a = b) := by
  by_cases h : a = b
  · subst h; simp
  · rw [decide_eq_false h, decide_eq_false (fun z => h (Sum.inl.inj z))]
theorem val_dk (i : Int) : ∀ dbs : List (Int × Str), valS (dbs.map dkE) (.inl i) = (lookB dbs i).map SV.str
  | [] => rfl
  | (j, s) :: r => by
    have ih := val_dk i r
    by_cases h : j = i
    · subst h
      simp [valS, lookB, dkE]
    · have h' : ¬ (Sum.inl j : Key) = Sum.inl i := fun z => h (Sum.inl.inj z)
      have e1 : valS (((j, s) :: r).map dkE) (.inl i) = valS (r.map dkE) (.inl i) := by simp [valS, dkE, List.find?_cons, h]
      have e2 : lookB ((j, s) :: r) i = lookB r i := by simp [lookB, List.find?_cons, h]
      rw [e1, e2, ih]
theorem put_dk (i : Int) (s : Str) (dbs : List (Int × Str)) : putD (dbs.map dkE) (.inl i) (.str s) = (putB dbs i s).map dkE := by
  unfold putD putB
  have e : ((dbs.map dkE).any fun kv => decide (kv.1 = (Sum.inl i : Key))) = dbs.any fun q => decide (q.1 = i) := by
    rw [List.any_map]
    congr 1
    funext q
    exact inl_dec
  rw [e]
  split
  · rw [List.map_map, List.map_map]
    apply List.map_congr_left
    intro q _
    show (if (dkE q).1 = (Sum.inl i : Key) then _ else _) = dkE (if q.1 = i then _ else _)
    by_cases h : q.1 = i
    · rw [if_pos (show (dkE q).1 = (Sum.inl i : Key) from congrArg Sum.inl h), if_pos h]; rfl
    · rw [if_neg (show ¬ (dkE q).1 = (Sum.inl i : Key) from fun z => h (Sum.inl.inj z)), if_neg h]
  · rw [List.map_append]; rfl
theorem putB_len (i : Int) (s : Str) (dbs : List (Int × Str)) : (putB dbs i s).length ≤ dbs.length + 1 := by
  unfold putB
  split
  · rw [List.length_map]; omega
  · rw [List.length_append]; simp
theorem look_key {dbs : List (Int × Str)} {i : Int} (h : i ∈ dbs.map (·.1)) : ∃ s, lookB dbs i = some s := by
  unfold lookB
  obtain ⟨q, h1, h2⟩ := List.mem_map.mp h
  cases e : dbs.find? fun q => decide (q.1 = i) with
  | none =>
    have := List.find?_eq_none.mp e q h1
    simp [h2] at this
  | some q => exact ⟨_, rfl⟩
def among (dbs : List (Int × Str)) (st : Str) : List Int := (srtI (dbs.map (·.1))).filter fun i => decide (lookB dbs i = some st)
def devF (num : Int) (on : Bool) (kd lr : Addr) : List (Str × SV) := [("_number", .int num), ("_on", .bl on), ("_bells", .ref kd), ("_rung", .ref lr)]
structure IsDev (K : PySem.W.Frag) (m : Mem) (p kd lr : Addr) (num : Int) (on : Bool) (dbs : List (Int × Str)) (rung : List Int) : Prop where
  p : m p = some (.ins (He.ga K "Device") (devF num on kd lr))
  kd : m kd = some (.dK (dbs.map dkE))
  lr : m lr = some (.lst (rung.map .int))
  zk : dbs.length < 64
  zr : rung.length < 64
theorem dev_number {num : Int} {on : Bool} {kd lr : Addr} : (devF num on kd lr).lookup ("_number" : Str) = some (SV.int num) := look_1
theorem dev_on {num : Int} {on : Bool} {kd lr : Addr} : (devF num on kd lr).lookup ("_on" : Str) = some (SV.bl on) := (look_n (by decide +kernel)).trans look_1
theorem dev_bells {num : Int} {on : Bool} {kd lr : Addr} : (devF num on kd lr).lookup ("_bells" : Str) = some (SV.ref kd) := (look_n (by decide +kernel)).trans ((look_n (by decide +kernel)).trans look_1)
theorem dev_rung {num : Int} {on : Bool} {kd lr : Addr} : (devF num on kd lr).lookup ("_rung" : Str) = some (SV.ref lr) := (look_n (by decide +kernel)).trans ((look_n (by decide +kernel)).trans ((look_n (by decide +kernel)).trans look_1))
theorem dev_no {num : Int} {on : Bool} {kd lr : Addr} {f : Str} (h1 : ¬ f = "_number") (h2 : ¬ f = "_on") (h3 : ¬ f = "_bells") (h4 : ¬ f = "_rung") : (devF num on kd lr).lookup f = none := by
  unfold devF; rw [look_n h1, look_n h2, look_n h3, look_n h4]; rfl
def spDevInit (K : PySem.W.Frag) : SpS := fun vs m SX S => ∃ (p : Addr) (x : SV), vs = [.ref p, x] ∧ m p = some (.ins (He.ga K "Device") []) ∧ Dat m x ∧
  (∀ n, x = .int n → isWh x 0 3 = true → ∀ kd lr, m kd = none → m lr = none → kd ≠ lr → S .non (up (up (up m kd (.dK [])) lr (.lst [])) p (.ins (He.ga K "Device") (devF n true kd lr)))) ∧ (isWh x 0 3 = false → SX ⟨He.ga K "BadDevice", none⟩ m)
def spTurn (K : PySem.W.Frag) : SpS := fun vs m _ S => ∃ p kd lr num on dbs rung on', vs = [.ref p, .bl on'] ∧ IsDev K m p kd lr num on dbs rung ∧ S .non (up m p (.ins (He.ga K "Device") (devF num on' kd lr)))
def spAmong (K : PySem.W.Frag) : SpS := fun vs m _ S => ∃ p kd lr num on dbs rung st, vs = [.ref p, .str st] ∧ IsDev K m p kd lr num on dbs rung ∧ ∀ q, m q = none → S (.ref q) (up m q (.lst ((among dbs st).map .int)))
def spRings (K : PySem.W.Frag) : SpS := fun vs m _ S => ∃ p kd lr num on dbs rung, vs = [.ref p] ∧ IsDev K m p kd lr num on dbs rung ∧ ∀ q, m q = none → S (.ref q) (up m q (.lst ((among dbs "ringing").map .int)))
def spRang (K : PySem.W.Frag) : SpS := fun vs m _ S => ∃ p kd lr num on dbs rung, vs = [.ref p] ∧ IsDev K m p kd lr num on dbs rung ∧ ∀ q, m q = none → S (.ref q) (up m q (.lst (rung.map .int)))
theorem ok_Device___init__ (T : Tx K mg) : FnOk P w K mg base (L2.CX P w) 4 (He.ma K (He.ga K "Device") "__init__") T.fd_Device___init__ ["self", "number"] (lift K (spDevInit K)) := by
  have G_refuse_bad_device := ok_refuse_bad_device (P := P) (w := w) (base := base) T
  have b_refuse_bad_device := b_refuse_bad_device T
  refine fn_syXQ T.F_Device___init__ sc_Device___init__ (fun svs m SX Sv h => ?_) (fun cdv A outer s H E hr => ⟨_, _, (gss_cons (gs_expr (ge_call G_refuse_bad_device (hr) (by rfl) T.g_refuse_bad_device T.k_refuse_bad_device b_refuse_bad_device .nil (fun _ => .nil) passE (ga_cons (gv 1) (ga_cons (ge_gi (by rfl) T.i_MOST_DEVICES) ga_nil))))
      (gss_cons (gs_fld T.c_Device T.n_Device__number (gv 0) (gv 1))
      (gss_cons (gs_fld T.c_Device T.n_Device__on (gv 0) ge_bl)
      (gss_cons (gs_fld T.c_Device T.n_Device__bells (gv 0) ge_dnew)
      (gss_one (gs_fld T.c_Device T.n_Device__rung (gv 0) (ge_lst ga_nil))))))), fun svs m SX Sv h => ?_⟩)
  · obtain ⟨d, x, rfl, _⟩ := h
    rfl
  · obtain ⟨d, x, rfl, hd, hx, q1, q2⟩ := h
    walk_at "r"
    refine ⟨hx, fun h => ?_, fun h => .of (q2 h)⟩
    obtain ⟨n, rfl, _, _⟩ := isWh_int h
    walk_at "r"
    refine ⟨_, hd, by decide, ?_⟩
    walk_at "r"
    refine ⟨_, up_same, by rw [putS_1]; simp, ?_⟩
    walk_at "r"
    intro kd hkd
    rw [up_up] at hkd
    have n1 : kd ≠ d := fun e => by rw [e, up_same] at hkd; cases hkd
    rw [up_ne n1] at hkd
    refine ⟨_, (by rw [up_ne (Ne.symm n1), up_same]), by rw [putS_1, putS_2 (by decide +kernel)]; simp, ?_⟩
    walk_at "r"
    refine ⟨by walk_at "len", fun lr hlr => ?_⟩
    have n2 : lr ≠ d := fun e => by rw [e, up_same] at hlr; cases hlr
    rw [up_ne n2] at hlr
    have n3 : lr ≠ kd := fun e => by rw [e, up_same] at hlr; cases hlr
    rw [up_ne n3, up_ne n2, up_ne n2] at hlr
    walk_at "r"
    refine ⟨_, (by rw [up_ne (Ne.symm n2)]; exact up_same), by rw [putS_1, putS_2 (by decide +kernel), putS_3 (by decide +kernel) (by decide +kernel)]; simp, ?_⟩
    walk_at "r"
    rw [putS_1, putS_2 (by decide +kernel), putS_3 (by decide +kernel) (by decide +kernel), putS_4 (by decide +kernel) (by decide +kernel) (by decide +kernel)]
    refine .of ?_
    have q := q1 n rfl h kd lr hkd hlr (Ne.symm n3)
    rw [up_up, up_comm (a := d) (b := kd) (Ne.symm n1), up_up, up_comm (a := d) (b := lr) (Ne.symm n2), up_up]
    exact q
theorem ok_Device_turn (T : Tx K mg) : FnOk P w K mg base CX0 1 (He.ma K (He.ga K "Device") "turn") T.fd_Device_turn ["self", "on"] (lift K (spTurn K)) := by
  refine fn_syQ T.F_Device_turn sc_Device_turn (fun svs m SX Sv h => ?_) (fun cdv A outer s H E hr => ⟨_, _, (gss_one (gs_fld T.c_Device T.n_Device__on (gv 0) (gv 1))), fun svs m SX Sv h => ?_⟩)
  · obtain ⟨p, kd, lr, num, on, dbs, rung, on', rfl, _⟩ := h
    rfl
  · obtain ⟨p, kd, lr, num, on, dbs, rung, on', rfl, D, q⟩ := h
    walk_at "r"
    refine ⟨_, D.p, by simp [devF], ?_⟩
    walk_at "r"
    refine .of ?_
    have e : putS "_on" (.bl on') (devF num on kd lr) = devF num on' kd lr := by
      unfold devF putS
      rw [if_neg (by decide +kernel)]
      unfold putS
      rw [if_pos rfl]
    rw [e]
    exact q
theorem ok_Device__among (T : Tx K mg) : FnOk P w K mg base CX0 1 (He.ma K (He.ga K "Device") "_among") T.fd_Device__among ["self", "state"] (lift K (spAmong K)) := by
  refine fn_syQ T.F_Device__among sc_Device__among (fun svs m SX Sv h => ?_) (fun cdv A outer s H E hr => ⟨_, _, (gss_one (gs_ret (ge_lc (own := [("bell", 2)]) (by rfl) sc_Device__among.nd (gi_seq (ge_callB cr_sortDI sim_sortDI (by rfl) T.z_sorted (by decide +kernel) (ga_cons (ge_fld T.c_Device T.n_Device__bells (gv 0)) ga_nil))) (blkOk_by (own := [("bell", 2)]) (N := ["self", "state", "bell"]) (sc := (defScope s_Device__among)) (by decide +kernel)) (fun _ _ _ _ _ => (gg_name (i := 2) sc_Device__among.nd rfl (.inl rfl))) (wp_name (by decide)) (fun _ _ _ _ _ => (gts_one (gt_cmp (op_eqG K hr.units) sim_eq (ge_dget hr.u1 (ge_fld T.c_Device T.n_Device__bells (gv 0)) (gv 2)) (gv 1) (nomark _)))) (fun _ _ _ _ _ => (gv 2))))), fun svs m SX Sv h => ?_⟩)
  · obtain ⟨p, kd, lr, num, on, dbs, rung, st, rfl, _⟩ := h
    rfl
  · obtain ⟨p, kd, lr, num, on, dbs, rung, st, rfl, D, q⟩ := h
    have zk := D.zk
    walk_at "r"
    refine ⟨_, _, D.p, dev_bells, ?_⟩
    walk_at "r"
    refine ⟨_, dbs.map (·.1), D.kd, by rw [List.map_map, List.map_map]; rfl, by rw [List.length_map]; exact zk, fun s hs => ?_⟩
    walk_at "r"
    have hl : ((srtI (dbs.map (·.1))).map SV.int).length < 64 := by rw [List.length_map, (srtI_perm _).length_eq, List.length_map]; exact zk
    refine ⟨_, up_same, Nat.le_trans (Nat.le_of_lt hl) (by decide), fun r hr => ?_⟩
    have nsr : s ≠ r := fun e => by rw [e, up_same] at hr; cases hr
    have hr0 : m r = none := by rw [up_ne (Ne.symm nsr)] at hr; exact hr
    refine lc_filt (fun x => match x with | .int i => decide (lookB dbs i = some st) | _ => false) id (fun acc => (up_ne nsr).trans up_same) (fun y hy acc K1 K0 h1 h0 => ?_) ?_
    · obtain ⟨i, hi, rfl⟩ := List.mem_map.mp hy
      obtain ⟨s0, hs0⟩ := look_key ((srtI_perm _).mem_iff.mp hi)
      walk_at "r"
      refine ⟨_, _, (by rw [up_ne (mne D.p hr0), up_ne (mne D.p hs)]; exact D.p), dev_bells, ?_⟩
      walk_at "r"
      refine ⟨_, _, _, (by rw [up_ne (mne D.kd hr0), up_ne (mne D.kd hs)]; exact D.kd), rfl, by rw [val_dk, hs0]; rfl, ?_⟩
      walk_at "r"
      refine Br_i (fun h => ?_) (fun h => ?_)
      · refine h1 _ (.refl _) ?_
        show decide (lookB dbs i = some st) = true
        rw [hs0, of_decide_eq_true h]
        exact decide_eq_true rfl
      · refine h0 _ (.refl _) ?_
        show decide (lookB dbs i = some st) = false
        rw [hs0]
        exact decide_eq_false fun z => of_decide_eq_false h (Option.some.inj z)
    · have e : (((srtI (dbs.map (·.1))).map SV.int).filter (fun x => match x with | .int i => decide (lookB dbs i = some st) | _ => false)).map id = (among dbs st).map .int := by
        unfold among
        rw [List.filter_map, List.map_id]
        rfl
      rw [e]
      exact ⟨_, (by rw [up_comm nsr]; exact Le.new (.refl _) (by rw [up_ne nsr]; exact hs)), q r hr0⟩
theorem ok_Device_rings (T : Tx K mg) : FnOk P w K mg base CX0 2 (He.ma K (He.ga K "Device") "rings") T.fd_Device_rings ["self"] (lift K (spRings K)) := by
  have G_Device__among := ok_Device__among (P := P) (w := w) (base := base) T
  have b_Device__among := b_Device__among T
  refine fn_syQ T.F_Device_rings sc_Device_rings (fun svs m SX Sv h => ?_) (fun cdv A outer s H E hr => ⟨_, _, (gss_one (gs_ret (ge_meth T.c_Device T.M_Device__among G_Device__among (hr) b_Device__among .nil (fun _ => .nil) pass0 (gv 0) (ga_cons (ge_gs (by rfl) T.i_RINGING) ga_nil)))), fun svs m SX Sv h => ?_⟩)
  · obtain ⟨p, kd, lr, num, on, dbs, rung, rfl, _⟩ := h
    rfl
  · obtain ⟨p, kd, lr, num, on, dbs, rung, rfl, D, q⟩ := h
    walk_at "r"
    refine ⟨_, D.p, dev_no (by decide +kernel) (by decide +kernel) (by decide +kernel) (by decide +kernel), ?_⟩
    walk_at "r"
    exact ⟨p, kd, lr, num, on, dbs, rung, _, rfl, D, fun r hr => .of (q r hr)⟩
theorem ok_Device_rang (T : Tx K mg) : FnOk P w K mg base CX0 1 (He.ma K (He.ga K "Device") "rang") T.fd_Device_rang ["self"] (lift K (spRang K)) := by
  refine fn_syQ T.F_Device_rang sc_Device_rang (fun svs m SX Sv h => ?_) (fun cdv A outer s H E hr => ⟨_, _, (gss_one (gs_ret (ge_callTy (cr_lst K) sim_lstOf (by rfl) T.z_list (by decide +kernel) (ga_cons (ge_fld T.c_Device T.n_Device__rung (gv 0)) ga_nil)))), fun svs m SX Sv h => ?_⟩)
  · obtain ⟨p, kd, lr, num, on, dbs, rung, rfl, _⟩ := h
    rfl
  · obtain ⟨p, kd, lr, num, on, dbs, rung, rfl, D, q⟩ := h
    walk_at "r"
    refine ⟨_, _, D.p, dev_rung, ?_⟩
    walk_at "r"
    exact ⟨_, D.lr, fun r hr => .of (q r hr)⟩
end
end Hn

set_option Elab.async false
set_option linter.all false
set_option maxRecDepth 100000
set_option maxHeartbeats 8000000
namespace Hn
open PySem PySem.Spec PyProof.Rows L2 Sy Lm
section
variable {P : Program} {w : World} {K : PySem.W.Frag} {mg : Str → Option Value} {base : Heap}
local macro_rules | `(tactic| walk_at "r") => `(tactic| (conv => whnf))
local macro_rules | `(tactic| walk_at "sp") => `(tactic| (first | rfl | contradiction | exact (False.elim ‹_›)))
local macro_rules | `(tactic| walk_at "len") => `(tactic| (exact Nat.le_trans (show _ ≤ 100000 by first | (simp; done) | (rw [rngS_length]; decide)) (by decide)))
local macro_rules | `(tactic| walk_at "f") => `(tactic| (refine Br_i (fun hb => Bool.noConfusion (show false = true from hb)) (fun _ => ?_)))
local macro_rules | `(tactic| walk_at "t") => `(tactic| (refine Br_i (fun _ => ?_) (fun hb => Bool.noConfusion (show true = false from hb))))
local macro_rules | `(tactic| walk_at "le") => `(tactic| first | exact Le.refl _ | (refine Le.put ?_; walk_at "le") | (refine Le.new ?_ (by assumption); walk_at "le"))
theorem inS_w {st z : Str} : inS (.str st) [.non, .str z] = decide (z = st) := by
  show (false || (decide (z = st) || false)) = _
  simp
def hearV (dbs : List (Int × Str)) (rung : List Int) (w : Str) (i : Int) : List (Int × Str) × List Int :=
  if w = "offer" ∧ lookB dbs i = none then (putB dbs i "wanted", rung)
  else if w = "grant" ∧ (lookB dbs i = none ∨ lookB dbs i = some ("wanted" : Str)) then (putB dbs i "ringing", rung ++ [i])
  else if w = "gone" ∧ lookB dbs i ≠ some ("to be noted" : Str) then (putB dbs i "over", rung)
  else if w = "noted" then (putB dbs i "over", rung)
  else (dbs, rung)
def hearM (m : Mem) (kd lr : Addr) (q : List (Int × Str) × List Int) : Mem := up (up m kd (.dK (q.1.map dkE))) lr (.lst (q.2.map .int))
def spDevHear (K : PySem.W.Frag) : SpS := fun vs m _ S => ∃ p kd lr num on dbs rung w dev i, vs = [.ref p, .tup [.str w, .int dev, .int i]] ∧ IsDev K m p kd lr num on dbs rung ∧ S .non (if on = true ∧ dev = num then hearM m kd lr (hearV dbs rung w i) else m)
def spTakeBell (K : PySem.W.Frag) : SpS := fun vs m SX S => ∃ p kd lr num on dbs rung x, vs = [.ref p, x] ∧ IsDev K m p kd lr num on dbs rung ∧ Dat m x ∧ (on = false → SX ⟨He.ga K "IsOff", none⟩ m) ∧
  (∀ i, on = true → x = .int i → lookB dbs i = some ("ringing" : Str) → S .non (up m kd (.dK ((putB dbs i "to be noted").map dkE)))) ∧
  (on = true → (∀ i, x = .int i → lookB dbs i ≠ some ("ringing" : Str)) → SX ⟨He.ga K "NotRinging", none⟩ m)
def devLets (num : Int) (on : Bool) (dbs : List (Int × Str)) : List SV := if on = true then (among dbs "wanted").map (fun i => .tup [.str "want", .int num, .int i]) ++ (among dbs "to be noted").map (fun i => .tup [.str "took", .int num, .int i]) else []
def spDevLetters (K : PySem.W.Frag) : SpS := fun vs m _ S => ∃ p kd lr num on dbs rung, vs = [.ref p] ∧ IsDev K m p kd lr num on dbs rung ∧ ∀ q, m q = none → S (.ref q) (up m q (.lst (devLets num on dbs)))
theorem ok_Device_hear (T : Tx K mg) : FnOk P w K mg base CX0 1 (He.ma K (He.ga K "Device") "hear") T.fd_Device_hear ["self", "letter"] (lift K (spDevHear K)) := by
  refine fn_syQ T.F_Device_hear sc_Device_hear (fun svs m SX Sv h => ?_) (fun cdv A outer s H E hr => ⟨_, _, (gss_cons (gs_asg (gv 1) (gg_tup 3 (by rfl) (ggs_cons (gg_name (i := 2) sc_Device_hear.nd rfl (.inl rfl)) (ggs_cons (gg_name (i := 3) sc_Device_hear.nd rfl (.inl rfl)) (ggs_cons (gg_name (i := 4) sc_Device_hear.nd rfl (.inl rfl)) ggs_nil)))))
      (gss_cons (gs_if (gw_pt (gw_or (gt_not (gt_val (ge_fld T.c_Device T.n_Device__on (gv 0)))) (gw_or1 (gt_cmp (op_neG K hr.units) sim_ne (gv 3) (ge_fld T.c_Device T.n_Device__number (gv 0)) (nomark _))))) (gss_one gs_retN) gss_nil)
      (gss_cons (gs_set (i := 5) sc_Device_hear.nd rfl (.inl rfl) (ge_dget1 hr.u1 (ge_fld T.c_Device T.n_Device__bells (gv 0)) (gv 4)))
      (gss_one (gs_if (gw_pt (gw_and (gt_cmp (op_eqG K hr.units) sim_eq (gv 2) (ge_gs (by rfl) T.i_OFFER) (nomark _)) (gw_and1 (gt_cmp op_isN sim_isN (gv 5) ge_non (nomark _))))) (gss_one (gs_dput hr.u1 (ge_fld T.c_Device T.n_Device__bells (gv 0)) (gv 4) (ge_gs (by rfl) T.i_WANTED))) (gss_one (gs_if (gw_pt (gw_and (gt_cmp (op_eqG K hr.units) sim_eq (gv 2) (ge_gs (by rfl) T.i_GRANT) (nomark _)) (gw_and1 (gt_cmp (op_inG K) (sim_in false) (gv 5) (ge_tup (ga_cons ge_non (ga_cons (ge_gs (by rfl) T.i_WANTED) ga_nil))) (by with_unfolding_all rfl))))) (gss_cons (gs_dput hr.u1 (ge_fld T.c_Device T.n_Device__bells (gv 0)) (gv 4) (ge_gs (by rfl) T.i_RINGING))
      (gss_one (gs_expr (ge_bm PySem.F.plainAttrs_list PySem.F.slot_list_append PySem.F.type_list_append mt_append simk_L sim_append (ge_fld T.c_Device T.n_Device__rung (gv 0)) (ga_cons (gv 4) ga_nil))))) (gss_one (gs_if (gw_pt (gw_and (gt_cmp (op_eqG K hr.units) sim_eq (gv 2) (ge_gs (by rfl) T.i_GONE) (nomark _)) (gw_and1 (gt_cmp (op_neG K hr.units) sim_ne (gv 5) (ge_gs (by rfl) T.i_TO_BE_NOTED) (nomark _))))) (gss_one (gs_dput hr.u1 (ge_fld T.c_Device T.n_Device__bells (gv 0)) (gv 4) (ge_gs (by rfl) T.i_OVER))) (gss_one (gs_if (gt_cmp (op_eqG K hr.units) sim_eq (gv 2) (ge_gs (by rfl) T.i_NOTED) (nomark _)) (gss_one (gs_dput hr.u1 (ge_fld T.c_Device T.n_Device__bells (gv 0)) (gv 4) (ge_gs (by rfl) T.i_OVER))) gss_nil))))))))))), fun svs m SX Sv h => ?_⟩)
  · obtain ⟨p, kd, lr, num, on, dbs, rung, w, dev, i, rfl, _⟩ := h
    rfl
  · obtain ⟨p, kd, lr, num, on, dbs, rung, w, dev, i, rfl, D, q⟩ := h
    have zk := D.zk
    have zr := D.zr
    have ndk : lr ≠ kd := fun e => by have := D.lr; rw [e, D.kd] at this; cases this
    walk_at "r"
    refine ⟨rfl, ?_⟩
    walk_at "r"
    refine ⟨_, _, D.p, dev_on, ?_⟩
    cases on with
    | false =>
      rw [if_neg (fun z => by cases z.1)] at q
      walk_at "r"
      walk_at "t"
      walk_at "t"
      walk_at "r"
      exact .of q
    | true =>
      walk_at "r"
      walk_at "f"
      walk_at "r"
      refine ⟨_, _, D.p, dev_number, ?_⟩
      walk_at "r"
      refine Br_i (fun h => ?_) (fun h => ?_)
      · rw [if_neg (fun z => by have := z.2; subst this; simp at h)] at q
        walk_at "r"
        exact .of q
      rw [if_pos ⟨rfl, by simpa using h⟩] at q
      have fin : ∀ d' r', hearV dbs rung w i = (d', r') → Fg (Sv .non) (up (up m kd (.dK (d'.map dkE))) lr (.lst (r'.map .int))) := fun d' r' e => by rw [e] at q; exact .of q
      have fin1 : ∀ d', hearV dbs rung w i = (d', rung) → Fg (Sv .non) (up m kd (.dK (d'.map dkE))) := fun d' e => by
        have z := fin d' rung e
        rw [up_id (by rw [up_ne ndk]; exact D.lr)] at z
        exact z
      have fin0 : hearV dbs rung w i = (dbs, rung) → Fg (Sv .non) m := fun e => by
        have z := fin1 dbs e
        rw [up_id D.kd] at z
        exact z
      walk_at "r"
      refine ⟨_, _, D.p, dev_bells, ?_⟩
      walk_at "r"
      refine ⟨⟨_, D.kd⟩, ?_⟩
      walk_at "r"
      refine ⟨_, _, D.kd, rfl, ?_⟩
      rw [val_dk]
      have zkl : (dbs.map dkE).length < sizeLine := Nat.lt_of_lt_of_le (show _ < 64 by rw [List.length_map]; exact zk) (by decide)
      have zrl : (rung.map SV.int).length < sizeLine := Nat.lt_of_lt_of_le (show _ < 64 by rw [List.length_map]; exact zr) (by decide)
      have npk : p ≠ kd := fun e => by have := D.kd; rw [← e, D.p] at this; cases this
      cases e : lookB dbs i with
      | none =>
        walk_at "r"
        refine Br_i (fun h => ?_) (fun h => ?_)
        · have h := of_decide_eq_true h
          walk_at "r"
          walk_at "t"
          walk_at "r"
          refine ⟨_, _, D.p, dev_bells, ?_⟩
          walk_at "r"
          refine ⟨_, _, D.kd, rfl, zkl, ?_⟩
          rw [put_dk]
          exact fin1 _ (by unfold hearV; rw [if_pos ⟨h, e⟩])
        · have n1 : ¬ (w = "offer" ∧ lookB dbs i = none) := fun z => of_decide_eq_false h z.1
          walk_at "f"
          walk_at "r"
          refine Br_i (fun h => ?_) (fun h => ?_)
          · have h := of_decide_eq_true h
            walk_at "r"
            refine ⟨by walk_at "len", ?_⟩
            walk_at "r"
            refine ⟨_, rfl, rfl, rfl, ?_⟩
            walk_at "r"
            walk_at "t"
            walk_at "r"
            refine ⟨_, _, D.p, dev_bells, ?_⟩
            walk_at "r"
            refine ⟨_, _, D.kd, rfl, zkl, ?_⟩
            rw [put_dk]
            walk_at "r"
            refine ⟨_, _, (up_ne npk).trans D.p, dev_rung, ?_⟩
            walk_at "r"
            refine ⟨⟨_, (up_ne ndk).trans D.lr⟩, ?_⟩
            walk_at "r"
            refine ⟨_, (up_ne ndk).trans D.lr, zrl, ?_⟩
            have z := fin _ _ (by unfold hearV; rw [if_neg n1, if_pos ⟨h, .inl e⟩])
            rw [List.map_append] at z
            exact z
          · have n2 : ¬ (w = "grant" ∧ (lookB dbs i = none ∨ lookB dbs i = some ("wanted" : Str))) := fun z => of_decide_eq_false h z.1
            walk_at "f"
            walk_at "r"
            refine Br_i (fun h => ?_) (fun h => ?_)
            · have h := of_decide_eq_true h
              walk_at "r"
              walk_at "t"
              walk_at "r"
              refine ⟨_, _, D.p, dev_bells, ?_⟩
              walk_at "r"
              refine ⟨_, _, D.kd, rfl, zkl, ?_⟩
              rw [put_dk]
              exact fin1 _ (by unfold hearV; rw [if_neg n1, if_neg n2, if_pos ⟨h, fun z => by rw [e] at z; cases z⟩])
            · have n3 : ¬ (w = "gone" ∧ lookB dbs i ≠ some ("to be noted" : Str)) := fun z => of_decide_eq_false h z.1
              walk_at "f"
              walk_at "r"
              refine Br_i (fun h => ?_) (fun h => ?_)
              · walk_at "r"
                refine ⟨_, _, D.p, dev_bells, ?_⟩
                walk_at "r"
                refine ⟨_, _, D.kd, rfl, zkl, ?_⟩
                rw [put_dk]
                exact fin1 _ (by unfold hearV; rw [if_neg n1, if_neg n2, if_neg n3, if_pos (of_decide_eq_true h)])
              · have n4 := of_decide_eq_false h
                walk_at "r"
                exact fin0 (by unfold hearV; rw [if_neg n1, if_neg n2, if_neg n3, if_neg n4])
      | some st =>
        walk_at "r"
        refine Br_i (fun h => ?_) (fun h => ?_)
        · have h := of_decide_eq_true h
          walk_at "r"
          walk_at "f"
          have n1 : ¬ (w = "offer" ∧ lookB dbs i = none) := fun z => by rw [e] at z; cases z.2
          walk_at "r"
          refine Br_i (fun h => ?_) (fun h => ?_)
          · have h := of_decide_eq_true h
            walk_at "r"
            refine ⟨by walk_at "len", ?_⟩
            walk_at "r"
            refine ⟨_, rfl, rfl, rfl, ?_⟩
            walk_at "r"
            refine Br_i (fun h2 => ?_) (fun h2 => ?_)
            · have h2 : st = "wanted" := (of_decide_eq_true ((inS_w (z := "wanted")).symm.trans h2)).symm
              walk_at "r"
              refine ⟨_, _, D.p, dev_bells, ?_⟩
              walk_at "r"
              refine ⟨_, _, D.kd, rfl, zkl, ?_⟩
              rw [put_dk]
              walk_at "r"
              refine ⟨_, _, (up_ne npk).trans D.p, dev_rung, ?_⟩
              walk_at "r"
              refine ⟨⟨_, (up_ne ndk).trans D.lr⟩, ?_⟩
              walk_at "r"
              refine ⟨_, (up_ne ndk).trans D.lr, zrl, ?_⟩
              have z := fin _ _ (by unfold hearV; rw [if_neg n1, if_pos ⟨h, .inr (by rw [e, h2])⟩])
              rw [List.map_append] at z
              exact z
            · have h2 : ¬ st = "wanted" := fun z => of_decide_eq_false ((inS_w (z := "wanted")).symm.trans h2) z.symm
              have n2 : ¬ (w = "grant" ∧ (lookB dbs i = none ∨ lookB dbs i = some ("wanted" : Str))) := fun z => by rw [e] at z; rcases z.2 with z | z; cases z; exact h2 (Option.some.inj z)
              walk_at "r"
              refine Br_i (fun h => ?_) (fun h => ?_)
              · have h := of_decide_eq_true h
                walk_at "r"
                refine Br_i (fun h2 => ?_) (fun h2 => ?_)
                · have h2 : ¬ st = "to be noted" := by simpa using h2
                  walk_at "r"
                  refine ⟨_, _, D.p, dev_bells, ?_⟩
                  walk_at "r"
                  refine ⟨_, _, D.kd, rfl, zkl, ?_⟩
                  rw [put_dk]
                  exact fin1 _ (by unfold hearV; rw [if_neg n1, if_neg n2, if_pos ⟨h, fun z => h2 (Option.some.inj (e.symm.trans z))⟩])
                · have h2 : st = "to be noted" := by simpa using h2
                  have n3 : ¬ (w = "gone" ∧ lookB dbs i ≠ some ("to be noted" : Str)) := fun z => z.2 (by rw [e, h2])
                  walk_at "r"
                  refine Br_i (fun h => ?_) (fun h => ?_)
                  · walk_at "r"
                    refine ⟨_, _, D.p, dev_bells, ?_⟩
                    walk_at "r"
                    refine ⟨_, _, D.kd, rfl, zkl, ?_⟩
                    rw [put_dk]
                    exact fin1 _ (by unfold hearV; rw [if_neg n1, if_neg n2, if_neg n3, if_pos (of_decide_eq_true h)])
                  · have n4 := of_decide_eq_false h
                    walk_at "r"
                    exact fin0 (by unfold hearV; rw [if_neg n1, if_neg n2, if_neg n3, if_neg n4])
              · have n3 : ¬ (w = "gone" ∧ lookB dbs i ≠ some ("to be noted" : Str)) := fun z => of_decide_eq_false h z.1
                walk_at "f"
                walk_at "r"
                refine Br_i (fun h => ?_) (fun h => ?_)
                · walk_at "r"
                  refine ⟨_, _, D.p, dev_bells, ?_⟩
                  walk_at "r"
                  refine ⟨_, _, D.kd, rfl, zkl, ?_⟩
                  rw [put_dk]
                  exact fin1 _ (by unfold hearV; rw [if_neg n1, if_neg n2, if_neg n3, if_pos (of_decide_eq_true h)])
                · have n4 := of_decide_eq_false h
                  walk_at "r"
                  exact fin0 (by unfold hearV; rw [if_neg n1, if_neg n2, if_neg n3, if_neg n4])
          · have n2 : ¬ (w = "grant" ∧ (lookB dbs i = none ∨ lookB dbs i = some ("wanted" : Str))) := fun z => of_decide_eq_false h z.1
            walk_at "f"
            walk_at "r"
            refine Br_i (fun h => ?_) (fun h => ?_)
            · have h := of_decide_eq_true h
              walk_at "r"
              refine Br_i (fun h2 => ?_) (fun h2 => ?_)
              · have h2 : ¬ st = "to be noted" := by simpa using h2
                walk_at "r"
                refine ⟨_, _, D.p, dev_bells, ?_⟩
                walk_at "r"
                refine ⟨_, _, D.kd, rfl, zkl, ?_⟩
                rw [put_dk]
                exact fin1 _ (by unfold hearV; rw [if_neg n1, if_neg n2, if_pos ⟨h, fun z => h2 (Option.some.inj (e.symm.trans z))⟩])
              · have h2 : st = "to be noted" := by simpa using h2
                have n3 : ¬ (w = "gone" ∧ lookB dbs i ≠ some ("to be noted" : Str)) := fun z => z.2 (by rw [e, h2])
                walk_at "r"
                refine Br_i (fun h => ?_) (fun h => ?_)
                · walk_at "r"
                  refine ⟨_, _, D.p, dev_bells, ?_⟩
                  walk_at "r"
                  refine ⟨_, _, D.kd, rfl, zkl, ?_⟩
                  rw [put_dk]
                  exact fin1 _ (by unfold hearV; rw [if_neg n1, if_neg n2, if_neg n3, if_pos (of_decide_eq_true h)])
                · have n4 := of_decide_eq_false h
                  walk_at "r"
                  exact fin0 (by unfold hearV; rw [if_neg n1, if_neg n2, if_neg n3, if_neg n4])
            · have n3 : ¬ (w = "gone" ∧ lookB dbs i ≠ some ("to be noted" : Str)) := fun z => of_decide_eq_false h z.1
              walk_at "f"
              walk_at "r"
              refine Br_i (fun h => ?_) (fun h => ?_)
              · walk_at "r"
                refine ⟨_, _, D.p, dev_bells, ?_⟩
                walk_at "r"
                refine ⟨_, _, D.kd, rfl, zkl, ?_⟩
                rw [put_dk]
                exact fin1 _ (by unfold hearV; rw [if_neg n1, if_neg n2, if_neg n3, if_pos (of_decide_eq_true h)])
              · have n4 := of_decide_eq_false h
                walk_at "r"
                exact fin0 (by unfold hearV; rw [if_neg n1, if_neg n2, if_neg n3, if_neg n4])
        · have n1 : ¬ (w = "offer" ∧ lookB dbs i = none) := fun z => of_decide_eq_false h z.1
          walk_at "f"
          walk_at "r"
          refine Br_i (fun h => ?_) (fun h => ?_)
          · have h := of_decide_eq_true h
            walk_at "r"
            refine ⟨by walk_at "len", ?_⟩
            walk_at "r"
            refine ⟨_, rfl, rfl, rfl, ?_⟩
            walk_at "r"
            refine Br_i (fun h2 => ?_) (fun h2 => ?_)
            · have h2 : st = "wanted" := (of_decide_eq_true ((inS_w (z := "wanted")).symm.trans h2)).symm
              walk_at "r"
              refine ⟨_, _, D.p, dev_bells, ?_⟩
              walk_at "r"
              refine ⟨_, _, D.kd, rfl, zkl, ?_⟩
              rw [put_dk]
              walk_at "r"
              refine ⟨_, _, (up_ne npk).trans D.p, dev_rung, ?_⟩
              walk_at "r"
              refine ⟨⟨_, (up_ne ndk).trans D.lr⟩, ?_⟩
              walk_at "r"
              refine ⟨_, (up_ne ndk).trans D.lr, zrl, ?_⟩
              have z := fin _ _ (by unfold hearV; rw [if_neg n1, if_pos ⟨h, .inr (by rw [e, h2])⟩])
              rw [List.map_append] at z
              exact z
            · have h2 : ¬ st = "wanted" := fun z => of_decide_eq_false ((inS_w (z := "wanted")).symm.trans h2) z.symm
              have n2 : ¬ (w = "grant" ∧ (lookB dbs i = none ∨ lookB dbs i = some ("wanted" : Str))) := fun z => by rw [e] at z; rcases z.2 with z | z; cases z; exact h2 (Option.some.inj z)
              walk_at "r"
              refine Br_i (fun h => ?_) (fun h => ?_)
              · have h := of_decide_eq_true h
                walk_at "r"
                refine Br_i (fun h2 => ?_) (fun h2 => ?_)
                · have h2 : ¬ st = "to be noted" := by simpa using h2
                  walk_at "r"
                  refine ⟨_, _, D.p, dev_bells, ?_⟩
                  walk_at "r"
                  refine ⟨_, _, D.kd, rfl, zkl, ?_⟩
                  rw [put_dk]
                  exact fin1 _ (by unfold hearV; rw [if_neg n1, if_neg n2, if_pos ⟨h, fun z => h2 (Option.some.inj (e.symm.trans z))⟩])
                · have h2 : st = "to be noted" := by simpa using h2
                  have n3 : ¬ (w = "gone" ∧ lookB dbs i ≠ some ("to be noted" : Str)) := fun z => z.2 (by rw [e, h2])
                  walk_at "r"
                  refine Br_i (fun h => ?_) (fun h => ?_)
                  · walk_at "r"
                    refine ⟨_, _, D.p, dev_bells, ?_⟩
                    walk_at "r"
                    refine ⟨_, _, D.kd, rfl, zkl, ?_⟩
                    rw [put_dk]
                    exact fin1 _ (by unfold hearV; rw [if_neg n1, if_neg n2, if_neg n3, if_pos (of_decide_eq_true h)])
                  · have n4 := of_decide_eq_false h
                    walk_at "r"
                    exact fin0 (by unfold hearV; rw [if_neg n1, if_neg n2, if_neg n3, if_neg n4])
              · have n3 : ¬ (w = "gone" ∧ lookB dbs i ≠ some ("to be noted" : Str)) := fun z => of_decide_eq_false h z.1
                walk_at "f"
                walk_at "r"
                refine Br_i (fun h => ?_) (fun h => ?_)
                · walk_at "r"
                  refine ⟨_, _, D.p, dev_bells, ?_⟩
                  walk_at "r"
                  refine ⟨_, _, D.kd, rfl, zkl, ?_⟩
                  rw [put_dk]
                  exact fin1 _ (by unfold hearV; rw [if_neg n1, if_neg n2, if_neg n3, if_pos (of_decide_eq_true h)])
                · have n4 := of_decide_eq_false h
                  walk_at "r"
                  exact fin0 (by unfold hearV; rw [if_neg n1, if_neg n2, if_neg n3, if_neg n4])
          · have n2 : ¬ (w = "grant" ∧ (lookB dbs i = none ∨ lookB dbs i = some ("wanted" : Str))) := fun z => of_decide_eq_false h z.1
            walk_at "f"
            walk_at "r"
            refine Br_i (fun h => ?_) (fun h => ?_)
            · have h := of_decide_eq_true h
              walk_at "r"
              refine Br_i (fun h2 => ?_) (fun h2 => ?_)
              · have h2 : ¬ st = "to be noted" := by simpa using h2
                walk_at "r"
                refine ⟨_, _, D.p, dev_bells, ?_⟩
                walk_at "r"
                refine ⟨_, _, D.kd, rfl, zkl, ?_⟩
                rw [put_dk]
                exact fin1 _ (by unfold hearV; rw [if_neg n1, if_neg n2, if_pos ⟨h, fun z => h2 (Option.some.inj (e.symm.trans z))⟩])
              · have h2 : st = "to be noted" := by simpa using h2
                have n3 : ¬ (w = "gone" ∧ lookB dbs i ≠ some ("to be noted" : Str)) := fun z => z.2 (by rw [e, h2])
                walk_at "r"
                refine Br_i (fun h => ?_) (fun h => ?_)
                · walk_at "r"
                  refine ⟨_, _, D.p, dev_bells, ?_⟩
                  walk_at "r"
                  refine ⟨_, _, D.kd, rfl, zkl, ?_⟩
                  rw [put_dk]
                  exact fin1 _ (by unfold hearV; rw [if_neg n1, if_neg n2, if_neg n3, if_pos (of_decide_eq_true h)])
                · have n4 := of_decide_eq_false h
                  walk_at "r"
                  exact fin0 (by unfold hearV; rw [if_neg n1, if_neg n2, if_neg n3, if_neg n4])
            · have n3 : ¬ (w = "gone" ∧ lookB dbs i ≠ some ("to be noted" : Str)) := fun z => of_decide_eq_false h z.1
              walk_at "f"
              walk_at "r"
              refine Br_i (fun h => ?_) (fun h => ?_)
              · walk_at "r"
                refine ⟨_, _, D.p, dev_bells, ?_⟩
                walk_at "r"
                refine ⟨_, _, D.kd, rfl, zkl, ?_⟩
                rw [put_dk]
                exact fin1 _ (by unfold hearV; rw [if_neg n1, if_neg n2, if_neg n3, if_pos (of_decide_eq_true h)])
              · have n4 := of_decide_eq_false h
                walk_at "r"
                exact fin0 (by unfold hearV; rw [if_neg n1, if_neg n2, if_neg n3, if_neg n4])
end
end Hn

set_option Elab.async false
set_option linter.all false
set_option maxRecDepth 100000
set_option maxHeartbeats 8000000
namespace Hn
open PySem PySem.Spec PyProof.Rows L2 Sy Lm
section
variable {P : Program} {w : World} {K : PySem.W.Frag} {mg : Str → Option Value} {base : Heap}
local macro_rules | `(tactic| walk_at "r") => `(tactic| (conv => whnf))
local macro_rules | `(tactic| walk_at "sp") => `(tactic| (first | rfl | contradiction | exact (False.elim ‹_›)))
local macro_rules | `(tactic| walk_at "len") => `(tactic| (exact Nat.le_trans (show _ ≤ 100000 by first | (simp; done) | (rw [rngS_length]; decide)) (by decide)))
local macro_rules | `(tactic| walk_at "f") => `(tactic| (refine Br_i (fun hb => Bool.noConfusion (show false = true from hb)) (fun _ => ?_)))
local macro_rules | `(tactic| walk_at "t") => `(tactic| (refine Br_i (fun _ => ?_) (fun hb => Bool.noConfusion (show true = false from hb))))
local macro_rules | `(tactic| walk_at "le") => `(tactic| first | exact Le.refl _ | (refine Le.put ?_; walk_at "le") | (refine Le.new ?_ (by assumption); walk_at "le"))
theorem IsDev.le {m m' : Mem} {p kd lr : Addr} {num : Int} {on : Bool} {dbs : List (Int × Str)} {rung : List Int} (D : IsDev K m p kd lr num on dbs rung) (l : Le m m') : IsDev K m' p kd lr num on dbs rung := ⟨l _ _ D.p, l _ _ D.kd, l _ _ D.lr, D.zk, D.zr⟩
theorem IsDesk.le {m m' : Mem} {d b : Addr} {n : Int} {bs : List (Str × Option Int)} (D : IsDesk K m d b n bs) (l : Le m m') : IsDesk K m' d b n bs := ⟨l _ _ D.d, l _ _ D.b, D.z, D.n⟩
theorem ok_Device_take (T : Tx K mg) : FnOk P w K mg base (L2.CX P w) 2 (He.ma K (He.ga K "Device") "take") T.fd_Device_take ["self", "bell"] (lift K (spTakeBell K)) := by
  have G_is_number := ok_is_number (P := P) (w := w) (base := base) T
  have b_is_number := b_is_number T
  refine fn_syXQ T.F_Device_take sc_Device_take (fun svs m SX Sv h => ?_) (fun cdv A outer s H E hr => ⟨_, _, (gss_cons (gs_if (gt_not (gt_val (ge_fld T.c_Device T.n_Device__on (gv 0)))) (gss_one (gs_raise (ps_raise rfl (takes_of rfl rfl rfl rfl) (pmk_own PySem.F.excBase_ValueError T.x_IsOff T.g_IsOff T.k_IsOff (raises_own T.e_IsOff T.t_IsOff) (by exact rfl))))) gss_nil)
      (gss_cons (gs_if (gw_pt (gw_or (gt_not (gt_val (ge_call G_is_number (hr) (by rfl) T.g_is_number T.k_is_number b_is_number .nil (fun _ => .nil) pass0 (ga_cons (gv 1) ga_nil)))) (gw_or1 (gt_cmp (op_neG K hr.units) sim_ne (ge_dget1 hr.u1 (ge_fld T.c_Device T.n_Device__bells (gv 0)) (gv 1)) (ge_gs (by rfl) T.i_RINGING) (nomark _))))) (gss_one (gs_raise (ps_raise rfl (takes_of rfl rfl rfl rfl) (pmk_own PySem.F.excBase_ValueError T.x_NotRinging T.g_NotRinging T.k_NotRinging (raises_own T.e_NotRinging T.t_NotRinging) (by exact rfl))))) gss_nil)
      (gss_one (gs_dput hr.u1 (ge_fld T.c_Device T.n_Device__bells (gv 0)) (gv 1) (ge_gs (by rfl) T.i_TO_BE_NOTED))))), fun svs m SX Sv h => ?_⟩)
  · obtain ⟨p, kd, lr, num, on, dbs, rung, x, rfl, _⟩ := h
    rfl
  · obtain ⟨p, kd, lr, num, on, dbs, rung, x, rfl, D, hx, q0, q1, q2⟩ := h
    have zk := D.zk
    have zkl : (dbs.map dkE).length < sizeLine := Nat.lt_of_lt_of_le (show _ < 64 by rw [List.length_map]; exact zk) (by decide)
    walk_at "r"
    refine ⟨_, _, D.p, dev_on, ?_⟩
    walk_at "r"
    cases on with
    | false =>
      walk_at "t"
      walk_at "r"
      exact .of (q0 rfl)
    | true =>
      walk_at "f"
      walk_at "r"
      refine ⟨hx, ?_⟩
      walk_at "r"
      cases x with
      | int i =>
        walk_at "f"
        walk_at "r"
        refine ⟨_, _, D.p, dev_bells, ?_⟩
        walk_at "r"
        refine ⟨⟨_, D.kd⟩, ?_⟩
        walk_at "r"
        refine ⟨_, _, D.kd, rfl, ?_⟩
        rw [val_dk]
        cases e : lookB dbs i with
        | none =>
          walk_at "r"
          walk_at "t"
          walk_at "r"
          exact .of (q2 rfl fun j hj z => by cases hj; rw [e] at z; cases z)
        | some st =>
          walk_at "r"
          refine Br_i (fun h => ?_) (fun h => ?_)
          · walk_at "r"
            exact .of (q2 rfl fun j hj z => by cases hj; rw [e] at z; cases z; simp at h)
          · have h : st = "ringing" := by simpa using h
            walk_at "r"
            refine ⟨_, _, D.p, dev_bells, ?_⟩
            walk_at "r"
            refine ⟨_, _, D.kd, rfl, zkl, ?_⟩
            rw [put_dk]
            exact .of (q1 i rfl rfl (by rw [e, h]))
      | _ =>
        walk_at "t"
        walk_at "t"
        walk_at "r"
        exact .of (q2 rfl fun j hj => by cases hj)
theorem ok_Device_letters (T : Tx K mg) : FnOk P w K mg base CX0 2 (He.ma K (He.ga K "Device") "letters") T.fd_Device_letters ["self"] (lift K (spDevLetters K)) := by
  have G_Device__among := ok_Device__among (P := P) (w := w) (base := base) T
  have b_Device__among := b_Device__among T
  refine fn_syQ T.F_Device_letters sc_Device_letters (fun svs m SX Sv h => ?_) (fun cdv A outer s H E hr => ⟨_, _, (gss_cons (gs_if (gt_not (gt_val (ge_fld T.c_Device T.n_Device__on (gv 0)))) (gss_one (gs_ret (ge_lst ga_nil))) gss_nil)
      (gss_cons (gs_setLc (i := 1) (own := [("bell", 2)]) (by rfl) sc_Device_letters.nd rfl rfl (sw_true rfl rfl rfl (by decide +kernel)) (gi_seq (ge_meth T.c_Device T.M_Device__among G_Device__among (hr) b_Device__among .nil (fun _ => .nil) pass0 (gv 0) (ga_cons (ge_gs (by rfl) T.i_WANTED) ga_nil))) (blkOk_by (own := [("bell", 2)]) (N := ["self", "wanted", "bell"]) (sc := (defScope s_Device_letters)) (by decide +kernel)) (fun _ _ _ _ _ => (gg_name (i := 2) sc_Device_letters.nd rfl (.inl rfl))) (wp_name (by decide)) (fun _ _ _ _ _ => gts_nil) (fun _ _ _ _ _ => (ge_tup (ga_cons (ge_gs (by rfl) T.i_WANT) (ga_cons (ge_fld T.c_Device T.n_Device__number (gv 0)) (ga_cons (gv 2) ga_nil))))))
      (gss_one (gs_ret (ge_op (op_addG K) sim_add (gv 1) (ge_lc (own := [("bell", 2)]) (by rfl) sc_Device_letters.nd (gi_seq (ge_meth T.c_Device T.M_Device__among G_Device__among (hr) b_Device__among .nil (fun _ => .nil) pass0 (gv 0) (ga_cons (ge_gs (by rfl) T.i_TO_BE_NOTED) ga_nil))) (blkOk_by (own := [("bell", 2)]) (N := ["self", "wanted", "bell"]) (sc := (defScope s_Device_letters)) (by decide +kernel)) (fun _ _ _ _ _ => (gg_name (i := 2) sc_Device_letters.nd rfl (.inl rfl))) (wp_name (by decide)) (fun _ _ _ _ _ => gts_nil) (fun _ _ _ _ _ => (ge_tup (ga_cons (ge_gs (by rfl) T.i_TOOK) (ga_cons (ge_fld T.c_Device T.n_Device__number (gv 0)) (ga_cons (gv 2) ga_nil))))))))))), fun svs m SX Sv h => ?_⟩)
  · obtain ⟨p, kd, lr, num, on, dbs, rung, rfl, _⟩ := h
    rfl
  · obtain ⟨p, kd, lr, num, on, dbs, rung, rfl, D, q⟩ := h
    walk_at "r"
    refine ⟨_, _, D.p, dev_on, ?_⟩
    walk_at "r"
    unfold devLets at q
    cases on with
    | false =>
      rw [if_neg (fun z => by cases z)] at q
      walk_at "t"
      walk_at "r"
      exact ⟨by walk_at "len", fun r hr => .of (q r hr)⟩
    | true =>
      rw [if_pos rfl] at q
      have hl : ∀ st, ((among dbs st).map SV.int).length ≤ 64 := fun st => by
        have zk := D.zk
        unfold among
        have h1 := List.length_filter_le (fun i => decide (lookB dbs i = some st)) (srtI (dbs.map (·.1)))
        rw [(srtI_perm _).length_eq, List.length_map] at h1
        rw [List.length_map]
        omega
      walk_at "f"
      walk_at "r"
      refine ⟨_, D.p, dev_no (by decide +kernel) (by decide +kernel) (by decide +kernel) (by decide +kernel), ?_⟩
      walk_at "r"
      refine ⟨p, kd, lr, num, true, dbs, rung, _, rfl, D, fun a ha => ?_⟩
      walk_at "r"
      refine ⟨_, up_same, Nat.le_trans (hl _) (by decide), fun b hb => ?_⟩
      have l1 : Le m (up (up m a (.lst ((among dbs "wanted").map .int))) b (.lst (((among dbs "wanted").map SV.int).map fun x => .tup [.str "want", .int num, x]))) := .new (.new (.refl _) ha) hb
      refine lc_map (fun x => .tup [.str "want", .int num, x]) (fun acc => (up_ne (mne up_same hb)).trans up_same) (fun y hy acc K1 hk => ?_) ?_
      · walk_at "r"
        refine ⟨_, _, (Le.new (Le.new (.refl _) ha) hb _ _ D.p), dev_number, ?_⟩
        walk_at "r"
        exact ⟨by walk_at "len", hk _ (.refl _)⟩
      generalize hm2 : up (up m a (.lst ((among dbs "wanted").map .int))) b (.lst (((among dbs "wanted").map SV.int).map fun x => .tup [.str "want", .int num, x])) = m2 at l1 ⊢
      have hb2 : m2 b = some (.lst (((among dbs "wanted").map SV.int).map fun x => .tup [.str "want", .int num, x])) := by rw [← hm2]; exact up_same
      have D2 := D.le l1
      walk_at "r"
      refine ⟨_, D2.p, dev_no (by decide +kernel) (by decide +kernel) (by decide +kernel) (by decide +kernel), ?_⟩
      walk_at "r"
      refine ⟨p, kd, lr, num, true, dbs, rung, _, rfl, D2, fun c hc => ?_⟩
      walk_at "r"
      refine ⟨_, up_same, Nat.le_trans (hl _) (by decide), fun d hd => ?_⟩
      refine lc_map (fun x => .tup [.str "took", .int num, x]) (fun acc => (up_ne (mne up_same hd)).trans up_same) (fun y hy acc K1 hk => ?_) ?_
      · walk_at "r"
        refine ⟨_, _, (Le.new (Le.new (.refl _) hc) hd _ _ D2.p), dev_number, ?_⟩
        walk_at "r"
        exact ⟨by walk_at "len", hk _ (.refl _)⟩
      have l3 : Le m2 (up (up m2 c (.lst ((among dbs "to be noted").map .int))) d (.lst (((among dbs "to be noted").map SV.int).map fun x => .tup [.str "took", .int num, x]))) := .new (.new (.refl _) hc) hd
      generalize hm3 : up (up m2 c (.lst ((among dbs "to be noted").map .int))) d (.lst (((among dbs "to be noted").map SV.int).map fun x => .tup [.str "took", .int num, x])) = m3 at l3 ⊢
      have hd3 : m3 d = some (.lst (((among dbs "to be noted").map SV.int).map fun x => .tup [.str "took", .int num, x])) := by rw [← hm3]; exact up_same
      walk_at "r"
      refine ⟨_, _, l3 _ _ hb2, hd3, ?_, fun r hr => ?_⟩
      · have h1 := hl "wanted"
        have h2 := hl "to be noted"
        rw [List.length_map] at h1 h2
        rw [List.length_map, List.length_map, List.length_map, List.length_map]
        exact Nat.le_trans (show _ ≤ 128 by omega) (by decide)
      · refine ⟨_, .put (l1.trans l3), ?_⟩
        rw [List.map_map, List.map_map]
        exact q r ((l1.trans l3).none hr)
end
end Hn

set_option Elab.async false
set_option linter.all false
set_option maxRecDepth 100000
set_option maxHeartbeats 8000000
namespace Hn
open PySem PySem.Spec PyProof.Rows L2 Sy Lm
section
variable {P : Program} {w : World} {K : PySem.W.Frag} {mg : Str → Option Value} {base : Heap}
local macro_rules | `(tactic| walk_at "r") => `(tactic| (conv => whnf))
local macro_rules | `(tactic| walk_at "sp") => `(tactic| (first | rfl | contradiction | exact (False.elim ‹_›)))
local macro_rules | `(tactic| walk_at "len") => `(tactic| (exact Nat.le_trans (show _ ≤ 100000 by first | (simp; done) | (rw [rngS_length]; decide)) (by decide)))
local macro_rules | `(tactic| walk_at "f") => `(tactic| (refine Br_i (fun hb => Bool.noConfusion (show false = true from hb)) (fun _ => ?_)))
local macro_rules | `(tactic| walk_at "t") => `(tactic| (refine Br_i (fun _ => ?_) (fun hb => Bool.noConfusion (show true = false from hb))))
local macro_rules | `(tactic| walk_at "le") => `(tactic| first | exact Le.refl _ | (refine Le.put ?_; walk_at "le") | (refine Le.new ?_ (by assumption); walk_at "le"))
theorem lay_ints : ∀ ns : List Int, PyData.canLayAll0 (ns.map PyData.int) = true ∧ PyData.depthAll (ns.map PyData.int) ≤ 1
  | [] => ⟨by simp [PyData.canLayAll0], by simp [PyData.depthAll]⟩
  | n :: r => by
    have h := lay_ints r
    have h2 := h.2
    refine ⟨by simp [PyData.canLayAll0, PyData.canLay0, h.1], ?_⟩
    simp only [List.map_cons, PyData.depthAll, PyData.depth]
    omega
theorem shaped_ints : ∀ ns : List Int, SeqAt.shaped (.list (ns.map PyData.int)) = true := fun ns => by
  have h := lay_ints ns
  have h2 := h.2
  unfold SeqAt.shaped
  have h3 : (1 + PyData.depthAll (ns.map PyData.int)) ≤ 64 := by omega
  simp only [PyData.canLay0, PyData.depth, h.1, Bool.true_and]
  exact decide_eq_true (by first | exact h3 | (rw [Nat.add_comm]; exact h3))
theorem rds_ints {m : Mem} : ∀ ns : List Int, Rds m (ns.map SV.int) (ns.map PyData.int)
  | [] => .nil
  | _ :: r => .cons (.int _) (rds_ints r)
def spTakeO : SpS := fun vs m _ S => ∃ b c sv ns k, vs = [.ref b, .int k] ∧ m b = some (.lst [.ref c, .int sv]) ∧ m c = some (.lst (List.map SV.int ns)) ∧ ns.length ≤ 63 ∧ 0 < k ∧ k.natAbs < 2 ^ 8000 ∧
  ∀ (n : Int) (ns' : List Int) (sv' : Int), 0 ≤ n → n < k → ns'.length ≤ 63 → S (.int n) (up (up m c (.lst (ns'.map .int))) b (.lst [.ref c, .int sv']))
def IsBox (m : Mem) (b : Addr) : Prop := ∃ c, m b = some (.box c) ∧ m c = some .bxi
def spTake : SpS := fun vs m _ S => match vs with
  | [.ref b, .int k] => IsBox m b ∧ (0 < k ∧ k.natAbs < 2 ^ 8000) ∧ ∀ n : Int, 0 ≤ n → n < k → S (.int n) m
  | _ => False
theorem take_imp {vs : List V} {H : Hp} {Q : VK} {E : XK} (h : lift K spTake vs H Q E) : lift K spTakeO vs H Q E := by
  obtain ⟨F, svs, m, SX, S, M, r, h, hx, c⟩ := h
  unfold spTake at h
  split at h
  · rename_i b k
    obtain ⟨⟨c0, hb, hc⟩, ⟨k0, k1⟩, q⟩ := h
    have ne : c0 ≠ b := fun e => by rw [e, hb] at hc; cases hc
    obtain ⟨sv, eb⟩ := (M.at_ b _ hb).2
    obtain ⟨ns, ec, hl⟩ := (M.at_ c0 _ hc).2
    have M1 : MR K F H (up m c0 (.lst (ns.map .int))) := M.reab hc (fun u e x => by rw [ec] at e; cases e; exact x) ⟨_, ec, vrs_of_ints ns⟩
    have M2 : MR K F H (up (up m c0 (.lst (ns.map .int))) b (.lst [.ref c0, .int sv])) := M1.reab (by rw [up_ne (Ne.symm ne)]; exact hb) (fun u e x => by rw [eb] at e; cases e; exact x) ⟨_, eb, .cons (.ref _) (.cons (.int _) .nil)⟩
    refine ⟨F, _, _, SX, fun v m' => ∃ (n : Int) (ns' : List Int) (sv' : Int), v = .int n ∧ ns'.length ≤ 63 ∧ 0 ≤ n ∧ n < k ∧ m' = up (up m c0 (.lst (ns'.map .int))) b (.lst [.ref c0, .int sv']), M2, r, ⟨b, c0, sv, ns, k, rfl, up_same, by rw [up_ne ne]; exact up_same, hl, k0, k1, fun n ns' sv' n0 n1 hl' => ⟨n, ns', sv', rfl, hl', n0, n1, ?_⟩⟩, hx, fun v F' H' sv2 m2 s2 M3 v3 h3 => ?_⟩
    · rw [up_comm (a := b) (b := c0) (Ne.symm ne), up_up, up_up]
    · obtain ⟨n, ns', sv', rfl, hl', n0, n1, rfl⟩ := h3
      refine c v F' H' (.int n) m s2 ?_ v3 (q n n0 n1)
      obtain ⟨ws, e1, r1⟩ := M3.lst_ up_same
      obtain ⟨us, e2, r2⟩ := M3.lst_ (show (up (up m c0 (.lst (ns'.map .int))) b (.lst [.ref c0, .int sv'])) c0 = _ by rw [up_ne ne]; exact up_same)
      obtain rfl := vrs_ints r2
      obtain ⟨w1, w2, rfl, r3, r4⟩ := vrs_two r1
      obtain rfl := vr_ref r3
      obtain rfl := vr_int r4
      have M4 := M3.reab (o := .box c0) up_same (fun u e x => by rw [e1] at e; cases e; exact x) ⟨sv', e1⟩
      have M5 := M4.reab (a := c0) (o := .bxi) (o0 := .lst (ns'.map .int)) (by rw [up_ne ne, up_ne ne, up_same]) (fun u e x => by rw [e2] at e; cases e; exact x) ⟨ns', e2, hl'⟩
      rw [up_up, up_comm (Ne.symm ne), up_up] at M5
      rwa [up_id hc, up_id hb] at M5
  · exact h.elim
theorem okO_law_take (T : Tx K mg) : FnOk P w K mg base CX0 1 (He.ga K "_law_take") T.fd__law_take ["_law_box", "_law_many"] (lift K spTakeO) := by
  refine fn_sy T.F__law_take sc_law_take (fun svs m SX Sv h => ?_) (fun cdv A outer s H E hr => ⟨_, _, (gss_cons (gs_if (gt_cmp (op_eqG K hr.units) sim_eq (ge_ix (ix_G K) sim_ix (gv 0) ge_int (fun _ _ => rfl)) (ge_lst ga_nil) (nomark _)) (gss_cons (gs_asg (ge_op op_mod sim_mod (ge_op op_mulG sim_mul (ge_ix (ix_G K) sim_ix (gv 0) ge_int (fun _ _ => rfl)) ge_int) ge_int) (gg_subL (gv 0) ge_int))
      (gss_one (gs_ret (ge_op op_mod sim_mod (ge_op op_fdivG sim_fdiv (ge_ix (ix_G K) sim_ix (gv 0) ge_int (fun _ _ => rfl)) ge_int) (gv 1))))) gss_nil)
      (gss_cons (gs_set (i := 2) sc_law_take.nd rfl (.inl rfl) (ge_ix (ix_G K) sim_ix (ge_ix (ix_G K) sim_ix (gv 0) ge_int (fun _ _ => rfl)) ge_int (fun _ _ => rfl)))
      (gss_cons (gs_asg (ge_op op_fdivG sim_fdiv (gv 2) (gv 1)) (gg_subL (ge_ix (ix_G K) sim_ix (gv 0) ge_int (fun _ _ => rfl)) ge_int))
      (gss_cons (gs_if (gw_pt (gw_or (gt_cmp (op_eqG K hr.units) sim_eq (ge_ix (ix_G K) sim_ix (ge_ix (ix_G K) sim_ix (gv 0) ge_int (fun _ _ => rfl)) ge_int (fun _ _ => rfl)) ge_int (nomark _)) (gw_or1 (gt_cmp (op_eqG K hr.units) sim_eq (ge_ix (ix_G K) sim_ix (ge_ix (ix_G K) sim_ix (gv 0) ge_int (fun _ _ => rfl)) ge_int (fun _ _ => rfl)) (ge_un un_neg sim_neg ge_int) (nomark _))))) (gss_one (gs_expr (ge_bm PySem.F.plainAttrs_list PySem.F.slot_list_pop PySem.F.type_list_pop mt_popAt simk_L sim_popAt (ge_ix (ix_G K) sim_ix (gv 0) ge_int (fun _ _ => rfl)) (ga_cons ge_int ga_nil)))) gss_nil)
      (gss_one (gs_ret (ge_op op_mod sim_mod (gv 2) (gv 1)))))))), fun svs m SX Sv h => ?_⟩)
  · obtain ⟨b, c, sv, ns, k, rfl, _⟩ := h
    rfl
  · obtain ⟨b, c, sv, ns, k, rfl, hb, hc, hl, k0, k1, q⟩ := h
    have ne : c ≠ b := fun e => by
      rw [e, hb] at hc
      cases ns with
      | nil => cases hc
      | cons a r => injection (Option.some.inj hc) with z; injection z with z _; cases z
    walk_at "r"
    refine ⟨_, _, hb, rfl, ?_⟩
    walk_at "r"
    refine ⟨by walk_at "len", fun p hp => ?_⟩
    have hbp : up m p (.lst []) b = some (.lst [.ref c, .int sv]) := by rw [up_ne (mne hb hp)]; exact hb
    have hcp : up m p (.lst []) c = some (.lst (List.map SV.int ns)) := by rw [up_ne (mne hc hp)]; exact hc
    walk_at "r"
    refine ⟨_, _, .ref hcp (rds_ints ns), .ref up_same .nil, shaped_ints ns, rfl, ?_⟩
    have fin : ∀ (n : Int) (ns' : List Int) (sv' : Int) (m' : Mem), 0 ≤ n → n < k → ns'.length ≤ 63 → Le (up (up m c (.lst (ns'.map .int))) b (.lst [.ref c, .int sv'])) m' → Fg (Sv (.int n)) m' := fun n ns' sv' m' n0 n1 hl' le => ⟨_, le, q n ns' sv' n0 n1 hl'⟩
    have le0 : ∀ (X : List SV) (Y : List SV), Le (up (up m c (.lst X)) b (.lst Y)) (up (up (up m p (.lst [])) c (.lst X)) b (.lst Y)) := fun X Y => Le.put (Le.put (Le.new (.refl m) hp))
    cases ns with
    | nil =>
      refine Br_i (fun _ => ?_) (fun hb => by cases hb)
      walk_at "r"
      refine ⟨_, _, hbp, rfl, ?_⟩
      walk_at "r"
      refine ⟨.inl (.inr ⟨by decide, by decide⟩), ?_⟩
      walk_at "r"
      refine ⟨(by decide : (0 : Int) < 2147483647), ?_⟩
      walk_at "r"
      refine ⟨_, 1, hbp, rfl, ?_⟩
      walk_at "r"
      refine ⟨_, _, up_same, rfl, ?_⟩
      walk_at "r"
      refine ⟨.inl ⟨by decide, by decide⟩, ?_⟩
      walk_at "r"
      refine ⟨k0, ?_⟩
      refine fin _ [] _ _ (Int.emod_nonneg _ (by omega)) (Int.emod_lt_of_pos _ k0) (by simp) (Le.put ?_)
      rw [up_id (by exact hc)]
      exact Le.new (.refl m) hp
    | cons n r =>
      refine Br_i (fun hb => by cases hb) (fun _ => ?_)
      have ix0 : ∀ m : Nat, ixN (m + 1) 0 = some 0 := fun m => by
        unfold ixN
        rw [if_pos (by decide), if_pos (by omega)]
        rfl
      have at0 : ∀ (x : SV) (xs : List SV), atI (x :: xs) 0 = some x := fun x xs => atI_nat (j := 0) rfl
      walk_at "r"
      refine ⟨_, _, hbp, rfl, ?_⟩
      walk_at "r"
      refine ⟨_, _, hcp, at0 _ _, ?_⟩
      walk_at "r"
      refine ⟨.inr (wide_div k0 k1 (by decide) (by decide)), ?_⟩
      walk_at "r"
      refine ⟨_, _, hbp, rfl, ?_⟩
      walk_at "r"
      refine ⟨_, 0, hcp, ix0 _, ?_⟩
      have hbq : ∀ o, up (up m p (.lst [])) c o b = some (.lst [.ref c, .int sv]) := fun o => by rw [up_ne (Ne.symm ne)]; exact hbp
      walk_at "r"
      refine ⟨_, _, hbq _, rfl, ?_⟩
      walk_at "r"
      refine ⟨_, _, up_same, at0 _ _, ?_⟩
      have leb : ∀ X : List SV, Le (up (up m c (.lst X)) b (.lst [.ref c, .int sv])) (up (up m p (.lst [])) c (.lst X)) := fun X => by
        rw [up_id (by rw [up_ne (Ne.symm ne)]; exact hb)]
        exact Le.put (Le.new (.refl m) hp)
      have pop : ∀ SX' : SXK, sSeq (sDrop (sBM ckL sPopAt (sOp sIx (sVar 0) (sC (.int 0))) (sCons (sC (.int 0)) sNil))) (sRet (sOp sMod (sVar 2) (sVar 1))) SX' { nx := fun x m' => Fg (Sv .non) m', rt := fun v => Fg (Sv v) } [some (.ref b), some (.int k), some (.int n)] (up (up m p (.lst [])) c (.lst (List.set (List.map SV.int (n :: r)) 0 (.int (n / k))))) := fun SX' => by
        walk_at "r"
        refine ⟨_, _, hbq _, rfl, ?_⟩
        walk_at "r"
        refine ⟨⟨_, up_same⟩, ?_⟩
        walk_at "r"
        refine ⟨_, 0, _, up_same, by decide, by decide, (ixN_seq (ix0 _)).1, rfl, ?_⟩
        walk_at "r"
        refine ⟨k0, ?_⟩
        rw [up_up]
        exact fin _ r sv _ (Int.emod_nonneg _ (by omega)) (Int.emod_lt_of_pos _ k0) (by rw [List.length_cons] at hl; omega) (leb _)
      walk_at "r"
      refine Br_i (fun _ => Br_t (pop _)) (fun _ => ?_)
      walk_at "r"
      refine ⟨_, _, hbq _, rfl, ?_⟩
      walk_at "r"
      refine ⟨_, _, up_same, at0 _ _, ?_⟩
      walk_at "r"
      refine Br_i (fun _ => pop _) (fun _ => ?_)
      walk_at "r"
      refine ⟨k0, ?_⟩
      exact fin _ (n / k :: r) sv _ (Int.emod_nonneg _ (by omega)) (Int.emod_lt_of_pos _ k0) (by rw [List.length_cons] at hl ⊢; omega) (leb _)
theorem ok_law_take (T : Tx K mg) : FnOk P w K mg base CX0 1 (He.ga K "_law_take") T.fd__law_take ["_law_box", "_law_many"] (lift K spTake) := (okO_law_take T).imp fun _ _ _ _ h => take_imp h
end
end Hn

set_option Elab.async false
set_option linter.all false
set_option maxRecDepth 100000
set_option maxHeartbeats 8000000
namespace Hn
open PySem PySem.Spec PyProof.Rows L2 Sy Lm
section
variable {P : Program} {w : World} {K : PySem.W.Frag} {mg : Str → Option Value} {base : Heap}
local macro_rules | `(tactic| walk_at "r") => `(tactic| (conv => whnf))
local macro_rules | `(tactic| walk_at "sp") => `(tactic| (first | rfl | contradiction | exact (False.elim ‹_›)))
local macro_rules | `(tactic| walk_at "len") => `(tactic| (exact Nat.le_trans (show _ ≤ 100000 by first | (simp; done) | (rw [rngS_length]; decide)) (by decide)))
local macro_rules | `(tactic| walk_at "f") => `(tactic| (refine Br_i (fun hb => Bool.noConfusion (show false = true from hb)) (fun _ => ?_)))
local macro_rules | `(tactic| walk_at "t") => `(tactic| (refine Br_i (fun _ => ?_) (fun hb => Bool.noConfusion (show true = false from hb))))
local macro_rules | `(tactic| walk_at "le") => `(tactic| first | exact Le.refl _ | (refine Le.put ?_; walk_at "le") | (refine Le.new ?_ (by assumption); walk_at "le"))
def spBegunO : SpS := fun vs m _ S => ∃ ns : List Int, vs = [.lst (ns.map .int)] ∧ ns.length ≤ 63 ∧ ∀ (b c : Addr) (sv : Int), m c = none → m b = none → b ≠ c → S (.ref b) (up (up m c (.lst (ns.map .int))) b (.lst [.ref c, .int sv]))
def spBegun : SpS := fun vs m _ S => ∃ ns : List Int, vs = [.lst (ns.map .int)] ∧ ns.length ≤ 63 ∧ ∀ (b c : Addr), m c = none → m b = none → b ≠ c → S (.ref b) (up (up m c .bxi) b (.box c))
theorem begun_imp {vs : List V} {H : Hp} {Q : VK} {E : XK} (h : lift K spBegun vs H Q E) : lift K spBegunO vs H Q E := by
  obtain ⟨F, svs, m, SX, S, M, r, ⟨ns, rfl, hl, q⟩, hx, c⟩ := h
  refine ⟨F, _, m, SX, fun v m' => ∃ (b c : Addr) (sv : Int), v = .ref b ∧ m c = none ∧ m b = none ∧ b ≠ c ∧ m' = up (up m c (.lst (ns.map .int))) b (.lst [.ref c, .int sv]), M, r, ⟨ns, rfl, hl, fun b c sv h1 h2 h3 => ⟨b, c, sv, rfl, h1, h2, h3, rfl⟩⟩, hx, fun v F' H' sv2 m2 s2 M3 v3 h3 => ?_⟩
  obtain ⟨b, c0, sv', rfl, h1, h2, ne, rfl⟩ := h3
  refine c v F' H' (.ref b) _ s2 ?_ v3 (q b c0 h1 h2 ne)
  obtain ⟨ws, e1, r1⟩ := M3.lst_ up_same
  obtain ⟨us, e2, r2⟩ := M3.lst_ (show (up (up m c0 (.lst (ns.map .int))) b (.lst [.ref c0, .int sv'])) c0 = _ by rw [up_ne (Ne.symm ne)]; exact up_same)
  obtain rfl := vrs_ints r2
  obtain ⟨w1, w2, rfl, r3, r4⟩ := vrs_two r1
  obtain rfl := vr_ref r3
  obtain rfl := vr_int r4
  have M4 := M3.reab (o := .box c0) up_same (fun u e x => by rw [e1] at e; cases e; exact x) ⟨sv', e1⟩
  have M5 := M4.reab (a := c0) (o := .bxi) (o0 := .lst (ns.map .int)) (by rw [up_ne (Ne.symm ne), up_ne (Ne.symm ne), up_same]) (fun u e x => by rw [e2] at e; cases e; exact x) ⟨ns, e2, hl⟩
  rw [up_up, up_comm ne, up_up] at M5
  exact M5
theorem okO_law_begun (T : Tx K mg) : FnOk P w K mg base CX0 1 (He.ga K "_law_begun") T.fd__law_begun ["_law_script"] (lift K spBegunO) := by
  refine fn_sy T.F__law_begun sc_law_begun (fun svs m SX Sv h => ?_) (fun cdv A outer s H E hr => ⟨_, _, (gss_cons (gs_set (i := 1) sc_law_begun.nd rfl (.inl rfl) ge_int)
      (gss_cons (gs_for PassesOwn.never rfl (gi_seq (gv 0)) (gg_name (i := 2) sc_law_begun.nd rfl (.inl rfl))
      (gss_one (gs_set (i := 1) sc_law_begun.nd rfl (.inl rfl) (ge_op op_mod sim_mod (ge_op (op_addG K) sim_add (ge_op (op_addG K) sim_add (ge_op op_mulG sim_mul (gv 1) ge_int) (ge_op op_mulG sim_mul (gv 2) ge_int)) ge_int) ge_int))))
      (gss_one (gs_ret (ge_lst (ga_cons (ge_callTy (cr_lst K) sim_lstOf (by rfl) T.z_list (by decide +kernel) (ga_cons (gv 0) ga_nil)) (ga_cons (ge_op op_mulG sim_mul (gv 1) (ge_callTy call_int1 sim_int1 (by rfl) T.z_int (by decide +kernel) (ga_cons (ge_cmp op_gt sim_gt (ge_callB (cr_len K) sim_len (by rfl) T.z_len (by decide +kernel) (ga_cons (gv 0) ga_nil)) ge_int (nomark _)) ga_nil))) ga_nil))))))), fun svs m SX Sv h => ?_⟩)
  · obtain ⟨ns, rfl, _⟩ := h
    rfl
  · obtain ⟨ns, rfl, hl, q⟩ := h
    walk_at "r"
    refine ⟨_, rfl, ?_⟩
    refine for_inv (fun r δ m' => m' = m ∧ ∃ (st : Int) (a : Option SV), δ = [some (.lst (ns.map .int)), some (.int st), a] ∧ ∀ x ∈ r, ∃ i : Int, x = .int i) ⟨rfl, 0, none, rfl, fun x hx => by
      obtain ⟨i, _, e⟩ := List.mem_map.mp hx
      exact ⟨i, e.symm⟩⟩ (fun x r δ m' h => ?_) (fun δ m' h => ?_)
    · obtain ⟨rfl, st, a, rfl, hr⟩ := h
      obtain ⟨i, rfl⟩ := hr x List.mem_cons_self
      refine ⟨trivial, ?_⟩
      walk_at "r"
      refine ⟨.inl (.inr ⟨by decide, by decide⟩), ?_⟩
      walk_at "r"
      refine ⟨.inl (.inr ⟨by decide, by decide⟩), ?_⟩
      walk_at "r"
      refine ⟨(by decide : (0 : Int) < 2147483647), ?_⟩
      walk_at "r"
      exact .of ⟨rfl, _, _, rfl, fun x hx => hr x (List.mem_cons_of_mem _ hx)⟩
    · obtain ⟨rfl, st, a, rfl, _⟩ := h
      refine ⟨trivial, ?_⟩
      walk_at "r"
      refine ⟨_, rfl, fun c hc => ?_⟩
      walk_at "r"
      refine ⟨_, rfl, ?_⟩
      walk_at "r"
      refine ⟨.inl (.inr ?_), ?_⟩
      · split
        · exact ⟨by decide, by decide⟩
        · exact ⟨by decide, by decide⟩
      walk_at "r"
      refine ⟨by walk_at "len", fun b hb => ?_⟩
      have ne : c ≠ b := mne up_same hb
      rw [up_ne (Ne.symm ne)] at hb
      exact .of (q b c _ hc hb (Ne.symm ne))
theorem ok_law_begun (T : Tx K mg) : FnOk P w K mg base CX0 1 (He.ga K "_law_begun") T.fd__law_begun ["_law_script"] (lift K spBegun) := (okO_law_begun T).imp fun _ _ _ _ h => begun_imp h
end
end Hn

set_option Elab.async false
set_option linter.all false
set_option maxRecDepth 100000
set_option maxHeartbeats 8000000
namespace Hn
open PySem PySem.Spec PyProof.Rows L2 Sy Lm
section
variable {P : Program} {w : World} {K : PySem.W.Frag} {mg : Str → Option Value} {base : Heap}
local macro_rules | `(tactic| walk_at "r") => `(tactic| (conv => whnf))
local macro_rules | `(tactic| walk_at "sp") => `(tactic| (first | rfl | contradiction | exact (False.elim ‹_›)))
local macro_rules | `(tactic| walk_at "len") => `(tactic| (exact Nat.le_trans (show _ ≤ 100000 by first | (simp; done) | (rw [rngS_length]; decide)) (by decide)))
local macro_rules | `(tactic| walk_at "f") => `(tactic| (refine Br_i (fun hb => Bool.noConfusion (show false = true from hb)) (fun _ => ?_)))
local macro_rules | `(tactic| walk_at "t") => `(tactic| (refine Br_i (fun _ => ?_) (fun hb => Bool.noConfusion (show true = false from hb))))
local macro_rules | `(tactic| walk_at "le") => `(tactic| first | exact Le.refl _ | (refine Le.put ?_; walk_at "le") | (refine Le.new ?_ (by assumption); walk_at "le"))
mutual
def eqD : PyData → PyData → Bool
  | .none, .none => true
  | .bool a, .bool b => decide (a = b)
  | .int a, .int b => decide (a = b)
  | .str a, .str b => decide (a = b)
  | .list a, .list b => eqDs a b
  | .tuple a, .tuple b => eqDs a b
  | _, _ => false
def eqDs : List PyData → List PyData → Bool
  | [], [] => true
  | a :: r, b :: s => eqD a b && eqDs r s
  | _, _ => false
end
mutual
def dpt : PyData → Nat
  | .list a => 1 + dpts a
  | .tuple a => 1 + dpts a
  | _ => 0
def dpts : List PyData → Nat
  | [] => 0
  | a :: r => max (dpt a) (dpts r)
end
theorem dpts_get : ∀ {ds : List PyData} {i : Nat} {d : PyData}, ds[i]? = some d → dpt d ≤ dpts ds
  | [], _, _, h => by simp at h
  | a :: r, 0, d, h => by
    simp at h
    subst h
    simp only [dpts]
    omega
  | a :: r, i + 1, d, h => by
    have := dpts_get (ds := r) (i := i) (by simpa using h)
    simp only [dpts]
    omega
theorem eqDs_get : ∀ {a b : List PyData}, a.length = b.length → ((∀ (i : Nat) x y, a[i]? = some x → b[i]? = some y → eqD x y = true) ↔ eqDs a b = true)
  | [], [], _ => by simp [eqDs]
  | [], _ :: _, h => by cases h
  | _ :: _, [], h => by cases h
  | x :: a, y :: b, h => by
    have ih := eqDs_get (a := a) (b := b) (by simpa using h)
    simp only [eqDs, Bool.and_eq_true]
    constructor
    · intro q
      exact ⟨q 0 x y rfl rfl, ih.mp fun i u v hu hv => q (i + 1) u v (by simpa using hu) (by simpa using hv)⟩
    · rintro ⟨q1, q2⟩ i u v hu hv
      cases i with
      | zero => simp at hu hv; subst hu; subst hv; exact q1
      | succ i => exact ih.mpr q2 i u v (by simpa using hu) (by simpa using hv)
theorem eqDs_len : ∀ {a b : List PyData}, eqDs a b = true → a.length = b.length
  | [], [], _ => rfl
  | [], _ :: _, h => by simp [eqDs] at h
  | _ :: _, [], h => by simp [eqDs] at h
  | x :: a, y :: b, h => by
    simp only [eqDs, Bool.and_eq_true] at h
    simp [eqDs_len h.2]
mutual
/-- no list is too long -/
def smD : PyData → Prop
  | .list a => a.length ≤ 100000 ∧ smDs a
  | .tuple a => a.length ≤ 100000 ∧ smDs a
  | _ => True
def smDs : List PyData → Prop
  | [] => True
  | a :: r => smD a ∧ smDs r
end
theorem smDs_get : ∀ {ds : List PyData} {i : Nat} {d : PyData}, smDs ds → ds[i]? = some d → smD d
  | [], _, _, _, h => by simp at h
  | a :: r, 0, d, ⟨h1, _⟩, h => by
    simp at h
    subst h
    exact h1
  | a :: r, i + 1, d, ⟨_, h2⟩, h => smDs_get (ds := r) (i := i) h2 (by simpa using h)
def spAlike : Nat → SpS
  | n => fun vs m _ S => ∃ x y d e, vs = [x, y] ∧ Rd m x d ∧ Rd m y e ∧ dpt e < n ∧ smD e ∧ S (.bl (eqD d e)) m
theorem fn_never {k : Nat} {f : Addr} {fd : FuncData} {ps : List Str} {sp : SpS} {CX : CXT} (h : ∀ vs m SX S, ¬ sp vs m SX S) : FnOk P w K mg base CX k f fd ps (lift K sp) :=
  ⟨fun vs H Q E ⟨F, svs, m, SX, S, _, _, z, _⟩ => (h _ _ _ _ z).elim, fun A outer s H args us vs Q E _ _ _ _ ⟨F, svs, m, SX, S, _, _, z, _⟩ => (h _ _ _ _ z).elim⟩
/-- the kind of a datum -/
def tyP : PyData → String
  | .none => "NoneType"
  | .bool _ => "bool"
  | .int _ => "int"
  | .str _ => "str"
  | .list _ => "list"
  | .tuple _ => "tuple"
  | .dict _ => "dict"
theorem rd_ty {m : Mem} {x : SV} {d : PyData} (h : Rd m x d) : tyS m x (tyP d) := by
  cases h with
  | ref e _ => exact ⟨rfl, _, e⟩
  | _ => rfl
theorem rd_its {m : Mem} {x : SV} {d : PyData} {ds : List PyData} (h : Rd m x d) (e : d = .list ds ∨ d = .tuple ds) : ∃ xs, Its m x xs ∧ Rds m xs ds := by
  cases h with
  | tup r => rcases e with e | e <;> cases e; exact ⟨_, rfl, r⟩
  | lst r => rcases e with e | e <;> cases e; exact ⟨_, rfl, r⟩
  | ref e1 r => rcases e with e | e <;> cases e; exact ⟨_, e1, r⟩
  | _ => rcases e with e | e <;> cases e
theorem rds_len {m : Mem} : ∀ {xs : List SV} {ds : List PyData}, Rds m xs ds → xs.length = ds.length
  | _, _, .nil => rfl
  | _, _, .cons _ t => by rw [List.length_cons, List.length_cons, rds_len t]
theorem rds_get {m : Mem} : ∀ {xs : List SV} {ds : List PyData} {i : Nat} {d : PyData}, Rds m xs ds → ds[i]? = some d → ∃ x, xs[i]? = some x ∧ Rd m x d
  | _, _, _, _, .nil, h => by simp at h
  | _, _, 0, _, .cons a _, h => by simp at h; subst h; exact ⟨_, rfl, a⟩
  | _, _, i + 1, _, .cons _ t, h => by
    obtain ⟨x, h1, h2⟩ := rds_get (i := i) t (by simpa using h)
    exact ⟨x, by simpa using h1, h2⟩
theorem ix_its {m : Mem} {x : SV} {xs : List SV} {i : Nat} {v : SV} {S : SV → Mem → Prop} (h : Its m x xs) (hv : xs[i]? = some v) (q : S v m) : sIx x (.int (i : Int)) m S := by
  cases x with
  | tup ys => cases (show xs = ys from h); exact ⟨v, atI_nat hv, q⟩
  | lst ys => cases (show xs = ys from h); exact ⟨v, atI_nat hv, q⟩
  | ref a => exact ⟨xs, v, h, atI_nat hv, q⟩
  | _ => exact (show False from h).elim
theorem len_its {m : Mem} {x : SV} {xs : List SV} {S : SV → Mem → Prop} (h : Its m x xs) (q : S (.int xs.length) m) : sLen [x] m S := by
  cases x with
  | str => exact (show False from h).elim
  | _ => exact ⟨xs, h, q⟩
theorem ok_law_alike (T : Tx K mg) : ∀ n, FnOk P w K mg base CX0 n (He.ga K "_law_alike") T.fd__law_alike ["_law_found", "_law_due"] (lift K (spAlike n)) := by
  intro n
  induction n with
  | zero => exact fn_never fun vs m SX S ⟨_, _, _, _, _, _, _, z, _⟩ => Nat.not_lt_zero _ z
  | succ n G_law_alike =>
  have b_law_alike := b_law_alike T
  refine fn_sy T.F__law_alike sc_law_alike (fun svs m SX Sv h => ?_) (fun cdv A outer s H E hr => ⟨_, _, (gss_cons (gs_if (gt_cmp op_isN sim_isN (gv 1) ge_non (nomark _)) (gss_one (gs_ret (ge_cmp op_isN sim_isN (gv 0) ge_non (nomark _)))) gss_nil)
      (gss_cons (gs_if (gt_val (ge_callB (cr_isi K) sim_isi (by rfl) T.z_isinstance (by decide +kernel) (ga_cons (gv 1) (ga_cons (ge_ty (n := "bool") (by rfl) T.z_bool (by decide +kernel)) ga_nil)))) (gss_one (gs_ret (ge_and (ge_callB (cr_isi K) sim_isi (by rfl) T.z_isinstance (by decide +kernel) (ga_cons (gv 0) (ga_cons (ge_ty (n := "bool") (by rfl) T.z_bool (by decide +kernel)) ga_nil))) (ge_one (ge_cmp (op_eqG K hr.units) sim_eq (gv 0) (gv 1) (nomark _)))))) gss_nil)
      (gss_cons (gs_if (gt_val (ge_callB (cr_isi K) sim_isi (by rfl) T.z_isinstance (by decide +kernel) (ga_cons (gv 1) (ga_cons (ge_ty (n := "int") (by rfl) T.z_int (by decide +kernel)) ga_nil)))) (gss_one (gs_ret (ge_and (ge_callB (cr_isi K) sim_isi (by rfl) T.z_isinstance (by decide +kernel) (ga_cons (gv 0) (ga_cons (ge_ty (n := "int") (by rfl) T.z_int (by decide +kernel)) ga_nil))) (ge_and (ge_not (ge_callB (cr_isi K) sim_isi (by rfl) T.z_isinstance (by decide +kernel) (ga_cons (gv 0) (ga_cons (ge_ty (n := "bool") (by rfl) T.z_bool (by decide +kernel)) ga_nil)))) (ge_one (ge_cmp (op_eqG K hr.units) sim_eq (gv 0) (gv 1) (nomark _))))))) gss_nil)
      (gss_cons (gs_if (gt_val (ge_callB (cr_isi K) sim_isi (by rfl) T.z_isinstance (by decide +kernel) (ga_cons (gv 1) (ga_cons (ge_ty (n := "str") (by rfl) T.z_str (by decide +kernel)) ga_nil)))) (gss_one (gs_ret (ge_and (ge_callB (cr_isi K) sim_isi (by rfl) T.z_isinstance (by decide +kernel) (ga_cons (gv 0) (ga_cons (ge_ty (n := "str") (by rfl) T.z_str (by decide +kernel)) ga_nil))) (ge_one (ge_cmp (op_eqG K hr.units) sim_eq (gv 0) (gv 1) (nomark _)))))) gss_nil)
      (gss_cons (gs_if (gw_pt (gw_or (gt_cmp (op_neG K hr.units) sim_ne (ge_callB (cr_isi K) sim_isi (by rfl) T.z_isinstance (by decide +kernel) (ga_cons (gv 1) (ga_cons (ge_ty (n := "tuple") (by rfl) T.z_tuple (by decide +kernel)) ga_nil))) (ge_callB (cr_isi K) sim_isi (by rfl) T.z_isinstance (by decide +kernel) (ga_cons (gv 0) (ga_cons (ge_ty (n := "tuple") (by rfl) T.z_tuple (by decide +kernel)) ga_nil))) (nomark _)) (gw_or1 (gt_cmp (op_neG K hr.units) sim_ne (ge_callB (cr_isi K) sim_isi (by rfl) T.z_isinstance (by decide +kernel) (ga_cons (gv 1) (ga_cons (ge_ty (n := "list") (by rfl) T.z_list (by decide +kernel)) ga_nil))) (ge_callB (cr_isi K) sim_isi (by rfl) T.z_isinstance (by decide +kernel) (ga_cons (gv 0) (ga_cons (ge_ty (n := "list") (by rfl) T.z_list (by decide +kernel)) ga_nil))) (nomark _))))) (gss_one (gs_ret ge_bl)) gss_nil)
      (gss_cons (gs_if (gt_cmp (op_neG K hr.units) sim_ne (ge_callB (cr_len K) sim_len (by rfl) T.z_len (by decide +kernel) (ga_cons (gv 0) ga_nil)) (ge_callB (cr_len K) sim_len (by rfl) T.z_len (by decide +kernel) (ga_cons (gv 1) ga_nil)) (nomark _)) (gss_one (gs_ret ge_bl)) gss_nil)
      (gss_cons (gs_for PassesOwn.never rfl (gi_range1 (by rfl) T.z_range (ga_cons (ge_callB (cr_len K) sim_len (by rfl) T.z_len (by decide +kernel) (ga_cons (gv 1) ga_nil)) ga_nil)) (gg_name (i := 2) sc_law_alike.nd rfl (.inl rfl))
      (gss_one (gs_if (gt_not (gt_val (ge_call G_law_alike (hr) (by rfl) T.g__law_alike T.k__law_alike b_law_alike .nil (fun _ => .nil) pass0 (ga_cons (ge_ix (ix_G K) sim_ix (gv 0) (gv 2) (fun _ _ => rfl)) (ga_cons (ge_ix (ix_G K) sim_ix (gv 1) (gv 2) (fun _ _ => rfl)) ga_nil))))) (gss_one (gs_ret ge_bl)) gss_nil)))
      (gss_one (gs_ret ge_bl))))))))), fun svs m SX Sv h => ?_⟩)
  · obtain ⟨x, y, d, e, rfl, _⟩ := h
    rfl
  · obtain ⟨x, y, d, e, rfl, hx, hy, hlt, hsm, q⟩ := h
    have tx := rd_ty hx
    have ty := rd_ty hy
    have qf : ∀ b, eqD d e = b → Fg (Sv (.bl b)) m := fun b hb => by rw [hb] at q; exact .of q
    walk_at "r"
    cases hy with
    | non =>
      walk_at "t"
      walk_at "r"
      exact qf _ (by cases hx <;> rfl)
    | bl b =>
      walk_at "f"
      walk_at "r"
      refine ⟨by decide, _, rfl, ?_⟩
      walk_at "r"
      walk_at "t"
      walk_at "r"
      refine ⟨by decide, _, tx, ?_⟩
      walk_at "r"
      cases hx with
      | bl a =>
        walk_at "t"
        walk_at "r"
        exact qf _ rfl
      | _ =>
        walk_at "f"
        exact qf _ rfl
    | int b =>
      walk_at "f"
      walk_at "r"
      refine ⟨by decide, _, rfl, ?_⟩
      walk_at "r"
      walk_at "f"
      walk_at "r"
      refine ⟨by decide, _, rfl, ?_⟩
      walk_at "r"
      walk_at "t"
      walk_at "r"
      refine ⟨by decide, _, tx, ?_⟩
      walk_at "r"
      cases hx with
      | int a =>
        walk_at "t"
        walk_at "r"
        refine ⟨by decide, _, rfl, ?_⟩
        walk_at "r"
        walk_at "t"
        walk_at "r"
        exact qf _ rfl
      | bl a =>
        walk_at "t"
        walk_at "r"
        refine ⟨by decide, _, rfl, ?_⟩
        walk_at "r"
        walk_at "f"
        exact qf _ rfl
      | _ =>
        walk_at "f"
        exact qf _ rfl
    | str b =>
      walk_at "f"
      walk_at "r"
      refine ⟨by decide, _, rfl, ?_⟩
      walk_at "r"
      walk_at "f"
      walk_at "r"
      refine ⟨by decide, _, rfl, ?_⟩
      walk_at "r"
      walk_at "f"
      walk_at "r"
      refine ⟨by decide, _, rfl, ?_⟩
      walk_at "r"
      walk_at "t"
      walk_at "r"
      refine ⟨by decide, _, tx, ?_⟩
      walk_at "r"
      cases hx with
      | str a =>
        walk_at "t"
        walk_at "r"
        exact qf _ rfl
      | _ =>
        walk_at "f"
        exact qf _ rfl
    | @tup ys es ry =>
      walk_at "f"
      walk_at "r"
      refine ⟨by decide, _, rfl, ?_⟩
      walk_at "r"
      walk_at "f"
      walk_at "r"
      refine ⟨by decide, _, rfl, ?_⟩
      walk_at "r"
      walk_at "f"
      walk_at "r"
      refine ⟨by decide, _, rfl, ?_⟩
      walk_at "r"
      walk_at "f"
      walk_at "r"
      refine ⟨by decide, _, rfl, ?_⟩
      walk_at "r"
      refine ⟨by decide, _, tx, ?_⟩
      walk_at "r"
      cases hx with
      | @tup xs ds rx =>
        walk_at "f"
        walk_at "r"
        refine ⟨by decide, _, rfl, ?_⟩
        walk_at "r"
        refine ⟨by decide, _, rfl, ?_⟩
        walk_at "r"
        walk_at "f"
        walk_at "r"
        refine ⟨_, rfl, ?_⟩
        walk_at "r"
        refine ⟨_, rfl, ?_⟩
        walk_at "r"
        have lx := rds_len rx
        have ly := rds_len ry
        refine Br_i (fun hl => ?_) (fun hl => ?_)
        · walk_at "r"
          refine qf _ ?_
          show eqDs ds es = false
          cases hq : eqDs ds es with
          | false => rfl
          | true =>
            have := eqDs_len hq
            have hl : (!decide ((xs.length : Int) = ys.length)) = true := hl
            simp at hl
            omega
        · have hll : ds.length = es.length := by
            have hl : (!decide ((xs.length : Int) = ys.length)) = false := hl
            simp at hl
            omega
          walk_at "r"
          refine ⟨_, rfl, ?_⟩
          walk_at "r"
          have hsm : es.length ≤ 100000 ∧ smDs es := hsm
          refine ⟨⟨by omega, by omega⟩, ?_⟩
          have hlt : 1 + dpts es < n + 1 := hlt
          refine for_inv (fun r δ m' => m' = m ∧ ∃ (k : Nat) (a : Option SV), δ = [some (SV.tup xs), some (SV.tup ys), a] ∧ r = rngS k (ys.length - k) ∧ k ≤ ys.length ∧ (∀ (i : Nat) u v, i < k → ds[i]? = some u → es[i]? = some v → eqD u v = true)) ⟨rfl, 0, none, rfl, rfl, Nat.zero_le _, fun i u v h => absurd h (Nat.not_lt_zero _)⟩ (fun x r δ m' h => ?_) (fun δ m' h => ?_)
          · obtain ⟨rfl, k, a, rfl, hr, hk, hall⟩ := h
            refine ⟨trivial, ?_⟩
            have hk1 : k < ys.length := by
              by_cases e : k < ys.length
              · exact e
              · rw [show ys.length - k = 0 by omega] at hr; cases hr
            rw [show ys.length - k = (ys.length - (k + 1)) + 1 by omega] at hr
            obtain ⟨rfl, rfl⟩ := List.cons.inj hr
            obtain ⟨u, hu⟩ : ∃ u, ds[k]? = some u := ⟨_, List.getElem?_eq_getElem (by omega)⟩
            obtain ⟨v, hv⟩ : ∃ v, es[k]? = some v := ⟨_, List.getElem?_eq_getElem (by omega)⟩
            obtain ⟨su, hsu, ru⟩ := rds_get rx hu
            obtain ⟨sv, hsv, rv⟩ := rds_get ry hv
            walk_at "r"
            refine ⟨_, atI_nat hsu, ?_⟩
            walk_at "r"
            refine ⟨_, atI_nat hsv, ?_⟩
            walk_at "r"
            refine ⟨_, _, _, _, rfl, ru, rv, by have := dpts_get hv; omega, smDs_get hsm.2 hv, ?_⟩
            walk_at "r"
            refine Br_i (fun hb => ?_) (fun hb => ?_)
            · walk_at "r"
              refine qf _ ?_
              show eqDs ds es = false
              cases hq : eqDs ds es with
              | false => rfl
              | true =>
                have hb : (!eqD u v) = true := hb
                rw [(eqDs_get hll).mpr hq k u v hu hv] at hb
                cases hb
            · have hb : (!eqD u v) = false := hb
              walk_at "r"
              refine .of ⟨rfl, k + 1, _, rfl, rfl, hk1, fun i u' v' hi h1 h2 => ?_⟩
              by_cases e : i = k
              · subst e
                rw [hu] at h1
                rw [hv] at h2
                cases h1
                cases h2
                simpa using hb
              · exact hall i u' v' (by omega) h1 h2
          · obtain ⟨rfl, k, a, rfl, hr, hk, hall⟩ := h
            refine ⟨trivial, ?_⟩
            walk_at "r"
            have hk1 : k = ys.length := by
              by_cases e : k < ys.length
              · rw [show ys.length - k = (ys.length - (k + 1)) + 1 by omega] at hr; cases hr
              · omega
            refine qf _ ?_
            show eqDs ds es = true
            exact (eqDs_get hll).mp fun i u v h1 h2 => hall i u v (by have := (List.getElem?_eq_some_iff.mp h2).1; omega) h1 h2
      | _ =>
        walk_at "t"
        walk_at "r"
        walk_at "t"
        walk_at "r"
        exact qf _ rfl
    | @lst ys es ry =>
      walk_at "f"
      walk_at "r"
      refine ⟨by decide, _, rfl, ?_⟩
      walk_at "r"
      walk_at "f"
      walk_at "r"
      refine ⟨by decide, _, rfl, ?_⟩
      walk_at "r"
      walk_at "f"
      walk_at "r"
      refine ⟨by decide, _, rfl, ?_⟩
      walk_at "r"
      walk_at "f"
      walk_at "r"
      refine ⟨by decide, _, rfl, ?_⟩
      walk_at "r"
      refine ⟨by decide, _, tx, ?_⟩
      walk_at "r"
      cases hx with
      | @lst xs ds rx =>
        walk_at "f"
        walk_at "r"
        refine ⟨by decide, _, rfl, ?_⟩
        walk_at "r"
        refine ⟨by decide, _, rfl, ?_⟩
        walk_at "r"
        walk_at "f"
        walk_at "r"
        refine ⟨_, rfl, ?_⟩
        walk_at "r"
        refine ⟨_, rfl, ?_⟩
        walk_at "r"
        have lx := rds_len rx
        have ly := rds_len ry
        refine Br_i (fun hl => ?_) (fun hl => ?_)
        · walk_at "r"
          refine qf _ ?_
          show eqDs ds es = false
          cases hq : eqDs ds es with
          | false => rfl
          | true =>
            have := eqDs_len hq
            have hl : (!decide ((xs.length : Int) = ys.length)) = true := hl
            simp at hl
            omega
        · have hll : ds.length = es.length := by
            have hl : (!decide ((xs.length : Int) = ys.length)) = false := hl
            simp at hl
            omega
          walk_at "r"
          refine ⟨_, rfl, ?_⟩
          walk_at "r"
          have hsm : es.length ≤ 100000 ∧ smDs es := hsm
          refine ⟨⟨by omega, by omega⟩, ?_⟩
          have hlt : 1 + dpts es < n + 1 := hlt
          refine for_inv (fun r δ m' => m' = m ∧ ∃ (k : Nat) (a : Option SV), δ = [some (SV.lst xs), some (SV.lst ys), a] ∧ r = rngS k (ys.length - k) ∧ k ≤ ys.length ∧ (∀ (i : Nat) u v, i < k → ds[i]? = some u → es[i]? = some v → eqD u v = true)) ⟨rfl, 0, none, rfl, rfl, Nat.zero_le _, fun i u v h => absurd h (Nat.not_lt_zero _)⟩ (fun x r δ m' h => ?_) (fun δ m' h => ?_)
          · obtain ⟨rfl, k, a, rfl, hr, hk, hall⟩ := h
            refine ⟨trivial, ?_⟩
            have hk1 : k < ys.length := by
              by_cases e : k < ys.length
              · exact e
              · rw [show ys.length - k = 0 by omega] at hr; cases hr
            rw [show ys.length - k = (ys.length - (k + 1)) + 1 by omega] at hr
            obtain ⟨rfl, rfl⟩ := List.cons.inj hr
            obtain ⟨u, hu⟩ : ∃ u, ds[k]? = some u := ⟨_, List.getElem?_eq_getElem (by omega)⟩
            obtain ⟨v, hv⟩ : ∃ v, es[k]? = some v := ⟨_, List.getElem?_eq_getElem (by omega)⟩
            obtain ⟨su, hsu, ru⟩ := rds_get rx hu
            obtain ⟨sv, hsv, rv⟩ := rds_get ry hv
            walk_at "r"
            refine ⟨_, atI_nat hsu, ?_⟩
            walk_at "r"
            refine ⟨_, atI_nat hsv, ?_⟩
            walk_at "r"
            refine ⟨_, _, _, _, rfl, ru, rv, by have := dpts_get hv; omega, smDs_get hsm.2 hv, ?_⟩
            walk_at "r"
            refine Br_i (fun hb => ?_) (fun hb => ?_)
            · walk_at "r"
              refine qf _ ?_
              show eqDs ds es = false
              cases hq : eqDs ds es with
              | false => rfl
              | true =>
                have hb : (!eqD u v) = true := hb
                rw [(eqDs_get hll).mpr hq k u v hu hv] at hb
                cases hb
            · have hb : (!eqD u v) = false := hb
              walk_at "r"
              refine .of ⟨rfl, k + 1, _, rfl, rfl, hk1, fun i u' v' hi h1 h2 => ?_⟩
              by_cases e : i = k
              · subst e
                rw [hu] at h1
                rw [hv] at h2
                cases h1
                cases h2
                simpa using hb
              · exact hall i u' v' (by omega) h1 h2
          · obtain ⟨rfl, k, a, rfl, hr, hk, hall⟩ := h
            refine ⟨trivial, ?_⟩
            walk_at "r"
            have hk1 : k = ys.length := by
              by_cases e : k < ys.length
              · rw [show ys.length - k = (ys.length - (k + 1)) + 1 by omega] at hr; cases hr
              · omega
            refine qf _ ?_
            show eqDs ds es = true
            exact (eqDs_get hll).mp fun i u v h1 h2 => hall i u v (by have := (List.getElem?_eq_some_iff.mp h2).1; omega) h1 h2
      | @ref ax xs ds e2 rx =>
        walk_at "f"
        walk_at "r"
        refine ⟨by decide, _, rfl, ?_⟩
        walk_at "r"
        refine ⟨by decide, _, ⟨rfl, _, e2⟩, ?_⟩
        walk_at "r"
        walk_at "f"
        walk_at "r"
        refine ⟨_, e2, ?_⟩
        walk_at "r"
        refine ⟨_, rfl, ?_⟩
        walk_at "r"
        have lx := rds_len rx
        have ly := rds_len ry
        refine Br_i (fun hl => ?_) (fun hl => ?_)
        · walk_at "r"
          refine qf _ ?_
          show eqDs ds es = false
          cases hq : eqDs ds es with
          | false => rfl
          | true =>
            have := eqDs_len hq
            have hl : (!decide ((xs.length : Int) = ys.length)) = true := hl
            simp at hl
            omega
        · have hll : ds.length = es.length := by
            have hl : (!decide ((xs.length : Int) = ys.length)) = false := hl
            simp at hl
            omega
          walk_at "r"
          refine ⟨_, rfl, ?_⟩
          walk_at "r"
          have hsm : es.length ≤ 100000 ∧ smDs es := hsm
          refine ⟨⟨by omega, by omega⟩, ?_⟩
          have hlt : 1 + dpts es < n + 1 := hlt
          refine for_inv (fun r δ m' => m' = m ∧ ∃ (k : Nat) (a : Option SV), δ = [some (SV.ref ax), some (SV.lst ys), a] ∧ r = rngS k (ys.length - k) ∧ k ≤ ys.length ∧ (∀ (i : Nat) u v, i < k → ds[i]? = some u → es[i]? = some v → eqD u v = true)) ⟨rfl, 0, none, rfl, rfl, Nat.zero_le _, fun i u v h => absurd h (Nat.not_lt_zero _)⟩ (fun x r δ m' h => ?_) (fun δ m' h => ?_)
          · obtain ⟨rfl, k, a, rfl, hr, hk, hall⟩ := h
            refine ⟨trivial, ?_⟩
            have hk1 : k < ys.length := by
              by_cases e : k < ys.length
              · exact e
              · rw [show ys.length - k = 0 by omega] at hr; cases hr
            rw [show ys.length - k = (ys.length - (k + 1)) + 1 by omega] at hr
            obtain ⟨rfl, rfl⟩ := List.cons.inj hr
            obtain ⟨u, hu⟩ : ∃ u, ds[k]? = some u := ⟨_, List.getElem?_eq_getElem (by omega)⟩
            obtain ⟨v, hv⟩ : ∃ v, es[k]? = some v := ⟨_, List.getElem?_eq_getElem (by omega)⟩
            obtain ⟨su, hsu, ru⟩ := rds_get rx hu
            obtain ⟨sv, hsv, rv⟩ := rds_get ry hv
            walk_at "r"
            refine ⟨_, _, e2, atI_nat hsu, ?_⟩
            walk_at "r"
            refine ⟨_, atI_nat hsv, ?_⟩
            walk_at "r"
            refine ⟨_, _, _, _, rfl, ru, rv, by have := dpts_get hv; omega, smDs_get hsm.2 hv, ?_⟩
            walk_at "r"
            refine Br_i (fun hb => ?_) (fun hb => ?_)
            · walk_at "r"
              refine qf _ ?_
              show eqDs ds es = false
              cases hq : eqDs ds es with
              | false => rfl
              | true =>
                have hb : (!eqD u v) = true := hb
                rw [(eqDs_get hll).mpr hq k u v hu hv] at hb
                cases hb
            · have hb : (!eqD u v) = false := hb
              walk_at "r"
              refine .of ⟨rfl, k + 1, _, rfl, rfl, hk1, fun i u' v' hi h1 h2 => ?_⟩
              by_cases e : i = k
              · subst e
                rw [hu] at h1
                rw [hv] at h2
                cases h1
                cases h2
                simpa using hb
              · exact hall i u' v' (by omega) h1 h2
          · obtain ⟨rfl, k, a, rfl, hr, hk, hall⟩ := h
            refine ⟨trivial, ?_⟩
            walk_at "r"
            have hk1 : k = ys.length := by
              by_cases e : k < ys.length
              · rw [show ys.length - k = (ys.length - (k + 1)) + 1 by omega] at hr; cases hr
              · omega
            refine qf _ ?_
            show eqDs ds es = true
            exact (eqDs_get hll).mp fun i u v h1 h2 => hall i u v (by have := (List.getElem?_eq_some_iff.mp h2).1; omega) h1 h2
      | tup rx =>
        walk_at "t"
        walk_at "r"
        walk_at "t"
        walk_at "r"
        exact qf _ rfl
      | _ =>
        walk_at "f"
        walk_at "r"
        refine ⟨by decide, _, rfl, ?_⟩
        walk_at "r"
        refine ⟨by decide, _, rfl, ?_⟩
        walk_at "r"
        walk_at "t"
        walk_at "r"
        exact qf _ rfl
    | @ref ay ys es e1 ry =>
      walk_at "f"
      walk_at "r"
      refine ⟨by decide, _, ⟨rfl, _, e1⟩, ?_⟩
      walk_at "r"
      walk_at "f"
      walk_at "r"
      refine ⟨by decide, _, ⟨rfl, _, e1⟩, ?_⟩
      walk_at "r"
      walk_at "f"
      walk_at "r"
      refine ⟨by decide, _, ⟨rfl, _, e1⟩, ?_⟩
      walk_at "r"
      walk_at "f"
      walk_at "r"
      refine ⟨by decide, _, ⟨rfl, _, e1⟩, ?_⟩
      walk_at "r"
      refine ⟨by decide, _, tx, ?_⟩
      walk_at "r"
      cases hx with
      | @lst xs ds rx =>
        walk_at "f"
        walk_at "r"
        refine ⟨by decide, _, ⟨rfl, _, e1⟩, ?_⟩
        walk_at "r"
        refine ⟨by decide, _, rfl, ?_⟩
        walk_at "r"
        walk_at "f"
        walk_at "r"
        refine ⟨_, rfl, ?_⟩
        walk_at "r"
        refine ⟨_, e1, ?_⟩
        walk_at "r"
        have lx := rds_len rx
        have ly := rds_len ry
        refine Br_i (fun hl => ?_) (fun hl => ?_)
        · walk_at "r"
          refine qf _ ?_
          show eqDs ds es = false
          cases hq : eqDs ds es with
          | false => rfl
          | true =>
            have := eqDs_len hq
            have hl : (!decide ((xs.length : Int) = ys.length)) = true := hl
            simp at hl
            omega
        · have hll : ds.length = es.length := by
            have hl : (!decide ((xs.length : Int) = ys.length)) = false := hl
            simp at hl
            omega
          walk_at "r"
          refine ⟨_, e1, ?_⟩
          walk_at "r"
          have hsm : es.length ≤ 100000 ∧ smDs es := hsm
          refine ⟨⟨by omega, by omega⟩, ?_⟩
          have hlt : 1 + dpts es < n + 1 := hlt
          refine for_inv (fun r δ m' => m' = m ∧ ∃ (k : Nat) (a : Option SV), δ = [some (SV.lst xs), some (SV.ref ay), a] ∧ r = rngS k (ys.length - k) ∧ k ≤ ys.length ∧ (∀ (i : Nat) u v, i < k → ds[i]? = some u → es[i]? = some v → eqD u v = true)) ⟨rfl, 0, none, rfl, rfl, Nat.zero_le _, fun i u v h => absurd h (Nat.not_lt_zero _)⟩ (fun x r δ m' h => ?_) (fun δ m' h => ?_)
          · obtain ⟨rfl, k, a, rfl, hr, hk, hall⟩ := h
            refine ⟨trivial, ?_⟩
            have hk1 : k < ys.length := by
              by_cases e : k < ys.length
              · exact e
              · rw [show ys.length - k = 0 by omega] at hr; cases hr
            rw [show ys.length - k = (ys.length - (k + 1)) + 1 by omega] at hr
            obtain ⟨rfl, rfl⟩ := List.cons.inj hr
            obtain ⟨u, hu⟩ : ∃ u, ds[k]? = some u := ⟨_, List.getElem?_eq_getElem (by omega)⟩
            obtain ⟨v, hv⟩ : ∃ v, es[k]? = some v := ⟨_, List.getElem?_eq_getElem (by omega)⟩
            obtain ⟨su, hsu, ru⟩ := rds_get rx hu
            obtain ⟨sv, hsv, rv⟩ := rds_get ry hv
            walk_at "r"
            refine ⟨_, atI_nat hsu, ?_⟩
            walk_at "r"
            refine ⟨_, _, e1, atI_nat hsv, ?_⟩
            walk_at "r"
            refine ⟨_, _, _, _, rfl, ru, rv, by have := dpts_get hv; omega, smDs_get hsm.2 hv, ?_⟩
            walk_at "r"
            refine Br_i (fun hb => ?_) (fun hb => ?_)
            · walk_at "r"
              refine qf _ ?_
              show eqDs ds es = false
              cases hq : eqDs ds es with
              | false => rfl
              | true =>
                have hb : (!eqD u v) = true := hb
                rw [(eqDs_get hll).mpr hq k u v hu hv] at hb
                cases hb
            · have hb : (!eqD u v) = false := hb
              walk_at "r"
              refine .of ⟨rfl, k + 1, _, rfl, rfl, hk1, fun i u' v' hi h1 h2 => ?_⟩
              by_cases e : i = k
              · subst e
                rw [hu] at h1
                rw [hv] at h2
                cases h1
                cases h2
                simpa using hb
              · exact hall i u' v' (by omega) h1 h2
          · obtain ⟨rfl, k, a, rfl, hr, hk, hall⟩ := h
            refine ⟨trivial, ?_⟩
            walk_at "r"
            have hk1 : k = ys.length := by
              by_cases e : k < ys.length
              · rw [show ys.length - k = (ys.length - (k + 1)) + 1 by omega] at hr; cases hr
              · omega
            refine qf _ ?_
            show eqDs ds es = true
            exact (eqDs_get hll).mp fun i u v h1 h2 => hall i u v (by have := (List.getElem?_eq_some_iff.mp h2).1; omega) h1 h2
      | @ref ax xs ds e2 rx =>
        walk_at "f"
        walk_at "r"
        refine ⟨by decide, _, ⟨rfl, _, e1⟩, ?_⟩
        walk_at "r"
        refine ⟨by decide, _, ⟨rfl, _, e2⟩, ?_⟩
        walk_at "r"
        walk_at "f"
        walk_at "r"
        refine ⟨_, e2, ?_⟩
        walk_at "r"
        refine ⟨_, e1, ?_⟩
        walk_at "r"
        have lx := rds_len rx
        have ly := rds_len ry
        refine Br_i (fun hl => ?_) (fun hl => ?_)
        · walk_at "r"
          refine qf _ ?_
          show eqDs ds es = false
          cases hq : eqDs ds es with
          | false => rfl
          | true =>
            have := eqDs_len hq
            have hl : (!decide ((xs.length : Int) = ys.length)) = true := hl
            simp at hl
            omega
        · have hll : ds.length = es.length := by
            have hl : (!decide ((xs.length : Int) = ys.length)) = false := hl
            simp at hl
            omega
          walk_at "r"
          refine ⟨_, e1, ?_⟩
          walk_at "r"
          have hsm : es.length ≤ 100000 ∧ smDs es := hsm
          refine ⟨⟨by omega, by omega⟩, ?_⟩
          have hlt : 1 + dpts es < n + 1 := hlt
          refine for_inv (fun r δ m' => m' = m ∧ ∃ (k : Nat) (a : Option SV), δ = [some (SV.ref ax), some (SV.ref ay), a] ∧ r = rngS k (ys.length - k) ∧ k ≤ ys.length ∧ (∀ (i : Nat) u v, i < k → ds[i]? = some u → es[i]? = some v → eqD u v = true)) ⟨rfl, 0, none, rfl, rfl, Nat.zero_le _, fun i u v h => absurd h (Nat.not_lt_zero _)⟩ (fun x r δ m' h => ?_) (fun δ m' h => ?_)
          · obtain ⟨rfl, k, a, rfl, hr, hk, hall⟩ := h
            refine ⟨trivial, ?_⟩
            have hk1 : k < ys.length := by
              by_cases e : k < ys.length
              · exact e
              · rw [show ys.length - k = 0 by omega] at hr; cases hr
            rw [show ys.length - k = (ys.length - (k + 1)) + 1 by omega] at hr
            obtain ⟨rfl, rfl⟩ := List.cons.inj hr
            obtain ⟨u, hu⟩ : ∃ u, ds[k]? = some u := ⟨_, List.getElem?_eq_getElem (by omega)⟩
            obtain ⟨v, hv⟩ : ∃ v, es[k]? = some v := ⟨_, List.getElem?_eq_getElem (by omega)⟩
            obtain ⟨su, hsu, ru⟩ := rds_get rx hu
            obtain ⟨sv, hsv, rv⟩ := rds_get ry hv
            walk_at "r"
            refine ⟨_, _, e2, atI_nat hsu, ?_⟩
            walk_at "r"
            refine ⟨_, _, e1, atI_nat hsv, ?_⟩
            walk_at "r"
            refine ⟨_, _, _, _, rfl, ru, rv, by have := dpts_get hv; omega, smDs_get hsm.2 hv, ?_⟩
            walk_at "r"
            refine Br_i (fun hb => ?_) (fun hb => ?_)
            · walk_at "r"
              refine qf _ ?_
              show eqDs ds es = false
              cases hq : eqDs ds es with
              | false => rfl
              | true =>
                have hb : (!eqD u v) = true := hb
                rw [(eqDs_get hll).mpr hq k u v hu hv] at hb
                cases hb
            · have hb : (!eqD u v) = false := hb
              walk_at "r"
              refine .of ⟨rfl, k + 1, _, rfl, rfl, hk1, fun i u' v' hi h1 h2 => ?_⟩
              by_cases e : i = k
              · subst e
                rw [hu] at h1
                rw [hv] at h2
                cases h1
                cases h2
                simpa using hb
              · exact hall i u' v' (by omega) h1 h2
          · obtain ⟨rfl, k, a, rfl, hr, hk, hall⟩ := h
            refine ⟨trivial, ?_⟩
            walk_at "r"
            have hk1 : k = ys.length := by
              by_cases e : k < ys.length
              · rw [show ys.length - k = (ys.length - (k + 1)) + 1 by omega] at hr; cases hr
              · omega
            refine qf _ ?_
            show eqDs ds es = true
            exact (eqDs_get hll).mp fun i u v h1 h2 => hall i u v (by have := (List.getElem?_eq_some_iff.mp h2).1; omega) h1 h2
      | tup rx =>
        walk_at "t"
        walk_at "r"
        walk_at "t"
        walk_at "r"
        exact qf _ rfl
      | _ =>
        walk_at "f"
        walk_at "r"
        refine ⟨by decide, _, ⟨rfl, _, e1⟩, ?_⟩
        walk_at "r"
        refine ⟨by decide, _, rfl, ?_⟩
        walk_at "r"
        walk_at "t"
        walk_at "r"
        exact qf _ rfl
end
end Hn

set_option Elab.async false
set_option linter.all false
set_option maxRecDepth 100000
set_option maxHeartbeats 8000000
namespace Hn
open PySem PySem.Spec PyProof.Rows L2 Sy Lm
section
variable {P : Program} {w : World} {K : PySem.W.Frag} {mg : Str → Option Value} {base : Heap}
local macro_rules | `(tactic| walk_at "r") => `(tactic| (conv => whnf))
local macro_rules | `(tactic| walk_at "sp") => `(tactic| (first | rfl | contradiction | exact (False.elim ‹_›)))
local macro_rules | `(tactic| walk_at "len") => `(tactic| (exact Nat.le_trans (show _ ≤ 100000 by first | (simp; done) | (rw [rngS_length]; decide)) (by decide)))
local macro_rules | `(tactic| walk_at "f") => `(tactic| (refine Br_i (fun hb => Bool.noConfusion (show false = true from hb)) (fun _ => ?_)))
local macro_rules | `(tactic| walk_at "t") => `(tactic| (refine Br_i (fun _ => ?_) (fun hb => Bool.noConfusion (show true = false from hb))))
local macro_rules | `(tactic| walk_at "le") => `(tactic| first | exact Le.refl _ | (refine Le.put ?_; walk_at "le") | (refine Le.new ?_ (by assumption); walk_at "le"))
section
variable {κ : Type} [DecidableEq κ]
theorem val_1 {k : κ} {v : SV} {r : List (κ × SV)} : valS ((k, v) :: r) k = some v := by simp [valS]
theorem val_n {k g : κ} {v : SV} {r : List (κ × SV)} (h : ¬ g = k) : valS ((g, v) :: r) k = valS r k := by simp [valS, List.find?_cons, h]
theorem putD_new {kvs : List (κ × SV)} {k : κ} {v : SV} (h : ∀ q ∈ kvs, ¬ q.1 = k) : putD kvs k v = kvs ++ [(k, v)] := by
  unfold putD
  rw [if_neg]
  intro z
  obtain ⟨q, h1, h2⟩ := List.any_eq_true.mp z
  exact h q h1 (of_decide_eq_true h2)
theorem putD_1 {k : κ} {v w : SV} {r : List (κ × SV)} (h : ∀ q ∈ r, ¬ q.1 = k) : putD ((k, w) :: r) k v = (k, v) :: r := by
  unfold putD
  rw [if_pos (by simp), List.map_cons, if_pos rfl]
  congr 1
  exact (List.map_congr_left (g := fun q => q) (fun q hq => if_neg (h q hq))).trans (List.map_id' r)
theorem putD_n {k g : κ} {v w : SV} {r : List (κ × SV)} (h : ¬ g = k) (h2 : ∃ q ∈ r, q.1 = k) : putD ((g, w) :: r) k v = (g, w) :: putD r k v := by
  obtain ⟨q, h3, h4⟩ := h2
  unfold putD
  rw [if_pos (List.any_eq_true.mpr ⟨q, List.mem_cons_of_mem _ h3, decide_eq_true h4⟩), if_pos (List.any_eq_true.mpr ⟨q, h3, decide_eq_true h4⟩), List.map_cons, if_neg h]
end
/-- a device's state -/
structure DevS where
  p : Addr
  kd : Addr
  lr : Addr
  on : Bool
  dbs : List (Int × Str)
  rung : List Int
/-- a letter under way -/
structure Ltr where
  goal : Option Nat
  w : Str
  dv : Nat
  bl : Nat
def Ltr.sv (q : Ltr) : SV := .tup [.str q.w, .int q.dv, .int q.bl]
def Ltr.v (q : Ltr) : SV := .tup [optI (q.goal.map fun k => (k : Int)), q.sv]
/-- a house's state -/
structure HS where
  d : Addr
  b : Addr
  al : Addr
  ion : Addr
  rd : Addr
  n : Nat
  bs : List (Str × Option Int)
  dev : Nat → DevS
  road : List Ltr
def houseD (s : HS) : List (Key × SV) := [(.inr "desk", .ref s.d), (.inr "all", .ref s.al), (.inr "is_on", .ref s.ion), (.inr "road", .ref s.rd), (.inr "bells", .int s.bs.length)]
theorem h_desk (s : HS) : valS (houseD s) (.inr "desk") = some (.ref s.d) := val_1
theorem h_all (s : HS) : valS (houseD s) (.inr "all") = some (.ref s.al) := (val_n (by decide +kernel)).trans val_1
theorem h_ison (s : HS) : valS (houseD s) (.inr "is_on") = some (.ref s.ion) := (val_n (by decide +kernel)).trans ((val_n (by decide +kernel)).trans val_1)
theorem h_road (s : HS) : valS (houseD s) (.inr "road") = some (.ref s.rd) := (val_n (by decide +kernel)).trans ((val_n (by decide +kernel)).trans ((val_n (by decide +kernel)).trans val_1))
theorem h_bells (s : HS) : valS (houseD s) (.inr "bells") = some (.int s.bs.length) := (val_n (by decide +kernel)).trans ((val_n (by decide +kernel)).trans ((val_n (by decide +kernel)).trans ((val_n (by decide +kernel)).trans val_1)))
theorem merge_new : ∀ (more kvs : List (Key × SV)), ((kvs ++ more).map (·.1)).Nodup → mergeS kvs more = kvs ++ more
  | [], kvs, _ => by rw [List.append_nil]; rfl
  | (k, v) :: r, kvs, h => by
    have e : putD kvs k v = kvs ++ [(k, v)] := putD_new fun q hq z => by
      rw [List.map_append, List.nodup_append] at h
      exact h.2.2 q.1 (List.mem_map_of_mem hq) k (by simp) z
    have h2 : (((kvs ++ [(k, v)]) ++ r).map (·.1)).Nodup := by rw [List.append_assoc]; exact h
    show mergeS (putD kvs k v) r = _
    rw [e, merge_new r _ h2, List.append_assoc]
    rfl
theorem merge_house (s : HS) : mergeS [] (houseD s) = houseD s := merge_new _ [] (show ([.inr "desk", .inr "all", .inr "is_on", .inr "road", .inr "bells"] : List Key).Nodup by decide +kernel)
theorem put_bells (s : HS) (v : SV) : putD (houseD s) (.inr "bells") v = [(.inr "desk", .ref s.d), (.inr "all", .ref s.al), (.inr "is_on", .ref s.ion), (.inr "road", .ref s.rd), (.inr "bells", v)] := by
  unfold houseD
  have n : ∀ (g : Str) (w : SV) (r : List (Key × SV)), ¬ (Sum.inr g : Key) = Sum.inr ("bells" : Str) → (∃ q ∈ r, q.1 = (Sum.inr ("bells" : Str) : Key)) → putD ((Sum.inr g, w) :: r) (Sum.inr ("bells" : Str)) v = (Sum.inr g, w) :: putD r (Sum.inr ("bells" : Str)) v := fun g w r h1 h2 => putD_n h1 h2
  rw [n _ _ _ (by decide +kernel) ⟨(.inr "bells", .int s.bs.length), by simp, rfl⟩, n _ _ _ (by decide +kernel) ⟨(.inr "bells", .int s.bs.length), by simp, rfl⟩, n _ _ _ (by decide +kernel) ⟨(.inr "bells", .int s.bs.length), by simp, rfl⟩, n _ _ _ (by decide +kernel) ⟨(.inr "bells", .int s.bs.length), by simp, rfl⟩, putD_1 (by simp)]
theorem put_road (s : HS) (v : SV) : putD (houseD s) (.inr "road") v = [(.inr "desk", .ref s.d), (.inr "all", .ref s.al), (.inr "is_on", .ref s.ion), (.inr "road", v), (.inr "bells", .int s.bs.length)] := by
  unfold houseD
  have n : ∀ (g : Str) (w : SV) (r : List (Key × SV)), ¬ (Sum.inr g : Key) = Sum.inr ("road" : Str) → (∃ q ∈ r, q.1 = (Sum.inr ("road" : Str) : Key)) → putD ((Sum.inr g, w) :: r) (Sum.inr ("road" : Str)) v = (Sum.inr g, w) :: putD r (Sum.inr ("road" : Str)) v := fun g w r h1 h2 => putD_n h1 h2
  rw [n _ _ _ (by decide +kernel) ⟨(.inr "road", .ref s.rd), by simp, rfl⟩, n _ _ _ (by decide +kernel) ⟨(.inr "road", .ref s.rd), by simp, rfl⟩, n _ _ _ (by decide +kernel) ⟨(.inr "road", .ref s.rd), by simp, rfl⟩, putD_1]
  intro q hq
  obtain rfl := List.mem_singleton.mp hq
  show ¬ (Sum.inr ("bells" : Str) : Key) = Sum.inr ("road" : Str)
  decide +kernel
def devsP (s : HS) : List SV := (List.range s.n).map fun k => .ref (s.dev k).p
def onsP (s : HS) : List SV := (List.range s.n).map fun k => .bl (s.dev k).on
/-- few unlike numbers -/
theorem nod_few : ∀ (n : Nat) (xs : List Int), xs.Nodup → (∀ x ∈ xs, 0 ≤ x ∧ x < n) → xs.length ≤ n
  | 0, [], _, _ => Nat.le_refl _
  | 0, x :: r, _, h => by have := h x List.mem_cons_self; omega
  | n + 1, xs, hn, h => by
    have h1 := nod_few n (xs.filter fun x => decide (x ≠ (n : Int))) (hn.filter _) fun x hx => by
      obtain ⟨h2, h3⟩ := List.mem_filter.mp hx
      have h4 := of_decide_eq_true h3
      have h5 := h x h2
      exact ⟨h5.1, by omega⟩
    have h2 : ∀ (ys : List Int), ys.Nodup → ys.length ≤ (ys.filter fun x => decide (x ≠ (n : Int))).length + 1 := fun ys hy => by
      induction ys with
      | nil => simp
      | cons y r ih =>
        have hy' := List.nodup_cons.mp hy
        by_cases e : y = (n : Int)
        · have e2 : r.filter (fun x => decide (x ≠ (n : Int))) = r := List.filter_eq_self.mpr fun x hx => decide_eq_true fun z => hy'.1 (by rw [e, ← z]; exact hx)
          rw [List.filter_cons, if_neg (by simp [e]), e2, List.length_cons]
          omega
        · rw [List.filter_cons, if_pos (by simp [e]), List.length_cons, List.length_cons]
          have := ih hy'.2
          omega
    have := h2 xs hn
    omega
/-- what a device knows -/
structure DevOk (n : Nat) (dbs : List (Int × Str)) (rung : List Int) : Prop where
  nk : (dbs.map (·.1)).Nodup
  rg : ∀ q ∈ dbs, 0 ≤ q.1 ∧ q.1 < n
  nr : rung.Nodup
  rr : ∀ b ∈ rung, ∃ st, lookB dbs b = some st ∧ st ≠ "wanted"
theorem lookB_mem {dbs : List (Int × Str)} {i : Int} {st : Str} (h : lookB dbs i = some st) : (i, st) ∈ dbs := by
  unfold lookB at h
  obtain ⟨q, h1, h2⟩ := Option.map_eq_some_iff.mp h
  have h3 := List.find?_some h1
  have h4 := List.mem_of_find?_eq_some h1
  have h5 : q.1 = i := of_decide_eq_true h3
  subst h2 h5
  exact h4
theorem lookB_key {dbs : List (Int × Str)} {i : Int} {st : Str} (h : lookB dbs i = some st) : i ∈ dbs.map (·.1) := List.mem_map.mpr ⟨_, lookB_mem h, rfl⟩
theorem DevOk.len {n : Nat} {dbs : List (Int × Str)} {rung : List Int} (h : DevOk n dbs rung) : dbs.length ≤ n ∧ rung.length ≤ n := by
  refine ⟨?_, ?_⟩
  · have := nod_few n _ h.nk fun x hx => by
      obtain ⟨q, h1, h2⟩ := List.mem_map.mp hx
      rw [← h2]
      exact h.rg q h1
    rw [List.length_map] at this
    exact this
  · exact nod_few n _ h.nr fun x hx => by
      obtain ⟨st, h1, _⟩ := h.rr x hx
      exact h.rg _ (lookB_mem h1)
theorem lookB_put {i j : Int} {s : Str} : ∀ {dbs : List (Int × Str)}, lookB (putB dbs i s) j = if j = i then some s else lookB dbs j := fun {dbs} => by
  unfold putB
  split
  · next h =>
    have key : ∀ (l : List (Int × Str)), lookB (l.map fun q => if q.1 = i then (q.1, s) else q) j = if j = i ∧ (l.any fun q => decide (q.1 = i)) = true then some s else lookB l j := fun l => by
      induction l with
      | nil => simp [lookB]
      | cons q r ih =>
        unfold lookB at ih ⊢
        rw [List.map_cons, List.find?_cons, List.find?_cons, List.any_cons]
        by_cases e : q.1 = i
        · by_cases e2 : j = i
          · subst e2; simp [e]
          · have e3 : ¬ i = j := fun z => e2 z.symm
            simp [e, e2, e3] at ih ⊢
            exact ih
        · rw [decide_eq_false e, Bool.false_or]
          by_cases e2 : q.1 = j
          · have e3 : ¬ j = i := fun z => e (e2.trans z)
            simp [e, e2, e3]
          · simp [e, e2] at ih ⊢
            exact ih
    rw [key, h]
    simp
  · next h =>
    have nk : ∀ q ∈ dbs, ¬ q.1 = i := fun q hq z => h (List.any_eq_true.mpr ⟨q, hq, decide_eq_true z⟩)
    unfold lookB
    rw [List.find?_append]
    by_cases e : j = i
    · subst e
      have e2 : (dbs.find? fun q => decide (q.1 = j)) = none := List.find?_eq_none.mpr fun q hq => by simpa using nk q hq
      rw [e2]
      simp
    · rw [if_neg e]
      have e3 : ¬ i = j := fun z => e z.symm
      have e2 : ([(i, s)].find? fun q : Int × Str => decide (q.1 = j)) = none := by simp [e3]
      rw [e2]
      simp
theorem put_keys {i : Int} {s : Str} {dbs : List (Int × Str)} : (putB dbs i s).map (·.1) = if i ∈ dbs.map (·.1) then dbs.map (·.1) else dbs.map (·.1) ++ [i] := by
  unfold putB
  by_cases h : i ∈ dbs.map (·.1)
  · obtain ⟨q, h1, h2⟩ := List.mem_map.mp h
    rw [if_pos (List.any_eq_true.mpr ⟨q, h1, decide_eq_true h2⟩), if_pos h, List.map_map]
    refine List.map_congr_left fun q _ => ?_
    show (if q.1 = i then (q.1, s) else q).1 = q.1
    split <;> rfl
  · rw [if_neg (fun z => by
      obtain ⟨q, h1, h2⟩ := List.any_eq_true.mp z
      exact h (List.mem_map.mpr ⟨q, h1, of_decide_eq_true h2⟩)), if_neg h, List.map_append]
    rfl
theorem DevOk.put {n : Nat} {dbs : List (Int × Str)} {rung : List Int} (h : DevOk n dbs rung) {i : Int} {s : Str} (h0 : 0 ≤ i) (h1 : i < n) (hs : i ∈ rung → s ≠ "wanted") : DevOk n (putB dbs i s) rung := by
  refine ⟨?_, ?_, h.nr, fun b hb => ?_⟩
  · rw [put_keys]
    split
    · exact h.nk
    · next z =>
      rw [List.nodup_append]
      exact ⟨h.nk, by simp, fun x hx y hy e => z (by rw [List.mem_singleton.mp hy] at e; rw [← e]; exact hx)⟩
  · have e : ∀ k ∈ (putB dbs i s).map (·.1), 0 ≤ k ∧ k < (n : Int) := fun k hk => by
      rw [put_keys] at hk
      have hr : ∀ k ∈ dbs.map (·.1), 0 ≤ k ∧ k < (n : Int) := fun k hk => by
        obtain ⟨q, h1, h2⟩ := List.mem_map.mp hk
        rw [← h2]; exact h.rg q h1
      split at hk
      · exact hr k hk
      · rcases List.mem_append.mp hk with hk | hk
        · exact hr k hk
        · rw [List.mem_singleton.mp hk]; exact ⟨h0, h1⟩
    exact fun q hq => e q.1 (List.mem_map.mpr ⟨q, hq, rfl⟩)
  · obtain ⟨st, g1, g2⟩ := h.rr b hb
    rw [lookB_put]
    split
    · next e => exact ⟨s, rfl, hs (by rw [← e]; exact hb)⟩
    · exact ⟨st, g1, g2⟩
theorem DevOk.ring {n : Nat} {dbs : List (Int × Str)} {rung : List Int} (h : DevOk n dbs rung) {i : Int} (h0 : 0 ≤ i) (h1 : i < n) (hw : lookB dbs i = none ∨ lookB dbs i = some ("wanted" : Str)) : DevOk n (putB dbs i "ringing") (rung ++ [i]) := by
  have ni : i ∉ rung := fun z => by
    obtain ⟨st, g1, g2⟩ := h.rr i z
    rcases hw with e | e
    · rw [e] at g1; cases g1
    · rw [e] at g1; cases g1; exact g2 rfl
  have p := h.put (s := "ringing") h0 h1 fun z => absurd z ni
  refine ⟨p.nk, p.rg, ?_, fun b hb => ?_⟩
  · rw [List.nodup_append]
    exact ⟨h.nr, by simp, fun x hx y hy e => ni (by rw [List.mem_singleton.mp hy] at e; rw [← e]; exact hx)⟩
  · rcases List.mem_append.mp hb with hb | hb
    · exact p.rr b hb
    · rw [List.mem_singleton.mp hb, lookB_put, if_pos rfl]
      exact ⟨_, rfl, by decide +kernel⟩
theorem DevOk.hear {n : Nat} {dbs : List (Int × Str)} {rung : List Int} (h : DevOk n dbs rung) {w : Str} {i : Int} (h0 : 0 ≤ i) (h1 : i < n) : DevOk n (hearV dbs rung w i).1 (hearV dbs rung w i).2 := by
  unfold hearV
  have hno : lookB dbs i = none → i ∉ rung := fun e z => by
    obtain ⟨st, g1, g2⟩ := h.rr i z
    rw [e] at g1; cases g1
  split
  · next q => exact h.put h0 h1 fun z => absurd z (hno q.2)
  · split
    · next q => exact h.ring h0 h1 q.2
    · split
      · exact h.put h0 h1 fun _ => by decide +kernel
      · split
        · exact h.put h0 h1 fun _ => by decide +kernel
        · exact h
theorem DevOk.more {n n' : Nat} {dbs : List (Int × Str)} {rung : List Int} (h : DevOk n dbs rung) (l : n ≤ n') : DevOk n' dbs rung := ⟨h.nk, fun q hq => by have := h.rg q hq; omega, h.nr, h.rr⟩
/-- a letter that may be under way -/
def okLtr (s : HS) (q : Ltr) : Prop := (∀ k, q.goal = some k → k < s.n) ∧ q.dv < s.n ∧ q.bl < s.bs.length ∧ PyData.strOk q.w = true
/-- a house in the memory -/
structure House (K : PySem.W.Frag) (m : Mem) (a : Addr) (s : HS) : Prop where
  h : m a = some (.dK (houseD s))
  desk : IsDesk K m s.d s.b s.n s.bs
  al : m s.al = some (.lst (devsP s))
  ion : m s.ion = some (.lst (onsP s))
  rd : m s.rd = some (.lst (s.road.map Ltr.v))
  dev : ∀ k, k < s.n → IsDev K m (s.dev k).p (s.dev k).kd (s.dev k).lr k (s.dev k).on (s.dev k).dbs (s.dev k).rung
  dok : ∀ k, k < s.n → DevOk s.bs.length (s.dev k).dbs (s.dev k).rung
  bells : s.bs.length ≤ 15
  road : ∀ q ∈ s.road, okLtr s q
  tag : ∃ τ : Addr → Nat, τ a = 0 ∧ τ s.b = 1 ∧ τ s.al = 2 ∧ τ s.ion = 3 ∧ τ s.rd = 4 ∧ τ s.d = 5 ∧ ∀ k, k < s.n → τ (s.dev k).p = 10 + 3 * k ∧ τ (s.dev k).kd = 11 + 3 * k ∧ τ (s.dev k).lr = 12 + 3 * k
theorem House.le {m m' : Mem} {h : Addr} {s : HS} (D : House K m h s) (l : Le m m') : House K m' h s := ⟨l _ _ D.h, D.desk.le l, l _ _ D.al, l _ _ D.ion, l _ _ D.rd, fun k hk => (D.dev k hk).le l, D.dok, D.bells, D.road, D.tag⟩
def setDev (dev : Nat → DevS) (j : Nat) (v : DevS) : Nat → DevS := fun k => if k = j then v else dev k
theorem setDev_eq {dev : Nat → DevS} {j : Nat} {v : DevS} : setDev dev j v j = v := if_pos rfl
theorem setDev_ne {dev : Nat → DevS} {j k : Nat} {v : DevS} (h : k ≠ j) : setDev dev j v k = dev k := if_neg h
/-- the cells that a house changes -/
def Foot (h : Addr) (s : HS) (x : Addr) : Prop := x = h ∨ x = s.b ∨ x = s.ion ∨ x = s.rd ∨ ∃ k, k < s.n ∧ (x = (s.dev k).p ∨ x = (s.dev k).kd ∨ x = (s.dev k).lr)
/-- the desk's bells change -/
theorem House.setB {m : Mem} {h : Addr} {s : HS} (D : House K m h s) (bs' : List (Str × Option Int)) (hl : bs'.length = s.bs.length) : House K (up m s.b (.lst (bs'.map bellV))) h { s with bs := bs' } := by
  obtain ⟨τ, t0, t1, t2, t3, t4, t5, t6⟩ := D.tag
  refine ⟨?_, ⟨?_, up_same, by rw [hl]; exact D.desk.z, D.desk.n⟩, ?_, ?_, ?_, fun k hk => ?_, fun k hk => ?_, by show bs'.length ≤ 15; rw [hl]; exact D.bells, fun q hq => ?_, ⟨τ, t0, t1, t2, t3, t4, t5, t6⟩⟩
  · rw [up_ne (fun e => by rw [e, t1] at t0; omega)]
    have e : houseD { s with bs := bs' } = houseD s := by unfold houseD; rw [hl]
    rw [e]; exact D.h
  · rw [up_ne (fun e => by rw [e, t1] at t5; omega)]; exact D.desk.d
  · rw [up_ne (fun e => by rw [e, t1] at t2; omega)]; exact D.al
  · rw [up_ne (fun e => by rw [e, t1] at t3; omega)]; exact D.ion
  · rw [up_ne (fun e => by rw [e, t1] at t4; omega)]; exact D.rd
  · obtain ⟨u1, u2, u3⟩ := t6 k hk
    have z := D.dev k hk
    exact ⟨by rw [up_ne (fun e => by rw [e, t1] at u1; omega)]; exact z.p, by rw [up_ne (fun e => by rw [e, t1] at u2; omega)]; exact z.kd, by rw [up_ne (fun e => by rw [e, t1] at u3; omega)]; exact z.lr, z.zk, z.zr⟩
  · show DevOk bs'.length _ _; rw [hl]; exact D.dok k hk
  · obtain ⟨q1, q2, q3, q4⟩ := D.road q hq
    exact ⟨q1, q2, by show q.bl < bs'.length; rw [hl]; exact q3, q4⟩
/-- a bell is offered -/
theorem House.offer {m : Mem} {h : Addr} {s : HS} (D : House K m h s) (hl : s.bs.length < 15) (bs' : List (Str × Option Int)) (e' : bs' = s.bs ++ [(("open" : Str), none)]) : House K (up (up m s.b (.lst (bs'.map bellV))) h (.dK (houseD { s with bs := bs' }))) h { s with bs := bs' } := by
  subst e'
  obtain ⟨τ, t0, t1, t2, t3, t4, t5, t6⟩ := D.tag
  have nbh : s.b ≠ h := fun e => by rw [e, t0] at t1; omega
  have ll : (s.bs ++ [(("open" : Str), (none : Option Int))]).length = s.bs.length + 1 := by simp
  refine ⟨up_same, ⟨?_, ?_, by rw [ll]; omega, D.desk.n⟩, ?_, ?_, ?_, fun k hk => ?_, fun k hk => ?_, by rw [ll]; omega, fun q hq => ?_, ⟨τ, t0, t1, t2, t3, t4, t5, t6⟩⟩
  · rw [up_ne (fun e => by rw [e, t0] at t5; omega), up_ne (fun e => by rw [e, t1] at t5; omega)]; exact D.desk.d
  · rw [up_ne nbh, up_same]
  · rw [up_ne (fun e => by rw [e, t0] at t2; omega), up_ne (fun e => by rw [e, t1] at t2; omega)]; exact D.al
  · rw [up_ne (fun e => by rw [e, t0] at t3; omega), up_ne (fun e => by rw [e, t1] at t3; omega)]; exact D.ion
  · rw [up_ne (fun e => by rw [e, t0] at t4; omega), up_ne (fun e => by rw [e, t1] at t4; omega)]; exact D.rd
  · obtain ⟨u1, u2, u3⟩ := t6 k hk
    have z := D.dev k hk
    exact ⟨by rw [up_ne (fun e => by rw [e, t0] at u1; omega), up_ne (fun e => by rw [e, t1] at u1; omega)]; exact z.p, by rw [up_ne (fun e => by rw [e, t0] at u2; omega), up_ne (fun e => by rw [e, t1] at u2; omega)]; exact z.kd, by rw [up_ne (fun e => by rw [e, t0] at u3; omega), up_ne (fun e => by rw [e, t1] at u3; omega)]; exact z.lr, z.zk, z.zr⟩
  · exact (D.dok k hk).more (by rw [ll]; omega)
  · obtain ⟨q1, q2, q3, q4⟩ := D.road q hq
    exact ⟨q1, q2, by show q.bl < _; rw [ll]; omega, q4⟩
/-- the road changes where it stands -/
theorem House.setRoad {m : Mem} {h : Addr} {s : HS} (D : House K m h s) (L : List Ltr) (hL : ∀ q ∈ L, okLtr s q) : House K (up m s.rd (.lst (L.map Ltr.v))) h { s with road := L } := by
  obtain ⟨τ, t0, t1, t2, t3, t4, t5, t6⟩ := D.tag
  refine ⟨?_, ⟨?_, ?_, D.desk.z, D.desk.n⟩, ?_, ?_, up_same, fun k hk => ?_, D.dok, D.bells, hL, ⟨τ, t0, t1, t2, t3, t4, t5, t6⟩⟩
  · rw [up_ne (fun e => by rw [e, t4] at t0; omega)]; exact D.h
  · rw [up_ne (fun e => by rw [e, t4] at t5; omega)]; exact D.desk.d
  · rw [up_ne (fun e => by rw [e, t4] at t1; omega)]; exact D.desk.b
  · rw [up_ne (fun e => by rw [e, t4] at t2; omega)]; exact D.al
  · rw [up_ne (fun e => by rw [e, t4] at t3; omega)]; exact D.ion
  · obtain ⟨u1, u2, u3⟩ := t6 k hk
    have z := D.dev k hk
    exact ⟨by rw [up_ne (fun e => by rw [e, t4] at u1; omega)]; exact z.p, by rw [up_ne (fun e => by rw [e, t4] at u2; omega)]; exact z.kd, by rw [up_ne (fun e => by rw [e, t4] at u3; omega)]; exact z.lr, z.zk, z.zr⟩
/-- another list is the road -/
theorem House.newRoad {m : Mem} {h r : Addr} {s : HS} (D : House K m h s) (L : List Ltr) (hL : ∀ q ∈ L, okLtr s q) (hr : m r = none) : House K (up (up m r (.lst (L.map Ltr.v))) h (.dK (houseD { s with rd := r, road := L }))) h { s with rd := r, road := L } := by
  obtain ⟨τ, t0, t1, t2, t3, t4, t5, t6⟩ := D.tag
  have nr := fun {x : Addr} {o : MO} (e : m x = some o) => mne e hr
  refine ⟨up_same, ⟨?_, ?_, D.desk.z, D.desk.n⟩, ?_, ?_, ?_, fun k hk => ?_, D.dok, D.bells, hL, ⟨fun x => if x = r then 4 else τ x, ?_, ?_, ?_, ?_, if_pos rfl, ?_, fun k hk => ?_⟩⟩
  · rw [up_ne (fun e => by rw [e, t0] at t5; omega), up_ne (nr D.desk.d)]; exact D.desk.d
  · rw [up_ne (fun e => by rw [e, t0] at t1; omega), up_ne (nr D.desk.b)]; exact D.desk.b
  · rw [up_ne (fun e => by rw [e, t0] at t2; omega), up_ne (nr D.al)]; exact D.al
  · rw [up_ne (fun e => by rw [e, t0] at t3; omega), up_ne (nr D.ion)]; exact D.ion
  · rw [up_ne (Ne.symm (nr D.h)), up_same]
  · obtain ⟨u1, u2, u3⟩ := t6 k hk
    have z := D.dev k hk
    exact ⟨by rw [up_ne (fun e => by rw [e, t0] at u1; omega), up_ne (nr z.p)]; exact z.p, by rw [up_ne (fun e => by rw [e, t0] at u2; omega), up_ne (nr z.kd)]; exact z.kd, by rw [up_ne (fun e => by rw [e, t0] at u3; omega), up_ne (nr z.lr)]; exact z.lr, z.zk, z.zr⟩
  · exact (if_neg (nr D.h)).trans t0
  · exact (if_neg (nr D.desk.b)).trans t1
  · exact (if_neg (nr D.al)).trans t2
  · exact (if_neg (nr D.ion)).trans t3
  · exact (if_neg (nr D.desk.d)).trans t5
  · obtain ⟨u1, u2, u3⟩ := t6 k hk
    have z := D.dev k hk
    exact ⟨(if_neg (nr z.p)).trans u1, (if_neg (nr z.kd)).trans u2, (if_neg (nr z.lr)).trans u3⟩
/-- a device's bells change -/
theorem House.setD {m : Mem} {h : Addr} {s : HS} (D : House K m h s) {j : Nat} (hj : j < s.n) (dbs : List (Int × Str)) (rung : List Int) (ok : DevOk s.bs.length dbs rung) : House K (up (up m (s.dev j).kd (.dK (dbs.map dkE))) (s.dev j).lr (.lst (rung.map .int))) h { s with dev := setDev s.dev j { s.dev j with dbs := dbs, rung := rung } } := by
  obtain ⟨τ, t0, t1, t2, t3, t4, t5, t6⟩ := D.tag
  obtain ⟨j1, j2, j3⟩ := t6 j hj
  have far : ∀ {x : Addr} {n : Nat}, τ x = n → n ≠ 11 + 3 * j → n ≠ 12 + 3 * j → up (up m (s.dev j).kd (.dK (dbs.map dkE))) (s.dev j).lr (.lst (rung.map .int)) x = m x := fun {x n} e n1 n2 => by
    rw [up_ne (fun z => n2 (by rw [← e, z, j3])), up_ne (fun z => n1 (by rw [← e, z, j2]))]
  have e1 : devsP { s with dev := setDev s.dev j { s.dev j with dbs := dbs, rung := rung } } = devsP s := by
    unfold devsP
    refine List.map_congr_left fun k _ => ?_
    show SV.ref (setDev s.dev j _ k).p = _
    by_cases e : k = j
    · subst e; rw [setDev_eq]
    · rw [setDev_ne e]
  have e2 : onsP { s with dev := setDev s.dev j { s.dev j with dbs := dbs, rung := rung } } = onsP s := by
    unfold onsP
    refine List.map_congr_left fun k _ => ?_
    show SV.bl (setDev s.dev j _ k).on = _
    by_cases e : k = j
    · subst e; rw [setDev_eq]
    · rw [setDev_ne e]
  have hb := D.bells
  refine ⟨(far t0 (by omega) (by omega)).trans D.h, ⟨(far t5 (by omega) (by omega)).trans D.desk.d, (far t1 (by omega) (by omega)).trans D.desk.b, D.desk.z, D.desk.n⟩, ?_, ?_, (far t4 (by omega) (by omega)).trans D.rd, fun k hk => ?_, fun k hk => ?_, D.bells, D.road, ⟨τ, t0, t1, t2, t3, t4, t5, fun k hk => ?_⟩⟩
  · rw [e1]; exact (far t2 (by omega) (by omega)).trans D.al
  · rw [e2]; exact (far t3 (by omega) (by omega)).trans D.ion
  · obtain ⟨u1, u2, u3⟩ := t6 k hk
    have z := D.dev k hk
    show IsDev K _ (setDev s.dev j _ k).p (setDev s.dev j _ k).kd (setDev s.dev j _ k).lr k (setDev s.dev j _ k).on (setDev s.dev j _ k).dbs (setDev s.dev j _ k).rung
    by_cases e : k = j
    · subst e
      rw [setDev_eq]
      exact ⟨(far u1 (by omega) (by omega)).trans z.p, by rw [up_ne (fun z => by rw [z, j3] at j2; omega), up_same], up_same, Nat.lt_of_le_of_lt ok.len.1 (by omega), Nat.lt_of_le_of_lt ok.len.2 (by omega)⟩
    · rw [setDev_ne e]
      exact ⟨(far u1 (by omega) (by omega)).trans z.p, (far u2 (by omega) (by omega)).trans z.kd, (far u3 (by omega) (by omega)).trans z.lr, z.zk, z.zr⟩
  · show DevOk _ (setDev s.dev j _ k).dbs (setDev s.dev j _ k).rung
    by_cases e : k = j
    · subst e; rw [setDev_eq]; exact ok
    · rw [setDev_ne e]; exact D.dok k hk
  · show τ (setDev s.dev j _ k).p = _ ∧ τ (setDev s.dev j _ k).kd = _ ∧ τ (setDev s.dev j _ k).lr = _
    by_cases e : k = j
    · subst e; rw [setDev_eq]; exact t6 k hk
    · rw [setDev_ne e]; exact t6 k hk
/-- a device is put on or off -/
theorem House.setOn {m : Mem} {h : Addr} {s : HS} (D : House K m h s) {j : Nat} (hj : j < s.n) (on : Bool) : House K (up (up m s.ion (.lst ((onsP s).set j (.bl on)))) (s.dev j).p (.ins (He.ga K "Device") (devF j on (s.dev j).kd (s.dev j).lr))) h { s with dev := setDev s.dev j { s.dev j with on := on } } := by
  obtain ⟨τ, t0, t1, t2, t3, t4, t5, t6⟩ := D.tag
  obtain ⟨j1, j2, j3⟩ := t6 j hj
  have far : ∀ {x : Addr} {n : Nat} {o u : MO}, τ x = n → n ≠ 3 → n ≠ 10 + 3 * j → up (up m s.ion o) (s.dev j).p u x = m x := fun {x n o u} e n1 n2 => by
    rw [up_ne (fun z => n2 (by rw [← e, z, j1])), up_ne (fun z => n1 (by rw [← e, z, t3]))]
  have e1 : devsP { s with dev := setDev s.dev j { s.dev j with on := on } } = devsP s := by
    unfold devsP
    refine List.map_congr_left fun k _ => ?_
    show SV.ref (setDev s.dev j _ k).p = _
    by_cases e : k = j
    · subst e; rw [setDev_eq]
    · rw [setDev_ne e]
  have e2 : onsP { s with dev := setDev s.dev j { s.dev j with on := on } } = (onsP s).set j (.bl on) := by
    unfold onsP
    refine List.ext_getElem? fun i => ?_
    rw [List.getElem?_map, List.getElem?_set, List.length_map, List.length_range, List.getElem?_map]
    show Option.map (fun k => SV.bl (setDev s.dev j _ k).on) (List.range s.n)[i]? = _
    by_cases hi : i < s.n
    · rw [List.getElem?_range hi]
      by_cases e : j = i
      · subst e; rw [if_pos rfl, if_pos hi]; simp [setDev_eq]
      · rw [if_neg e]; simp [setDev_ne (fun z => e z.symm)]
    · rw [List.getElem?_eq_none (by rw [List.length_range]; omega), if_neg (by omega)]
      rfl
  refine ⟨(far t0 (by omega) (by omega)).trans D.h, ⟨(far t5 (by omega) (by omega)).trans D.desk.d, (far t1 (by omega) (by omega)).trans D.desk.b, D.desk.z, D.desk.n⟩, ?_, ?_, (far t4 (by omega) (by omega)).trans D.rd, fun k hk => ?_, fun k hk => ?_, D.bells, D.road, ⟨τ, t0, t1, t2, t3, t4, t5, fun k hk => ?_⟩⟩
  · rw [e1]; exact (far t2 (by omega) (by omega)).trans D.al
  · rw [e2, up_ne (fun z => by rw [z, j1] at t3; omega)]; exact up_same
  · obtain ⟨u1, u2, u3⟩ := t6 k hk
    have z := D.dev k hk
    show IsDev K _ (setDev s.dev j _ k).p (setDev s.dev j _ k).kd (setDev s.dev j _ k).lr k (setDev s.dev j _ k).on (setDev s.dev j _ k).dbs (setDev s.dev j _ k).rung
    by_cases e : k = j
    · subst e
      rw [setDev_eq]
      exact ⟨up_same, (far u2 (by omega) (by omega)).trans z.kd, (far u3 (by omega) (by omega)).trans z.lr, z.zk, z.zr⟩
    · rw [setDev_ne e]
      exact ⟨(far u1 (by omega) (by omega)).trans z.p, (far u2 (by omega) (by omega)).trans z.kd, (far u3 (by omega) (by omega)).trans z.lr, z.zk, z.zr⟩
  · show DevOk _ (setDev s.dev j _ k).dbs (setDev s.dev j _ k).rung
    by_cases e : k = j
    · subst e; rw [setDev_eq]; exact D.dok k hk
    · rw [setDev_ne e]; exact D.dok k hk
  · show τ (setDev s.dev j _ k).p = _ ∧ τ (setDev s.dev j _ k).kd = _ ∧ τ (setDev s.dev j _ k).lr = _
    by_cases e : k = j
    · subst e; rw [setDev_eq]; exact t6 k hk
    · rw [setDev_ne e]; exact t6 k hk
end
end Hn

set_option Elab.async false
set_option linter.all false
set_option maxRecDepth 100000
set_option maxHeartbeats 8000000
namespace Hn
open PySem PySem.Spec PyProof.Rows L2 Sy Lm
section
variable {P : Program} {w : World} {K : PySem.W.Frag} {mg : Str → Option Value} {base : Heap}
local macro_rules | `(tactic| walk_at "r") => `(tactic| (conv => whnf))
local macro_rules | `(tactic| walk_at "sp") => `(tactic| (first | rfl | contradiction | exact (False.elim ‹_›)))
local macro_rules | `(tactic| walk_at "len") => `(tactic| (exact Nat.le_trans (show _ ≤ 100000 by first | (simp; done) | (rw [rngS_length]; decide)) (by decide)))
local macro_rules | `(tactic| walk_at "f") => `(tactic| (refine Br_i (fun hb => Bool.noConfusion (show false = true from hb)) (fun _ => ?_)))
local macro_rules | `(tactic| walk_at "t") => `(tactic| (refine Br_i (fun _ => ?_) (fun hb => Bool.noConfusion (show true = false from hb))))
local macro_rules | `(tactic| walk_at "le") => `(tactic| first | exact Le.refl _ | (refine Le.put ?_; walk_at "le") | (refine Le.new ?_ (by assumption); walk_at "le"))
theorem IsBox.le {a m : Mem} {b : Addr} (h : IsBox a b) (l : Le a m) : IsBox m b := by
  obtain ⟨c, h1, h2⟩ := h
  exact ⟨c, l _ _ h1, l _ _ h2⟩
theorem IsBox.new {m : Mem} {b p : Addr} {o : MO} (h : IsBox m b) (hp : m p = none) : IsBox (up m p o) b := h.le (Le.new (.refl m) hp)
theorem IsBox.ne {m : Mem} {b p : Addr} (h : IsBox m b) (hp : m p = none) : b ≠ p := by
  obtain ⟨c, h1, h2⟩ := h
  exact mne h1 hp
theorem _root_.Sy.Le.over {a m : Mem} {f : Addr} {o : MO} (h : Le a m) (n : a f = none) : Le a (up m f o) := fun x u e => by rw [up_ne (mne e n)]; exact h x u e
theorem pick2 {a b : SV} {n : Int} (h0 : 0 ≤ n) (h1 : n < 2) : atI [a, b] n = some (if n = 0 then a else b) := by
  rcases (by omega : n = 0 ∨ n = 1) with rfl | rfl
  · exact atI_nat (j := 0) rfl
  · exact atI_nat (j := 1) rfl
theorem pick3 {a b c : SV} {n : Int} (h0 : 0 ≤ n) (h1 : n < 3) : atI [a, b, c] n = some (if n = 0 then a else if n = 1 then b else c) := by
  rcases (by omega : n = 0 ∨ n = 1 ∨ n = 2) with rfl | rfl | rfl
  · exact atI_nat (j := 0) rfl
  · exact atI_nat (j := 1) rfl
  · exact atI_nat (j := 2) rfl
theorem ite_int {c : Prop} [Decidable c] {a b : Int} : (if c then SV.int a else .int b) = .int (if c then a else b) := by split <;> rfl
theorem small {k : Int} (h0 : 0 < k) (h : k ≤ 10 ^ 30) : 0 < k ∧ k.natAbs < 2 ^ 8000 := ⟨h0, Nat.lt_of_le_of_lt (m := 10 ^ 30) (by omega) (by decide +kernel)⟩
def tag3 (τ : Addr → Nat) (p kd lr j : Nat) : Addr → Nat := fun x => if x = p then 10 + 3 * j else if x = kd then 11 + 3 * j else if x = lr then 12 + 3 * j else τ x
theorem tag3_ne {τ : Addr → Nat} {p kd lr j : Nat} {x : Addr} (h1 : x ≠ p) (h2 : x ≠ kd) (h3 : x ≠ lr) : tag3 τ p kd lr j x = τ x := by unfold tag3; rw [if_neg h1, if_neg h2, if_neg h3]
theorem IsDev.mv {m m' : Mem} {p kd lr q : Addr} {num : Int} {on : Bool} {dbs : List (Int × Str)} {rung : List Int} {o : MO} (D : IsDev K m p kd lr num on dbs rung) (l : Le m m') (n1 : p ≠ q) (n2 : kd ≠ q) (n3 : lr ≠ q) : IsDev K (up m' q o) p kd lr num on dbs rung := ⟨(up_ne n1).trans (l _ _ D.p), (up_ne n2).trans (l _ _ D.kd), (up_ne n3).trans (l _ _ D.lr), D.zk, D.zr⟩
theorem wh_of' {i lo hi : Int} (h1 : lo ≤ i) (h2 : i ≤ hi) : isWh (.int i) lo hi = true := by
  show (decide (lo ≤ i) && decide (i ≤ hi)) = true
  rw [decide_eq_true h1, decide_eq_true h2]
  rfl
/-- a house as it begins -/
def NewH (s : HS) : Prop := s.bs = [] ∧ s.road = [] ∧ ∀ k, k < s.n → (s.dev k).on = true ∧ (s.dev k).dbs = [] ∧ (s.dev k).rung = []
def spHouse (K : PySem.W.Frag) : SpS := fun vs m _ S => ∃ bx, vs = [.ref bx] ∧ IsBox m bx ∧ ∀ m' h s, Le m m' → House K m' h s → NewH s → S (.ref h) m'
theorem ok_law_house (T : Tx K mg) : FnOk P w K mg base CX0 6 (He.ga K "_law_house") T.fd__law_house ["_law_box"] (lift K (spHouse K)) := by
  have G_Desk___init__ := fn_calm (ok_Desk___init__ (P := P) (w := w) (base := base) T)
  have b_Desk___init__ := b_Desk___init__ T
  have G_Device___init__ := fn_calm (ok_Device___init__ (P := P) (w := w) (base := base) T)
  have b_Device___init__ := b_Device___init__ T
  have G_law_take := ok_law_take (P := P) (w := w) (base := base) T
  have b_law_take := b_law_take T
  refine fn_sy T.F__law_house sc_law_house (fun svs m SX Sv h => ?_) (fun cdv A outer s H E hr => ⟨_, _, (gss_cons (gs_set (i := 1) sc_law_house.nd rfl (.inl rfl) (ge_op (op_addG K) sim_add ge_int (ge_call G_law_take (hr.mono (by decide)) (by rfl) T.g__law_take T.k__law_take b_law_take .nil (fun _ => .nil) pass0 (ga_cons (gv 0) (ga_cons ge_int ga_nil)))))
      (gss_one (gs_ret (ge_disp (gps_cons ge_str (ge_make T.mk_Desk G_Desk___init__ (hr) (by rfl) T.g_Desk b_Desk___init__ .nil (fun _ => .nil) pass0 (ga_cons (gv 1) ga_nil)) (gps_cons ge_str (ge_lc (own := [("_law_k", 2)]) (by rfl) sc_law_house.nd (gi_range1 (by rfl) T.z_range (ga_cons (gv 1) ga_nil)) (blkOk_by (own := [("_law_k", 2)]) (N := ["_law_box", "_law_many", "_law_k"]) (sc := (defScope s_law_house)) (by decide +kernel)) (fun _ _ _ _ _ => (gg_name (i := 2) sc_law_house.nd rfl (.inl rfl))) (wp_name (by decide)) (fun _ _ _ _ _ => gts_nil) (fun _ _ _ _ _ => (ge_make T.mk_Device G_Device___init__ (hr) (by rfl) T.g_Device b_Device___init__ .nil (fun _ => .nil) pass0 (ga_cons (gv 2) ga_nil)))) (gps_cons ge_str (ge_op op_rep sim_rep (ge_lst (ga_cons ge_bl ga_nil)) (gv 1)) (gps_cons ge_str (ge_lst ga_nil) (gps_cons ge_str ge_int gps_nil))))) (by rfl) (by rfl) (fun z => by cases z) (by decide))))), fun svs m SX Sv h => ?_⟩)
  · obtain ⟨bx, rfl, _⟩ := h
    rfl
  · obtain ⟨bx, rfl, hbx, qq⟩ := h
    walk_at "r"
    refine ⟨hbx, small (by decide) (by decide), fun n n0 n1 => ?_⟩
    obtain ⟨N, rfl⟩ : ∃ N : Nat, n = N := ⟨n.toNat, by omega⟩
    walk_at "r"
    intro h hh
    walk_at "r"
    intro d hd
    refine ⟨d, _, rfl, up_same, ⟨_, rfl⟩, fun n' e hw b hb => ⟨rfl, ?_⟩, fun hf => ?_⟩
    · obtain rfl : (1 + (N : Int)) = n' := SV.int.inj e
      walk_at "r"
      refine ⟨⟨by omega, by omega⟩, ?_⟩
      walk_at "r"
      refine ⟨by rw [rngS_length]; exact line_le (by omega), fun q hq => ?_⟩
      generalize hB : up (up (up (up m h (.dK [])) d (.ins (He.ga K "Desk") [])) b (.lst [])) d (.ins (He.ga K "Desk") (deskF (1 + (N : Int)) b)) = mB at hq ⊢
      have hdB : mB d = some (.ins (He.ga K "Desk") (deskF (1 + (N : Int)) b)) := by rw [← hB]; exact up_same
      have nbd : b ≠ d := fun e => by rw [e, up_same] at hb; cases hb
      have nhd : h ≠ d := fun e => by rw [e, up_same] at hd; cases hd
      have nhb : h ≠ b := fun e => by rw [← e, up_ne nhd, up_same] at hb; cases hb
      have hbB : mB b = some (.lst []) := by rw [← hB, up_ne nbd]; exact up_same
      have hhB : mB h = some (.dK []) := by rw [← hB, up_ne nhd, up_ne nhb, up_ne nhd]; exact up_same
      have e2 : (1 + (N : Int)).toNat = 1 + N := by omega
      rw [e2]
      refine lc_inv (fun rest acc m' => ∃ (j : Nat) (dev : Nat → DevS) (τ : Addr → Nat), rest = rngS j (1 + N - j) ∧ j ≤ 1 + N ∧ acc = (List.range j).map (fun k => SV.ref (dev k).p) ∧ Le mB m' ∧ m' q = some (.lst acc) ∧ (∀ k, k < j → IsDev K m' (dev k).p (dev k).kd (dev k).lr k true [] [] ∧ (dev k).on = true ∧ (dev k).dbs = [] ∧ (dev k).rung = []) ∧
        τ h = 0 ∧ τ b = 1 ∧ τ q = 2 ∧ ∀ k, k < j → τ (dev k).p = 10 + 3 * k ∧ τ (dev k).kd = 11 + 3 * k ∧ τ (dev k).lr = 12 + 3 * k) ?_ (fun x r acc m' hI => ?_) (fun acc m' hI => ?_)
      · refine ⟨0, fun _ => ⟨0, 0, 0, true, [], []⟩, fun x => if x = h then 0 else if x = b then 1 else 2, rfl, Nat.zero_le _, rfl, .new (.refl _) hq, up_same, fun k hk => absurd hk (Nat.not_lt_zero k), if_pos rfl, (if_neg (Ne.symm nhb)).trans (if_pos rfl), (if_neg (Ne.symm (mne hhB hq))).trans (if_neg (Ne.symm (mne hbB hq))), fun k hk => absurd hk (Nat.not_lt_zero k)⟩
      · obtain ⟨j, dev, τ, hr, hj, rfl, l1, hq', hdev, t0, t1, t2, t3⟩ := hI
        obtain ⟨i, hi⟩ : ∃ i, 1 + N - j = i + 1 := by
          cases hz : 1 + N - j with
          | zero => rw [hz] at hr; cases hr
          | succ i => exact ⟨i, rfl⟩
        rw [hi] at hr
        obtain ⟨rfl, rfl⟩ := List.cons.inj (show x :: r = SV.int j :: rngS (j + 1) i from hr)
        refine ⟨trivial, ?_⟩
        walk_at "r"
        walk_at "t"
        walk_at "r"
        intro p hp
        refine ⟨p, _, rfl, up_same, ⟨_, rfl⟩, fun n3 e3 hw3 kd lr hkd hlr nkl => ⟨rfl, ?_⟩, fun hf => ?_⟩
        · obtain rfl : (j : Int) = n3 := SV.int.inj e3
          have nkp : kd ≠ p := fun e => by rw [e, up_same] at hkd; cases hkd
          have nlp : lr ≠ p := fun e => by rw [e, up_same] at hlr; cases hlr
          rw [up_ne nkp] at hkd
          rw [up_ne nlp] at hlr
          generalize h3 : up (up (up (up m' p (.ins (He.ga K "Device") [])) kd (.dK [])) lr (.lst [])) p (.ins (He.ga K "Device") (devF j true kd lr)) = m3
          have lm : Le m' m3 := by rw [← h3]; exact .over (.over (.over (.over (.refl _) hp) hkd) hlr) hp
          have np := mne hq' hp
          have nk := mne hq' hkd
          have nl := mne hq' hlr
          have bp := mne (l1 _ _ hbB) hp
          have bk := mne (l1 _ _ hbB) hkd
          have bl := mne (l1 _ _ hbB) hlr
          refine ⟨lm _ _ hq', .of ⟨j + 1, setDev dev j ⟨p, kd, lr, true, [], []⟩, tag3 τ p kd lr j, ?_, by omega, ?_, .over (l1.trans lm) hq, up_same, fun k hk => ?_, ?_, ?_, ?_, fun k hk => ?_⟩⟩
          · have e4 : 1 + N - (j + 1) = i := by omega
            rw [e4]; push_cast; rfl
          · rw [List.range_succ, List.map_append]
            congr 1
            · exact List.map_congr_left fun k hk => by rw [setDev_ne (by have := List.mem_range.mp hk; omega)]
            · simp [setDev_eq]
          · rcases Nat.lt_succ_iff_lt_or_eq.mp hk with hk | rfl
            · rw [setDev_ne (by omega)]
              obtain ⟨D, d1, d2, d3⟩ := hdev k hk
              obtain ⟨u1, u2, u3⟩ := t3 k hk
              exact ⟨D.mv lm (fun e => by rw [e, t2] at u1; omega) (fun e => by rw [e, t2] at u2; omega) (fun e => by rw [e, t2] at u3; omega), d1, d2, d3⟩
            · rw [setDev_eq]
              refine ⟨⟨?_, ?_, ?_, by simp, by simp⟩, rfl, rfl, rfl⟩
              · rw [up_ne (Ne.symm np), ← h3]; exact up_same
              · rw [up_ne (Ne.symm nk), ← h3, up_ne nkp, up_ne nkl, up_same]; rfl
              · rw [up_ne (Ne.symm nl), ← h3, up_ne nlp, up_same]; rfl
          · rw [tag3_ne (mne (l1 _ _ hhB) hp) (mne (l1 _ _ hhB) hkd) (mne (l1 _ _ hhB) hlr), t0]
          · rw [tag3_ne bp bk bl, t1]
          · rw [tag3_ne np nk nl, t2]
          · rcases Nat.lt_succ_iff_lt_or_eq.mp hk with hk | rfl
            · rw [setDev_ne (by omega)]
              obtain ⟨D, d1, d2, d3⟩ := hdev k hk
              obtain ⟨u1, u2, u3⟩ := t3 k hk
              refine ⟨?_, ?_, ?_⟩
              · rw [tag3_ne (mne D.p hp) (mne D.p hkd) (mne D.p hlr), u1]
              · rw [tag3_ne (mne D.kd hp) (mne D.kd hkd) (mne D.kd hlr), u2]
              · rw [tag3_ne (mne D.lr hp) (mne D.lr hkd) (mne D.lr hlr), u3]
            · rw [setDev_eq]
              refine ⟨if_pos rfl, ?_, ?_⟩
              · show (if kd = p then _ else _) = _
                rw [if_neg nkp, if_pos rfl]
              · show (if lr = p then _ else _) = _
                rw [if_neg nlp, if_neg (Ne.symm nkl), if_pos rfl]
        · rw [wh_of' (by omega) (by omega)] at hf
          cases hf
      · obtain ⟨j, dev, τ, hr, hj, rfl, l1, hq', hdev, t0, t1, t2, t3⟩ := hI
        have ej : j = 1 + N := by
          have z := congrArg List.length hr
          rw [rngS_length, List.length_nil] at z
          omega
        subst ej
        refine ⟨trivial, ?_⟩
        walk_at "r"
        refine ⟨by walk_at "len", fun i1 hi1 => ?_⟩
        walk_at "r"
        refine ⟨_, up_same, ⟨by omega, by omega, line_le (by simp; omega)⟩, fun ion hion => ?_⟩
        walk_at "r"
        refine ⟨by walk_at "len", fun rd hrd => ?_⟩
        walk_at "r"
        have lA : Le m' (up (up (up m' i1 (.lst [.bl true])) ion (.lst (List.replicate (1 + (N : Int)).toNat [SV.bl true]).flatten)) rd (.lst [])) := .new (.new (.new (.refl _) hi1) hion) hrd
        generalize hA : up (up (up m' i1 (.lst [.bl true])) ion (.lst (List.replicate (1 + (N : Int)).toNat [SV.bl true]).flatten)) rd (.lst []) = mA at lA ⊢
        refine ⟨lA _ _ (l1 _ _ hhB), houseD ⟨d, b, q, ion, rd, 1 + N, [], dev, []⟩, rfl, (by show 5 ≤ 15; decide), ?_⟩
        rw [merge_house]
        have hd0 : m d = none := by rw [up_ne (Ne.symm nhd)] at hd; exact hd
        have hb0 : m b = none := by rw [up_ne nbd, up_ne (Ne.symm nhb)] at hb; exact hb
        have lB : Le m mB := by rw [← hB]; exact .over (.over (.over (.over (.refl _) hh) hd0) hb0) hd0
        have nhq : h ≠ q := mne hhB hq
        have hh' := l1 _ _ hhB
        have nhi : h ≠ ion := mne (kp hh' hi1) hion
        have nhr : h ≠ rd := mne (kp (kp hh' hi1) hion) hrd
        have nir : ion ≠ rd := mne up_same hrd
        have en : ((1 + N : Nat) : Int) = 1 + (N : Int) := by push_cast; rfl
        refine .of (qq _ h _ (.over (lB.trans (l1.trans lA)) hh) ⟨up_same, ⟨?_, ?_, by simp, (by show (1 : Int) ≤ ((1 + N : Nat) : Int); omega), (by show ((1 + N : Nat) : Int) ≤ 4; omega)⟩, ?_, ?_, ?_, fun k hk => ?_, fun k hk => ?_, by simp, (fun z hz => by cases hz), ?_⟩ ⟨rfl, rfl, fun k hk => (hdev k hk).2⟩)
        · rw [en, up_ne (Ne.symm nhd)]; exact lA _ _ (l1 _ _ hdB)
        · rw [up_ne (Ne.symm nhb)]; exact lA _ _ (l1 _ _ hbB)
        · rw [up_ne (Ne.symm nhq)]; exact lA _ _ hq'
        · rw [up_ne (Ne.symm nhi), ← hA, up_ne nir, up_same, e2]
          have e5 : ∀ (n : Nat) (f : Nat → DevS), (∀ k, k < n → (f k).on = true) → (List.replicate n [SV.bl true]).flatten = (List.range n).map fun k => .bl (f k).on := fun n f hf => by
            induction n with
            | zero => rfl
            | succ n ih =>
              rw [List.range_succ, List.map_append, ← ih fun k hk => hf k (by omega), List.replicate_succ', List.flatten_append]
              show _ ++ [SV.bl true] = _ ++ [SV.bl (f n).on]
              rw [hf n (by omega)]
          rw [e5 _ dev fun k hk => (hdev k hk).2.1]
          rfl
        · rw [up_ne (Ne.symm nhr), ← hA, up_same]; rfl
        · obtain ⟨D, d1, d2, d3⟩ := hdev k hk
          obtain ⟨u1, u2, u3⟩ := t3 k hk
          have z := D.mv (o := .dK (houseD ⟨d, b, q, ion, rd, 1 + N, [], dev, []⟩)) lA (fun e => by rw [e, t0] at u1; omega) (fun e => by rw [e, t0] at u2; omega) (fun e => by rw [e, t0] at u3; omega)
          rw [d1, d2, d3]
          exact z
        · obtain ⟨D, d1, d2, d3⟩ := hdev k hk
          rw [d2, d3]
          exact ⟨List.nodup_nil, (fun z hz => by cases hz), List.nodup_nil, fun z hz => by cases hz⟩
        · have hd' := l1 _ _ hdB
          have nd : ∀ {x : Addr} {o : MO}, m' x = some o → x ≠ ion ∧ x ≠ rd := fun {x o} e => ⟨mne (kp e hi1) hion, mne (kp (kp e hi1) hion) hrd⟩
          have te : ∀ {x : Addr} {o : MO}, m' x = some o → x ≠ d → (if x = ion then 3 else if x = rd then 4 else if x = d then 5 else τ x) = τ x := fun {x o} e n => by rw [if_neg (nd e).1, if_neg (nd e).2, if_neg n]
          refine ⟨fun x => if x = ion then 3 else if x = rd then 4 else if x = d then 5 else τ x, ?_, ?_, ?_, if_pos rfl, (if_neg (Ne.symm nir)).trans (if_pos rfl), ?_, fun k hk => ?_⟩
          · exact (te hh' nhd).trans t0
          · exact (te (l1 _ _ hbB) nbd).trans t1
          · exact (te hq' (Ne.symm (mne hdB hq))).trans t2
          · exact (if_neg (nd hd').1).trans ((if_neg (nd hd').2).trans (if_pos rfl))
          · obtain ⟨D, d1, d2, d3⟩ := hdev k hk
            obtain ⟨u1, u2, u3⟩ := t3 k hk
            refine ⟨(te D.p fun e => ?_).trans u1, (te D.kd fun e => ?_).trans u2, (te D.lr fun e => ?_).trans u3⟩
            · have z := D.p
              rw [e, hd'] at z
              injection Option.some.inj z with _ z
              have z2 := congrArg List.length z
              cases z2
            · have z := D.kd
              rw [e, hd'] at z
              cases z
            · have z := D.lr
              rw [e, hd'] at z
              cases z
    · rw [wh_of' (by omega) (by omega)] at hf
      cases hf
end
end Hn

set_option Elab.async false
set_option linter.all false
set_option maxRecDepth 100000
set_option maxHeartbeats 8000000
namespace Hn
open PySem PySem.Spec PyProof.Rows L2 Sy Lm
section
variable {P : Program} {w : World} {K : PySem.W.Frag} {mg : Str → Option Value} {base : Heap}
local macro_rules | `(tactic| walk_at "r") => `(tactic| (conv => whnf))
local macro_rules | `(tactic| walk_at "sp") => `(tactic| (first | rfl | contradiction | exact (False.elim ‹_›)))
local macro_rules | `(tactic| walk_at "len") => `(tactic| (exact Nat.le_trans (show _ ≤ 100000 by first | (simp; done) | (rw [rngS_length]; decide)) (by decide)))
local macro_rules | `(tactic| walk_at "f") => `(tactic| (refine Br_i (fun hb => Bool.noConfusion (show false = true from hb)) (fun _ => ?_)))
local macro_rules | `(tactic| walk_at "t") => `(tactic| (refine Br_i (fun _ => ?_) (fun hb => Bool.noConfusion (show true = false from hb))))
local macro_rules | `(tactic| walk_at "le") => `(tactic| first | exact Le.refl _ | (refine Le.put ?_; walk_at "le") | (refine Le.new ?_ (by assumption); walk_at "le"))
/-- a letter as it is told now -/
def sent (s : HS) (q : Ltr) : Prop := (∃ (k : Nat) (b : Str × Option Int), q.goal = some k ∧ q.dv = k ∧ s.bs[q.bl]? = some b ∧ q.w = wordTo k b) ∨
  (q.goal = none ∧ (s.dev q.dv).on = true ∧ ∃ st, lookB (s.dev q.dv).dbs q.bl = some st ∧ ((q.w = "want" ∧ st = "wanted") ∨ (q.w = "took" ∧ st = "to be noted")))
def spPost (K : PySem.W.Frag) : SpS := fun vs m _ S => ∃ bx h s, vs = [.ref bx, .ref h] ∧ IsBox m bx ∧ House K m h s ∧ s.road.length ≤ 60000 ∧ ∀ L : List Ltr, (∀ q ∈ L, okLtr s q ∧ sent s q) → L.length ≤ 128 → S .non (up m s.rd (.lst ((s.road ++ L).map Ltr.v)))
theorem wordTo_ok (dev : Int) (b : Str × Option Int) : PyData.strOk (wordTo dev b) = true := by
  unfold wordTo
  split
  · decide +kernel
  · split
    · decide +kernel
    · split <;> decide +kernel
def ltrs (k : Nat) : Nat → List (Str × Option Int) → List Ltr
  | _, [] => []
  | i, b :: r => ⟨some k, wordTo k b, k, i⟩ :: ltrs k (i + 1) r
theorem ltrs_map (k : Nat) : ∀ (bs : List (Str × Option Int)) (i : Nat), (lets k i bs).map (fun x => SV.tup [.int k, x]) = (ltrs k i bs).map Ltr.v
  | [], _ => rfl
  | b :: r, i => by
    have e : ((i + 1 : Nat) : Int) = (i : Int) + 1 := by push_cast; rfl
    rw [lets, ltrs, List.map_cons, List.map_cons, ← ltrs_map k r (i + 1), e]
    rfl
theorem lets_len (dev : Int) : ∀ (bs : List (Str × Option Int)) (i : Int), (lets dev i bs).length = bs.length
  | [], _ => rfl
  | b :: r, i => by rw [lets, List.length_cons, List.length_cons, lets_len dev r]
theorem ltrs_mem (k : Nat) : ∀ (bs : List (Str × Option Int)) (i : Nat) (q : Ltr), q ∈ ltrs k i bs → q.goal = some k ∧ q.dv = k ∧ ∃ j b, q.bl = i + j ∧ bs[j]? = some b ∧ q.w = wordTo k b
  | [], _, _, h => by cases h
  | b :: r, i, q, h => by
    rcases List.mem_cons.mp h with rfl | h
    · exact ⟨rfl, rfl, 0, b, rfl, rfl, rfl⟩
    · obtain ⟨h1, h2, j, c, h3, h4, h5⟩ := ltrs_mem k r (i + 1) q h
      exact ⟨h1, h2, j + 1, c, by omega, by simpa using h4, h5⟩
theorem ltrs_len (k : Nat) : ∀ (bs : List (Str × Option Int)) (i : Nat), (ltrs k i bs).length = bs.length
  | [], _ => rfl
  | b :: r, i => by rw [ltrs, List.length_cons, List.length_cons, ltrs_len k r]
theorem devs_at (s : HS) {k : Nat} (h : k < s.n) : atI (devsP s) (k : Int) = some (.ref (s.dev k).p) := atI_nat (by unfold devsP; rw [List.getElem?_map, List.getElem?_range h]; rfl)
theorem ons_at (s : HS) {k : Nat} (h : k < s.n) : atI (onsP s) (k : Int) = some (.bl (s.dev k).on) := atI_nat (by unfold onsP; rw [List.getElem?_map, List.getElem?_range h]; rfl)
def dl1 (k : Nat) (w : Str) (i : Int) : Ltr := ⟨none, w, k, i.toNat⟩
def dltrs (k : Nat) (on : Bool) (dbs : List (Int × Str)) : List Ltr := if on = true then (among dbs "wanted").map (dl1 k "want") ++ (among dbs "to be noted").map (dl1 k "took") else []
theorem among_mem {dbs : List (Int × Str)} {st : Str} {i : Int} (h : i ∈ among dbs st) : i ∈ dbs.map (·.1) := (srtI_perm _).mem_iff.mp (List.mem_filter.mp h).1
theorem among_len (dbs : List (Int × Str)) (st : Str) : (among dbs st).length ≤ dbs.length := by
  unfold among
  have h1 := List.length_filter_le (fun i => decide (lookB dbs i = some st)) (srtI (dbs.map (·.1)))
  rw [(srtI_perm _).length_eq, List.length_map] at h1
  exact h1
theorem dl1_v {k : Nat} {w : Str} {i : Int} (h : 0 ≤ i) : (dl1 k w i).v = .tup [.non, .tup [.str w, .int k, .int i]] := by
  have e : ((i.toNat : Nat) : Int) = i := by omega
  show SV.tup [.non, .tup [.str w, .int k, .int (i.toNat : Nat)]] = _
  rw [e]
theorem dltrs_map (k : Nat) (on : Bool) (dbs : List (Int × Str)) (h : ∀ st, ∀ i ∈ among dbs st, 0 ≤ i) : (devLets k on dbs).map (fun x => SV.tup [.non, x]) = (dltrs k on dbs).map Ltr.v := by
  unfold devLets dltrs
  cases on with
  | false => rfl
  | true =>
    rw [if_pos rfl, if_pos rfl, List.map_append, List.map_append, List.map_map, List.map_map, List.map_map, List.map_map]
    congr 1
    · exact List.map_congr_left fun i hi => (dl1_v (h _ i hi)).symm
    · exact List.map_congr_left fun i hi => (dl1_v (h _ i hi)).symm
theorem dltrs_len {k : Nat} {on : Bool} {dbs : List (Int × Str)} (h : dbs.length < 64) : (dltrs k on dbs).length ≤ 128 := by
  unfold dltrs
  split
  · rw [List.length_append, List.length_map, List.length_map]
    have := among_len dbs "wanted"
    have := among_len dbs "to be noted"
    omega
  · simp
theorem dltrs_mem {k : Nat} {on : Bool} {dbs : List (Int × Str)} {q : Ltr} (h : q ∈ dltrs k on dbs) : on = true ∧ ∃ st i w, i ∈ among dbs st ∧ q = dl1 k w i ∧ ((w = "want" ∧ st = "wanted") ∨ (w = "took" ∧ st = "to be noted")) := by
  unfold dltrs at h
  split at h
  · next e =>
    rcases List.mem_append.mp h with h | h <;> obtain ⟨i, hi, rfl⟩ := List.mem_map.mp h
    · exact ⟨e, _, i, _, hi, rfl, .inl ⟨rfl, rfl⟩⟩
    · exact ⟨e, _, i, _, hi, rfl, .inr ⟨rfl, rfl⟩⟩
  · cases h
theorem among_look {dbs : List (Int × Str)} {st : Str} {i : Int} (h : i ∈ among dbs st) : lookB dbs i = some st := of_decide_eq_true (List.mem_filter.mp h).2
theorem ok_law_post (T : Tx K mg) : FnOk P w K mg base CX0 5 (He.ga K "_law_post") T.fd__law_post ["_law_box", "_law_h"] (lift K (spPost K)) := by
  have G_Desk_letters := fn_calm (ok_Desk_letters (P := P) (w := w) (base := base) T)
  have b_Desk_letters := b_Desk_letters T
  have G_Device_letters := ok_Device_letters (P := P) (w := w) (base := base) T
  have b_Device_letters := b_Device_letters T
  have G_law_take := ok_law_take (P := P) (w := w) (base := base) T
  have b_law_take := b_law_take T
  refine fn_sy T.F__law_post sc_law_post (fun svs m SX Sv h => ?_) (fun cdv A outer s H E hr => ⟨_, _, (gss_cons (gs_set (i := 2) sc_law_post.nd rfl (.inr rfl) (ge_call G_law_take (hr.mono (by decide)) (by rfl) T.g__law_take T.k__law_take b_law_take .nil (fun _ => .nil) pass0 (ga_cons (gv 0) (ga_cons (ge_callB (cr_len K) sim_len (by rfl) T.z_len (by decide +kernel) (ga_cons (ge_dget hr.u1 (gv 1) ge_str) ga_nil)) ga_nil))))
      (gss_cons (gs_cut (gs_if (gt_cmp (op_eqG K hr.units) sim_eq (ge_call G_law_take (hr.mono (by decide)) (by rfl) T.g__law_take T.k__law_take b_law_take .nil (fun _ => .nil) pass0 (ga_cons (gv 0) (ga_cons ge_int ga_nil))) ge_int (nomark _)) (gss_one (gs_setLc (i := 3) (own := [("_law_letter", 4)]) (by rfl) sc_law_post.nd rfl rfl (sw_true rfl rfl rfl (by decide +kernel)) (gi_seq (ge_meth T.c_Desk T.M_Desk_letters G_Desk_letters (hr) b_Desk_letters .nil (fun _ => .nil) pass0 (ge_dget hr.u1 (gv 1) ge_str) (ga_cons (gv 2) ga_nil))) (blkOk_by (own := [("_law_letter", 4)]) (N := ["_law_box", "_law_h", "_law_k", "_law_some", "_law_letter"]) (sc := (defScope s_law_post)) (by decide +kernel)) (fun _ _ _ _ _ => (gg_name (i := 4) sc_law_post.nd rfl (.inl rfl))) (wp_name (by decide)) (fun _ _ _ _ _ => gts_nil) (fun _ _ _ _ _ => (ge_tup (ga_cons (gv 2) (ga_cons (gv 4) ga_nil)))))) (gss_one (gs_setLc (i := 3) (own := [("_law_letter", 4)]) (by rfl) sc_law_post.nd rfl rfl (sw_true rfl rfl rfl (by decide +kernel)) (gi_seq (ge_meth0 T.c_Device T.M_Device_letters G_Device_letters (hr.mono (by decide)) b_Device_letters .nil (fun _ => .nil) pass0 (ge_ix (ix_G K) sim_ix (ge_dget hr.u1 (gv 1) ge_str) (gv 2) (fun _ _ => rfl)))) (blkOk_by (own := [("_law_letter", 4)]) (N := ["_law_box", "_law_h", "_law_k", "_law_some", "_law_letter"]) (sc := (defScope s_law_post)) (by decide +kernel)) (fun _ _ _ _ _ => (gg_name (i := 4) sc_law_post.nd rfl (.inl rfl))) (wp_name (by decide)) (fun _ _ _ _ _ => gts_nil) (fun _ _ _ _ _ => (ge_tup (ga_cons ge_non (ga_cons (gv 4) ga_nil))))))))
      (gss_one (gs_expr (ge_bm PySem.F.plainAttrs_list PySem.F.slot_list_extend PySem.F.type_list_extend mt_extend simk_L sim_extend (ge_dget hr.u1 (gv 1) ge_str) (ga_cons (ge_ifE (gt_cmp (op_eqG K hr.units) sim_eq (ge_call G_law_take (hr.mono (by decide)) (by rfl) T.g__law_take T.k__law_take b_law_take .nil (fun _ => .nil) pass0 (ga_cons (gv 0) (ga_cons ge_int ga_nil))) ge_int (nomark _)) (gv 3) (ge_rev (gv 3))) ga_nil)))))), fun svs m SX Sv h => ?_⟩)
  · obtain ⟨bx, h, s, rfl, _⟩ := h
    rfl
  · obtain ⟨bx, h, s, rfl, hbx, D, hrl, q⟩ := h
    have n1 : 1 ≤ s.n := by have := D.desk.n; omega
    have n4 : s.n ≤ 4 := by have := D.desk.n; omega
    walk_at "r"
    refine ⟨_, _, _, D.h, rfl, h_all s, ?_⟩
    walk_at "r"
    refine ⟨_, D.al, ?_⟩
    walk_at "r"
    refine ⟨hbx, small (by unfold devsP; rw [List.length_map, List.length_range]; omega) (by unfold devsP; rw [List.length_map, List.length_range]; omega), fun n n0 nn => ?_⟩
    obtain ⟨k, rfl⟩ : ∃ k : Nat, n = k := ⟨n.toNat, by omega⟩
    have hk : k < s.n := by unfold devsP at nn; rw [List.length_map, List.length_range] at nn; omega
    have hbl := D.bells
    walk_at "r"
    refine cut_by (fun δ m' => Le m m' ∧ ∃ (a : Addr) (L : List Ltr) (z : Option SV), δ = [some (.ref bx), some (.ref h), some (.int (k : Int)), some (.ref a), z] ∧ m' a = some (.lst (L.map Ltr.v)) ∧ (∀ q ∈ L, okLtr s q ∧ sent s q) ∧ L.length ≤ 128) ?_ (fun δ m' hJ => ?_)
    · walk_at "r"
      refine ⟨hbx, small (by decide) (by decide), fun w w0 w1 => ?_⟩
      walk_at "r"
      refine Br_i (fun hw => ?_) (fun hw => ?_)
      · walk_at "r"
        refine ⟨_, _, _, D.h, rfl, h_desk s, ?_⟩
        walk_at "r"
        refine ⟨_, D.desk.d, desk_no (by decide +kernel) (by decide +kernel), ?_⟩
        walk_at "r"
        refine ⟨s.d, s.b, _, s.bs, _, rfl, D.desk, ⟨_, rfl⟩, fun dev e d0 d1 p hp => ?_, fun hf => ?_⟩
        · obtain rfl : (k : Int) = dev := SV.int.inj e
          walk_at "r"
          refine ⟨_, up_same, line_le (by rw [lets_len]; omega), fun r hr => ?_⟩
          refine lc_map (fun x => .tup [.int (k : Int), x]) (fun acc => (up_ne (mne up_same hr)).trans up_same) (fun y hy acc K1 hk => ?_) ?_
          · walk_at "r"
            exact ⟨by walk_at "len", hk _ (.refl _)⟩
          · have e3 := ltrs_map k s.bs 0
            exact .of ⟨.new (.new (.refl _) hp) hr, r, ltrs k 0 s.bs, _, rfl, (by rw [← e3]; exact up_same), fun q hq => (by
              obtain ⟨g1, g2, j, bb, g3, g4, g5⟩ := ltrs_mem k s.bs 0 q hq
              have g6 := (List.getElem?_eq_some_iff.mp g4).1
              rw [Nat.zero_add] at g3
              exact ⟨⟨fun j hj => (by rw [g1] at hj; cases hj; exact hk), by rw [g2]; exact hk, by omega, by rw [g5]; exact wordTo_ok _ _⟩, .inl ⟨k, bb, g1, g2, by rw [g3]; exact g4, g5⟩⟩), by rw [ltrs_len]; omega⟩
        · rw [wh_of' (by omega) (by omega)] at hf
          cases hf
      · have Dk := D.dev k hk
        walk_at "r"
        refine ⟨_, _, _, D.h, rfl, h_all s, ?_⟩
        walk_at "r"
        refine ⟨_, _, D.al, devs_at s hk, ?_⟩
        walk_at "r"
        refine ⟨_, Dk.p, dev_no (by decide +kernel) (by decide +kernel) (by decide +kernel) (by decide +kernel), ?_⟩
        walk_at "r"
        refine ⟨_, _, _, _, _, _, _, rfl, Dk, fun p hp => ?_⟩
        walk_at "r"
        have hb : ∀ st, ∀ i ∈ among (s.dev k).dbs st, 0 ≤ i ∧ i < s.bs.length := fun st i hi => by
          obtain ⟨q, h1, h2⟩ := List.mem_map.mp (among_mem hi)
          have := (D.dok k hk).rg q h1
          rw [h2] at this
          exact this
        have e3 := dltrs_map k (s.dev k).on (s.dev k).dbs fun st i hi => (hb st i hi).1
        have hlen : (dltrs k (s.dev k).on (s.dev k).dbs).length ≤ 128 := dltrs_len Dk.zk
        have hlen2 : (devLets k (s.dev k).on (s.dev k).dbs).length ≤ 128 := by
          have z := congrArg List.length e3
          rw [List.length_map, List.length_map] at z
          omega
        refine ⟨_, up_same, line_le (by omega), fun r hr => ?_⟩
        refine lc_map (fun x => .tup [.non, x]) (fun acc => (up_ne (mne up_same hr)).trans up_same) (fun y hy acc K1 hk => ?_) ?_
        · walk_at "r"
          exact ⟨by walk_at "len", hk _ (.refl _)⟩
        · exact .of ⟨.new (.new (.refl _) hp) hr, r, dltrs k (s.dev k).on (s.dev k).dbs, _, rfl, (by rw [← e3]; exact up_same), fun q hq => (by
            obtain ⟨hon, st, i, w, hi, rfl, hw⟩ := dltrs_mem hq
            obtain ⟨z1, z2⟩ := hb _ i hi
            have e5 : ((i.toNat : Nat) : Int) = i := by omega
            exact ⟨⟨(fun j hj => by cases hj), hk, (by show i.toNat < _; omega), (by rcases hw with ⟨rfl, _⟩ | ⟨rfl, _⟩; exact (by decide +kernel : PyData.strOk ("want" : Str) = true); exact (by decide +kernel : PyData.strOk ("took" : Str) = true))⟩, .inr ⟨rfl, hon, st, (by show lookB _ ((i.toNat : Nat) : Int) = _; rw [e5]; exact among_look hi), hw⟩⟩), hlen⟩
    · obtain ⟨lm, a, L, z, rfl, ha, hL, hLn⟩ := hJ
      walk_at "r"
      refine ⟨_, _, _, lm _ _ D.h, rfl, h_road s, ?_⟩
      walk_at "r"
      refine ⟨⟨_, lm _ _ D.rd⟩, ?_⟩
      walk_at "r"
      refine ⟨hbx.le lm, small (by decide) (by decide), fun w w0 w1 => ?_⟩
      walk_at "r"
      refine Br_i (fun hw => ?_) (fun hw => ?_)
      · walk_at "r"
        refine ⟨_, _, lm _ _ D.rd, ha, line_le (by rw [List.length_map, List.length_map]; omega), ?_⟩
        rw [← List.map_append]
        exact ⟨_, .put lm, q L hL hLn⟩
      · walk_at "r"
        refine ⟨_, ha, fun p hp => ?_⟩
        walk_at "r"
        refine ⟨_, _, kp (lm _ _ D.rd) hp, up_same, line_le (by rw [List.length_map, List.length_reverse, List.length_map]; omega), ?_⟩
        rw [← List.map_reverse, ← List.map_append]
        exact ⟨_, .put (lm.trans (.new (.refl _) hp)), q L.reverse (fun x hx => hL x (List.mem_reverse.mp hx)) (by rw [List.length_reverse]; exact hLn)⟩
end
end Hn

set_option Elab.async false
set_option linter.all false
set_option maxRecDepth 100000
set_option maxHeartbeats 8000000
namespace Hn
open PySem PySem.Spec PyProof.Rows L2 Sy Lm
section
variable {P : Program} {w : World} {K : PySem.W.Frag} {mg : Str → Option Value} {base : Heap}
local macro_rules | `(tactic| walk_at "r") => `(tactic| (conv => whnf))
local macro_rules | `(tactic| walk_at "sp") => `(tactic| (first | rfl | contradiction | exact (False.elim ‹_›)))
local macro_rules | `(tactic| walk_at "len") => `(tactic| (exact Nat.le_trans (show _ ≤ 100000 by first | (simp; done) | (rw [rngS_length]; decide)) (by decide)))
local macro_rules | `(tactic| walk_at "f") => `(tactic| (refine Br_i (fun hb => Bool.noConfusion (show false = true from hb)) (fun _ => ?_)))
local macro_rules | `(tactic| walk_at "t") => `(tactic| (refine Br_i (fun _ => ?_) (fun hb => Bool.noConfusion (show true = false from hb))))
local macro_rules | `(tactic| walk_at "le") => `(tactic| first | exact Le.refl _ | (refine Le.put ?_; walk_at "le") | (refine Le.new ?_ (by assumption); walk_at "le"))
/-- what a letter's hearing does -/
def heard (s : HS) (q : Ltr) : HS := match q.goal with
  | none => { s with bs := hearD s.bs q.w q.dv q.bl }
  | some k => if (s.dev k).on = true ∧ q.dv = k then { s with dev := setDev s.dev k { s.dev k with dbs := (hearV (s.dev k).dbs (s.dev k).rung q.w q.bl).1, rung := (hearV (s.dev k).dbs (s.dev k).rung q.w q.bl).2 } } else s
inductive HearSt (s : HS) : HS → Prop
  | stay : HearSt s s
  | go (q : Ltr) (hq : q ∈ s.road) (s1 : HS) (h1 : s1 = s ∨ s1 = heard s q) : HearSt s s1
  | lose (q : Ltr) (hq : q ∈ s.road) (s1 : HS) (h1 : s1 = s ∨ s1 = heard s q) (r : Addr) (L : List Ltr) (hL : ∀ x ∈ L, x ∈ s.road) (hl : L.length ≤ s.road.length) : HearSt s { s1 with rd := r, road := L }
/-- the places stay, what is no house's stays -/
structure Frm (m m' : Mem) (h : Addr) (s s' : HS) : Prop where
  n : s'.n = s.n
  d : s'.d = s.d
  b : s'.b = s.b
  al : s'.al = s.al
  ion : s'.ion = s.ion
  dev : ∀ k, (s'.dev k).p = (s.dev k).p ∧ (s'.dev k).kd = (s.dev k).kd ∧ (s'.dev k).lr = (s.dev k).lr
  rd : Foot h s s'.rd ∨ m s'.rd = none
  keep : ∀ x o, m x = some o → ¬ Foot h s x → m' x = some o
theorem Frm.refl (m : Mem) (h : Addr) (s : HS) : Frm m m h s s := ⟨rfl, rfl, rfl, rfl, rfl, fun _ => ⟨rfl, rfl, rfl⟩, .inl (.inr (.inr (.inr (.inl rfl)))), fun _ _ e _ => e⟩
theorem Frm.foot {m m' : Mem} {h : Addr} {s s' : HS} (F : Frm m m' h s s') {x : Addr} (f : Foot h s' x) : Foot h s x ∨ x = s'.rd := by
  rcases f with e | e | e | e | ⟨k, hk, e⟩
  · exact .inl (.inl e)
  · exact .inl (.inr (.inl (e.trans F.b)))
  · exact .inl (.inr (.inr (.inl (e.trans F.ion))))
  · exact .inr e
  · obtain ⟨u1, u2, u3⟩ := F.dev k
    rw [u1, u2, u3] at e
    rw [F.n] at hk
    exact .inl (.inr (.inr (.inr (.inr ⟨k, hk, e⟩))))
theorem Frm.out {m m' : Mem} {h : Addr} {s s' : HS} (F : Frm m m' h s s') {x : Addr} {o : MO} (hx : m x = some o) (n : ¬ Foot h s x) : ¬ Foot h s' x := fun f => by
  rcases F.foot f with f | e
  · exact n f
  · rcases F.rd with f | e2
    · rw [← e] at f; exact n f
    · rw [← e, hx] at e2; cases e2
theorem Frm.trans {m m1 m2 : Mem} {h : Addr} {s s1 s2 : HS} (F : Frm m m1 h s s1) (G : Frm m1 m2 h s1 s2) : Frm m m2 h s s2 := by
  refine ⟨G.n.trans F.n, G.d.trans F.d, G.b.trans F.b, G.al.trans F.al, G.ion.trans F.ion, fun k => ?_, ?_, fun x o e n => G.keep x o (F.keep x o e n) (F.out e n)⟩
  · obtain ⟨u1, u2, u3⟩ := F.dev k
    obtain ⟨v1, v2, v3⟩ := G.dev k
    exact ⟨v1.trans u1, v2.trans u2, v3.trans u3⟩
  · have base : Foot h s s2.rd ∨ m s2.rd = none ∨ ∃ o, m s2.rd = some o ∧ ¬ Foot h s s2.rd := by
      by_cases f : Foot h s s2.rd
      · exact .inl f
      · cases e : m s2.rd with
        | none => exact .inr (.inl rfl)
        | some o => exact .inr (.inr ⟨o, rfl, f⟩)
    rcases base with f | e | ⟨o, e, f⟩
    · exact .inl f
    · exact .inr e
    · exfalso
      rcases G.rd with g | g
      · exact F.out e f g
      · rw [F.keep _ _ e f] at g; cases g
theorem Frm.le {m m1 m2 : Mem} {h : Addr} {s s1 : HS} (F : Frm m m1 h s s1) (l : Le m1 m2) : Frm m m2 h s s1 := ⟨F.n, F.d, F.b, F.al, F.ion, F.dev, F.rd, fun x o e n => l _ _ (F.keep x o e n)⟩
/-- the footprint of one cell's change -/
theorem Frm.up {m m1 : Mem} {h : Addr} {s s1 : HS} (F : Frm m m1 h s s1) {x : Addr} {o : MO} (f : Foot h s x) : Frm m (up m1 x o) h s s1 := ⟨F.n, F.d, F.b, F.al, F.ion, F.dev, F.rd, fun y u e n => by rw [up_ne (fun z => n (by rw [z]; exact f))]; exact F.keep y u e n⟩
theorem frm_of {m m' : Mem} {h : Addr} {s : HS} (l : Le m m') : Frm m m' h s s := (Frm.refl m h s).le l
theorem heard_frm {m m1 : Mem} {h : Addr} {s : HS} {q : Ltr} (F : Frm m m1 h s s) : Frm m m1 h s (heard s q) := by
  unfold heard
  split
  · exact ⟨rfl, rfl, rfl, rfl, rfl, F.dev, F.rd, F.keep⟩
  · split
    · next g _ _ =>
      refine ⟨rfl, rfl, rfl, rfl, rfl, fun k => ?_, F.rd, F.keep⟩
      show (setDev s.dev _ _ k).p = _ ∧ (setDev s.dev _ _ k).kd = _ ∧ (setDev s.dev _ _ k).lr = _
      by_cases e : k = g
      · subst e; rw [setDev_eq]; exact ⟨rfl, rfl, rfl⟩
      · rw [setDev_ne e]; exact ⟨rfl, rfl, rfl⟩
    · exact F
def Ltr.d (q : Ltr) : PyData := .tuple [match q.goal with | none => .none | some k => .int k, .tuple [.str q.w, .int q.dv, .int q.bl]]
theorem rd_ltr {m : Mem} (q : Ltr) : Rd m q.v q.d := by
  refine .tup (.cons ?_ (.cons (.tup (.cons (.str _) (.cons (.int _) (.cons (.int _) .nil)))) .nil))
  cases q.goal with
  | none => exact .non
  | some k => exact .int _
theorem rds_ltr {m : Mem} : ∀ L : List Ltr, Rds m (L.map Ltr.v) (L.map Ltr.d)
  | [] => .nil
  | q :: r => .cons (rd_ltr q) (rds_ltr r)
theorem lay_ltr : ∀ L : List Ltr, (∀ q ∈ L, PyData.strOk q.w = true) → PyData.canLayAll0 (L.map Ltr.d) = true ∧ PyData.depthAll (L.map Ltr.d) ≤ 3
  | [], _ => ⟨by simp [PyData.canLayAll0], by simp [PyData.depthAll]⟩
  | q :: r, hs => by
    have h := lay_ltr r fun x hx => hs x (List.mem_cons_of_mem _ hx)
    have hw := hs q List.mem_cons_self
    have h2 := h.2
    have h3 : PyData.canLay0 q.d = true ∧ PyData.depth q.d ≤ 3 := by
      unfold Ltr.d
      cases q.goal <;> (constructor <;> simp [PyData.canLayAll0, PyData.canLay0, PyData.depth, PyData.depthAll, hw])
    refine ⟨by simp [PyData.canLayAll0, h.1, h3.1], ?_⟩
    simp only [List.map_cons, PyData.depthAll]
    omega
theorem shaped_ltr (L : List Ltr) (hs : ∀ q ∈ L, PyData.strOk q.w = true) : SeqAt.shaped (.list (L.map Ltr.d)) = true := by
  have h := lay_ltr L hs
  have h2 := h.2
  unfold SeqAt.shaped
  have h3 : (1 + PyData.depthAll (L.map Ltr.d)) ≤ 64 := by omega
  simp only [PyData.canLay0, PyData.depth, h.1, Bool.true_and]
  exact decide_eq_true (by first | exact h3 | (rw [Nat.add_comm]; exact h3))
theorem cut_to {α : Type} (xs : List α) (k : Nat) : cutS' xs none (some (k : Int)) = xs.take k := by
  unfold cutS'
  rw [HT.sIx_none, HT.sIx_nat, List.drop_zero, Nat.sub_zero]
  by_cases h : k ≤ xs.length
  · rw [Nat.min_eq_left h]
  · rw [Nat.min_eq_right (by omega), List.take_of_length_le (Nat.le_refl _), List.take_of_length_le (by omega)]
theorem cut_from {α : Type} (xs : List α) (k : Nat) : cutS' xs (some (k : Int)) none = xs.drop k := by
  unfold cutS'
  rw [HT.sIx_none, HT.sIx_nat]
  by_cases h : k ≤ xs.length
  · rw [Nat.min_eq_left h]
    exact List.take_of_length_le (by rw [List.length_drop]; omega)
  · rw [Nat.min_eq_right (by omega), List.drop_eq_nil_of_le (by omega), List.drop_eq_nil_of_le (by omega), List.take_nil]
def spHear (K : PySem.W.Frag) : SpS := fun vs m _ S => ∃ bx h s, vs = [.ref bx, .ref h] ∧ IsBox m bx ∧ House K m h s ∧ s.road.length ≤ 60000 ∧ ∀ m' s', House K m' h s' → HearSt s s' → Frm m m' h s s' → S .non m'
theorem ok_law_hear (T : Tx K mg) : FnOk P w K mg base CX0 5 (He.ga K "_law_hear") T.fd__law_hear ["_law_box", "_law_h"] (lift K (spHear K)) := by
  have G_Desk_hear := ok_Desk_hear (P := P) (w := w) (base := base) T
  have b_Desk_hear := b_Desk_hear T
  have G_Device_hear := ok_Device_hear (P := P) (w := w) (base := base) T
  have b_Device_hear := b_Device_hear T
  have G_law_take := ok_law_take (P := P) (w := w) (base := base) T
  have b_law_take := b_law_take T
  refine fn_sy T.F__law_hear sc_law_hear (fun svs m SX Sv h => ?_) (fun cdv A outer s H E hr => ⟨_, _, (gss_cons (gs_if (gt_cmp (op_eqG K hr.units) sim_eq (ge_dget hr.u1 (gv 1) ge_str) (ge_lst ga_nil) (nomark _)) (gss_one gs_retN) gss_nil)
      (gss_cons (gs_set (i := 2) sc_law_hear.nd rfl (.inl rfl) (ge_ix (ix_G K) sim_ix (ge_lst (ga_cons ge_int (ga_cons (ge_call G_law_take (hr.mono (by decide)) (by rfl) T.g__law_take T.k__law_take b_law_take .nil (fun _ => .nil) pass0 (ga_cons (gv 0) (ga_cons (ge_callB (cr_len K) sim_len (by rfl) T.z_len (by decide +kernel) (ga_cons (ge_dget hr.u1 (gv 1) ge_str) ga_nil)) ga_nil))) (ga_cons (ge_op op_sub sim_sub (ge_callB (cr_len K) sim_len (by rfl) T.z_len (by decide +kernel) (ga_cons (ge_dget hr.u1 (gv 1) ge_str) ga_nil)) ge_int) ga_nil)))) (ge_call G_law_take (hr.mono (by decide)) (by rfl) T.g__law_take T.k__law_take b_law_take .nil (fun _ => .nil) pass0 (ga_cons (gv 0) (ga_cons ge_int ga_nil))) (fun _ _ => rfl)))
      (gss_cons (gs_asg (ge_ix (ix_G K) sim_ix (ge_dget hr.u1 (gv 1) ge_str) (gv 2) (fun _ _ => rfl)) (gg_tup 2 (by rfl) (ggs_cons (gg_name (i := 3) sc_law_hear.nd rfl (.inl rfl)) (ggs_cons (gg_name (i := 4) sc_law_hear.nd rfl (.inl rfl)) ggs_nil))))
      (gss_cons (gs_set (i := 5) sc_law_hear.nd rfl (.inl rfl) (ge_call G_law_take (hr.mono (by decide)) (by rfl) T.g__law_take T.k__law_take b_law_take .nil (fun _ => .nil) pass0 (ga_cons (gv 0) (ga_cons ge_int ga_nil))))
      (gss_cons (gs_cut (gs_if (gw_pt (gw_and (gt_cmp op_gt sim_gt (gv 5) ge_int (nomark _)) (gw_and1 (gt_cmp op_isN sim_isN (gv 3) ge_non (nomark _))))) (gss_one (gs_expr (ge_meth T.c_Desk T.M_Desk_hear G_Desk_hear (hr.mono (by decide)) b_Desk_hear .nil (fun _ => .nil) pass0 (ge_dget hr.u1 (gv 1) ge_str) (ga_cons (gv 4) ga_nil)))) (gss_one (gs_if (gt_cmp op_gt sim_gt (gv 5) ge_int (nomark _)) (gss_one (gs_expr (ge_meth T.c_Device T.M_Device_hear G_Device_hear (hr.mono (by decide)) b_Device_hear .nil (fun _ => .nil) pass0 (ge_ix (ix_G K) sim_ix (ge_dget hr.u1 (gv 1) ge_str) (gv 3) (fun _ _ => rfl)) (ga_cons (gv 4) ga_nil)))) gss_nil))))
      (gss_one (gs_if (gt_cmp op_lt sim_lt (gv 5) ge_int (nomark _)) (gss_one (gs_dput hr.u1 (gv 1) ge_str (ge_op (op_addG K) sim_add (ge_slice (ge_dget hr.u1 (gv 1) ge_str) go_none (go_some (gv 2))) (ge_slice (ge_dget hr.u1 (gv 1) ge_str) (go_some (ge_op (op_addG K) sim_add (gv 2) ge_int)) go_none)))) gss_nil))))))), fun svs m SX Sv h => ?_⟩)
  · obtain ⟨bx, h, s, rfl, _⟩ := h
    rfl
  · obtain ⟨bx, h, s, rfl, hbx, D, hrl, q⟩ := h
    walk_at "r"
    refine ⟨_, _, _, D.h, rfl, h_road s, ?_⟩
    walk_at "r"
    refine ⟨by walk_at "len", fun p hp => ?_⟩
    walk_at "r"
    refine ⟨_, _, .ref (kp D.rd hp) (rds_ltr _), .ref up_same .nil, shaped_ltr _ fun x hx => (D.road x hx).2.2.2, rfl, ?_⟩
    have lp : Le m (up m p (.lst [])) := .new (.refl _) hp
    have Dp := D.le lp
    have bp := hbx.le lp
    generalize up m p (.lst []) = mp at lp Dp bp ⊢
    refine Br_i (fun _ => ?_) (fun hne => ?_)
    · walk_at "r"
      exact .of (q _ s Dp .stay (frm_of lp))
    have hpos : 0 < s.road.length := by
      cases hr : s.road with
      | nil => rw [hr] at hne; exact absurd hne (by simp [PyData.eqv, PyData.eqvAll])
      | cons _ _ => simp
    walk_at "r"
    refine ⟨_, _, _, Dp.h, rfl, h_road s, ?_⟩
    walk_at "r"
    refine ⟨_, Dp.rd, ?_⟩
    walk_at "r"
    rw [List.length_map]
    refine ⟨bp, small (by omega) (by omega), fun a a0 a1 => ?_⟩
    walk_at "r"
    refine ⟨_, _, _, Dp.h, rfl, h_road s, ?_⟩
    walk_at "r"
    refine ⟨_, Dp.rd, ?_⟩
    walk_at "r"
    rw [List.length_map]
    refine ⟨by walk_at "len", fun p2 hp2 => ?_⟩
    walk_at "r"
    refine ⟨bp.new hp2, small (by decide) (by decide), fun c c0 c1 => ?_⟩
    walk_at "r"
    refine ⟨_, _, up_same, pick3 c0 c1, ?_⟩
    rw [ite_int, ite_int]
    obtain ⟨k, hk, hkl⟩ : ∃ k : Nat, (if c = 0 then 0 else if c = 1 then a else (s.road.length : Int) - 1) = (k : Int) ∧ k < s.road.length := by
      refine ⟨(if c = 0 then 0 else if c = 1 then a else (s.road.length : Int) - 1).toNat, ?_, ?_⟩ <;> (split <;> (try split) <;> omega)
    rw [hk]
    have l2 : Le m (up mp p2 (.lst [.int 0, .int a, .int ((s.road.length : Int) - 1)])) := .new lp hp2
    have D2 := D.le l2
    have b2 := hbx.le l2
    generalize up mp p2 _ = m2 at l2 D2 b2 ⊢
    clear hk Dp bp lp hp hp2
    have hqx : s.road[k]? = some s.road[k] := List.getElem?_eq_getElem hkl
    have hqm : s.road[k] ∈ s.road := List.getElem_mem hkl
    generalize s.road[k] = x at hqx hqm
    obtain ⟨x1, x2, x3, _⟩ := D.road x hqm
    walk_at "r"
    refine ⟨_, _, _, D2.h, rfl, h_road s, ?_⟩
    walk_at "r"
    refine ⟨_, x.v, D2.rd, atI_nat (by rw [List.getElem?_map, hqx]; rfl), ?_⟩
    walk_at "r"
    refine ⟨rfl, ?_⟩
    walk_at "r"
    refine ⟨b2, small (by decide) (by decide), fun w w0 w1 => ?_⟩
    walk_at "r"
    refine cut_by (fun δ m' => δ = [some (.ref bx), some (.ref h), some (.int (k : Int)), some (optI (x.goal.map fun k => (k : Int))), some x.sv, some (.int w)] ∧ ∃ s1, (s1 = s ∨ s1 = heard s x) ∧ House K m' h s1 ∧ Frm m m' h s s1 ∧ s1.road = s.road ∧ s1.rd = s.rd) ?_ (fun δ m' hJ => ?_)
    · walk_at "r"
      have nogo : ∀ (SX' : SXK), Fg (fun m' => [some (.ref bx), some (.ref h), some (.int (k : Int)), some (optI (x.goal.map fun k => (k : Int))), some x.sv, some (.int w)] = [some (.ref bx), some (.ref h), some (.int (k : Int)), some (optI (x.goal.map fun k => (k : Int))), some x.sv, some (.int w)] ∧ ∃ s1, (s1 = s ∨ s1 = heard s x) ∧ House K m' h s1 ∧ Frm m m' h s s1 ∧ s1.road = s.road ∧ s1.rd = s.rd) m2 := fun _ => .of ⟨rfl, s, .inl rfl, D2, frm_of l2, rfl, rfl⟩
      refine Br_i (fun hw => ?_) (fun hw => ?_)
      · cases hg : x.goal with
        | none =>
          rw [hg] at nogo
          walk_at "r"
          walk_at "t"
          walk_at "r"
          refine ⟨_, _, _, D2.h, rfl, h_desk s, ?_⟩
          walk_at "r"
          refine ⟨_, D2.desk.d, desk_no (by decide +kernel) (by decide +kernel), ?_⟩
          walk_at "r"
          refine ⟨s.d, s.b, _, s.bs, x.w, x.dv, x.bl, rfl, D2.desk, x3, ?_⟩
          have e1 : heard s x = { s with bs := hearD s.bs x.w x.dv x.bl } := by unfold heard; rw [hg]
          have hl : (hearD s.bs x.w x.dv x.bl).length = s.bs.length := by
            unfold hearD
            split
            · split
              · rw [List.length_set]
              · split
                · rw [List.length_set]
                · rfl
            · rfl
          refine .of ⟨rfl, _, .inr rfl, ?_, (heard_frm ((frm_of l2).up (.inr (.inl rfl)))), by rw [e1], by rw [e1]⟩
          rw [e1]
          exact D2.setB _ hl
        | some g =>
          rw [hg] at nogo
          have hgn := x1 g hg
          walk_at "r"
          walk_at "f"
          walk_at "r"
          refine Br_i (fun _ => ?_) (fun hw2 => absurd (hw.symm.trans hw2) (by decide))
          walk_at "r"
          refine ⟨_, _, _, D2.h, rfl, h_all s, ?_⟩
          walk_at "r"
          refine ⟨_, _, D2.al, devs_at s hgn, ?_⟩
          walk_at "r"
          have Dg := D2.dev g hgn
          refine ⟨_, Dg.p, dev_no (by decide +kernel) (by decide +kernel) (by decide +kernel) (by decide +kernel), ?_⟩
          walk_at "r"
          refine ⟨_, _, _, _, _, _, _, x.w, x.dv, x.bl, rfl, Dg, ?_⟩
          by_cases hc : (s.dev g).on = true ∧ x.dv = g
          · have hc' : (s.dev g).on = true ∧ (x.dv : Int) = (g : Int) := ⟨hc.1, by omega⟩
            rw [if_pos hc']
            have e1 : heard s x = { s with dev := setDev s.dev g { s.dev g with dbs := (hearV (s.dev g).dbs (s.dev g).rung x.w x.bl).1, rung := (hearV (s.dev g).dbs (s.dev g).rung x.w x.bl).2 } } := by unfold heard; rw [hg]; exact if_pos hc
            refine .of ⟨rfl, _, .inr rfl, ?_, heard_frm (((frm_of l2).up (.inr (.inr (.inr (.inr ⟨g, hgn, .inr (.inl rfl)⟩))))).up (.inr (.inr (.inr (.inr ⟨g, hgn, .inr (.inr rfl)⟩))))), by rw [e1], by rw [e1]⟩
            rw [e1]
            exact D2.setD hgn _ _ ((D.dok g hgn).hear (by omega) (by omega))
          · rw [if_neg (fun z => hc ⟨z.1, by have := z.2; omega⟩)]
            exact nogo SX
      · walk_at "f"
        walk_at "r"
        refine Br_i (fun hw2 => absurd (hw.symm.trans hw2) (by decide)) (fun _ => ?_)
        exact nogo SX
    · obtain ⟨rfl, s1, hs1, D3, F3, er, erd⟩ := hJ
      walk_at "r"
      refine Br_i (fun hw => ?_) (fun hw => ?_)
      · walk_at "r"
        refine ⟨_, _, _, D3.h, rfl, h_road s1, ?_⟩
        walk_at "r"
        refine ⟨_, D3.rd, fun p hp => ?_⟩
        rw [cut_to, ← List.map_take]
        walk_at "r"
        refine ⟨_, _, _, kp D3.h hp, rfl, h_road s1, ?_⟩
        walk_at "r"
        refine ⟨_, kp D3.rd hp, fun p2 hp2 => ?_⟩
        rw [show ((k : Int) + 1) = ((k + 1 : Nat) : Int) by push_cast; rfl, cut_from, ← List.map_drop]
        walk_at "r"
        have lk : s1.road.length ≤ 60000 := by rw [er]; exact hrl
        refine ⟨_, _, kp up_same hp2, up_same, line_le (by rw [List.length_map, List.length_map, List.length_take, List.length_drop]; omega), fun r hr => ?_⟩
        rw [← List.map_append]
        walk_at "r"
        have l3 := Le.new (o := .lst ((s1.road.drop (k + 1)).map Ltr.v)) (Le.new (o := .lst ((s1.road.take k).map Ltr.v)) (.refl _) hp) hp2
        have D4 := D3.le l3
        refine ⟨_, _, kp D4.h hr, rfl, by unfold houseD; exact Nat.lt_of_lt_of_le (show 5 < 100000 by decide) (by decide), ?_⟩
        rw [put_road]
        have sub : ∀ y ∈ s1.road.take k ++ s1.road.drop (k + 1), y ∈ s1.road := fun y hy => by
          rcases List.mem_append.mp hy with hy | hy
          · exact List.mem_of_mem_take hy
          · exact List.mem_of_mem_drop hy
        have F4 := F3.le l3
        have hr0 : m r = none ∨ Foot h s r := by
          by_cases f : Foot h s r
          · exact .inr f
          · cases e : m r with
            | none => exact .inl rfl
            | some o => rw [F4.keep _ _ e f] at hr; cases hr
        refine .of (q _ { s1 with rd := r, road := s1.road.take k ++ s1.road.drop (k + 1) } (D4.newRoad (s := s1) _ (fun y hy => D3.road y (sub y hy)) hr) (.lose x hqm s1 hs1 r _ (fun y hy => by rw [← er]; exact sub y hy) (by rw [er, List.length_append, List.length_take, List.length_drop]; omega)) ?_)
        refine ⟨F4.n, F4.d, F4.b, F4.al, F4.ion, F4.dev, hr0.symm, fun y o e n => ?_⟩
        rw [up_ne (fun z => n (.inl z)), up_ne (fun z => by rw [z] at e n; exact hr0.elim (fun z2 => by rw [z2] at e; cases e) n)]
        exact F4.keep y o e n
      · walk_at "r"
        exact .of (q _ s1 D3 (.go x hqm s1 hs1) F3)
end
end Hn

set_option Elab.async false
set_option linter.all false
set_option maxRecDepth 100000
set_option maxHeartbeats 8000000
namespace Hn
open PySem PySem.Spec PyProof.Rows L2 Sy Lm
section
variable {P : Program} {w : World} {K : PySem.W.Frag} {mg : Str → Option Value} {base : Heap}
local macro_rules | `(tactic| walk_at "r") => `(tactic| (conv => whnf))
local macro_rules | `(tactic| walk_at "sp") => `(tactic| (first | rfl | contradiction | exact (False.elim ‹_›)))
local macro_rules | `(tactic| walk_at "len") => `(tactic| (exact Nat.le_trans (show _ ≤ 100000 by first | (simp; done) | (rw [rngS_length]; decide)) (by decide)))
local macro_rules | `(tactic| walk_at "f") => `(tactic| (refine Br_i (fun hb => Bool.noConfusion (show false = true from hb)) (fun _ => ?_)))
local macro_rules | `(tactic| walk_at "t") => `(tactic| (refine Br_i (fun _ => ?_) (fun hb => Bool.noConfusion (show true = false from hb))))
local macro_rules | `(tactic| walk_at "le") => `(tactic| first | exact Le.refl _ | (refine Le.put ?_; walk_at "le") | (refine Le.new ?_ (by assumption); walk_at "le"))
/-- a wild turn, and what it tells -/
inductive TurnSt (s : HS) : HS → SV → Prop
  | offer (h : s.bs.length < 12) : TurnSt s { s with bs := s.bs ++ [(("open" : Str), none)] } .non
  | on (k : Nat) (hk : k < s.n) (on : Bool) : TurnSt s { s with dev := setDev s.dev k { s.dev k with on := on } } .non
  | take (k : Nat) (hk : k < s.n) (i : Int) (ho : (s.dev k).on = true) (hr : lookB (s.dev k).dbs i = some ("ringing" : Str)) : TurnSt s { s with dev := setDev s.dev k { s.dev k with dbs := putB (s.dev k).dbs i "to be noted" } } .non
  | withdraw (i : Nat) (st : Str) (ow : Option Int) (h : s.bs[i]? = some (st, ow)) : TurnSt s { s with bs := wdr s.bs i } (.tup [.int i, optI ow])
  | post (L : List Ltr) (h : ∀ q ∈ L, okLtr s q ∧ sent s q) (hl : L.length ≤ 128) : TurnSt s { s with road := s.road ++ L } .non
  | hear (s' : HS) (h : HearSt s s') : TurnSt s s' .non
theorem wdr_len (bs : List (Str × Option Int)) (i : Nat) : (wdr bs i).length = bs.length := by
  unfold wdr
  split
  · split
    · rfl
    · rw [List.length_set]
  · rfl
def spLTurn (K : PySem.W.Frag) : SpS := fun vs m _ S => ∃ bx h s, vs = [.ref bx, .ref h] ∧ IsBox m bx ∧ House K m h s ∧ s.road.length ≤ 60000 ∧ ∀ m' s' v, House K m' h s' → TurnSt s s' v → Frm m m' h s s' → S v m'
theorem setDev_frm {m m1 : Mem} {h : Addr} {s : HS} {k : Nat} {v : DevS} (F : Frm m m1 h s s) (e1 : v.p = (s.dev k).p) (e2 : v.kd = (s.dev k).kd) (e3 : v.lr = (s.dev k).lr) : Frm m m1 h s { s with dev := setDev s.dev k v } := by
  refine ⟨rfl, rfl, rfl, rfl, rfl, fun j => ?_, F.rd, F.keep⟩
  show (setDev s.dev k v j).p = _ ∧ (setDev s.dev k v j).kd = _ ∧ (setDev s.dev k v j).lr = _
  by_cases e : j = k
  · subst e; rw [setDev_eq]; exact ⟨e1, e2, e3⟩
  · rw [setDev_ne e]; exact ⟨rfl, rfl, rfl⟩
theorem ring_head {dbs : List (Int × Str)} (h : among dbs "ringing" ≠ []) : ∃ i r, among dbs "ringing" = i :: r ∧ lookB dbs i = some ("ringing" : Str) := by
  cases e : among dbs "ringing" with
  | nil => exact absurd e h
  | cons i r => exact ⟨i, r, rfl, among_look (by rw [e]; exact List.mem_cons_self)⟩
theorem Frm.mk2 {m m1 : Mem} {h : Addr} {s : HS} {L : List Ltr} (F : Frm m m1 h s s) : Frm m m1 h s { s with road := L } := ⟨rfl, rfl, rfl, rfl, rfl, F.dev, F.rd, F.keep⟩
theorem Frm.mk3 {m m1 : Mem} {h : Addr} {s : HS} {L : List (Str × Option Int)} (F : Frm m m1 h s s) : Frm m m1 h s { s with bs := L } := ⟨rfl, rfl, rfl, rfl, rfl, F.dev, F.rd, F.keep⟩
theorem ok_law_turn (T : Tx K mg) : FnOk P w K mg base CX0 6 (He.ga K "_law_turn") T.fd__law_turn ["_law_box", "_law_h"] (lift K (spLTurn K)) := by
  have G_Desk_offer := ok_Desk_offer (P := P) (w := w) (base := base) T
  have b_Desk_offer := b_Desk_offer T
  have G_Desk_withdraw := fn_calm (ok_Desk_withdraw (P := P) (w := w) (base := base) T)
  have b_Desk_withdraw := b_Desk_withdraw T
  have G_Device_rings := ok_Device_rings (P := P) (w := w) (base := base) T
  have b_Device_rings := b_Device_rings T
  have G_Device_take := fn_calm (ok_Device_take (P := P) (w := w) (base := base) T)
  have b_Device_take := b_Device_take T
  have G_Device_turn := ok_Device_turn (P := P) (w := w) (base := base) T
  have kb_Device_turn := kb_Device_turn T
  have G_law_hear := ok_law_hear (P := P) (w := w) (base := base) T
  have b_law_hear := b_law_hear T
  have G_law_post := ok_law_post (P := P) (w := w) (base := base) T
  have b_law_post := b_law_post T
  have G_law_take := ok_law_take (P := P) (w := w) (base := base) T
  have b_law_take := b_law_take T
  refine fn_sy T.F__law_turn sc_law_turn (fun svs m SX Sv h => ?_) (fun cdv A outer s H E hr => ⟨_, _, (gss_cons (gs_par (i := 2) (j := 3) (by rfl) sc_law_turn.nd rfl rfl (by decide) rfl rfl (ga_cons (ge_call G_law_take (hr.mono (by decide)) (by rfl) T.g__law_take T.k__law_take b_law_take .nil (fun _ => .nil) pass0 (ga_cons (gv 0) (ga_cons ge_int ga_nil))) (ga_cons (ge_call G_law_take (hr.mono (by decide)) (by rfl) T.g__law_take T.k__law_take b_law_take .nil (fun _ => .nil) pass0 (ga_cons (gv 0) (ga_cons (ge_callB (cr_len K) sim_len (by rfl) T.z_len (by decide +kernel) (ga_cons (ge_dget hr.u1 (gv 1) ge_str) ga_nil)) ga_nil))) ga_nil)))
      (gss_cons (gs_if (gw_pt (gw_and (gt_cmp (op_eqG K hr.units) sim_eq (gv 2) ge_int (nomark _)) (gw_and1 (gt_cmp op_lt sim_lt (ge_dget hr.u1 (gv 1) ge_str) ge_int (nomark _))))) (gss_cons (gs_expr (ge_meth0 T.c_Desk T.M_Desk_offer G_Desk_offer (hr.mono (by decide)) b_Desk_offer .nil (fun _ => .nil) pass0 (ge_dget hr.u1 (gv 1) ge_str)))
      (gss_one (gs_dput hr.u1 (gv 1) ge_str (ge_op (op_addG K) sim_add (ge_dget hr.u1 (gv 1) ge_str) ge_int)))) (gss_one (gs_if (gt_cmp (op_eqG K hr.units) sim_eq (gv 2) ge_int (nomark _)) (gss_cons (gs_asg (ge_cmp op_gt sim_gt (ge_call G_law_take (hr.mono (by decide)) (by rfl) T.g__law_take T.k__law_take b_law_take .nil (fun _ => .nil) pass0 (ga_cons (gv 0) (ga_cons ge_int ga_nil))) ge_int (nomark _)) (gg_subL (ge_dget hr.u1 (gv 1) ge_str) (gv 3)))
      (gss_one (gs_expr (ge_methK1 T.c_Device T.M_Device_turn G_Device_turn (hr.mono (by decide)) kb_Device_turn pass0 (ge_ix (ix_G K) sim_ix (ge_dget hr.u1 (gv 1) ge_str) (gv 3) (fun _ _ => rfl)) (ge_ix (ix_G K) sim_ix (ge_dget hr.u1 (gv 1) ge_str) (gv 3) (fun _ _ => rfl)))))) (gss_one (gs_if (gw_pt (gw_and (gt_cmp (op_eqG K hr.units) sim_eq (gv 2) ge_int (nomark _)) (gw_and (gt_val (ge_ix (ix_G K) sim_ix (ge_dget hr.u1 (gv 1) ge_str) (gv 3) (fun _ _ => rfl))) (gw_and1 (gt_cmp (op_neG K hr.units) sim_ne (ge_meth0 T.c_Device T.M_Device_rings G_Device_rings (hr.mono (by decide)) b_Device_rings .nil (fun _ => .nil) pass0 (ge_ix (ix_G K) sim_ix (ge_dget hr.u1 (gv 1) ge_str) (gv 3) (fun _ _ => rfl))) (ge_lst ga_nil) (nomark _)))))) (gss_one (gs_expr (ge_meth T.c_Device T.M_Device_take G_Device_take (hr.mono (by decide)) b_Device_take .nil (fun _ => .nil) pass0 (ge_ix (ix_G K) sim_ix (ge_dget hr.u1 (gv 1) ge_str) (gv 3) (fun _ _ => rfl)) (ga_cons (ge_ix (ix_G K) sim_ix (ge_meth0 T.c_Device T.M_Device_rings G_Device_rings (hr.mono (by decide)) b_Device_rings .nil (fun _ => .nil) pass0 (ge_ix (ix_G K) sim_ix (ge_dget hr.u1 (gv 1) ge_str) (gv 3) (fun _ _ => rfl))) ge_int (fun _ _ => rfl)) ga_nil)))) (gss_one (gs_if (gw_pt (gw_and (gt_cmp (op_eqG K hr.units) sim_eq (gv 2) ge_int (nomark _)) (gw_and1 (gt_cmp op_gt sim_gt (ge_dget hr.u1 (gv 1) ge_str) ge_int (nomark _))))) (gss_cons (gs_set (i := 4) sc_law_turn.nd rfl (.inl rfl) (ge_call G_law_take (hr.mono (by decide)) (by rfl) T.g__law_take T.k__law_take b_law_take .nil (fun _ => .nil) pass0 (ga_cons (gv 0) (ga_cons (ge_dget hr.u1 (gv 1) ge_str) ga_nil))))
      (gss_one (gs_ret (ge_tup (ga_cons (gv 4) (ga_cons (ge_meth T.c_Desk T.M_Desk_withdraw G_Desk_withdraw (hr.mono (by decide)) b_Desk_withdraw .nil (fun _ => .nil) pass0 (ge_dget hr.u1 (gv 1) ge_str) (ga_cons (gv 4) ga_nil)) ga_nil)))))) (gss_one (gs_if (gt_cmp op_lt sim_lt (gv 2) ge_int (nomark _)) (gss_one (gs_expr (ge_call G_law_post (hr) (by rfl) T.g__law_post T.k__law_post b_law_post .nil (fun _ => .nil) pass0 (ga_cons (gv 0) (ga_cons (gv 1) ga_nil))))) (gss_one (gs_expr (ge_call G_law_hear (hr) (by rfl) T.g__law_hear T.k__law_hear b_law_hear .nil (fun _ => .nil) pass0 (ga_cons (gv 0) (ga_cons (gv 1) ga_nil))))))))))))))
      (gss_one (gs_ret ge_non)))), fun svs m SX Sv h => ?_⟩)
  · obtain ⟨bx, h, s, rfl, _⟩ := h
    rfl
  · obtain ⟨bx, h, s, rfl, hbx, D, hrl, q⟩ := h
    have hn := D.desk.n
    walk_at "r"
    refine ⟨hbx, small (by decide) (by decide), fun w w0 w1 => ?_⟩
    walk_at "r"
    refine ⟨_, _, _, D.h, rfl, h_all s, ?_⟩
    walk_at "r"
    refine ⟨_, D.al, ?_⟩
    walk_at "r"
    have hln : (devsP s).length = s.n := by unfold devsP; rw [List.length_map, List.length_range]
    rw [hln]
    refine ⟨hbx, small (by omega) (by omega), fun k' k0 k1 => ?_⟩
    obtain ⟨k, rfl⟩ : ∃ k : Nat, k' = k := ⟨k'.toNat, by omega⟩
    have hk : k < s.n := by omega
    walk_at "r"
    have Dk := D.dev k hk
    have hbl := D.bells
    obtain ⟨τ, t0, t1, t2, t3, t4, t5, t6⟩ := D.tag
    obtain ⟨u1, u2, u3⟩ := t6 k hk
    rcases (by omega : w = 0 ∨ w = 1 ∨ w = 2 ∨ w = 3 ∨ (4 ≤ w ∧ w < 8) ∨ 8 ≤ w) with rfl | rfl | rfl | rfl | hw | hw
    · walk_at "t"
      walk_at "r"
      refine ⟨_, _, _, D.h, rfl, h_bells s, ?_⟩
      walk_at "r"
      refine Br_i (fun hb => ?_) (fun hb => ?_)
      · have hb : s.bs.length < 12 := by have := of_decide_eq_true hb; omega
        walk_at "r"
        refine ⟨_, _, _, D.h, rfl, h_desk s, ?_⟩
        walk_at "r"
        refine ⟨_, D.desk.d, desk_no (by decide +kernel) (by decide +kernel), ?_⟩
        walk_at "r"
        refine ⟨s.d, s.b, _, s.bs, rfl, D.desk, ?_⟩
        walk_at "r"
        have nh : h ≠ s.b := fun e => by rw [e, t1] at t0; omega
        refine ⟨_, _, _, (up_ne nh).trans D.h, rfl, h_bells s, ?_⟩
        walk_at "r"
        refine ⟨_, _, (up_ne nh).trans D.h, rfl, Nat.lt_of_lt_of_le (show 5 < 100000 by decide) (by decide), ?_⟩
        rw [put_bells]
        walk_at "r"
        have z := D.offer (by omega) _ rfl
        have e5 : houseD { s with bs := s.bs ++ [(("open" : Str), none)] } = [(.inr "desk", .ref s.d), (.inr "all", .ref s.al), (.inr "is_on", .ref s.ion), (.inr "road", .ref s.rd), (.inr "bells", .int ((s.bs.length : Int) + 1))] := by
          unfold houseD
          rw [List.length_append]
          push_cast
          rfl
        rw [e5] at z
        exact .of (q _ _ _ z (.offer hb) ((((Frm.refl m h s).up (.inr (.inl rfl))).up (.inl rfl)).mk3))
      · walk_at "r"
        walk_at "f"
        walk_at "r"
        walk_at "f"
        walk_at "r"
        walk_at "f"
        walk_at "r"
        walk_at "f"
        walk_at "r"
        walk_at "f"
        walk_at "r"
        walk_at "t"
        walk_at "r"
        refine ⟨bx, h, s, rfl, hbx, D, hrl, fun L hL hl => ?_⟩
        walk_at "r"
        exact .of (q _ _ _ (D.setRoad (s.road ++ L) fun x hx => (List.mem_append.mp hx).elim (D.road x) fun z => (hL x z).1) (.post L hL hl) (((Frm.refl m h s).up (.inr (.inr (.inr (.inl rfl))))).mk2))
    · walk_at "f"
      walk_at "r"
      walk_at "f"
      walk_at "r"
      walk_at "t"
      walk_at "r"
      refine ⟨hbx, small (by decide) (by decide), fun o o0 o1 => ?_⟩
      walk_at "r"
      refine ⟨_, _, _, D.h, rfl, h_ison s, ?_⟩
      walk_at "r"
      have hlo : (onsP s).length = s.n := by unfold onsP; rw [List.length_map, List.length_range]
      refine ⟨_, k, D.ion, ixN_n (by rw [hlo]; exact hk), ?_⟩
      have fi : ∀ {x : Addr} {n : Nat}, τ x = n → n ≠ 3 → up m s.ion (.lst ((onsP s).set k (.bl (decide (0 < o))))) x = m x := fun {x n} e ne => up_ne fun z => ne (by rw [← e, z, t3])
      have Dk2 : IsDev K (up m s.ion (.lst ((onsP s).set k (.bl (decide (0 < o)))))) (s.dev k).p (s.dev k).kd (s.dev k).lr k (s.dev k).on (s.dev k).dbs (s.dev k).rung := ⟨(fi u1 (by omega)).trans Dk.p, (fi u2 (by omega)).trans Dk.kd, (fi u3 (by omega)).trans Dk.lr, Dk.zk, Dk.zr⟩
      walk_at "r"
      refine ⟨_, _, _, (fi t0 (by omega)).trans D.h, rfl, h_all s, ?_⟩
      walk_at "r"
      refine ⟨_, _, (fi t2 (by omega)).trans D.al, devs_at s hk, ?_⟩
      walk_at "r"
      refine ⟨_, Dk2.p, dev_no (by decide +kernel) (by decide +kernel) (by decide +kernel) (by decide +kernel), ?_⟩
      walk_at "r"
      refine ⟨_, _, _, (fi t0 (by omega)).trans D.h, rfl, h_ison s, ?_⟩
      walk_at "r"
      refine ⟨_, _, up_same, atI_nat (j := k) (v := .bl (decide (0 < o))) (by rw [List.getElem?_set_self (by rw [hlo]; exact hk)]), ?_⟩
      walk_at "r"
      refine ⟨_, _, _, _, _, _, _, decide (0 < o), rfl, Dk2, ?_⟩
      walk_at "r"
      exact .of (q _ _ _ (D.setOn hk (decide (0 < o))) (.on k hk (decide (0 < o))) (setDev_frm (((Frm.refl m h s).up (.inr (.inr (.inl rfl)))).up (.inr (.inr (.inr (.inr ⟨k, hk, .inl rfl⟩))))) rfl rfl rfl))
    · walk_at "f"
      walk_at "r"
      walk_at "f"
      walk_at "r"
      walk_at "f"
      walk_at "r"
      walk_at "t"
      walk_at "r"
      refine ⟨_, _, _, D.h, rfl, h_ison s, ?_⟩
      walk_at "r"
      refine ⟨_, _, D.ion, ons_at s hk, ?_⟩
      walk_at "r"
      refine Br_i (fun ho => ?_) (fun ho => ?_)
      · walk_at "r"
        refine ⟨_, _, _, D.h, rfl, h_all s, ?_⟩
        walk_at "r"
        refine ⟨_, _, D.al, devs_at s hk, ?_⟩
        walk_at "r"
        refine ⟨_, Dk.p, dev_no (by decide +kernel) (by decide +kernel) (by decide +kernel) (by decide +kernel), ?_⟩
        walk_at "r"
        refine ⟨_, _, _, _, _, _, _, rfl, Dk, fun p hp => ?_⟩
        walk_at "r"
        refine ⟨by walk_at "len", fun p2 hp2 => ?_⟩
        walk_at "r"
        refine ⟨_, _, .ref (kp up_same hp2) (rds_ints _), .ref up_same .nil, shaped_ints _, rfl, ?_⟩
        have lp : Le m (up (up m p (.lst ((among (s.dev k).dbs "ringing").map .int))) p2 (.lst [])) := .new (.new (.refl _) hp) hp2
        generalize up (up m p _) p2 _ = m2 at lp ⊢
        have D2 := D.le lp
        have Dk2 := D2.dev k hk
        refine Br_i (fun hne => ?_) (fun hne => ?_)
        · have hne2 : among (s.dev k).dbs "ringing" ≠ [] := fun e => by rw [e] at hne; exact absurd hne (by simp [PyData.eqv, PyData.eqvAll])
          obtain ⟨i, r, hi, hlk⟩ := ring_head hne2
          walk_at "r"
          refine ⟨_, _, _, D2.h, rfl, h_all s, ?_⟩
          walk_at "r"
          refine ⟨_, _, D2.al, devs_at s hk, ?_⟩
          walk_at "r"
          refine ⟨_, Dk2.p, dev_no (by decide +kernel) (by decide +kernel) (by decide +kernel) (by decide +kernel), ?_⟩
          walk_at "r"
          refine ⟨_, _, _, D2.h, rfl, h_all s, ?_⟩
          walk_at "r"
          refine ⟨_, _, D2.al, devs_at s hk, ?_⟩
          walk_at "r"
          refine ⟨_, Dk2.p, dev_no (by decide +kernel) (by decide +kernel) (by decide +kernel) (by decide +kernel), ?_⟩
          walk_at "r"
          refine ⟨_, _, _, _, _, _, _, rfl, Dk2, fun p3 hp3 => ?_⟩
          walk_at "r"
          refine ⟨_, .int i, up_same, atI_nat (j := 0) (by rw [hi]; rfl), ?_⟩
          walk_at "r"
          have l3 : Le m2 (up m2 p3 (.lst ((among (s.dev k).dbs "ringing").map .int))) := .new (.refl _) hp3
          generalize up m2 p3 _ = m3 at l3 ⊢
          have D3 := D2.le l3
          have Dk3 := D3.dev k hk
          refine ⟨_, _, _, _, _, _, _, _, rfl, Dk3, ⟨_, rfl⟩, fun e => (by rw [ho] at e; cases e), fun i' _ e hl2 => ?_, fun _ e => absurd hlk (e i rfl)⟩
          obtain rfl := SV.int.inj e
          walk_at "r"
          have zz := D3.setD hk (putB (s.dev k).dbs i "to be noted") (s.dev k).rung ((D.dok k hk).put ((D.dok k hk).rg _ (lookB_mem hlk)).1 ((D.dok k hk).rg _ (lookB_mem hlk)).2 fun _ => by decide +kernel)
          have ndk : (s.dev k).lr ≠ (s.dev k).kd := fun e => by rw [e, u2] at u3; omega
          rw [up_id (by rw [up_ne ndk]; exact Dk3.lr)] at zz
          exact .of (q _ _ _ zz (.take k hk i ho hlk) (setDev_frm ((frm_of (lp.trans l3)).up (.inr (.inr (.inr (.inr ⟨k, hk, .inr (.inl rfl)⟩))))) rfl rfl rfl))
        · walk_at "r"
          walk_at "f"
          walk_at "r"
          walk_at "f"
          walk_at "r"
          walk_at "t"
          walk_at "r"
          refine ⟨bx, h, s, rfl, hbx.le lp, D2, hrl, fun L hL hl => ?_⟩
          walk_at "r"
          exact .of (q _ _ _ (D2.setRoad (s.road ++ L) fun x hx => (List.mem_append.mp hx).elim (D.road x) fun z => (hL x z).1) (.post L hL hl) (((frm_of lp).up (.inr (.inr (.inr (.inl rfl))))).mk2))
      · walk_at "f"
        walk_at "r"
        walk_at "f"
        walk_at "r"
        walk_at "f"
        walk_at "r"
        walk_at "t"
        walk_at "r"
        refine ⟨bx, h, s, rfl, hbx, D, hrl, fun L hL hl => ?_⟩
        walk_at "r"
        exact .of (q _ _ _ (D.setRoad (s.road ++ L) fun x hx => (List.mem_append.mp hx).elim (D.road x) fun z => (hL x z).1) (.post L hL hl) (((Frm.refl m h s).up (.inr (.inr (.inr (.inl rfl))))).mk2))
    · walk_at "f"
      walk_at "r"
      walk_at "f"
      walk_at "r"
      walk_at "f"
      walk_at "r"
      walk_at "f"
      walk_at "r"
      walk_at "f"
      walk_at "r"
      walk_at "t"
      walk_at "r"
      refine ⟨_, _, _, D.h, rfl, h_bells s, ?_⟩
      walk_at "r"
      refine Br_i (fun hb => ?_) (fun hb => ?_)
      · have hb : 0 < s.bs.length := by have := of_decide_eq_true hb; omega
        walk_at "r"
        refine ⟨_, _, _, D.h, rfl, h_bells s, ?_⟩
        walk_at "r"
        refine ⟨hbx, small (by omega) (by omega), fun i' i0 i1 => ?_⟩
        obtain ⟨i, rfl⟩ : ∃ i : Nat, i' = i := ⟨i'.toNat, by omega⟩
        have hi : i < s.bs.length := by omega
        obtain ⟨st, ow, hq⟩ : ∃ st ow, s.bs[i]? = some (st, ow) := ⟨_, _, List.getElem?_eq_getElem hi⟩
        walk_at "r"
        refine ⟨_, _, _, D.h, rfl, h_desk s, ?_⟩
        walk_at "r"
        refine ⟨_, D.desk.d, desk_no (by decide +kernel) (by decide +kernel), ?_⟩
        walk_at "r"
        refine ⟨s.d, s.b, _, s.bs, _, rfl, D.desk, ⟨_, rfl⟩, fun j st' ow' e hq' => ?_, fun hf => ?_⟩
        · obtain rfl : i = j := by have := SV.int.inj e; omega
          rw [hq] at hq'
          cases hq'
          walk_at "r"
          refine ⟨by walk_at "len", ?_⟩
          exact .of (q _ _ _ (D.setB _ (wdr_len _ _)) (.withdraw i st ow hq) (((Frm.refl m h s).up (.inr (.inl rfl))).mk3))
        · rw [wh_of' (by omega) (by omega)] at hf
          cases hf
      · walk_at "r"
        walk_at "t"
        walk_at "r"
        refine ⟨bx, h, s, rfl, hbx, D, hrl, fun L hL hl => ?_⟩
        walk_at "r"
        exact .of (q _ _ _ (D.setRoad (s.road ++ L) fun x hx => (List.mem_append.mp hx).elim (D.road x) fun z => (hL x z).1) (.post L hL hl) (((Frm.refl m h s).up (.inr (.inr (.inr (.inl rfl))))).mk2))
    · refine Br_i (fun z => absurd (of_decide_eq_true z) (by omega)) (fun _ => ?_)
      walk_at "f"
      walk_at "r"
      refine Br_i (fun z => absurd (of_decide_eq_true z) (by omega)) (fun _ => ?_)
      walk_at "r"
      refine Br_i (fun z => absurd (of_decide_eq_true z) (by omega)) (fun _ => ?_)
      walk_at "f"
      walk_at "r"
      refine Br_i (fun z => absurd (of_decide_eq_true z) (by omega)) (fun _ => ?_)
      walk_at "f"
      walk_at "r"
      refine Br_i (fun _ => ?_) (fun z => absurd (of_decide_eq_false z) (by omega))
      walk_at "r"
      refine ⟨bx, h, s, rfl, hbx, D, hrl, fun L hL hl => ?_⟩
      walk_at "r"
      exact .of (q _ _ _ (D.setRoad (s.road ++ L) fun x hx => (List.mem_append.mp hx).elim (D.road x) fun z => (hL x z).1) (.post L hL hl) (((Frm.refl m h s).up (.inr (.inr (.inr (.inl rfl))))).mk2))
    · refine Br_i (fun z => absurd (of_decide_eq_true z) (by omega)) (fun _ => ?_)
      walk_at "f"
      walk_at "r"
      refine Br_i (fun z => absurd (of_decide_eq_true z) (by omega)) (fun _ => ?_)
      walk_at "r"
      refine Br_i (fun z => absurd (of_decide_eq_true z) (by omega)) (fun _ => ?_)
      walk_at "f"
      walk_at "r"
      refine Br_i (fun z => absurd (of_decide_eq_true z) (by omega)) (fun _ => ?_)
      walk_at "f"
      walk_at "r"
      refine Br_i (fun z => absurd (of_decide_eq_true z) (by omega)) (fun _ => ?_)
      walk_at "r"
      refine ⟨bx, h, s, rfl, hbx, D, hrl, fun m' s' D' st F => ?_⟩
      walk_at "r"
      exact .of (q _ _ _ D' (.hear s' st) F)
end
end Hn

set_option Elab.async false
set_option linter.all false
set_option maxRecDepth 100000
set_option maxHeartbeats 8000000
namespace Hn
open PySem PySem.Spec PyProof.Rows L2 Sy Lm
section
variable {P : Program} {w : World} {K : PySem.W.Frag} {mg : Str → Option Value} {base : Heap}
local macro_rules | `(tactic| walk_at "r") => `(tactic| (conv => whnf))
local macro_rules | `(tactic| walk_at "sp") => `(tactic| (first | rfl | contradiction | exact (False.elim ‹_›)))
local macro_rules | `(tactic| walk_at "len") => `(tactic| (exact Nat.le_trans (show _ ≤ 100000 by first | (simp; done) | (rw [rngS_length]; decide)) (by decide)))
local macro_rules | `(tactic| walk_at "f") => `(tactic| (refine Br_i (fun hb => Bool.noConfusion (show false = true from hb)) (fun _ => ?_)))
local macro_rules | `(tactic| walk_at "t") => `(tactic| (refine Br_i (fun _ => ?_) (fun hb => Bool.noConfusion (show true = false from hb))))
local macro_rules | `(tactic| walk_at "le") => `(tactic| first | exact Le.refl _ | (refine Le.put ?_; walk_at "le") | (refine Le.new ?_ (by assumption); walk_at "le"))
/-- bell i was granted to device k -/
def own (s : HS) (i k : Nat) : Prop := ∃ st, s.bs[i]? = some (st, some (k : Int))
def stOk (b : Str × Option Int) : Prop := (b.1 = "open" ∧ b.2 = none) ∨ (∃ k : Nat, b.2 = some (k : Int) ∧ (b.1 = "granted" ∨ b.1 = "taken" ∨ b.1 = "withdrawn")) ∨ (b.1 = "withdrawn" ∧ b.2 = none)
/-- the protocol's invariant -/
structure Pro (s : HS) : Prop where
  st : ∀ (i : Nat) b, s.bs[i]? = some b → stOk b
  dev : ∀ k, k < s.n → ∀ i st, lookB (s.dev k).dbs i = some st → (st = "ringing" ∨ st = "to be noted") → own s i.toNat k
  rung : ∀ k, k < s.n → ∀ i ∈ (s.dev k).rung, own s i.toNat k
  ring : ∀ k, k < s.n → ∀ i, lookB (s.dev k).dbs i = some ("ringing" : Str) → i ∈ (s.dev k).rung
  ltr : ∀ q ∈ s.road, (∀ k, q.goal = some k → q.w = "grant" → q.dv = k → own s q.bl k) ∧ (q.goal = none → q.w = "took" → own s q.bl q.dv)
theorem Pro.setB {s : HS} (h : Pro s) {bs' : List (Str × Option Int)} (hs : ∀ (i : Nat) b, bs'[i]? = some b → stOk b) (mono : ∀ i k, own s i k → own { s with bs := bs' } i k) : Pro { s with bs := bs' } :=
  ⟨hs, fun k hk i st h1 h2 => mono _ _ (h.dev k hk i st h1 h2), fun k hk i hi => mono _ _ (h.rung k hk i hi), h.ring, fun q hq => ⟨fun k a b c => mono _ _ ((h.ltr q hq).1 k a b c), fun a b => mono _ _ ((h.ltr q hq).2 a b)⟩⟩
theorem Pro.setDv {s : HS} (h : Pro s) (j : Nat) (v : DevS) (h1 : j < s.n → ∀ i st, lookB v.dbs i = some st → (st = "ringing" ∨ st = "to be noted") → own s i.toNat j) (h2 : j < s.n → ∀ i ∈ v.rung, own s i.toNat j) (h3 : j < s.n → ∀ i, lookB v.dbs i = some ("ringing" : Str) → i ∈ v.rung) : Pro { s with dev := setDev s.dev j v } := by
  refine ⟨h.st, fun k hk => ?_, fun k hk => ?_, fun k hk => ?_, h.ltr⟩
  · show ∀ i st, lookB (setDev s.dev j v k).dbs i = some st → _
    by_cases e : k = j
    · subst e; rw [setDev_eq]; exact h1 hk
    · rw [setDev_ne e]; exact h.dev k hk
  · show ∀ i ∈ (setDev s.dev j v k).rung, _
    by_cases e : k = j
    · subst e; rw [setDev_eq]; exact h2 hk
    · rw [setDev_ne e]; exact h.rung k hk
  · show ∀ i, lookB (setDev s.dev j v k).dbs i = _ → i ∈ (setDev s.dev j v k).rung
    by_cases e : k = j
    · subst e; rw [setDev_eq]; exact h3 hk
    · rw [setDev_ne e]; exact h.ring k hk
theorem Pro.road {s : HS} (h : Pro s) (L : List Ltr) (r : Addr) (hl : ∀ q ∈ L, (∀ k, q.goal = some k → q.w = "grant" → q.dv = k → own s q.bl k) ∧ (q.goal = none → q.w = "took" → own s q.bl q.dv)) : Pro { s with rd := r, road := L } := ⟨h.st, h.dev, h.rung, h.ring, hl⟩
theorem own_one {s : HS} {i k j : Nat} (h1 : own s i k) (h2 : own s i j) : k = j := by
  obtain ⟨a, h1⟩ := h1
  obtain ⟨b, h2⟩ := h2
  rw [h1] at h2
  have := Option.some.inj (Prod.mk.inj (Option.some.inj h2)).2
  omega
theorem new_pro {s : HS} (h : NewH s) : Pro s := by
  obtain ⟨h1, h2, h3⟩ := h
  refine ⟨fun i b e => (by rw [h1] at e; cases e), fun k hk i st e => ?_, fun k hk i hi => ?_, fun k hk i e => ?_, fun q hq => (by rw [h2] at hq; cases hq)⟩
  · rw [(h3 k hk).2.1] at e; cases e
  · rw [(h3 k hk).2.2] at hi; cases hi
  · rw [(h3 k hk).2.1] at e; cases e
theorem wordTo_grant {k : Nat} {b : Str × Option Int} (h : wordTo k b = "grant") : b.2 = some (k : Int) := by
  unfold wordTo at h
  split at h
  · exact absurd h (by decide +kernel)
  · split at h
    · exact absurd h (by decide +kernel)
    · next z => exact Classical.byContradiction fun n => z (.inl n)
/-! the desk hears, ends a bell -/
theorem set_st {bs : List (Str × Option Int)} {j : Nat} {b : Str × Option Int} (h : ∀ (i : Nat) c, bs[i]? = some c → stOk c) (hb : stOk b) : ∀ (i : Nat) c, (bs.set j b)[i]? = some c → stOk c := fun i c e => by
  rw [List.getElem?_set] at e
  split at e
  · split at e
    · cases e; exact hb
    · cases e
  · exact h i c e
theorem hearD_pro {s : HS} (h : Pro s) {w : Str} {dv i : Nat} (hw : w = "took" → own s i dv) : Pro { s with bs := hearD s.bs w dv i } := by
  unfold hearD
  cases e : s.bs[i]? with
  | none => exact h.setB h.st fun _ _ z => z
  | some b =>
    obtain ⟨st, ow⟩ := b
    simp only
    split
    · next c =>
      refine h.setB (set_st h.st (.inr (.inl ⟨dv, rfl, .inl rfl⟩))) fun j k ⟨t, z⟩ => ?_
      by_cases ij : i = j
      · subst ij
        rw [e] at z
        have hz := h.st i _ e
        rcases hz with ⟨_, z2⟩ | ⟨_, _, z2⟩ | ⟨_, z2⟩
        · simp only at z2; rw [z2] at z; cases z
        · simp only [c.2] at z2; rcases z2 with z2 | z2 | z2 <;> exact absurd z2 (by decide +kernel)
        · simp only at z2; rw [z2] at z; cases z
      · exact ⟨t, by show (s.bs.set i _)[j]? = _; rw [List.getElem?_set_ne ij]; exact z⟩
    · split
      · next c =>
        refine h.setB (set_st h.st (.inr (.inl ⟨dv, rfl, .inr (.inl rfl)⟩))) fun j k z => ?_
        by_cases ij : i = j
        · subst ij
          have := own_one z (hw c)
          subst this
          exact ⟨"taken", by show (s.bs.set i _)[i]? = _; rw [List.getElem?_set_self (List.getElem?_eq_some_iff.mp e).1]⟩
        · obtain ⟨t, z⟩ := z
          exact ⟨t, by show (s.bs.set i _)[j]? = _; rw [List.getElem?_set_ne ij]; exact z⟩
      · exact h.setB h.st fun _ _ z => z
theorem wdr_pro {s : HS} (h : Pro s) (i : Nat) : Pro { s with bs := wdr s.bs i } := by
  unfold wdr
  cases e : s.bs[i]? with
  | none => exact h.setB h.st fun _ _ z => z
  | some b =>
    obtain ⟨st, ow⟩ := b
    simp only
    split
    · exact h.setB h.st fun _ _ z => z
    · next c =>
      refine h.setB (set_st h.st ?_) fun j k ⟨t, z⟩ => ?_
      · rcases h.st i _ e with ⟨_, z⟩ | ⟨k, z, _⟩ | ⟨_, z⟩
        · exact .inr (.inr ⟨rfl, z⟩)
        · exact .inr (.inl ⟨k, z, .inr (.inr rfl)⟩)
        · exact .inr (.inr ⟨rfl, z⟩)
      · by_cases ij : i = j
        · subst ij
          rw [e] at z
          have z := (Prod.mk.inj (Option.some.inj z)).2
          exact ⟨"withdrawn", by show (s.bs.set i _)[i]? = _; rw [List.getElem?_set_self (List.getElem?_eq_some_iff.mp e).1, z]⟩
        · exact ⟨t, by show (s.bs.set i _)[j]? = _; rw [List.getElem?_set_ne ij]; exact z⟩
/-! a device hears -/
theorem hearV_look {dbs : List (Int × Str)} {rung : List Int} {w : Str} {i j : Int} {st : Str} (h : lookB (hearV dbs rung w i).1 j = some st) (hs : st = "ringing" ∨ st = "to be noted") : lookB dbs j = some st ∨ (w = "grant" ∧ j = i ∧ st = "ringing" ∧ i ∈ (hearV dbs rung w i).2) := by
  have nw : ¬ (st = "wanted") := fun e => by rcases hs with z | z <;> (rw [z] at e; exact absurd e (by decide +kernel))
  have no : ¬ (st = "over") := fun e => by rcases hs with z | z <;> (rw [z] at e; exact absurd e (by decide +kernel))
  unfold hearV at h ⊢
  split at h
  · simp only [lookB_put] at h
    split at h
    · exact absurd (Option.some.inj h).symm nw
    · exact .inl h
  · next c1 =>
    rw [if_neg c1]
    split at h
    · next c2 =>
      rw [if_pos c2]
      simp only [lookB_put] at h
      split at h
      · next e => exact .inr ⟨c2.1, e, (Option.some.inj h).symm, by simp⟩
      · exact .inl h
    · next c2 =>
      rw [if_neg c2]
      split at h
      · simp only [lookB_put] at h
        split at h
        · exact absurd (Option.some.inj h).symm no
        · exact .inl h
      · next c3 =>
        rw [if_neg c3]
        split at h
        · simp only [lookB_put] at h
          split at h
          · exact absurd (Option.some.inj h).symm no
          · exact .inl h
        · exact .inl h
theorem hearV_rung {dbs : List (Int × Str)} {rung : List Int} {w : Str} {i j : Int} (h : j ∈ (hearV dbs rung w i).2) : j ∈ rung ∨ (w = "grant" ∧ j = i) := by
  unfold hearV at h
  split at h
  · exact .inl h
  · split at h
    · next c =>
      rcases List.mem_append.mp h with h | h
      · exact .inl h
      · exact .inr ⟨c.1, List.mem_singleton.mp h⟩
    · split at h
      · exact .inl h
      · split at h <;> exact .inl h
theorem hearV_pre {dbs : List (Int × Str)} {rung : List Int} {w : Str} {i : Int} : rung <+: (hearV dbs rung w i).2 := by
  unfold hearV
  split
  · exact List.prefix_refl _
  · split
    · exact List.prefix_append _ _
    · split
      · exact List.prefix_refl _
      · split <;> exact List.prefix_refl _
theorem heard_pro {s : HS} (h : Pro s) {q : Ltr} (hq : q ∈ s.road) : Pro (heard s q) := by
  obtain ⟨l1, l2⟩ := h.ltr q hq
  unfold heard
  split
  · next e => exact hearD_pro h (l2 e)
  · next k e =>
    split
    · next c =>
      refine h.setDv k _ (fun hk i st h1 h2 => ?_) (fun hk i hi => ?_) (fun hk i h1 => ?_)
      · rcases hearV_look h1 h2 with z | ⟨z1, z2, _⟩
        · exact h.dev k hk i st z h2
        · rw [z2]; exact l1 k e z1 c.2
      · rcases hearV_rung hi with z | ⟨z1, z2⟩
        · exact h.rung k hk i z
        · rw [z2]; exact l1 k e z1 c.2
      · rcases hearV_look h1 (.inl rfl) with z | ⟨z1, z2, _, z3⟩
        · exact hearV_pre.subset (h.ring k hk i z)
        · rw [z2]; exact z3
    · exact h
theorem turn_pro {s s' : HS} {v : SV} (h : Pro s) (t : TurnSt s s' v) : Pro s' := by
  cases t with
  | offer hl =>
    refine h.setB (fun i b e => ?_) fun i k ⟨t, z⟩ => ⟨t, ?_⟩
    · by_cases hi : i < s.bs.length
      · rw [List.getElem?_append_left hi] at e
        exact h.st i b e
      · rw [List.getElem?_append_right (by omega)] at e
        obtain rfl := List.mem_singleton.mp (List.mem_of_getElem? e)
        exact .inl ⟨rfl, rfl⟩
    · show (s.bs ++ _)[i]? = _
      rw [List.getElem?_append_left (List.getElem?_eq_some_iff.mp z).1]
      exact z
  | on k hk on => exact h.setDv k _ (fun hk => h.dev k hk) (fun hk => h.rung k hk) fun hk => h.ring k hk
  | take k hk i ho hr =>
    refine h.setDv k _ (fun hk j st h1 h2 => ?_) (fun hk => h.rung k hk) (fun hk j h1 => ?_)
    · simp only [lookB_put] at h1
      split at h1
      · next e => rw [e]; exact h.dev k hk i _ hr (.inl rfl)
      · exact h.dev k hk j st h1 h2
    · simp only [lookB_put] at h1
      split at h1
      · exact absurd (Option.some.inj h1) (by decide +kernel)
      · exact h.ring k hk j h1
  | withdraw i st ow hq => exact wdr_pro h i
  | post L hL hl =>
    refine h.road _ s.rd fun q hq => ?_
    rcases List.mem_append.mp hq with hq | hq
    · exact h.ltr q hq
    · obtain ⟨_, z⟩ := hL q hq
      rcases z with ⟨k, b, z1, z2, z3, z4⟩ | ⟨z1, z2, st, z3, z4⟩
      · refine ⟨fun j e hw hd => ?_, fun e => by rw [z1] at e; cases e⟩
        rw [z1] at e
        cases e
        have hb := wordTo_grant (z4.symm.trans hw)
        exact ⟨b.1, by rw [z3, ← hb]⟩
      · refine ⟨fun j e => (by rw [z1] at e; cases e), fun _ hw => ?_⟩
        rcases z4 with ⟨z4, _⟩ | ⟨_, z4⟩
        · rw [hw] at z4; exact absurd z4 (by decide +kernel)
        · have := h.dev q.dv ((hL q hq).1.2.1) q.bl st z3 (.inr z4)
          simpa using this
  | hear s' hs =>
    cases hs with
    | stay => exact h
    | go q hq s1 h1 => rcases h1 with rfl | rfl; exact h; exact heard_pro h hq
    | lose q hq s1 h1 r L hL hl =>
      have hr : s1.road = s.road := by
        rcases h1 with rfl | rfl
        · rfl
        · unfold heard
          split
          · rfl
          · split <;> rfl
      have h2 : Pro s1 := by rcases h1 with rfl | rfl; exact h; exact heard_pro h hq
      exact h2.road L r fun x hx => h2.ltr x (by rw [hr]; exact hL x hx)
/-! what a turn leaves -/
theorem heard_dev {s : HS} {q : Ltr} (k : Nat) : ((heard s q).dev k).on = (s.dev k).on ∧ (s.dev k).rung <+: ((heard s q).dev k).rung ∧ ((s.dev k).on = false → ((heard s q).dev k).dbs = (s.dev k).dbs) := by
  unfold heard
  split
  · exact ⟨rfl, List.prefix_refl _, fun _ => rfl⟩
  · next g _ =>
    split
    · next c =>
      show (setDev s.dev g _ k).on = _ ∧ _ <+: (setDev s.dev g _ k).rung ∧ (_ → (setDev s.dev g _ k).dbs = _)
      by_cases e : k = g
      · subst e
        rw [setDev_eq]
        exact ⟨rfl, hearV_pre, fun z => by rw [c.1] at z; cases z⟩
      · rw [setDev_ne e]
        exact ⟨rfl, List.prefix_refl _, fun _ => rfl⟩
    · exact ⟨rfl, List.prefix_refl _, fun _ => rfl⟩
theorem turn_dev {s s' : HS} {v : SV} (t : TurnSt s s' v) (k : Nat) : (s.dev k).rung <+: (s'.dev k).rung ∧ ((s.dev k).on = false → (s'.dev k).dbs = (s.dev k).dbs) := by
  have same : (s.dev k).rung <+: (s.dev k).rung ∧ ((s.dev k).on = false → (s.dev k).dbs = (s.dev k).dbs) := ⟨List.prefix_refl _, fun _ => rfl⟩
  cases t with
  | offer => exact same
  | on j hj on =>
    show _ <+: (setDev s.dev j _ k).rung ∧ (_ → (setDev s.dev j _ k).dbs = _)
    by_cases e : k = j
    · subst e; rw [setDev_eq]; exact same
    · rw [setDev_ne e]; exact same
  | take j hj i ho hr =>
    show _ <+: (setDev s.dev j _ k).rung ∧ (_ → (setDev s.dev j _ k).dbs = _)
    by_cases e : k = j
    · subst e; rw [setDev_eq]; exact ⟨List.prefix_refl _, fun z => by rw [ho] at z; cases z⟩
    · rw [setDev_ne e]; exact same
  | withdraw => exact same
  | post => exact same
  | hear s' hs =>
    cases hs with
    | stay => exact same
    | go q hq s1 h1 => rcases h1 with rfl | rfl; exact same; exact (heard_dev k).2
    | lose q hq s1 h1 r L hL hl => rcases h1 with rfl | rfl; exact same; exact (heard_dev k).2
/-- what stays of a bell -/
def later (b c : Str × Option Int) : Prop := (b.1 = "taken" → c = b) ∧ (∀ k, b.2 = some k → c.2 = some k) ∧ (b.1 = "withdrawn" ∧ b.2 = none → c = b)
theorem later.refl (b : Str × Option Int) : later b b := ⟨fun _ => rfl, fun _ h => h, fun _ => rfl⟩
theorem hearD_later {s : HS} (h : Pro s) {w : Str} {dv i : Nat} (hw : w = "took" → own s i dv) {j : Nat} {b : Str × Option Int} (e : s.bs[j]? = some b) : ∃ c, (hearD s.bs w dv i)[j]? = some c ∧ later b c := by
  unfold hearD
  cases e2 : s.bs[i]? with
  | none => exact ⟨b, e, .refl b⟩
  | some b2 =>
    obtain ⟨st, ow⟩ := b2
    simp only
    split
    · next c =>
      by_cases ij : i = j
      · subst ij
        rw [e2] at e
        cases e
        refine ⟨_, List.getElem?_set_self (List.getElem?_eq_some_iff.mp e2).1, fun z => ?_, fun k z => ?_, fun z => ?_⟩
        · have := c.2.symm.trans z; exact absurd this (by decide +kernel)
        · rcases h.st i _ e2 with ⟨_, z2⟩ | ⟨_, _, z2⟩ | ⟨z2, _⟩
          · simp only at z z2; rw [z2] at z; cases z
          · simp only [c.2] at z2; rcases z2 with z2 | z2 | z2 <;> exact absurd z2 (by decide +kernel)
          · have := c.2.symm.trans z2; exact absurd this (by decide +kernel)
        · have := c.2.symm.trans z.1; exact absurd this (by decide +kernel)
      · exact ⟨b, by rw [List.getElem?_set_ne ij]; exact e, .refl b⟩
    · split
      · next c =>
        by_cases ij : i = j
        · subst ij
          obtain ⟨t, z⟩ := hw c
          rw [e] at z
          cases z
          refine ⟨_, List.getElem?_set_self (List.getElem?_eq_some_iff.mp e2).1, fun z => ?_, fun k z => z, fun z => ?_⟩
          · simp only at z; rw [z]
          · cases z.2
        · exact ⟨b, by rw [List.getElem?_set_ne ij]; exact e, .refl b⟩
      · exact ⟨b, e, .refl b⟩
theorem turn_later {s s' : HS} {v : SV} (h : Pro s) (t : TurnSt s s' v) {j : Nat} {b : Str × Option Int} (e : s.bs[j]? = some b) : ∃ c, s'.bs[j]? = some c ∧ later b c := by
  have same : ∃ c, s.bs[j]? = some c ∧ later b c := ⟨b, e, .refl b⟩
  have hh : ∀ q ∈ s.road, ∃ c, (heard s q).bs[j]? = some c ∧ later b c := fun q hq => by
    unfold heard
    split
    · next g => exact hearD_later h ((h.ltr q hq).2 g) e
    · split <;> exact same
  cases t with
  | offer hl => exact ⟨b, by show (s.bs ++ _)[j]? = _; rw [List.getElem?_append_left (List.getElem?_eq_some_iff.mp e).1]; exact e, .refl b⟩
  | on => exact same
  | take => exact same
  | withdraw i st ow hq =>
    show ∃ c, (wdr s.bs i)[j]? = some c ∧ later b c
    unfold wdr
    rw [hq]
    simp only
    split
    · exact same
    · next c =>
      by_cases ij : i = j
      · subst ij
        rw [hq] at e
        cases e
        exact ⟨_, List.getElem?_set_self (List.getElem?_eq_some_iff.mp hq).1, fun z => absurd z c, fun k z => z, fun z => by rw [show st = "withdrawn" from z.1]⟩
      · exact ⟨b, by rw [List.getElem?_set_ne ij]; exact e, .refl b⟩
  | post => exact same
  | hear s' hs =>
    cases hs with
    | stay => exact same
    | go q hq s1 h1 => rcases h1 with rfl | rfl; exact same; exact hh q hq
    | lose q hq s1 h1 r L hL hl => rcases h1 with rfl | rfl; exact same; exact hh q hq
/-- the bell that was withdrawn from nobody -/
theorem turn_gone {s s' : HS} {i : Nat} {ow : Option Int} (h : Pro s) (t : TurnSt s s' (.tup [.int i, optI ow])) (hn : ow = none) : s'.bs[i]? = some (("withdrawn" : Str), none) := by
  subst hn
  generalize hv : SV.tup [.int i, optI none] = v at t
  cases t with
  | withdraw j st ow hq =>
    injection hv with hv
    injection hv with h1 h2
    injection h2 with h2 _
    have e : i = j := by have := SV.int.inj h1; omega
    subst e
    have ho : ow = none := by cases ow with | none => rfl | some k => cases h2
    subst ho
    show (wdr s.bs i)[i]? = _
    unfold wdr
    rw [hq]
    simp only
    split
    · next c =>
      rcases h.st i _ hq with ⟨z, _⟩ | ⟨_, z, _⟩ | ⟨z, _⟩
      · rw [show st = "open" from z] at c; exact absurd c (by decide +kernel)
      · cases z
      · rw [show st = "withdrawn" from z] at c; exact absurd c (by decide +kernel)
    · exact List.getElem?_set_self (List.getElem?_eq_some_iff.mp hq).1
  | hear s' hs => cases hv
  | _ => cases hv
end
end Hn

set_option Elab.async false
set_option linter.all false
set_option maxRecDepth 100000
set_option maxHeartbeats 8000000
namespace Hn
open PySem PySem.Spec PyProof.Rows L2 Sy Lm
section
variable {P : Program} {w : World} {K : PySem.W.Frag} {mg : Str → Option Value} {base : Heap}
local macro_rules | `(tactic| walk_at "r") => `(tactic| (conv => whnf))
local macro_rules | `(tactic| walk_at "sp") => `(tactic| (first | rfl | contradiction | exact (False.elim ‹_›)))
local macro_rules | `(tactic| walk_at "len") => `(tactic| (exact Nat.le_trans (show _ ≤ 100000 by first | (simp; done) | (rw [rngS_length]; decide)) (by decide)))
local macro_rules | `(tactic| walk_at "f") => `(tactic| (refine Br_i (fun hb => Bool.noConfusion (show false = true from hb)) (fun _ => ?_)))
local macro_rules | `(tactic| walk_at "t") => `(tactic| (refine Br_i (fun _ => ?_) (fun hb => Bool.noConfusion (show true = false from hb))))
local macro_rules | `(tactic| walk_at "le") => `(tactic| first | exact Le.refl _ | (refine Le.put ?_; walk_at "le") | (refine Le.new ?_ (by assumption); walk_at "le"))
/-- what a bell is at a device behind a word -/
def hearL (l : Option Str) (w : Str) : Option Str :=
  if w = "offer" ∧ l = none then some "wanted"
  else if w = "grant" ∧ (l = none ∨ l = some ("wanted" : Str)) then some "ringing"
  else if w = "gone" ∧ l ≠ some ("to be noted" : Str) then some "over"
  else if w = "noted" then some "over"
  else l
theorem hearV_lk {dbs : List (Int × Str)} {rung : List Int} {w : Str} {i j : Int} : lookB (hearV dbs rung w i).1 j = if j = i then hearL (lookB dbs i) w else lookB dbs j := by
  unfold hearV hearL
  split
  · rw [lookB_put]
  · split
    · rw [lookB_put]
    · split
      · rw [lookB_put]
      · split
        · rw [lookB_put]
        · split
          · next e => rw [e]
          · rfl
theorem hearV_rg {dbs : List (Int × Str)} {rung : List Int} {w : Str} {i j : Int} : j ∈ (hearV dbs rung w i).2 ↔ j ∈ rung ∨ (j = i ∧ w = "grant" ∧ (lookB dbs i = none ∨ lookB dbs i = some ("wanted" : Str))) := by
  have no : ∀ z : Str, ¬ z = "grant" → ∀ P : Prop, w = z → ¬ (w = "grant" ∧ P) := fun z h P e q => h (e.symm.trans q.1)
  unfold hearV
  split
  · next c => exact ⟨fun h => .inl h, fun h => h.elim id fun q => absurd ⟨q.2.1, q.2.2⟩ (no "offer" (by decide +kernel) _ c.1)⟩
  · split
    · next c =>
      rw [List.mem_append, List.mem_singleton]
      exact ⟨fun h => h.elim .inl fun e => .inr ⟨e, c⟩, fun h => h.elim .inl fun q => .inr q.1⟩
    · next c =>
      have key : j ∈ rung ↔ j ∈ rung ∨ (j = i ∧ w = "grant" ∧ (lookB dbs i = none ∨ lookB dbs i = some ("wanted" : Str))) := ⟨.inl, fun h => h.elim id fun q => absurd q.2 c⟩
      split
      · exact key
      · split <;> exact key
/-- all letters of the desk are heard by device k -/
def devAll (k : Nat) : List (Str × Option Int) → Nat → List (Int × Str) × List Int → List (Int × Str) × List Int
  | [], _, st => st
  | b :: r, i, st => devAll k r (i + 1) (hearV st.1 st.2 (wordTo k b) i)
theorem devAll_low (k : Nat) : ∀ (bs : List (Str × Option Int)) (i0 : Nat) (st : List (Int × Str) × List Int) (j : Int), j < i0 → lookB (devAll k bs i0 st).1 j = lookB st.1 j
  | [], _, _, _, _ => rfl
  | b :: r, i0, st, j, h => by
    rw [devAll, devAll_low k r (i0 + 1) _ j (by push_cast; omega), hearV_lk, if_neg (by omega)]
theorem devAll_lk (k : Nat) : ∀ (bs : List (Str × Option Int)) (i0 : Nat) (st : List (Int × Str) × List Int) (t : Nat) (b : Str × Option Int), bs[t]? = some b → lookB (devAll k bs i0 st).1 ((i0 + t : Nat) : Int) = hearL (lookB st.1 ((i0 + t : Nat) : Int)) (wordTo k b)
  | [], _, _, _, _, h => by simp at h
  | b :: r, i0, st, 0, c, h => by
    simp at h
    subst h
    show lookB (devAll k (b :: r) i0 st).1 (i0 : Int) = hearL (lookB st.1 (i0 : Int)) (wordTo k b)
    rw [devAll, devAll_low k r (i0 + 1) _ _ (by push_cast; omega), hearV_lk, if_pos rfl]
  | b :: r, i0, st, t + 1, c, h => by
    have ih := devAll_lk k r (i0 + 1) (hearV st.1 st.2 (wordTo k b) i0) t c (by simpa using h)
    rw [show i0 + 1 + t = i0 + (t + 1) by omega, hearV_lk, if_neg (by push_cast; omega)] at ih
    rw [devAll, ih]
theorem devAll_rg (k : Nat) : ∀ (bs : List (Str × Option Int)) (i0 : Nat) (st : List (Int × Str) × List Int) (j : Int), j ∈ (devAll k bs i0 st).2 ↔ j ∈ st.2 ∨ ∃ (t : Nat) (b : Str × Option Int), bs[t]? = some b ∧ j = ((i0 + t : Nat) : Int) ∧ wordTo k b = "grant" ∧ (lookB st.1 j = none ∨ lookB st.1 j = some ("wanted" : Str))
  | [], _, _, _ => by simp [devAll]
  | b :: r, i0, st, j => by
    rw [devAll, devAll_rg k r (i0 + 1), hearV_rg]
    constructor
    · rintro ((h | ⟨h1, h2, h3⟩) | ⟨t, c, h1, h2, h3, h4⟩)
      · exact .inl h
      · exact .inr ⟨0, b, rfl, h1, h2, by rw [h1]; exact h3⟩
      · rw [hearV_lk, if_neg (by rw [h2]; push_cast; omega)] at h4
        exact .inr ⟨t + 1, c, by simpa using h1, by rw [h2]; push_cast; omega, h3, h4⟩
    · rintro (h | ⟨t, c, h1, h2, h3, h4⟩)
      · exact .inl (.inl h)
      · cases t with
        | zero =>
          simp at h1
          subst h1
          rw [Nat.add_zero] at h2
          exact .inl (.inr ⟨h2, h3, by rw [← h2]; exact h4⟩)
        | succ t =>
          refine .inr ⟨t, c, by simpa using h1, by rw [h2]; push_cast; omega, h3, ?_⟩
          rw [hearV_lk, if_neg (by rw [h2]; push_cast; omega)]
          exact h4
theorem devAll_ok (k : Nat) {n : Nat} : ∀ (bs : List (Str × Option Int)) (i0 : Nat) (st : List (Int × Str) × List Int), DevOk n st.1 st.2 → i0 + bs.length ≤ n → DevOk n (devAll k bs i0 st).1 (devAll k bs i0 st).2
  | [], _, _, h, _ => h
  | b :: r, i0, st, h, hn => by
    rw [List.length_cons] at hn
    rw [devAll]
    exact devAll_ok k r (i0 + 1) _ (h.hear (by omega) (by omega)) (by omega)
/-- device k behind the desk's letters -/
def dv1 (s : HS) (k : Nat) : DevS := if (s.dev k).on = true then { s.dev k with dbs := (devAll k s.bs 0 ((s.dev k).dbs, (s.dev k).rung)).1, rung := (devAll k s.bs 0 ((s.dev k).dbs, (s.dev k).rung)).2 } else s.dev k
theorem dv1_on {s : HS} {k : Nat} (h : (s.dev k).on = true) : dv1 s k = { s.dev k with dbs := (devAll k s.bs 0 ((s.dev k).dbs, (s.dev k).rung)).1, rung := (devAll k s.bs 0 ((s.dev k).dbs, (s.dev k).rung)).2 } := if_pos h
theorem dv1_off {s : HS} {k : Nat} (h : ¬ (s.dev k).on = true) : dv1 s k = s.dev k := if_neg h
theorem dv1_eq (s : HS) (k : Nat) : (dv1 s k).on = (s.dev k).on ∧ (dv1 s k).p = (s.dev k).p ∧ (dv1 s k).kd = (s.dev k).kd ∧ (dv1 s k).lr = (s.dev k).lr := by
  unfold dv1
  split <;> exact ⟨rfl, rfl, rfl, rfl⟩
def ph1 (s : HS) (j : Nat) : HS := { s with dev := fun k => if k < j then dv1 s k else s.dev k }
def deskAll (bs : List (Str × Option Int)) (L : List Ltr) : List (Str × Option Int) := L.foldl (fun bs q => hearD bs q.w q.dv q.bl) bs
def deskTo (s : HS) : Nat → List (Str × Option Int)
  | 0 => s.bs
  | j + 1 => deskAll (deskTo s j) (dltrs j (s.dev j).on (s.dev j).dbs)
def ph2 (s : HS) (j : Nat) : HS := { s with bs := deskTo s j }
def rnd (s : HS) : HS := ph2 (ph1 s s.n) s.n
theorem hearD_len (bs : List (Str × Option Int)) (w : Str) (dv : Int) (i : Nat) : (hearD bs w dv i).length = bs.length := by
  unfold hearD
  split
  · split
    · rw [List.length_set]
    · split
      · rw [List.length_set]
      · rfl
  · rfl
theorem deskAll_len : ∀ (L : List Ltr) (bs : List (Str × Option Int)), (deskAll bs L).length = bs.length
  | [], _ => rfl
  | q :: L, bs => by
    show (deskAll (hearD bs q.w q.dv q.bl) L).length = _
    rw [deskAll_len L, hearD_len]
theorem deskTo_len (s : HS) : ∀ j, (deskTo s j).length = s.bs.length
  | 0 => rfl
  | j + 1 => by rw [deskTo, deskAll_len, deskTo_len s j]
/-! letters of a device at the desk -/
theorem hearD_ne {bs : List (Str × Option Int)} {w : Str} {dv : Int} {i j : Nat} (h : i ≠ j) : (hearD bs w dv i)[j]? = bs[j]? := by
  unfold hearD
  split
  · split
    · rw [List.getElem?_set_ne h]
    · split
      · rw [List.getElem?_set_ne h]
      · rfl
  · rfl
theorem hearD_at {bs : List (Str × Option Int)} {w : Str} {dv : Int} {i : Nat} {st : Str} {ow : Option Int} (h : bs[i]? = some (st, ow)) : (hearD bs w dv i)[i]? = some (if w = "want" ∧ st = "open" then (("granted" : Str), some dv) else if w = "took" then ("taken", some dv) else (st, ow)) := by
  have hl := (List.getElem?_eq_some_iff.mp h).1
  unfold hearD
  rw [h]
  simp only
  split
  · rw [List.getElem?_set_self hl]
  · split
    · rw [List.getElem?_set_self hl]
    · exact h
theorem desk_own {i k : Nat} : ∀ (L : List Ltr) (bs : List (Str × Option Int)) (st : Str), bs[i]? = some (st, some (k : Int)) → st ≠ "open" → (∀ q ∈ L, q.bl = i → q.w = "took" → q.dv = k) →
    ∃ st', (deskAll bs L)[i]? = some (st', some (k : Int)) ∧ (((∃ q ∈ L, q.bl = i ∧ q.w = "took") → st' = "taken") ∧ ((¬ ∃ q ∈ L, q.bl = i ∧ q.w = "took") → st' = st))
  | [], bs, st, h, _, _ => ⟨st, h, fun ⟨q, z, _⟩ => (by cases z), fun _ => rfl⟩
  | q :: L, bs, st, h, hn, hq => by
    have hq' := fun x hx => hq x (List.mem_cons_of_mem _ hx)
    show ∃ st', (deskAll (hearD bs q.w q.dv q.bl) L)[i]? = _ ∧ _
    by_cases e : q.bl = i
    · subst e
      have h1 := hearD_at (w := q.w) (dv := q.dv) h
      rw [if_neg (fun z => hn z.2)] at h1
      by_cases hw : q.w = "took"
      · rw [if_pos hw, hq q List.mem_cons_self rfl hw] at h1
        obtain ⟨st', g1, g2, g3⟩ := desk_own L _ "taken" h1 (by decide +kernel) hq'
        rw [hq q List.mem_cons_self rfl hw]
        refine ⟨st', g1, fun _ => ?_, fun z => absurd ⟨q, List.mem_cons_self, rfl, hw⟩ z⟩
        by_cases c : ∃ x ∈ L, x.bl = q.bl ∧ x.w = "took"
        · exact g2 c
        · exact g3 c
      · rw [if_neg hw] at h1
        obtain ⟨st', g1, g2, g3⟩ := desk_own L _ st h1 hn hq'
        refine ⟨st', g1, fun ⟨x, hx, c1, c2⟩ => ?_, fun z => g3 fun ⟨x, hx, c⟩ => z ⟨x, List.mem_cons_of_mem _ hx, c⟩⟩
        rcases List.mem_cons.mp hx with rfl | hx
        · exact absurd c2 hw
        · exact g2 ⟨x, hx, c1, c2⟩
    · have h1 : (hearD bs q.w q.dv q.bl)[i]? = some (st, some (k : Int)) := by rw [hearD_ne e]; exact h
      obtain ⟨st', g1, g2, g3⟩ := desk_own L _ st h1 hn hq'
      refine ⟨st', g1, fun ⟨x, hx, c1, c2⟩ => ?_, fun z => g3 fun ⟨x, hx, c⟩ => z ⟨x, List.mem_cons_of_mem _ hx, c⟩⟩
      rcases List.mem_cons.mp hx with rfl | hx
      · exact absurd c1 e
      · exact g2 ⟨x, hx, c1, c2⟩
theorem desk_open {i j : Nat} : ∀ (L : List Ltr) (bs : List (Str × Option Int)), bs[i]? = some (("open" : Str), none) → (∀ q ∈ L, q.bl = i → q.w = "want" ∧ q.dv = j) →
    ((∃ q ∈ L, q.bl = i) → (deskAll bs L)[i]? = some (("granted" : Str), some (j : Int))) ∧ ((¬ ∃ q ∈ L, q.bl = i) → (deskAll bs L)[i]? = some (("open" : Str), none))
  | [], bs, h, _ => ⟨fun ⟨q, z, _⟩ => (by cases z), fun _ => h⟩
  | q :: L, bs, h, hq => by
    have hq' := fun x hx => hq x (List.mem_cons_of_mem _ hx)
    show (_ → (deskAll (hearD bs q.w q.dv q.bl) L)[i]? = _) ∧ (_ → (deskAll (hearD bs q.w q.dv q.bl) L)[i]? = _)
    by_cases e : q.bl = i
    · refine ⟨fun _ => ?_, fun z => absurd ⟨q, List.mem_cons_self, e⟩ z⟩
      obtain ⟨hw, hd⟩ := hq q List.mem_cons_self e
      subst e
      have h1 := hearD_at (w := q.w) (dv := q.dv) h
      rw [if_pos ⟨hw, rfl⟩, hd] at h1
      rw [hd]
      obtain ⟨st', g1, g2, g3⟩ := desk_own L _ "granted" h1 (by decide +kernel) fun x hx c1 c2 => by
        have := (hq' x hx c1).1
        rw [this] at c2
        exact absurd c2 (by decide +kernel)
      rw [g1, g3 fun ⟨x, hx, c1, c2⟩ => by
        have := (hq' x hx c1).1
        rw [this] at c2
        exact absurd c2 (by decide +kernel)]
    · have h1 : (hearD bs q.w q.dv q.bl)[i]? = some (("open" : Str), none) := by rw [hearD_ne e]; exact h
      obtain ⟨g1, g2⟩ := desk_open L _ h1 hq'
      refine ⟨fun ⟨x, hx, c⟩ => ?_, fun z => g2 fun ⟨x, hx, c⟩ => z ⟨x, List.mem_cons_of_mem _ hx, c⟩⟩
      rcases List.mem_cons.mp hx with rfl | hx
      · exact absurd c e
      · exact g1 ⟨x, hx, c⟩
theorem dltr_mem {k : Nat} {on : Bool} {dbs : List (Int × Str)} (hn : ∀ q ∈ dbs, 0 ≤ q.1) {q : Ltr} : q ∈ dltrs k on dbs ↔ on = true ∧ q.goal = none ∧ q.dv = k ∧ ((q.w = "want" ∧ lookB dbs q.bl = some ("wanted" : Str)) ∨ (q.w = "took" ∧ lookB dbs q.bl = some ("to be noted" : Str))) := by
  constructor
  · intro h
    obtain ⟨ho, st, i, w, hi, rfl, hw⟩ := dltrs_mem h
    have h0 : 0 ≤ i := by
      obtain ⟨q, h1, h2⟩ := List.mem_map.mp (among_mem hi)
      rw [← h2]; exact hn q h1
    have e : (((dl1 k w i).bl : Nat) : Int) = i := by show ((i.toNat : Nat) : Int) = i; omega
    refine ⟨ho, rfl, rfl, ?_⟩
    rw [e]
    rcases hw with ⟨h1, h2⟩ | ⟨h1, h2⟩
    · subst h2; exact .inl ⟨h1, among_look hi⟩
    · subst h2; exact .inr ⟨h1, among_look hi⟩
  · rintro ⟨ho, hg, hd, hw⟩
    have am : ∀ {st : Str} {i : Int}, lookB dbs i = some st → i ∈ among dbs st := fun {st i} h => List.mem_filter.mpr ⟨(srtI_perm _).mem_iff.mpr (lookB_key h), decide_eq_true h⟩
    unfold dltrs
    rw [if_pos ho]
    obtain ⟨g, w, dv, bl⟩ := q
    simp only at hg hd hw
    subst hg hd
    rcases hw with ⟨rfl, h⟩ | ⟨rfl, h⟩
    · exact List.mem_append.mpr (.inl (List.mem_map.mpr ⟨_, am h, by unfold dl1; simp⟩))
    · exact List.mem_append.mpr (.inr (List.mem_map.mpr ⟨_, am h, by unfold dl1; simp⟩))
end
end Hn

set_option Elab.async false
set_option linter.all false
set_option maxRecDepth 100000
set_option maxHeartbeats 8000000
namespace Hn
open PySem PySem.Spec PyProof.Rows L2 Sy Lm
section
variable {P : Program} {w : World} {K : PySem.W.Frag} {mg : Str → Option Value} {base : Heap}
local macro_rules | `(tactic| walk_at "r") => `(tactic| (conv => whnf))
local macro_rules | `(tactic| walk_at "sp") => `(tactic| (first | rfl | contradiction | exact (False.elim ‹_›)))
local macro_rules | `(tactic| walk_at "len") => `(tactic| (exact Nat.le_trans (show _ ≤ 100000 by first | (simp; done) | (rw [rngS_length]; decide)) (by decide)))
local macro_rules | `(tactic| walk_at "f") => `(tactic| (refine Br_i (fun hb => Bool.noConfusion (show false = true from hb)) (fun _ => ?_)))
local macro_rules | `(tactic| walk_at "t") => `(tactic| (refine Br_i (fun _ => ?_) (fun hb => Bool.noConfusion (show true = false from hb))))
local macro_rules | `(tactic| walk_at "le") => `(tactic| first | exact Le.refl _ | (refine Le.put ?_; walk_at "le") | (refine Le.new ?_ (by assumption); walk_at "le"))
def DOk (s : HS) : Prop := ∀ k, k < s.n → DevOk s.bs.length (s.dev k).dbs (s.dev k).rung
theorem ph1_dev {s : HS} {j k : Nat} (h : k < j) : (ph1 s j).dev k = dv1 s k := if_pos h
theorem ph1_dev' {s : HS} {j k : Nat} (h : ¬ k < j) : (ph1 s j).dev k = s.dev k := if_neg h
theorem dv1_ok {s : HS} (d : DOk s) {k : Nat} (hk : k < s.n) : DevOk s.bs.length (dv1 s k).dbs (dv1 s k).rung := by
  by_cases h : (s.dev k).on = true
  · rw [dv1_on h]; exact devAll_ok k s.bs 0 _ (d k hk) (by omega)
  · rw [dv1_off h]; exact d k hk
theorem ph1_ok {s : HS} (d : DOk s) (j : Nat) : DOk (ph1 s j) := fun k hk => by
  show DevOk s.bs.length _ _
  by_cases h : k < j
  · rw [ph1_dev h]; exact dv1_ok d hk
  · rw [ph1_dev' h]; exact d k hk
theorem dv1_lk {s : HS} {k i : Nat} {b : Str × Option Int} (ho : (s.dev k).on = true) (hb : s.bs[i]? = some b) : lookB (dv1 s k).dbs (i : Int) = hearL (lookB (s.dev k).dbs (i : Int)) (wordTo k b) := by
  rw [dv1_on ho]
  have := devAll_lk k s.bs 0 ((s.dev k).dbs, (s.dev k).rung) i b hb
  rw [Nat.zero_add] at this
  exact this
theorem hearL_ring {l : Option Str} {w : Str} (h : hearL l w = some "ringing") : l = some ("ringing" : Str) ∨ (w = "grant" ∧ (l = none ∨ l = some ("wanted" : Str))) := by
  unfold hearL at h
  split at h
  · exact absurd (Option.some.inj h) (by decide +kernel)
  · split at h
    · next c => exact .inr c
    · split at h
      · exact absurd (Option.some.inj h) (by decide +kernel)
      · split at h
        · exact absurd (Option.some.inj h) (by decide +kernel)
        · exact .inl h
theorem hearL_note {l : Option Str} {w : Str} (h : hearL l w = some "to be noted") : l = some ("to be noted" : Str) := by
  unfold hearL at h
  split at h
  · exact absurd (Option.some.inj h) (by decide +kernel)
  · split at h
    · exact absurd (Option.some.inj h) (by decide +kernel)
    · split at h
      · exact absurd (Option.some.inj h) (by decide +kernel)
      · split at h
        · exact absurd (Option.some.inj h) (by decide +kernel)
        · exact h
theorem key_nat {n : Nat} {dbs : List (Int × Str)} {rung : List Int} (d : DevOk n dbs rung) {i : Int} {st : Str} (h : lookB dbs i = some st) : ∃ j : Nat, i = j ∧ j < n := by
  have := d.rg _ (lookB_mem h)
  exact ⟨i.toNat, by simp only at this; omega, by simp only at this; omega⟩
theorem ph1_pro {s : HS} (p : Pro s) (d : DOk s) (j : Nat) : Pro (ph1 s j) := by
  have hb : ∀ {n : Nat}, n < s.bs.length → ∃ b, s.bs[n]? = some b := fun h => ⟨_, List.getElem?_eq_getElem h⟩
  refine ⟨p.st, fun k hk i st h1 h2 => ?_, fun k hk i hi => ?_, fun k hk i h1 => ?_, p.ltr⟩
  · by_cases hj : k < j
    · rw [ph1_dev hj] at h1
      by_cases ho : (s.dev k).on = true
      · obtain ⟨n, rfl, hn⟩ := key_nat (dv1_ok d hk) h1
        obtain ⟨b, hb⟩ := hb hn
        rw [dv1_lk ho hb] at h1
        rcases h2 with rfl | rfl
        · rcases hearL_ring h1 with z | ⟨z, _⟩
          · exact p.dev k hk n _ z (.inl rfl)
          · exact ⟨b.1, by show s.bs[(n : Int).toNat]? = _; rw [Int.toNat_natCast, hb, ← wordTo_grant z]⟩
        · exact p.dev k hk n _ (hearL_note h1) (.inr rfl)
      · rw [dv1_off ho] at h1; exact p.dev k hk i st h1 h2
    · rw [ph1_dev' hj] at h1; exact p.dev k hk i st h1 h2
  · by_cases hj : k < j
    · rw [ph1_dev hj] at hi
      by_cases ho : (s.dev k).on = true
      · rw [dv1_on ho] at hi
        rcases (devAll_rg k s.bs 0 _ i).mp hi with z | ⟨t, b, z1, z2, z3, _⟩
        · exact p.rung k hk i z
        · exact ⟨b.1, by show s.bs[i.toNat]? = _; rw [z2, Int.toNat_natCast, Nat.zero_add, z1, ← wordTo_grant z3]⟩
      · rw [dv1_off ho] at hi; exact p.rung k hk i hi
    · rw [ph1_dev' hj] at hi; exact p.rung k hk i hi
  · by_cases hj : k < j
    · rw [ph1_dev hj] at h1 ⊢
      by_cases ho : (s.dev k).on = true
      · obtain ⟨n, rfl, hn⟩ := key_nat (dv1_ok d hk) h1
        obtain ⟨b, hb⟩ := hb hn
        rw [dv1_lk ho hb] at h1
        rw [dv1_on ho]
        refine (devAll_rg k s.bs 0 _ n).mpr ?_
        rcases hearL_ring h1 with z | ⟨z1, z2⟩
        · exact .inl (p.ring k hk n z)
        · exact .inr ⟨n, b, hb, by rw [Nat.zero_add], z1, z2⟩
      · rw [dv1_off ho] at h1 ⊢; exact p.ring k hk i h1
    · rw [ph1_dev' hj] at h1 ⊢; exact p.ring k hk i h1
theorem desk_pro {s : HS} : ∀ (L : List Ltr) (bs : List (Str × Option Int)), Pro { s with bs := bs } → (∀ q ∈ L, q.w = "took" → own { s with bs := bs } q.bl q.dv) →
    Pro { s with bs := deskAll bs L } ∧ ∀ i k, own { s with bs := bs } i k → own { s with bs := deskAll bs L } i k
  | [], bs, h, _ => ⟨h, fun _ _ z => z⟩
  | q :: L, bs, h, hq => by
    have h1 := hearD_pro h (w := q.w) (dv := q.dv) (i := q.bl) (hq q List.mem_cons_self)
    have mono : ∀ i k, own { s with bs := bs } i k → own { s with bs := hearD bs q.w q.dv q.bl } i k := fun i k ⟨st, z⟩ => by
      obtain ⟨c, c1, c2⟩ := hearD_later h (w := q.w) (dv := q.dv) (i := q.bl) (hq q List.mem_cons_self) z
      exact ⟨c.1, by show (hearD bs q.w q.dv q.bl)[i]? = _; rw [c1, ← c2.2.1 _ rfl]⟩
    obtain ⟨g1, g2⟩ := desk_pro (s := s) L (hearD bs q.w q.dv q.bl) h1 fun x hx hw => mono _ _ (hq x (List.mem_cons_of_mem _ hx) hw)
    exact ⟨g1, fun i k z => g2 i k (mono i k z)⟩
theorem ph2_pro {s : HS} (p : Pro s) (d : DOk s) : ∀ j, j ≤ s.n → Pro (ph2 s j) ∧ ∀ i k, own s i k → own (ph2 s j) i k
  | 0, _ => ⟨p, fun _ _ z => z⟩
  | j + 1, hj => by
    obtain ⟨h1, h2⟩ := ph2_pro p d j (by omega)
    have hd := d j (by omega)
    have := desk_pro (s := s) (dltrs j (s.dev j).on (s.dev j).dbs) (deskTo s j) h1 fun q hq hw => by
      obtain ⟨_, _, hdv, hw2⟩ := (dltr_mem fun q hq => (hd.rg q hq).1).mp hq
      rcases hw2 with ⟨z, _⟩ | ⟨_, z⟩
      · rw [hw] at z; exact absurd z (by decide +kernel)
      · rw [hdv]
        have := p.dev j (by omega) _ _ z (.inr rfl)
        rw [Int.toNat_natCast] at this
        exact h2 _ _ this
    exact ⟨this.1, fun i k z => this.2 i k (h2 i k z)⟩
theorem rnd_pro {s : HS} (p : Pro s) (d : DOk s) : Pro (rnd s) ∧ DOk (rnd s) ∧ ∀ i k, own s i k → own (rnd s) i k := by
  have p1 := ph1_pro p d s.n
  have d1 := ph1_ok d s.n
  obtain ⟨h1, h2⟩ := ph2_pro p1 d1 s.n (Nat.le_refl _)
  refine ⟨h1, fun k hk => ?_, fun i k z => h2 i k z⟩
  show DevOk (deskTo (ph1 s s.n) s.n).length _ _
  rw [deskTo_len]
  exact d1 k hk
theorem rnd_len (s : HS) : (rnd s).bs.length = s.bs.length := deskTo_len _ _
theorem rnd_dev {s : HS} {k : Nat} (h : k < s.n) : (rnd s).dev k = dv1 s k := ph1_dev h
theorem rnd_on {s : HS} (k : Nat) : ((rnd s).dev k).on = (s.dev k).on := by
  show ((ph1 s s.n).dev k).on = _
  by_cases h : k < s.n
  · rw [ph1_dev h]; exact (dv1_eq s k).1
  · rw [ph1_dev' h]
/-! what a round does to a bell -/
theorem stOk_some {b : Str × Option Int} {k : Int} (h : stOk b) (e : b.2 = some k) : ¬ b.1 = "open" := fun z => by
  rcases h with ⟨_, z2⟩ | ⟨_, _, z2⟩ | ⟨_, z2⟩
  · rw [e] at z2; cases z2
  · rw [z] at z2; rcases z2 with z2 | z2 | z2 <;> exact absurd z2 (by decide +kernel)
  · rw [e] at z2; cases z2
theorem p2_own {s : HS} (p : Pro s) (d : DOk s) {i k : Nat} {st : Str} (hk : k < s.n) (hb : s.bs[i]? = some (st, some (k : Int))) : ∀ j, j ≤ s.n →
    ∃ st', (deskTo s j)[i]? = some (st', some (k : Int)) ∧ st' ≠ "open" ∧ (k < j ∧ (s.dev k).on = true ∧ lookB (s.dev k).dbs (i : Int) = some ("to be noted" : Str) → st' = "taken") ∧ (¬ (k < j ∧ (s.dev k).on = true ∧ lookB (s.dev k).dbs (i : Int) = some ("to be noted" : Str)) → st' = st)
  | 0, _ => ⟨st, hb, stOk_some (p.st i _ hb) rfl, fun z => absurd z.1 (Nat.not_lt_zero _), fun _ => rfl⟩
  | j + 1, hj => by
    obtain ⟨st1, g1, g2, g3, g4⟩ := p2_own p d hk hb j (by omega)
    have hd := d j (by omega)
    have mem := fun {q} => dltr_mem (k := j) (on := (s.dev j).on) (q := q) fun q hq => (hd.rg q hq).1
    have took : ∀ q ∈ dltrs j (s.dev j).on (s.dev j).dbs, q.bl = i → q.w = "took" → j = k ∧ q.dv = k ∧ (s.dev k).on = true ∧ lookB (s.dev k).dbs (i : Int) = some ("to be noted" : Str) := fun q hq e hw => by
      obtain ⟨ho, _, hdv, hw2⟩ := mem.mp hq
      rcases hw2 with ⟨z, _⟩ | ⟨_, z⟩
      · rw [hw] at z; exact absurd z (by decide +kernel)
      · have o := p.dev j (by omega) _ _ z (.inr rfl)
        rw [Int.toNat_natCast, e] at o
        have := own_one o ⟨st, hb⟩
        subst this
        rw [e] at z
        exact ⟨rfl, hdv, ho, z⟩
    obtain ⟨st2, f1, f2, f3⟩ := desk_own (dltrs j (s.dev j).on (s.dev j).dbs) (deskTo s j) st1 g1 g2 fun q hq e hw => (took q hq e hw).2.1
    refine ⟨st2, f1, ?_, fun ⟨c1, c2, c3⟩ => ?_, fun c => ?_⟩
    · by_cases c : ∃ q ∈ dltrs j (s.dev j).on (s.dev j).dbs, q.bl = i ∧ q.w = "took"
      · rw [f2 c]; decide +kernel
      · rw [f3 c]; exact g2
    · by_cases c : ∃ q ∈ dltrs j (s.dev j).on (s.dev j).dbs, q.bl = i ∧ q.w = "took"
      · exact f2 c
      · rw [f3 c]
        refine g3 ⟨?_, c2, c3⟩
        rcases Nat.lt_succ_iff_lt_or_eq.mp c1 with z | z
        · exact z
        · subst z
          exact absurd ⟨⟨none, "took", k, i⟩, mem.mpr ⟨c2, rfl, rfl, .inr ⟨rfl, c3⟩⟩, rfl, rfl⟩ c
    · have c' : ¬ ∃ q ∈ dltrs j (s.dev j).on (s.dev j).dbs, q.bl = i ∧ q.w = "took" := fun ⟨q, hq, e, hw⟩ => by
        obtain ⟨z1, _, z2, z3⟩ := took q hq e hw
        exact c ⟨by omega, z2, z3⟩
      rw [f3 c']
      exact g4 fun ⟨z1, z2⟩ => c ⟨by omega, z2⟩
theorem p2_open {s : HS} (d : DOk s) {i : Nat} (hb : s.bs[i]? = some (("open" : Str), none)) (hl : ∀ k, k < s.n → lookB (s.dev k).dbs (i : Int) = none ∨ lookB (s.dev k).dbs (i : Int) = some ("wanted" : Str)) : ∀ j, j ≤ s.n →
    (∃ k, k < j ∧ (s.dev k).on = true ∧ lookB (s.dev k).dbs (i : Int) = some ("wanted" : Str) ∧ (deskTo s j)[i]? = some (("granted" : Str), some (k : Int))) ∨ ((∀ k, k < j → (s.dev k).on = true → lookB (s.dev k).dbs (i : Int) ≠ some ("wanted" : Str)) ∧ (deskTo s j)[i]? = some (("open" : Str), none))
  | 0, _ => .inr ⟨fun k h => absurd h (Nat.not_lt_zero _), hb⟩
  | j + 1, hj => by
    have hd := d j (by omega)
    have mem := fun {q} => dltr_mem (k := j) (on := (s.dev j).on) (q := q) fun q hq => (hd.rg q hq).1
    have only : ∀ q ∈ dltrs j (s.dev j).on (s.dev j).dbs, q.bl = i → (q.w = "want" ∧ q.dv = j) ∧ (s.dev j).on = true ∧ lookB (s.dev j).dbs (i : Int) = some ("wanted" : Str) := fun q hq e => by
      obtain ⟨ho, _, hdv, hw2⟩ := mem.mp hq
      rw [e] at hw2
      rcases hw2 with ⟨z1, z2⟩ | ⟨_, z⟩
      · exact ⟨⟨z1, hdv⟩, ho, z2⟩
      · rcases hl j (by omega) with y | y
        · rw [y] at z; cases z
        · rw [y] at z; exact absurd (Option.some.inj z) (by decide +kernel)
    rcases p2_open d hb hl j (by omega) with ⟨k, k1, k2, k3, k4⟩ | ⟨h1, h2⟩
    · left
      obtain ⟨st', g1, g2, g3⟩ := desk_own (dltrs j (s.dev j).on (s.dev j).dbs) (deskTo s j) "granted" k4 (by decide +kernel) fun q hq e hw => by
        have := (only q hq e).1.1
        rw [hw] at this; exact absurd this (by decide +kernel)
      refine ⟨k, by omega, k2, k3, ?_⟩
      rw [deskTo, g1, g3 fun ⟨q, hq, e, hw⟩ => by
        have := (only q hq e).1.1
        rw [hw] at this; exact absurd this (by decide +kernel)]
    · obtain ⟨g1, g2⟩ := desk_open (j := j) (dltrs j (s.dev j).on (s.dev j).dbs) (deskTo s j) h2 fun q hq e => (only q hq e).1
      by_cases c : ∃ q ∈ dltrs j (s.dev j).on (s.dev j).dbs, q.bl = i
      · obtain ⟨q, hq, e⟩ := c
        obtain ⟨_, z1, z2⟩ := only q hq e
        exact .inl ⟨j, by omega, z1, z2, g1 ⟨q, hq, e⟩⟩
      · refine .inr ⟨fun k hk ho hw => ?_, g2 c⟩
        rcases Nat.lt_succ_iff_lt_or_eq.mp hk with z | z
        · exact h1 k z ho hw
        · subst z
          exact c ⟨⟨none, "want", k, i⟩, mem.mpr ⟨ho, rfl, rfl, .inl ⟨rfl, hw⟩⟩, rfl⟩
theorem wt_open (k : Int) (ow : Option Int) : wordTo k (("open" : Str), ow) = "offer" := by unfold wordTo; exact if_pos rfl
def wOwn (st : Str) : Str := if st = "withdrawn" then "gone" else if st = "granted" then "grant" else "noted"
theorem wt_own {k : Nat} {st : Str} (h : ¬ st = "open") : wordTo k (st, some (k : Int)) = wOwn st := by
  unfold wordTo wOwn
  rw [if_neg h]
  by_cases c : st = "withdrawn"
  · rw [if_pos (.inr c), if_pos c]
  · rw [if_neg (fun z => z.elim (fun z => z rfl) c), if_neg c]
/-- a bell that was open at first -/
theorem rnd_calm {s : HS} (p : Pro s) (d : DOk s) {i : Nat} (hb : s.bs[i]? = some (("open" : Str), none)) (hl : ∀ k, k < s.n → lookB (s.dev k).dbs (i : Int) = none ∨ lookB (s.dev k).dbs (i : Int) = some ("wanted" : Str)) (ho : ∃ k, k < s.n ∧ (s.dev k).on = true) :
    ∃ k, k < s.n ∧ (s.dev k).on = true ∧ (rnd s).bs[i]? = some (("granted" : Str), some (k : Int)) ∧ lookB ((rnd s).dev k).dbs (i : Int) = some ("wanted" : Str) := by
  have h1 : ∀ k, k < s.n → lookB ((ph1 s s.n).dev k).dbs (i : Int) = none ∨ lookB ((ph1 s s.n).dev k).dbs (i : Int) = some ("wanted" : Str) := fun k hk => by
    rw [ph1_dev hk]
    by_cases ho : (s.dev k).on = true
    · rw [dv1_lk ho hb, wt_open]
      right
      rcases hl k hk with z | z
      · rw [z]; decide +kernel
      · rw [z]; decide +kernel
    · rw [dv1_off ho]; exact hl k hk
  rcases p2_open (s := ph1 s s.n) (ph1_ok d s.n) hb h1 s.n (Nat.le_refl _) with ⟨k, k1, k2, k3, k4⟩ | ⟨g1, _⟩
  · refine ⟨k, k1, ?_, k4, ?_⟩
    · rw [ph1_dev k1, (dv1_eq s k).1] at k2; exact k2
    · exact k3
  · obtain ⟨k, hk, hon⟩ := ho
    refine absurd ?_ (g1 k hk (by rw [ph1_dev hk, (dv1_eq s k).1]; exact hon))
    rw [ph1_dev hk, dv1_lk hon hb, wt_open]
    rcases hl k hk with z | z
    · rw [z]; decide +kernel
    · rw [z]; decide +kernel
theorem rnd_own {s : HS} (p : Pro s) (d : DOk s) {i k : Nat} {st : Str} (hk : k < s.n) (ho : (s.dev k).on = true) (hb : s.bs[i]? = some (st, some (k : Int))) :
    lookB ((rnd s).dev k).dbs (i : Int) = hearL (lookB (s.dev k).dbs (i : Int)) (wOwn st) ∧
    (lookB ((rnd s).dev k).dbs (i : Int) = some ("to be noted" : Str) → (rnd s).bs[i]? = some (("taken" : Str), some (k : Int))) ∧ (lookB ((rnd s).dev k).dbs (i : Int) ≠ some ("to be noted" : Str) → (rnd s).bs[i]? = some (st, some (k : Int))) := by
  have hno := stOk_some (p.st i _ hb) rfl
  have e1 : lookB ((rnd s).dev k).dbs (i : Int) = hearL (lookB (s.dev k).dbs (i : Int)) (wOwn st) := by
    rw [rnd_dev hk, dv1_lk ho hb, wt_own hno]
  obtain ⟨st', g1, _, g3, g4⟩ := p2_own (ph1_pro p d s.n) (ph1_ok d s.n) (i := i) (k := k) (st := st) hk hb s.n (Nat.le_refl _)
  have eon : ((ph1 s s.n).dev k).on = true := by rw [ph1_dev hk, (dv1_eq s k).1]; exact ho
  refine ⟨e1, fun h => ?_, fun h => ?_⟩
  · have := g3 ⟨hk, eon, h⟩
    rw [this] at g1
    exact g1
  · have := g4 fun z => h z.2.2
    rw [this] at g1
    exact g1
/-- granted, wanted there: it rings -/
theorem rnd_grant {s : HS} (p : Pro s) (d : DOk s) {i k : Nat} (hk : k < s.n) (ho : (s.dev k).on = true) (hb : s.bs[i]? = some (("granted" : Str), some (k : Int))) (hl : lookB (s.dev k).dbs (i : Int) = some ("wanted" : Str)) :
    (rnd s).bs[i]? = some (("granted" : Str), some (k : Int)) ∧ (i : Int) ∈ ((rnd s).dev k).rung := by
  obtain ⟨e1, _, e3⟩ := rnd_own p d hk ho hb
  have e : hearL (some ("wanted" : Str)) (wOwn "granted") = some ("ringing" : Str) := by decide +kernel
  rw [hl, e] at e1
  exact ⟨e3 (by rw [e1]; decide +kernel), (rnd_pro p d).1.ring k hk i e1⟩
theorem rnd_took {s : HS} (p : Pro s) (d : DOk s) {i k : Nat} {st : Str} (hk : k < s.n) (ho : (s.dev k).on = true) (hb : s.bs[i]? = some (st, some (k : Int))) (hl : lookB (s.dev k).dbs (i : Int) = some ("to be noted" : Str)) : (rnd s).bs[i]? = some (("taken" : Str), some (k : Int)) := by
  obtain ⟨e1, e2, e3⟩ := rnd_own p d hk ho hb
  rw [hl] at e1
  rcases p.st i _ hb with ⟨_, z⟩ | ⟨_, _, z⟩ | ⟨_, z⟩
  · cases z
  · simp only at z
    rcases z with rfl | rfl | rfl
    · have e : hearL (some ("to be noted" : Str)) (wOwn "granted") = some ("to be noted" : Str) := by decide +kernel
      rw [e] at e1
      exact e2 e1
    · have e : hearL (some ("to be noted" : Str)) (wOwn "taken") = some ("over" : Str) := by decide +kernel
      rw [e] at e1
      exact e3 (by rw [e1]; decide +kernel)
    · have e : hearL (some ("to be noted" : Str)) (wOwn "withdrawn") = some ("to be noted" : Str) := by decide +kernel
      rw [e] at e1
      exact e2 e1
  · cases z
theorem rnd_taken {s : HS} (p : Pro s) (d : DOk s) {i k : Nat} (hk : k < s.n) (hb : s.bs[i]? = some (("taken" : Str), some (k : Int))) : (rnd s).bs[i]? = some (("taken" : Str), some (k : Int)) := by
  obtain ⟨st', g1, _, g3, g4⟩ := p2_own (ph1_pro p d s.n) (ph1_ok d s.n) (i := i) (k := k) (st := "taken") hk hb s.n (Nat.le_refl _)
  by_cases c : k < s.n ∧ ((ph1 s s.n).dev k).on = true ∧ lookB ((ph1 s s.n).dev k).dbs (i : Int) = some ("to be noted" : Str)
  · rw [g3 c] at g1; exact g1
  · rw [g4 c] at g1; exact g1
theorem rnd_quiet {s : HS} (p : Pro s) (d : DOk s) {i k : Nat} {st : Str} {ow : Option Int} (hk : k < s.n) (ho : (s.dev k).on = true) (hb : (rnd s).bs[i]? = some (st, ow)) (hs : st = "taken" ∨ st = "withdrawn") : lookB ((rnd s).dev k).dbs (i : Int) ≠ some ("ringing" : Str) := fun h => by
  obtain ⟨p', d', _⟩ := rnd_pro p d
  have hi : i < s.bs.length := by rw [← rnd_len s]; exact (List.getElem?_eq_some_iff.mp hb).1
  obtain ⟨b, hb0⟩ : ∃ b, s.bs[i]? = some b := ⟨_, List.getElem?_eq_getElem hi⟩
  have h2 := h
  rw [rnd_dev hk, dv1_lk ho hb0] at h2
  have own0 : own s i k := by
    rcases hearL_ring h2 with z | ⟨z, _⟩
    · have := p.dev k hk _ _ z (.inl rfl)
      rw [Int.toNat_natCast] at this
      exact this
    · exact ⟨b.1, by rw [hb0, ← wordTo_grant z]⟩
  obtain ⟨st0, hb1⟩ := own0
  obtain ⟨e1, _, e3⟩ := rnd_own p d hk ho hb1
  have e4 := e3 (by rw [h]; decide +kernel)
  rw [hb] at e4
  cases e4
  rw [h] at e1
  rcases hs with rfl | rfl
  · rcases hearL_ring e1.symm with z | ⟨z, _⟩
    · rw [z] at e1; exact absurd e1 (by decide +kernel)
    · exact absurd z (by decide +kernel)
  · rcases hearL_ring e1.symm with z | ⟨z, _⟩
    · rw [z] at e1; exact absurd e1 (by decide +kernel)
    · exact absurd z (by decide +kernel)
theorem rnd_known {s : HS} (p : Pro s) (d : DOk s) {i k : Nat} (hk : k < s.n) (ho : (s.dev k).on = true) (o : own s i k) : ∃ l, lookB ((rnd s).dev k).dbs (i : Int) = some l ∧ l ≠ "wanted" := by
  obtain ⟨st, hb⟩ := o
  obtain ⟨e1, _, _⟩ := rnd_own p d hk ho hb
  rw [e1]
  unfold wOwn
  generalize lookB (s.dev k).dbs (i : Int) = l
  have no : ∀ {a b : Str} {P : Prop}, ¬ a = b → ¬ (a = b ∧ P) := fun h q => h q.1
  by_cases c1 : st = "withdrawn"
  · rw [if_pos c1]
    unfold hearL
    rw [if_neg (no (by decide +kernel)), if_neg (no (by decide +kernel))]
    by_cases c : l = some ("to be noted" : Str)
    · rw [if_neg (fun z => z.2 c), if_neg (by decide +kernel), c]
      exact ⟨_, rfl, by decide +kernel⟩
    · rw [if_pos ⟨rfl, c⟩]
      exact ⟨_, rfl, by decide +kernel⟩
  · rw [if_neg c1]
    by_cases c2 : st = "granted"
    · rw [if_pos c2]
      unfold hearL
      rw [if_neg (no (by decide +kernel))]
      by_cases c : l = none ∨ l = some ("wanted" : Str)
      · rw [if_pos ⟨rfl, c⟩]
        exact ⟨_, rfl, by decide +kernel⟩
      · rw [if_neg (fun z => c z.2), if_neg (no (by decide +kernel)), if_neg (by decide +kernel)]
        cases l with
        | none => exact absurd (.inl rfl) c
        | some x => exact ⟨x, rfl, fun z => c (.inr (by rw [z]))⟩
    · rw [if_neg c2]
      unfold hearL
      rw [if_neg (no (by decide +kernel)), if_neg (no (by decide +kernel)), if_neg (no (by decide +kernel)), if_pos rfl]
      exact ⟨_, rfl, by decide +kernel⟩
/-! what is open was told of by offers alone -/
def Opn (s : HS) : Prop := ∀ i : Nat, s.bs[i]? = some (("open" : Str), none) → (∀ k, k < s.n → lookB (s.dev k).dbs (i : Int) = none ∨ lookB (s.dev k).dbs (i : Int) = some ("wanted" : Str)) ∧ ∀ q ∈ s.road, q.bl = i → (∀ k, q.goal = some k → q.w = "offer") ∧ (q.goal = none → q.w = "want")
theorem new_opn {s : HS} (h : NewH s) : Opn s := fun i e => by rw [h.1] at e; cases e
theorem hearD_open {bs : List (Str × Option Int)} {w : Str} {dv : Int} {j i : Nat} (h : (hearD bs w dv j)[i]? = some (("open" : Str), none)) : bs[i]? = some (("open" : Str), none) := by
  by_cases e : j = i
  · subst e
    cases hb : bs[j]? with
    | none => unfold hearD at h; rw [hb] at h; simp only at h; rw [hb] at h; cases h
    | some b =>
      rw [hearD_at (st := b.1) (ow := b.2) hb] at h
      split at h
      · exact absurd (Prod.mk.inj (Option.some.inj h)).2 (by simp)
      · split at h
        · exact absurd (Prod.mk.inj (Option.some.inj h)).2 (by simp)
        · exact h
  · rw [hearD_ne e] at h; exact h
theorem heard_opn {s : HS} (o : Opn s) {q : Ltr} (hq : q ∈ s.road) : Opn (heard s q) := by
  unfold heard
  split
  · exact fun i e => o i (hearD_open e)
  · next g hg =>
    split
    · next c =>
      intro i e
      obtain ⟨h1, h2⟩ := o i e
      refine ⟨fun k hk => ?_, h2⟩
      show lookB (setDev s.dev g _ k).dbs _ = none ∨ lookB (setDev s.dev g _ k).dbs _ = _
      by_cases ek : k = g
      · subst ek
        rw [setDev_eq]
        simp only [hearV_lk]
        split
        · next ei =>
          have ei : q.bl = i := by omega
          rw [(h2 q hq ei).1 k hg]
          have := h1 k hk
          rw [← ei] at this
          rcases this with z | z
          · rw [z]; right; decide +kernel
          · rw [z]; right; decide +kernel
        · exact h1 k hk
      · rw [setDev_ne ek]; exact h1 k hk
    · exact o
theorem turn_opn {s s' : HS} {v : SV} (p : Pro s) (d : DOk s) (r : ∀ q ∈ s.road, okLtr s q) (o : Opn s) (t : TurnSt s s' v) : Opn s' := by
  cases t with
  | offer hl =>
    intro i e
    have e : (s.bs ++ [(("open" : Str), none)])[i]? = _ := e
    by_cases hi : i < s.bs.length
    · rw [List.getElem?_append_left hi] at e
      exact o i e
    · refine ⟨fun k hk => ?_, fun q hq e2 => ?_⟩
      · show lookB (s.dev k).dbs (i : Int) = none ∨ _
        cases e3 : lookB (s.dev k).dbs (i : Int) with
        | none => exact .inl rfl
        | some st =>
          have := (d k hk).rg _ (lookB_mem e3)
          simp only at this
          omega
      · have := (r q hq).2.2.1
        omega
  | on j hj on =>
    intro i e
    obtain ⟨h1, h2⟩ := o i e
    refine ⟨fun k hk => ?_, h2⟩
    show lookB (setDev s.dev j _ k).dbs _ = none ∨ lookB (setDev s.dev j _ k).dbs _ = _
    by_cases ek : k = j
    · subst ek; rw [setDev_eq]; exact h1 k hk
    · rw [setDev_ne ek]; exact h1 k hk
  | take j hj x ho hr =>
    intro i e
    obtain ⟨h1, h2⟩ := o i e
    refine ⟨fun k hk => ?_, h2⟩
    show lookB (setDev s.dev j _ k).dbs _ = none ∨ lookB (setDev s.dev j _ k).dbs _ = _
    by_cases ek : k = j
    · subst ek
      rw [setDev_eq]
      simp only [lookB_put]
      split
      · next ei =>
        have := h1 k hk
        rw [ei, hr] at this
        rcases this with z | z
        · cases z
        · exact absurd (Option.some.inj z) (by decide +kernel)
      · exact h1 k hk
    · rw [setDev_ne ek]; exact h1 k hk
  | withdraw x st ow hq =>
    intro i e
    refine o i ?_
    have e : (wdr s.bs x)[i]? = _ := e
    unfold wdr at e
    rw [hq] at e
    simp only at e
    split at e
    · exact e
    · by_cases c : x = i
      · subst c
        rw [List.getElem?_set_self (List.getElem?_eq_some_iff.mp hq).1] at e
        have z : ("withdrawn" : Str) = "open" := (Prod.mk.inj (Option.some.inj e)).1
        exact absurd z (by decide +kernel)
      · rw [List.getElem?_set_ne c] at e; exact e
  | post L hL hl =>
    intro i e
    obtain ⟨h1, h2⟩ := o i e
    refine ⟨h1, fun q hq ei => ?_⟩
    rcases List.mem_append.mp hq with hq | hq
    · exact h2 q hq ei
    · obtain ⟨ok, z⟩ := hL q hq
      rcases z with ⟨k, b, z1, z2, z3, z4⟩ | ⟨z1, z2, st, z3, z4⟩
      · refine ⟨fun _ _ => ?_, fun c => by rw [z1] at c; cases c⟩
        rw [ei, e] at z3
        cases z3
        rw [z4, wt_open]
      · refine ⟨fun _ c => (by rw [z1] at c; cases c), fun _ => ?_⟩
        rcases z4 with ⟨z4, _⟩ | ⟨_, z4⟩
        · exact z4
        · have := h1 q.dv ok.2.1
          rw [← ei, z3, z4] at this
          rcases this with y | y
          · cases y
          · exact absurd (Option.some.inj y) (by decide +kernel)
  | hear s' hs =>
    cases hs with
    | stay => exact o
    | go q hq s1 h1 => rcases h1 with rfl | rfl; exact o; exact heard_opn o hq
    | lose q hq s1 h1 R L hL hl =>
      have hr : s1.road = s.road := by
        rcases h1 with rfl | rfl
        · rfl
        · unfold heard
          split
          · rfl
          · split <;> rfl
      have h2 : Opn s1 := by rcases h1 with rfl | rfl; exact o; exact heard_opn o hq
      intro i e
      obtain ⟨g1, g2⟩ := h2 i e
      exact ⟨g1, fun x hx => g2 x (by rw [hr]; exact hL x hx)⟩
end
end Hn

set_option Elab.async false
set_option linter.all false
set_option maxRecDepth 100000
set_option maxHeartbeats 8000000
namespace Hn
open PySem PySem.Spec PyProof.Rows L2 Sy Lm
section
variable {P : Program} {w : World} {K : PySem.W.Frag} {mg : Str → Option Value} {base : Heap}
local macro_rules | `(tactic| walk_at "r") => `(tactic| (conv => whnf))
local macro_rules | `(tactic| walk_at "sp") => `(tactic| (first | rfl | contradiction | exact (False.elim ‹_›)))
local macro_rules | `(tactic| walk_at "len") => `(tactic| (exact Nat.le_trans (show _ ≤ 100000 by first | (simp; done) | (rw [rngS_length]; decide)) (by decide)))
local macro_rules | `(tactic| walk_at "f") => `(tactic| (refine Br_i (fun hb => Bool.noConfusion (show false = true from hb)) (fun _ => ?_)))
local macro_rules | `(tactic| walk_at "t") => `(tactic| (refine Br_i (fun _ => ?_) (fun hb => Bool.noConfusion (show true = false from hb))))
local macro_rules | `(tactic| walk_at "le") => `(tactic| first | exact Le.refl _ | (refine Le.put ?_; walk_at "le") | (refine Le.new ?_ (by assumption); walk_at "le"))
theorem inS_ints (i : Int) : ∀ ns : List Int, inS (.int i) (ns.map SV.int) = decide (i ∈ ns)
  | [] => by simp [inS]
  | n :: r => by
    have ih := inS_ints i r
    unfold inS at ih ⊢
    rw [List.map_cons, List.any_cons, ih]
    show ((n == i) || decide (i ∈ r)) = decide (i ∈ n :: r)
    by_cases e : n = i
    · subst e; simp
    · have e2 : ¬ i = n := fun z => e z.symm
      simp [e, e2]
theorem flat_ints : ∀ ns : List Int, (ns.map SV.int).all flatS = true
  | [] => rfl
  | _ :: r => by rw [List.map_cons, List.all_cons, flat_ints r]; rfl
theorem eqvA_ints : ∀ ns : List Int, PyData.eqvAll (ns.map PyData.int) (ns.map PyData.int) = true
  | [] => by simp [PyData.eqvAll]
  | n :: r => by
    have ih := eqvA_ints r
    simp only [List.map_cons, PyData.eqvAll, ih, Bool.and_true]
    simp [PyData.eqv]
theorem eqv_ints (ns : List Int) : PyData.eqv (.list (ns.map PyData.int)) (.list (ns.map PyData.int)) = true := by
  simp only [PyData.eqv]
  exact eqvA_ints ns
theorem uniq_lt : ∀ {xs ys : List Int}, xs.Pairwise (· < ·) → ys.Pairwise (· < ·) → (∀ k, k ∈ xs ↔ k ∈ ys) → xs = ys
  | [], [], _, _, _ => rfl
  | [], y :: _, _, _, h => by have := (h y).mpr List.mem_cons_self; cases this
  | x :: _, [], _, _, h => by have := (h x).mp List.mem_cons_self; cases this
  | x :: xs, y :: ys, hx, hy, h => by
    obtain ⟨x1, x2⟩ := List.pairwise_cons.mp hx
    obtain ⟨y1, y2⟩ := List.pairwise_cons.mp hy
    have e : x = y := by
      have a := (h x).mp List.mem_cons_self
      have b := (h y).mpr List.mem_cons_self
      rcases List.mem_cons.mp a with a | a
      · exact a
      · rcases List.mem_cons.mp b with b | b
        · exact b.symm
        · have := x1 y b
          have := y1 x a
          omega
    subst e
    congr 1
    refine uniq_lt x2 y2 fun k => ⟨fun hk => ?_, fun hk => ?_⟩
    · have := (h k).mp (List.mem_cons_of_mem _ hk)
      rcases List.mem_cons.mp this with e | e
      · have := x1 k hk; omega
      · exact e
    · have := (h k).mpr (List.mem_cons_of_mem _ hk)
      rcases List.mem_cons.mp this with e | e
      · have := y1 k hk; omega
      · exact e
theorem among_lt {dbs : List (Int × Str)} (hn : (dbs.map (·.1)).Nodup) (st : Str) : (among dbs st).Pairwise (· < ·) := by
  have h1 := srtI_pw (dbs.map (·.1))
  have h2 : (srtI (dbs.map (·.1))).Nodup := (srtI_perm _).nodup_iff.mpr hn
  have h3 : (srtI (dbs.map (·.1))).Pairwise (· < ·) := (List.Pairwise.and h1 h2).imp fun q => by have := q.1; have := q.2; omega
  exact h3.filter _
/-- all of a house's cells -/
def Own (h : Addr) (s : HS) (x : Addr) : Prop := Foot h s x ∨ x = s.d ∨ x = s.al
theorem House.keep {m m' : Mem} {h : Addr} {s : HS} (D : House K m h s) (k : ∀ x o, Own h s x → m x = some o → m' x = some o) : House K m' h s :=
  ⟨k _ _ (.inl (.inl rfl)) D.h, ⟨k _ _ (.inr (.inl rfl)) D.desk.d, k _ _ (.inl (.inr (.inl rfl))) D.desk.b, D.desk.z, D.desk.n⟩, k _ _ (.inr (.inr rfl)) D.al, k _ _ (.inl (.inr (.inr (.inl rfl)))) D.ion, k _ _ (.inl (.inr (.inr (.inr (.inl rfl))))) D.rd,
    fun j hj => ⟨k _ _ (.inl (.inr (.inr (.inr (.inr ⟨j, hj, .inl rfl⟩))))) (D.dev j hj).p, k _ _ (.inl (.inr (.inr (.inr (.inr ⟨j, hj, .inr (.inl rfl)⟩))))) (D.dev j hj).kd, k _ _ (.inl (.inr (.inr (.inr (.inr ⟨j, hj, .inr (.inr rfl)⟩))))) (D.dev j hj).lr, (D.dev j hj).zk, (D.dev j hj).zr⟩, D.dok, D.bells, D.road, D.tag⟩
theorem own_has {m : Mem} {h : Addr} {s : HS} (D : House K m h s) {x : Addr} (f : Own h s x) : m x ≠ none := by
  rcases f with (rfl | rfl | rfl | rfl | ⟨k, hk, rfl | rfl | rfl⟩) | rfl | rfl
  · rw [D.h]; simp
  · rw [D.desk.b]; simp
  · rw [D.ion]; simp
  · rw [D.rd]; simp
  · rw [(D.dev k hk).p]; simp
  · rw [(D.dev k hk).kd]; simp
  · rw [(D.dev k hk).lr]; simp
  · rw [D.desk.d]; simp
  · rw [D.al]; simp
theorem Frm.outO {m m' : Mem} {h : Addr} {s s' : HS} (F : Frm m m' h s s') {x : Addr} {o : MO} (hx : m x = some o) (n : ¬ Own h s x) : ¬ Own h s' x := fun f => by
  rcases f with f | f | f
  · exact F.out hx (fun z => n (.inl z)) f
  · exact n (.inr (.inl (f.trans F.d)))
  · exact n (.inr (.inr (f.trans F.al)))
/-- what is no house's stays -/
def Kps (m m' : Mem) (h : Addr) (s : HS) : Prop := ∀ x o, m x = some o → ¬ Own h s x → m' x = some o
theorem Kps.refl (m : Mem) (h : Addr) (s : HS) : Kps m m h s := fun _ _ e _ => e
theorem Kps.le {m m1 m2 : Mem} {h : Addr} {s : HS} (k : Kps m m1 h s) (l : Le m1 m2) : Kps m m2 h s := fun x o e n => l _ _ (k x o e n)
theorem Kps.up {m m1 : Mem} {h : Addr} {s : HS} (k : Kps m m1 h s) {x : Addr} {o : MO} (f : Own h s x ∨ m x = none) : Kps m (up m1 x o) h s := fun y u e n => by
  rw [up_ne (fun z => f.elim (fun f => n (by rw [z]; exact f)) fun f => by rw [← z, e] at f; cases f)]
  exact k y u e n
theorem Kps.trans {m m1 m2 : Mem} {h : Addr} {s s1 : HS} (k : Kps m m1 h s) (k2 : Kps m1 m2 h s1) (o : ∀ x, Own h s1 x → Own h s x) : Kps m m2 h s := fun x u e n => k2 x u (k x u e n) fun f => n (o x f)
theorem own_dev {h : Addr} {s s1 : HS} (e1 : s1.b = s.b) (e2 : s1.ion = s.ion) (e3 : s1.rd = s.rd) (e4 : s1.n = s.n) (e5 : s1.d = s.d) (e6 : s1.al = s.al) (e7 : ∀ k, (s1.dev k).p = (s.dev k).p ∧ (s1.dev k).kd = (s.dev k).kd ∧ (s1.dev k).lr = (s.dev k).lr) (x : Addr) : Own h s1 x ↔ Own h s x := by
  unfold Own Foot
  rw [e1, e2, e3, e4, e5, e6]
  simp only [e7]
theorem ph1_ad (s : HS) (j k : Nat) : ((ph1 s j).dev k).p = (s.dev k).p ∧ ((ph1 s j).dev k).kd = (s.dev k).kd ∧ ((ph1 s j).dev k).lr = (s.dev k).lr := by
  by_cases h : k < j
  · rw [ph1_dev h]; exact (dv1_eq s k).2
  · rw [ph1_dev' h]; exact ⟨rfl, rfl, rfl⟩
theorem own_ph1 {h : Addr} {s : HS} {j : Nat} (x : Addr) : Own h (ph1 s j) x ↔ Own h s x := own_dev (s := s) (s1 := ph1 s j) rfl rfl rfl rfl rfl rfl (ph1_ad s j) x
theorem own_rnd {h : Addr} {s : HS} (x : Addr) : Own h (rnd s) x ↔ Own h s x := own_dev (s := s) (s1 := rnd s) rfl rfl rfl rfl rfl rfl (ph1_ad s s.n) x
theorem setDev_two {f : Nat → DevS} {j : Nat} {a b : DevS} : setDev (setDev f j a) j b = setDev f j b := by
  funext k
  by_cases e : k = j
  · subst e; rw [setDev_eq, setDev_eq]
  · rw [setDev_ne e, setDev_ne e, setDev_ne e]
/-- device j in the midst of its letters -/
def mid (s : HS) (j : Nat) (st : List (Int × Str) × List Int) : HS := { ph1 s j with dev := setDev (ph1 s j).dev j { s.dev j with dbs := st.1, rung := st.2 } }
theorem mid_dev (s : HS) (j : Nat) (st : List (Int × Str) × List Int) : (mid s j st).dev j = { s.dev j with dbs := st.1, rung := st.2 } := setDev_eq
theorem mid_0 (s : HS) (j : Nat) : mid s j ((s.dev j).dbs, (s.dev j).rung) = ph1 s j := by
  have e : setDev (ph1 s j).dev j { s.dev j with dbs := (s.dev j).dbs, rung := (s.dev j).rung } = (ph1 s j).dev := by
    funext k
    by_cases e : k = j
    · subst e; rw [setDev_eq, ph1_dev' (Nat.lt_irrefl _)]
    · rw [setDev_ne e]
  show { ph1 s j with dev := setDev (ph1 s j).dev j { s.dev j with dbs := (s.dev j).dbs, rung := (s.dev j).rung } } = ph1 s j
  rw [e]
theorem mid_z {s : HS} {j : Nat} {st : List (Int × Str) × List Int} (h : { s.dev j with dbs := st.1, rung := st.2 } = dv1 s j) : mid s j st = ph1 s (j + 1) := by
  have e : setDev (ph1 s j).dev j { s.dev j with dbs := st.1, rung := st.2 } = (ph1 s (j + 1)).dev := by
    funext k
    by_cases e : k = j
    · subst e; rw [setDev_eq, ph1_dev (by omega), h]
    · rw [setDev_ne e]
      by_cases hk : k < j
      · rw [ph1_dev hk, ph1_dev (by omega)]
      · rw [ph1_dev' hk, ph1_dev' (by omega)]
  show { ph1 s j with dev := setDev (ph1 s j).dev j { s.dev j with dbs := st.1, rung := st.2 } } = ph1 s (j + 1)
  rw [e]
  rfl
theorem mid_ad (s : HS) (j : Nat) (st : List (Int × Str) × List Int) (k : Nat) : ((mid s j st).dev k).p = (s.dev k).p ∧ ((mid s j st).dev k).kd = (s.dev k).kd ∧ ((mid s j st).dev k).lr = (s.dev k).lr := by
  show (setDev (ph1 s j).dev j _ k).p = _ ∧ (setDev (ph1 s j).dev j _ k).kd = _ ∧ (setDev (ph1 s j).dev j _ k).lr = _
  by_cases e : k = j
  · subst e; rw [setDev_eq]; exact ⟨rfl, rfl, rfl⟩
  · rw [setDev_ne e]; exact ph1_ad s j k
theorem own_mid {h : Addr} {s : HS} {j : Nat} {st : List (Int × Str) × List Int} (x : Addr) : Own h (mid s j st) x ↔ Own h s x := own_dev (s := s) (s1 := mid s j st) rfl rfl rfl rfl rfl rfl (mid_ad s j st) x
theorem devs_get {s : HS} {j : Nat} {x : SV} (h : (devsP s)[j]? = some x) : j < s.n ∧ x = .ref (s.dev j).p := by
  unfold devsP at h
  rw [List.getElem?_map] at h
  obtain ⟨k, h1, rfl⟩ := Option.map_eq_some_iff.mp h
  have h2 := (List.getElem?_eq_some_iff.mp h1).1
  rw [List.length_range] at h2
  rw [List.getElem?_range h2] at h1
  cases h1
  exact ⟨h2, rfl⟩
theorem lets_cons {dev : Int} {bs : List (Str × Option Int)} {i : Nat} {x : SV} {r : List SV} (h : lets dev i (bs.drop i) = x :: r) : ∃ b, bs[i]? = some b ∧ bs.drop i = b :: bs.drop (i + 1) ∧ x = .tup [.str (wordTo dev b), .int dev, .int i] ∧ r = lets dev ((i + 1 : Nat) : Int) (bs.drop (i + 1)) := by
  cases e : bs.drop i with
  | nil => rw [e] at h; cases h
  | cons b r' =>
    obtain ⟨h1, h2⟩ := drop_cons e
    rw [e, lets] at h
    obtain ⟨g1, g2⟩ := List.cons.inj h
    exact ⟨b, h1, by rw [h2], g1.symm, by rw [h2, ← g2]; push_cast; rfl⟩
theorem dlets_sv {k : Nat} {on : Bool} {dbs : List (Int × Str)} (h : ∀ q ∈ dbs, 0 ≤ q.1) : devLets k on dbs = (dltrs k on dbs).map Ltr.sv := by
  have e : ∀ st (w : Str), (among dbs st).map (fun i => SV.tup [.str w, .int (k : Int), .int i]) = ((among dbs st).map (dl1 k w)).map Ltr.sv := fun st w => by
    rw [List.map_map]
    refine List.map_congr_left fun i hi => ?_
    obtain ⟨q, h1, h2⟩ := List.mem_map.mp (among_mem hi)
    have := h q h1
    have e : ((i.toNat : Nat) : Int) = i := by omega
    show SV.tup [.str w, .int (k : Int), .int i] = SV.tup [.str w, .int (k : Int), .int (i.toNat : Nat)]
    rw [e]
  unfold devLets dltrs
  split
  · rw [List.map_append, e, e]
  · rfl
def spRound (K : PySem.W.Frag) : SpS := fun vs m _ S => ∃ h s, vs = [.ref h] ∧ House K m h s ∧ ∀ m' p, House K m' h (rnd s) → Kps m m' h s → m' p = some (.lst []) → m p = none → S (.ref p) m'
theorem ok_law_round (T : Tx K mg) : FnOk P w K mg base CX0 6 (He.ga K "_law_round") T.fd__law_round ["_law_h"] (lift K (spRound K)) := by
  have G_Desk_hear := ok_Desk_hear (P := P) (w := w) (base := base) T
  have b_Desk_hear := b_Desk_hear T
  have G_Desk_letters := fn_calm (ok_Desk_letters (P := P) (w := w) (base := base) T)
  have b_Desk_letters := b_Desk_letters T
  have G_Device_hear := ok_Device_hear (P := P) (w := w) (base := base) T
  have b_Device_hear := b_Device_hear T
  have G_Device_letters := ok_Device_letters (P := P) (w := w) (base := base) T
  have b_Device_letters := b_Device_letters T
  refine fn_sy T.F__law_round sc_law_round (fun svs m SX Sv h => ?_) (fun cdv A outer s H E hr => ⟨_, _, (gss_cons (gs_set (i := 1) sc_law_round.nd rfl (.inl rfl) (ge_lst ga_nil))
      (gss_cons (gs_for PassesOwn.never rfl (gi_range1 (by rfl) T.z_range (ga_cons (ge_callB (cr_len K) sim_len (by rfl) T.z_len (by decide +kernel) (ga_cons (ge_dget hr.u1 (gv 0) ge_str) ga_nil)) ga_nil)) (gg_name (i := 2) sc_law_round.nd rfl (.inl rfl))
      (gss_one (gs_for PassesOwn.never rfl (gi_seq (ge_meth T.c_Desk T.M_Desk_letters G_Desk_letters (hr.mono (by decide)) b_Desk_letters .nil (fun _ => .nil) pass0 (ge_dget hr.u1 (gv 0) ge_str) (ga_cons (gv 2) ga_nil))) (gg_name (i := 3) sc_law_round.nd rfl (.inl rfl))
      (gss_one (gs_expr (ge_bm PySem.F.plainAttrs_list PySem.F.slot_list_append PySem.F.type_list_append mt_append simk_L sim_append (gv 1) (ga_cons (ge_meth T.c_Device T.M_Device_hear G_Device_hear (hr.mono (by decide)) b_Device_hear .nil (fun _ => .nil) pass0 (ge_ix (ix_G K) sim_ix (ge_dget hr.u1 (gv 0) ge_str) (gv 2) (fun _ _ => rfl)) (ga_cons (gv 3) ga_nil)) ga_nil)))))))
      (gss_cons (gs_for PassesOwn.never rfl (gi_seq (ge_dget hr.u1 (gv 0) ge_str)) (gg_name (i := 4) sc_law_round.nd rfl (.inl rfl))
      (gss_one (gs_for PassesOwn.never rfl (gi_seq (ge_meth0 T.c_Device T.M_Device_letters G_Device_letters (hr.mono (by decide)) b_Device_letters .nil (fun _ => .nil) pass0 (gv 4))) (gg_name (i := 3) sc_law_round.nd rfl (.inl rfl))
      (gss_one (gs_expr (ge_bm PySem.F.plainAttrs_list PySem.F.slot_list_append PySem.F.type_list_append mt_append simk_L sim_append (gv 1) (ga_cons (ge_meth T.c_Desk T.M_Desk_hear G_Desk_hear (hr.mono (by decide)) b_Desk_hear .nil (fun _ => .nil) pass0 (ge_dget hr.u1 (gv 0) ge_str) (ga_cons (gv 3) ga_nil)) ga_nil)))))))
      (gss_one (gs_ret (ge_lc (own := [("_law_one", 5)]) (by rfl) sc_law_round.nd (gi_seq (gv 1)) (blkOk_by (own := [("_law_one", 5)]) (N := ["_law_h", "_law_told", "_law_k", "_law_letter", "_law_device", "_law_one"]) (sc := (defScope s_law_round)) (by decide +kernel)) (fun _ _ _ _ _ => (gg_name (i := 5) sc_law_round.nd rfl (.inl rfl))) (wp_name (by decide)) (fun _ _ _ _ _ => (gts_one (gt_cmp op_notN sim_notN (gv 5) ge_non (nomark _)))) (fun _ _ _ _ _ => (gv 5)))))))), fun svs m SX Sv h => ?_⟩)
  · obtain ⟨h, s, rfl, _⟩ := h
    rfl
  · obtain ⟨h, s, rfl, D, q⟩ := h
    have hn := D.desk.n
    have hbl := D.bells
    have hln : (devsP s).length = s.n := by unfold devsP; rw [List.length_map, List.length_range]
    walk_at "r"
    refine ⟨by walk_at "len", fun pt hpt => ?_⟩
    have npt : ¬ Own h s pt := fun f => own_has D f hpt
    walk_at "r"
    refine ⟨_, _, _, kp D.h hpt, rfl, h_all s, ?_⟩
    walk_at "r"
    refine ⟨_, kp D.al hpt, ?_⟩
    walk_at "r"
    rw [hln]
    refine ⟨⟨by omega, by omega⟩, ?_⟩
    refine for_inv (fun r δ m' => ∃ (j c : Nat) (a2 a3 a4 a5 : Option SV), r = rngS j (s.n - j) ∧ j ≤ s.n ∧ δ = [some (.ref h), some (.ref pt), a2, a3, a4, a5] ∧ House K m' h (ph1 s j) ∧ Kps m m' h s ∧ m' pt = some (.lst (List.replicate c .non)) ∧ c ≤ 64 * j) ?_ (fun x r δ m' hI => ?_) (fun δ m' hI => ?_)
    · refine ⟨0, 0, _, _, _, _, (by rw [Nat.sub_zero, Int.toNat_natCast]; rfl), Nat.zero_le _, rfl, ?_, (Kps.refl m h s).le (.new (.refl _) hpt), up_same, Nat.le_refl _⟩
      have e : ph1 s 0 = s := by
        show { s with dev := fun k => if k < 0 then dv1 s k else s.dev k } = s
        have e : (fun k => if k < 0 then dv1 s k else s.dev k) = s.dev := by funext k; rw [if_neg (Nat.not_lt_zero _)]
        rw [e]
      rw [e]
      exact D.le (.new (.refl _) hpt)
    · obtain ⟨j, c, a2, a3, a4, a5, hr, hj, rfl, D1, k1, et, hc⟩ := hI
      have hj : j < s.n := by
        by_cases e : j < s.n
        · exact e
        · rw [show s.n - j = 0 by omega] at hr; cases hr
      rw [show s.n - j = (s.n - (j + 1)) + 1 by omega] at hr
      obtain ⟨rfl, rfl⟩ := List.cons.inj hr
      refine ⟨trivial, ?_⟩
      walk_at "r"
      refine ⟨_, _, _, D1.h, rfl, h_desk _, ?_⟩
      walk_at "r"
      refine ⟨_, D1.desk.d, desk_no (by decide +kernel) (by decide +kernel), ?_⟩
      walk_at "r"
      refine ⟨_, _, _, s.bs, _, rfl, D1.desk, ⟨_, rfl⟩, fun dev e d0 d1 pl hpl => ?_, fun hf => ?_⟩
      rotate_left
      · rw [wh_of' (by omega) (by show (j : Int) ≤ (s.n : Int) - 1; omega)] at hf
        cases hf
      obtain rfl : (j : Int) = dev := SV.int.inj e
      walk_at "r"
      have npl : pl ≠ pt := fun z => by rw [z, et] at hpl; cases hpl
      have nol : ¬ Own h s pl := fun f => own_has D1 ((own_ph1 pl).mpr f) hpl
      refine ⟨_, up_same, ?_⟩
      refine for_inv (fun r2 δ m2 => ∃ (i c2 : Nat) (st : List (Int × Str) × List Int) (b3 : Option SV), r2 = lets j i (s.bs.drop i) ∧ i ≤ s.bs.length ∧ δ = [some (.ref h), some (.ref pt), some (.int (j : Int)), b3, a4, a5] ∧ House K m2 h (mid s j st) ∧ Kps m m2 h s ∧ m2 pt = some (.lst (List.replicate c2 .non)) ∧ m2 pl = some (.lst (lets j 0 s.bs)) ∧ c2 ≤ 64 * j + i ∧ ((s.dev j).on = true → devAll j (s.bs.drop i) i st = devAll j s.bs 0 ((s.dev j).dbs, (s.dev j).rung)) ∧ (¬ (s.dev j).on = true → st = ((s.dev j).dbs, (s.dev j).rung))) ?_ (fun y r2 δ m2 hI => ?_) (fun δ m2 hI => ?_)
      · refine ⟨0, c, ((s.dev j).dbs, (s.dev j).rung), _, rfl, Nat.zero_le _, rfl, ?_, k1.le (.new (.refl _) hpl), kp et hpl, up_same, hc, fun _ => rfl, fun _ => rfl⟩
        rw [mid_0]
        exact D1.le (.new (.refl _) hpl)
      · obtain ⟨i, c2, st, b3, hr2, hi, rfl, D2, k2, et2, el2, hc2, hon, hoff⟩ := hI
        obtain ⟨bb, hbb, hdr, rfl, rfl⟩ := lets_cons hr2.symm
        have hil := (List.getElem?_eq_some_iff.mp hbb).1
        have Dj := D2.dev j hj
        refine ⟨el2, ?_⟩
        walk_at "r"
        refine ⟨⟨_, et2⟩, ?_⟩
        walk_at "r"
        refine ⟨_, _, _, D2.h, rfl, h_all _, ?_⟩
        walk_at "r"
        refine ⟨_, _, D2.al, devs_at _ hj, ?_⟩
        walk_at "r"
        refine ⟨_, Dj.p, dev_no (by decide +kernel) (by decide +kernel) (by decide +kernel) (by decide +kernel), ?_⟩
        walk_at "r"
        refine ⟨_, _, _, _, _, _, _, wordTo j bb, (j : Int), (i : Int), rfl, Dj, ?_⟩
        have npn1 : (s.dev j).kd ≠ pt := fun z => npt (by rw [← z]; exact .inl (.inr (.inr (.inr (.inr ⟨j, hj, .inr (.inl rfl)⟩)))))
        have npn2 : (s.dev j).lr ≠ pt := fun z => npt (by rw [← z]; exact .inl (.inr (.inr (.inr (.inr ⟨j, hj, .inr (.inr rfl)⟩)))))
        have npl1 : (s.dev j).kd ≠ pl := fun z => nol (by rw [← z]; exact .inl (.inr (.inr (.inr (.inr ⟨j, hj, .inr (.inl rfl)⟩)))))
        have npl2 : (s.dev j).lr ≠ pl := fun z => nol (by rw [← z]; exact .inl (.inr (.inr (.inr (.inr ⟨j, hj, .inr (.inr rfl)⟩)))))
        have lc : (List.replicate c2 SV.non).length < sizeLine := Nat.lt_of_lt_of_le (show _ < 1000 by rw [List.length_replicate]; omega) (by decide)
        have er : List.replicate c2 SV.non ++ [.non] = List.replicate (c2 + 1) .non := by rw [List.replicate_succ']
        have dj := D2.dok j hj
        rw [mid_dev] at dj
        have ekd : ((mid s j st).dev j).kd = (s.dev j).kd := by rw [mid_dev]
        have elr : ((mid s j st).dev j).lr = (s.dev j).lr := by rw [mid_dev]
        rw [mid_dev]
        by_cases ho : (s.dev j).on = true
        · rw [if_pos ⟨ho, rfl⟩]
          have D3 := D2.setD hj (hearV st.1 st.2 (wordTo j bb) i).1 (hearV st.1 st.2 (wordTo j bb) i).2 (dj.hear (by omega) (by show (i : Int) < s.bs.length; omega))
          rw [ekd, elr] at D3
          have e3 : { mid s j st with dev := setDev (mid s j st).dev j { (mid s j st).dev j with dbs := (hearV st.1 st.2 (wordTo j bb) i).1, rung := (hearV st.1 st.2 (wordTo j bb) i).2 } } = mid s j (hearV st.1 st.2 (wordTo j bb) i) := by
            rw [mid_dev]
            unfold mid
            simp only
            rw [setDev_two]
          rw [e3] at D3
          unfold hearM
          simp only
          have k3 := (k2.up (x := (s.dev j).kd) (o := .dK ((hearV st.1 st.2 (wordTo j bb) i).1.map dkE)) (.inl (.inl (.inr (.inr (.inr (.inr ⟨j, hj, .inr (.inl rfl)⟩))))))).up (x := (s.dev j).lr) (o := .lst ((hearV st.1 st.2 (wordTo j bb) i).2.map .int)) (.inl (.inl (.inr (.inr (.inr (.inr ⟨j, hj, .inr (.inr rfl)⟩))))))
          have et3 := ((up_ne (o := .lst ((hearV st.1 st.2 (wordTo j bb) i).2.map .int)) (Ne.symm npn2)).trans (up_ne (o := .dK ((hearV st.1 st.2 (wordTo j bb) i).1.map dkE)) (Ne.symm npn1))).trans et2
          have el3 := ((up_ne (o := .lst ((hearV st.1 st.2 (wordTo j bb) i).2.map .int)) (Ne.symm npl2)).trans (up_ne (o := .dK ((hearV st.1 st.2 (wordTo j bb) i).1.map dkE)) (Ne.symm npl1))).trans el2
          generalize up (up m2 (s.dev j).kd _) (s.dev j).lr _ = m3 at D3 k3 et3 el3 ⊢
          walk_at "r"
          refine ⟨_, et3, lc, ?_⟩
          rw [er]
          refine .of ⟨i + 1, c2 + 1, _, _, rfl, by omega, rfl, D3.keep fun x o f e => (up_ne fun z => npt (by rw [← z]; exact (own_mid x).mp f)).trans e, k3.up (.inr hpt), up_same, (up_ne npl).trans el3, by omega, fun z => ?_, fun z => absurd ho z⟩
          have := hon z
          rw [hdr, devAll] at this
          exact this
        · rw [if_neg (fun z => ho z.1)]
          walk_at "r"
          refine ⟨_, et2, lc, ?_⟩
          rw [er]
          exact .of ⟨i + 1, c2 + 1, st, _, rfl, by omega, rfl, D2.keep fun x o f e => (up_ne fun z => npt (by rw [← z]; exact (own_mid x).mp f)).trans e, k2.up (.inr hpt), up_same, (up_ne npl).trans el2, by omega, fun z => absurd z ho, hoff⟩
      · obtain ⟨i, c2, st, b3, hr2, hi, rfl, D2, k2, et2, el2, hc2, hon, hoff⟩ := hI
        have ei : s.bs.drop i = [] := by
          cases e : s.bs.drop i with
          | nil => rfl
          | cons b r => rw [e] at hr2; cases hr2
        refine ⟨el2, ?_⟩
        have em : mid s j st = ph1 s (j + 1) := mid_z (by
          by_cases ho : (s.dev j).on = true
          · have := hon ho
            rw [ei, devAll] at this
            rw [this, dv1_on ho]
          · rw [hoff ho, dv1_off ho])
        rw [em] at D2
        exact .of ⟨j + 1, c2, _, _, _, _, rfl, by omega, rfl, D2, k2, et2, by omega⟩
    · obtain ⟨j, c, a2, a3, a4, a5, hr, hj, rfl, D1, k1, et, hc⟩ := hI
      have ej : j = s.n := by
        by_cases e : j < s.n
        · rw [show s.n - j = (s.n - (j + 1)) + 1 by omega] at hr; cases hr
        · omega
      subst ej
      refine ⟨trivial, ?_⟩
      walk_at "r"
      refine ⟨_, _, _, D1.h, rfl, h_all _, ?_⟩
      walk_at "r"
      have edp : ∀ s2 : HS, s2.n = s.n → (∀ k, (s2.dev k).p = (s.dev k).p) → devsP s2 = devsP s := fun s2 e1 e2 => by
        unfold devsP
        rw [e1]
        exact List.map_congr_left fun k _ => by rw [e2]
      refine ⟨_, D1.al, ?_⟩
      rw [edp (ph1 s s.n) rfl fun k => (ph1_ad s s.n k).1]
      generalize hs1 : ph1 s s.n = s1 at D1
      have en : s1.n = s.n := by rw [← hs1]; rfl
      have ebs : s1.bs = s.bs := by rw [← hs1]; rfl
      have eown : ∀ x, Own h s1 x ↔ Own h s x := fun x => by rw [← hs1]; exact own_ph1 x
      have ep : ∀ k, (s1.dev k).p = (s.dev k).p := fun k => by rw [← hs1]; exact (ph1_ad s s.n k).1
      refine for_inv (fun r δ m' => ∃ (j c : Nat) (a2 a3 a4 a5 : Option SV), r = (devsP s).drop j ∧ j ≤ s.n ∧ δ = [some (.ref h), some (.ref pt), a2, a3, a4, a5] ∧ House K m' h (ph2 s1 j) ∧ Kps m m' h s ∧ m' pt = some (.lst (List.replicate c .non)) ∧ c ≤ 256 + 128 * j) ⟨0, c, _, _, _, _, rfl, Nat.zero_le _, rfl, D1, k1, et, by omega⟩ (fun x r δ m' hI => ?_) (fun δ m' hI => ?_)
      · obtain ⟨j, c, a2, a3, a4, a5, hr, hj, rfl, D2, k2, et2, hc2⟩ := hI
        obtain ⟨hx, hr2⟩ := drop_cons hr.symm
        obtain ⟨hj, rfl⟩ := devs_get hx
        have hj1 : j < (ph2 s1 j).n := by show j < s1.n; omega
        have Dj := D2.dev j hj1
        have oj := D2.dok j hj1
        have eal : devsP (ph2 s1 j) = devsP s := edp _ en ep
        refine ⟨by rw [← eal]; exact D2.al, ?_⟩
        walk_at "r"
        have epj : (s.dev j).p = ((ph2 s1 j).dev j).p := (ep j).symm
        rw [epj]
        refine ⟨_, Dj.p, dev_no (by decide +kernel) (by decide +kernel) (by decide +kernel) (by decide +kernel), ?_⟩
        walk_at "r"
        refine ⟨_, _, _, _, _, _, _, rfl, Dj, fun pl hpl => ?_⟩
        have hk0 : ∀ q ∈ (s1.dev j).dbs, 0 ≤ q.1 := fun q hq => (oj.rg q hq).1
        have hL : devLets (j : Int) ((ph2 s1 j).dev j).on ((ph2 s1 j).dev j).dbs = (dltrs j (s1.dev j).on (s1.dev j).dbs).map Ltr.sv := dlets_sv hk0
        have hLm := fun {q} => dltr_mem (k := j) (on := (s1.dev j).on) (q := q) hk0
        have hLb : ∀ q ∈ dltrs j (s1.dev j).on (s1.dev j).dbs, q.bl < s.bs.length := fun q hq => by
          obtain ⟨_, _, _, hw⟩ := hLm.mp hq
          have key : ∀ st, lookB (s1.dev j).dbs (q.bl : Int) = some st → q.bl < s.bs.length := fun st e => by
            have z := (oj.rg _ (lookB_mem e)).2
            have z2 : ((ph2 s1 j).bs.length : Int) = (s.bs.length : Int) := by
              show (((deskTo s1 j).length : Nat) : Int) = _
              rw [deskTo_len, ebs]
            simp only at z
            omega
          rcases hw with ⟨_, z⟩ | ⟨_, z⟩
          · exact key _ z
          · exact key _ z
        have hLl : (dltrs j (s1.dev j).on (s1.dev j).dbs).length ≤ 128 := dltrs_len Dj.zk
        rw [hL]
        generalize hLz : dltrs j (s1.dev j).on (s1.dev j).dbs = L at hLb hLl ⊢
        have npl : pl ≠ pt := fun z => by rw [z, et2] at hpl; cases hpl
        have eo2 : ∀ (s2 : HS) x, (∃ b, s2 = { s1 with bs := b }) → (Own h s2 x ↔ Own h s x) := fun s2 x ⟨b, e⟩ => by subst e; exact eown x
        have nol : ¬ Own h s pl := fun f => own_has D2 ((eo2 _ pl ⟨_, rfl⟩).mpr f) hpl
        have eb : s1.b = s.b := by rw [← hs1]; rfl
        walk_at "r"
        refine ⟨_, up_same, ?_⟩
        refine for_inv (fun r2 δ m2 => ∃ (L' : List Ltr) (bs' : List (Str × Option Int)) (c2 : Nat) (b3 : Option SV), r2 = L'.map Ltr.sv ∧ (∀ q ∈ L', q.bl < s.bs.length) ∧ δ = [some (.ref h), some (.ref pt), a2, b3, some (.ref (s1.dev j).p), a5] ∧ House K m2 h { s1 with bs := bs' } ∧ bs'.length = s.bs.length ∧ deskAll bs' L' = deskTo s1 (j + 1) ∧ Kps m m2 h s ∧ m2 pt = some (.lst (List.replicate c2 .non)) ∧ m2 pl = some (.lst (L.map Ltr.sv)) ∧ c2 + L'.length ≤ 256 + 128 * (j + 1)) ?_ (fun y r2 δ m2 hI => ?_) (fun δ m2 hI => ?_)
        · refine ⟨L, deskTo s1 j, c, _, rfl, hLb, rfl, D2.le (.new (.refl _) hpl), by rw [deskTo_len, ebs], by rw [deskTo, hLz], k2.le (.new (.refl _) hpl), kp et2 hpl, up_same, by omega⟩
        · obtain ⟨L', bs', c2, b3, hr3, hb3, rfl, D3, hl3, hd3, k3, et3, el3, hc3⟩ := hI
          cases L' with
          | nil => cases hr3
          | cons q0 L' =>
          obtain ⟨rfl, rfl⟩ := List.cons.inj hr3
          refine ⟨el3, ?_⟩
          walk_at "r"
          refine ⟨⟨_, et3⟩, ?_⟩
          walk_at "r"
          refine ⟨_, _, _, D3.h, rfl, h_desk _, ?_⟩
          walk_at "r"
          refine ⟨_, D3.desk.d, desk_no (by decide +kernel) (by decide +kernel), ?_⟩
          walk_at "r"
          refine ⟨_, s1.b, _, bs', q0.w, q0.dv, q0.bl, rfl, D3.desk, by rw [hl3]; exact hb3 q0 List.mem_cons_self, ?_⟩
          have D4 := D3.setB (hearD bs' q0.w q0.dv q0.bl) (hearD_len _ _ _ _)
          have npb : s1.b ≠ pt := fun z => npt (by rw [← z, eb]; exact .inl (.inr (.inl rfl)))
          have nlb : s1.b ≠ pl := fun z => nol (by rw [← z, eb]; exact .inl (.inr (.inl rfl)))
          have k4 := k3.up (x := s1.b) (o := .lst ((hearD bs' q0.w q0.dv q0.bl).map bellV)) (.inl (by rw [eb]; exact .inl (.inr (.inl rfl))))
          have et4 := (up_ne (o := .lst ((hearD bs' q0.w q0.dv q0.bl).map bellV)) (Ne.symm npb)).trans et3
          have el4 := (up_ne (o := .lst ((hearD bs' q0.w q0.dv q0.bl).map bellV)) (Ne.symm nlb)).trans el3
          have D5 : House K (up m2 s1.b (.lst ((hearD bs' q0.w q0.dv q0.bl).map bellV))) h { s1 with bs := hearD bs' q0.w q0.dv q0.bl } := D4
          generalize up m2 s1.b _ = m4 at D5 k4 et4 el4 ⊢
          rw [List.length_cons] at hc3
          walk_at "r"
          refine ⟨_, et4, Nat.lt_of_lt_of_le (show _ < 1000 by rw [List.length_replicate]; omega) (by decide), ?_⟩
          have er : List.replicate c2 SV.non ++ [.non] = List.replicate (c2 + 1) .non := by rw [List.replicate_succ']
          rw [er]
          exact .of ⟨L', hearD bs' q0.w q0.dv q0.bl, c2 + 1, _, rfl, fun x hx => hb3 x (List.mem_cons_of_mem _ hx), rfl, D5.keep fun x o f e => (up_ne fun z => npt (by rw [← z]; exact (eo2 _ x ⟨_, rfl⟩).mp f)).trans e, by rw [hearD_len, hl3], hd3, k4.up (.inr hpt), up_same, (up_ne npl).trans el4, by omega⟩
        · obtain ⟨L', bs', c2, b3, hr3, hb3, rfl, D3, hl3, hd3, k3, et3, el3, hc3⟩ := hI
          have eL : L' = [] := by cases L' with | nil => rfl | cons _ _ => cases hr3
          subst eL
          refine ⟨el3, ?_⟩
          have hd3 : bs' = deskTo s1 (j + 1) := hd3
          subst hd3
          simp at hc3
          exact .of ⟨j + 1, c2, _, _, _, _, hr2.symm, by omega, rfl, D3, k3, et3, by omega⟩
      · obtain ⟨j, c, a2, a3, a4, a5, hr, hj, rfl, D2, k2, et2, hc2⟩ := hI
        have ej : j = s.n := by
          have := congrArg List.length hr
          rw [List.length_drop, hln, List.length_nil] at this
          omega
        subst ej
        refine ⟨by rw [← edp (ph2 s1 s.n) en ep]; exact D2.al, ?_⟩
        walk_at "r"
        refine ⟨_, et2, line_le (by rw [List.length_replicate]; omega), fun p hp => ?_⟩
        refine lc_filt (fun _ => false) id (fun acc => kp et2 hp) (fun y hy acc K1 K0 _ h0 => ?_) ?_
        · obtain rfl := List.eq_of_mem_replicate hy
          walk_at "r"
          walk_at "f"
          exact h0 _ (.refl _) rfl
        have ez : ((List.replicate c SV.non).filter (fun _ => false)).map id = [] := by simp
        rw [ez]
        have e9 : ph2 s1 s.n = rnd s := by rw [← hs1]; rfl
        rw [e9] at D2
        have hp0 : m p = none := by
          cases e : m p with
          | none => rfl
          | some o =>
            by_cases f : Own h s p
            · exact absurd hp (own_has D2 ((own_rnd p).mpr f))
            · rw [k2 p o e f] at hp; cases hp
        exact .of (q _ p (D2.le (.new (.refl _) hp)) (k2.le (.new (.refl _) hp)) up_same hp0)
end
end Hn

set_option Elab.async false
set_option linter.all false
set_option maxRecDepth 100000
set_option maxHeartbeats 8000000
namespace Hn
open PySem PySem.Spec PyProof.Rows L2 Sy Lm
section
variable {P : Program} {w : World} {K : PySem.W.Frag} {mg : Str → Option Value} {base : Heap}
local macro_rules | `(tactic| walk_at "r") => `(tactic| (conv => whnf))
local macro_rules | `(tactic| walk_at "sp") => `(tactic| (first | rfl | contradiction | exact (False.elim ‹_›)))
local macro_rules | `(tactic| walk_at "len") => `(tactic| (exact Nat.le_trans (show _ ≤ 100000 by first | (simp; done) | (rw [rngS_length]; decide)) (by decide)))
local macro_rules | `(tactic| walk_at "f") => `(tactic| (refine Br_i (fun hb => Bool.noConfusion (show false = true from hb)) (fun _ => ?_)))
local macro_rules | `(tactic| walk_at "t") => `(tactic| (refine Br_i (fun _ => ?_) (fun hb => Bool.noConfusion (show true = false from hb))))
local macro_rules | `(tactic| walk_at "le") => `(tactic| first | exact Le.refl _ | (refine Le.put ?_; walk_at "le") | (refine Le.new ?_ (by assumption); walk_at "le"))
def spRangAt (K : PySem.W.Frag) : SpS := fun vs m _ S => ∃ (h : Addr) (s : HS) (i : Int), vs = [.ref h, .int i] ∧ House K m h s ∧ ∀ p, m p = none → S (.ref p) (up m p (.lst (((List.range s.n).filter fun k => decide (i ∈ (s.dev k).rung)).map fun (k : Nat) => .int (k : Int))))
theorem rngS_map (n : Nat) : ∀ lo : Nat, rngS lo n = (List.range' lo n).map fun (k : Nat) => SV.int (k : Int) := by
  induction n with
  | zero => intro lo; rfl
  | succ n ih =>
    intro lo
    rw [rngS, List.range'_succ, List.map_cons]
    have := ih (lo + 1)
    push_cast at this
    rw [this]
theorem rngS_0 (n : Nat) : rngS 0 n = (List.range n).map fun (k : Nat) => SV.int (k : Int) := by
  have := rngS_map n 0
  rw [List.range_eq_range']
  exact this
theorem filt_rng (n : Nat) (pr : SV → Bool) (pk : Nat → Bool) (h : ∀ k : Nat, pr (.int (k : Int)) = pk k) : ((rngS 0 n).filter pr).map id = ((List.range n).filter pk).map fun (k : Nat) => SV.int (k : Int) := by
  rw [List.map_id, rngS_0, List.filter_map]
  congr 1
  refine List.filter_congr fun k _ => ?_
  exact h k
theorem ok_law_rang_at (T : Tx K mg) : FnOk P w K mg base CX0 2 (He.ga K "_law_rang_at") T.fd__law_rang_at ["_law_h", "_law_bell"] (lift K (spRangAt K)) := by
  have G_Device_rang := ok_Device_rang (P := P) (w := w) (base := base) T
  have b_Device_rang := b_Device_rang T
  refine fn_sy T.F__law_rang_at sc_law_rang_at (fun svs m SX Sv h => ?_) (fun cdv A outer s H E hr => ⟨_, _, (gss_one (gs_ret (ge_lc (own := [("_law_k", 2)]) (by rfl) sc_law_rang_at.nd (gi_range1 (by rfl) T.z_range (ga_cons (ge_callB (cr_len K) sim_len (by rfl) T.z_len (by decide +kernel) (ga_cons (ge_dget hr.u1 (gv 0) ge_str) ga_nil)) ga_nil)) (blkOk_by (own := [("_law_k", 2)]) (N := ["_law_h", "_law_bell", "_law_k"]) (sc := (defScope s_law_rang_at)) (by decide +kernel)) (fun _ _ _ _ _ => (gg_name (i := 2) sc_law_rang_at.nd rfl (.inl rfl))) (wp_name (by decide)) (fun _ _ _ _ _ => (gts_one (gt_cmp (op_inG K) (sim_in false) (gv 1) (ge_meth0 T.c_Device T.M_Device_rang G_Device_rang (hr) b_Device_rang .nil (fun _ => .nil) pass0 (ge_ix (ix_G K) sim_ix (ge_dget hr.u1 (gv 0) ge_str) (gv 2) (fun _ _ => rfl))) (by with_unfolding_all rfl)))) (fun _ _ _ _ _ => (gv 2))))), fun svs m SX Sv h => ?_⟩)
  · obtain ⟨h, s, i, rfl, _⟩ := h
    rfl
  · obtain ⟨h, s, i, rfl, D, q⟩ := h
    have hn := D.desk.n
    have hbl := D.bells
    have hln : (devsP s).length = s.n := by unfold devsP; rw [List.length_map, List.length_range]
    walk_at "r"
    refine ⟨_, _, _, D.h, rfl, h_all s, ?_⟩
    walk_at "r"
    refine ⟨_, D.al, ?_⟩
    walk_at "r"
    rw [hln]
    refine ⟨⟨by omega, by omega⟩, ?_⟩
    refine ⟨by rw [rngS_length]; exact line_le (by omega), fun p hp => ?_⟩
    refine lc_filt (fun x => match x with | .int k => decide (i ∈ (s.dev k.toNat).rung) | _ => false) id (fun acc => trivial) (fun y hy acc K1 K0 h1 h0 => ?_) ?_
    · obtain ⟨j, hj⟩ := List.getElem?_of_mem hy
      obtain ⟨hj, rfl⟩ := rngS_get _ _ _ _ hj
      have hj : j < s.n := by omega
      rw [Int.zero_add] at h1 h0 ⊢
      have D2 := D.le (.new (o := .lst acc) (.refl _) hp)
      have Dj := D2.dev j hj
      walk_at "r"
      refine ⟨_, _, _, D2.h, rfl, h_all s, ?_⟩
      walk_at "r"
      refine ⟨_, _, D2.al, devs_at s hj, ?_⟩
      walk_at "r"
      refine ⟨_, Dj.p, dev_no (by decide +kernel) (by decide +kernel) (by decide +kernel) (by decide +kernel), ?_⟩
      walk_at "r"
      refine ⟨_, _, _, _, _, _, _, rfl, Dj, fun r hr => ?_⟩
      walk_at "r"
      refine ⟨_, up_same, rfl, flat_ints _, ?_⟩
      walk_at "r"
      change Br (inS (.int i) (List.map SV.int _)) _ _
      rw [inS_ints]
      exact Br_i (fun e => h1 _ (.new (.refl _) hr) e) (fun e => h0 _ (.new (.refl _) hr) e)
    · rw [Int.toNat_natCast, filt_rng s.n _ (fun k => decide (i ∈ (s.dev k).rung)) (fun k => rfl)]
      exact .of (q p hp)
/-- some bells were taken; found: where -/
structure Tkn (s s' : HS) (kv : List (Key × SV)) : Prop where
  n : s'.n = s.n
  bs : s'.bs = s.bs
  road : s'.road = s.road
  rd : s'.rd = s.rd
  ad : ∀ k, (s'.dev k).p = (s.dev k).p ∧ (s'.dev k).kd = (s.dev k).kd ∧ (s'.dev k).lr = (s.dev k).lr
  on : ∀ k, (s'.dev k).on = (s.dev k).on
  rung : ∀ k, (s'.dev k).rung = (s.dev k).rung
  oth : s'.d = s.d ∧ s'.b = s.b ∧ s'.al = s.al ∧ s'.ion = s.ion
  pro : Pro s'
  kv : ∀ i v, valS kv (.inl i) = some v → ∃ k : Nat, k < s.n ∧ v = .int (k : Int) ∧ (s.dev k).on = true ∧ lookB (s'.dev k).dbs i = some ("to be noted" : Str)
theorem Tkn.own {s s' : HS} {kv : List (Key × SV)} (t : Tkn s s' kv) {h : Addr} (x : Addr) : Own h s' x ↔ Own h s x := own_dev t.oth.2.1 t.oth.2.2.2 t.rd t.n t.oth.1 t.oth.2.2.1 t.ad x
theorem val_put {kv : List (Key × SV)} {k g : Key} {v : SV} : valS (putD kv k v) g = if g = k then some v else valS kv g := by
  unfold putD
  split
  · next h =>
    have key : ∀ l : List (Key × SV), valS (l.map fun kv => if kv.1 = k then (kv.1, v) else kv) g = if g = k ∧ (l.any fun kv => decide (kv.1 = k)) = true then some v else valS l g := fun l => by
      induction l with
      | nil => simp [valS]
      | cons q r ih =>
        unfold valS at ih ⊢
        rw [List.map_cons, List.find?_cons, List.find?_cons, List.any_cons]
        by_cases e : q.1 = k
        · by_cases e2 : g = k
          · subst e2; simp [e]
          · have e3 : ¬ k = g := fun z => e2 z.symm
            simp [e, e2, e3] at ih ⊢
            exact ih
        · rw [decide_eq_false e, Bool.false_or]
          by_cases e2 : q.1 = g
          · have e3 : ¬ g = k := fun z => e (e2.trans z)
            simp [e, e2, e3]
          · simp [e, e2] at ih ⊢
            exact ih
    rw [key, h]
    simp
  · next h =>
    have nk : ∀ q ∈ kv, ¬ q.1 = k := fun q hq z => h (List.any_eq_true.mpr ⟨q, hq, decide_eq_true z⟩)
    unfold valS
    rw [List.find?_append]
    by_cases e : g = k
    · subst e
      have e2 : (kv.find? fun q => decide (q.1 = g)) = none := List.find?_eq_none.mpr fun q hq => by simpa using nk q hq
      rw [e2]
      simp
    · rw [if_neg e]
      have e3 : ¬ k = g := fun z => e z.symm
      have e2 : ([(k, v)].find? fun q : Key × SV => decide (q.1 = g)) = none := by simp [e3]
      rw [e2]
      simp
theorem putD_len {kv : List (Key × SV)} {k : Key} {v : SV} : (putD kv k v).length ≤ kv.length + 1 := by
  unfold putD
  split
  · rw [List.length_map]; omega
  · rw [List.length_append]; simp
/-- one more is taken -/
theorem Tkn.more {s s' : HS} {kv : List (Key × SV)} (t : Tkn s s' kv) {k : Nat} {i : Int} (hk : k < s.n) (ho : (s.dev k).on = true) (hr : lookB (s'.dev k).dbs i = some ("ringing" : Str)) : Tkn s { s' with dev := setDev s'.dev k { s'.dev k with dbs := putB (s'.dev k).dbs i "to be noted" } } (putD kv (.inl i) (.int (k : Int))) := by
  have ho' : (s'.dev k).on = true := (t.on k).trans ho
  have hk' : k < s'.n := by rw [t.n]; exact hk
  have st := TurnSt.take (s := s') k hk' i ho' hr
  have sd : ∀ j, ((setDev s'.dev k { s'.dev k with dbs := putB (s'.dev k).dbs i "to be noted" } j).p = (s'.dev j).p ∧ (setDev s'.dev k { s'.dev k with dbs := putB (s'.dev k).dbs i "to be noted" } j).kd = (s'.dev j).kd ∧ (setDev s'.dev k { s'.dev k with dbs := putB (s'.dev k).dbs i "to be noted" } j).lr = (s'.dev j).lr) ∧ (setDev s'.dev k { s'.dev k with dbs := putB (s'.dev k).dbs i "to be noted" } j).on = (s'.dev j).on ∧ (setDev s'.dev k { s'.dev k with dbs := putB (s'.dev k).dbs i "to be noted" } j).rung = (s'.dev j).rung := fun j => by
    by_cases e : j = k
    · subst e; rw [setDev_eq]; exact ⟨⟨rfl, rfl, rfl⟩, rfl, rfl⟩
    · rw [setDev_ne e]; exact ⟨⟨rfl, rfl, rfl⟩, rfl, rfl⟩
  refine ⟨t.n, t.bs, t.road, t.rd, fun j => ?_, fun j => (sd j).2.1.trans (t.on j), fun j => (sd j).2.2.trans (t.rung j), t.oth, turn_pro t.pro st, fun j v e => ?_⟩
  · obtain ⟨a, b, c⟩ := (sd j).1
    obtain ⟨a2, b2, c2⟩ := t.ad j
    exact ⟨a.trans a2, b.trans b2, c.trans c2⟩
  · rw [val_put] at e
    split at e
    · next ej =>
      have ej := Sum.inl.inj ej
      subst ej
      cases e
      exact ⟨k, hk, rfl, ho, by show lookB (setDev s'.dev k _ k).dbs j = _; rw [setDev_eq]; simp only [lookB_put, if_true]⟩
    · next ej =>
      obtain ⟨k2, g1, g2, g3, g4⟩ := t.kv j v e
      refine ⟨k2, g1, g2, g3, ?_⟩
      show lookB (setDev s'.dev k _ k2).dbs j = _
      by_cases e2 : k2 = k
      · subst e2
        rw [setDev_eq]
        simp only [lookB_put]
        rw [if_neg (fun z => ej (by rw [z]))]
        exact g4
      · rw [setDev_ne e2]; exact g4
def spTaken (K : PySem.W.Frag) : SpS := fun vs m _ S => ∃ bx h s, vs = [.ref bx, .ref h] ∧ IsBox m bx ∧ House K m h s ∧ Pro s ∧ ∀ m' s' p kv, House K m' h s' → Tkn s s' kv → Kps m m' h s → m' p = some (.dK kv) → m p = none → S (.ref p) m'
theorem ok_law_taken (T : Tx K mg) : FnOk P w K mg base CX0 5 (He.ga K "_law_taken") T.fd__law_taken ["_law_box", "_law_h"] (lift K (spTaken K)) := by
  have G_Device_rings := ok_Device_rings (P := P) (w := w) (base := base) T
  have b_Device_rings := b_Device_rings T
  have G_Device_take := fn_calm (ok_Device_take (P := P) (w := w) (base := base) T)
  have b_Device_take := b_Device_take T
  have G_law_take := ok_law_take (P := P) (w := w) (base := base) T
  have b_law_take := b_law_take T
  refine fn_sy T.F__law_taken sc_law_taken (fun svs m SX Sv h => ?_) (fun cdv A outer s H E hr => ⟨_, _, (gss_cons (gs_set (i := 2) sc_law_taken.nd rfl (.inl rfl) ge_dnew)
      (gss_cons (gs_for PassesOwn.never rfl (gi_range1 (by rfl) T.z_range (ga_cons (ge_callB (cr_len K) sim_len (by rfl) T.z_len (by decide +kernel) (ga_cons (ge_dget hr.u1 (gv 1) ge_str) ga_nil)) ga_nil)) (gg_name (i := 3) sc_law_taken.nd rfl (.inl rfl))
      (gss_one (gs_for PassesOwn.never rfl (gi_seq (ge_meth0 T.c_Device T.M_Device_rings G_Device_rings (hr.mono (by decide)) b_Device_rings .nil (fun _ => .nil) pass0 (ge_ix (ix_G K) sim_ix (ge_dget hr.u1 (gv 1) ge_str) (gv 3) (fun _ _ => rfl)))) (gg_name (i := 4) sc_law_taken.nd rfl (.inl rfl))
      (gss_one (gs_if (gw_pt (gw_and (gt_val (ge_ix (ix_G K) sim_ix (ge_dget hr.u1 (gv 1) ge_str) (gv 3) (fun _ _ => rfl))) (gw_and1 (gt_cmp (op_eqG K hr.units) sim_eq (ge_call G_law_take (hr.mono (by decide)) (by rfl) T.g__law_take T.k__law_take b_law_take .nil (fun _ => .nil) pass0 (ga_cons (gv 0) (ga_cons ge_int ga_nil))) ge_int (nomark _))))) (gss_cons (gs_expr (ge_meth T.c_Device T.M_Device_take G_Device_take (hr.mono (by decide)) b_Device_take .nil (fun _ => .nil) pass0 (ge_ix (ix_G K) sim_ix (ge_dget hr.u1 (gv 1) ge_str) (gv 3) (fun _ _ => rfl)) (ga_cons (gv 4) ga_nil)))
      (gss_one (gs_dput hr.u1 (gv 2) (gv 4) (gv 3)))) gss_nil)))))
      (gss_one (gs_ret (gv 2))))), fun svs m SX Sv h => ?_⟩)
  · obtain ⟨bx, h, s, rfl, _⟩ := h
    rfl
  · obtain ⟨bx, h, s, rfl, hbx, D, pro, q⟩ := h
    have hn := D.desk.n
    have hbl := D.bells
    have hln : (devsP s).length = s.n := by unfold devsP; rw [List.length_map, List.length_range]
    walk_at "r"
    intro pf hpf
    have npf : ¬ Own h s pf := fun f => own_has D f hpf
    walk_at "r"
    refine ⟨_, _, _, kp D.h hpf, rfl, h_all s, ?_⟩
    walk_at "r"
    refine ⟨_, kp D.al hpf, ?_⟩
    walk_at "r"
    rw [hln]
    refine ⟨⟨by omega, by omega⟩, ?_⟩
    refine for_inv (fun r δ m' => ∃ (j : Nat) (s' : HS) (kv : List (Key × SV)) (a3 a4 : Option SV), r = rngS j (s.n - j) ∧ j ≤ s.n ∧ δ = [some (.ref bx), some (.ref h), some (.ref pf), a3, a4] ∧ House K m' h s' ∧ Tkn s s' kv ∧ Kps m m' h s ∧ m' pf = some (.dK kv) ∧ kv.length ≤ 64 * j) ⟨0, s, [], _, _, (by rw [Nat.sub_zero, Int.toNat_natCast]; rfl), Nat.zero_le _, rfl, D.le (.new (.refl _) hpf), ⟨rfl, rfl, rfl, rfl, fun _ => ⟨rfl, rfl, rfl⟩, fun _ => rfl, fun _ => rfl, ⟨rfl, rfl, rfl, rfl⟩, pro, fun i v e => by cases e⟩, (Kps.refl m h s).le (.new (.refl _) hpf), up_same, Nat.le_refl _⟩ (fun x r δ m' hI => ?_) (fun δ m' hI => ?_)
    · obtain ⟨j, s', kv, a3, a4, hr, hj, rfl, D1, t1, k1, ek, hkl⟩ := hI
      have hj : j < s.n := by
        by_cases e : j < s.n
        · exact e
        · rw [show s.n - j = 0 by omega] at hr; cases hr
      rw [show s.n - j = (s.n - (j + 1)) + 1 by omega] at hr
      obtain ⟨rfl, rfl⟩ := List.cons.inj hr
      have hj1 : j < s'.n := by rw [t1.n]; exact hj
      have Dj := D1.dev j hj1
      have oj := D1.dok j hj1
      refine ⟨trivial, ?_⟩
      walk_at "r"
      refine ⟨_, _, _, D1.h, rfl, h_all _, ?_⟩
      walk_at "r"
      refine ⟨_, _, D1.al, devs_at _ hj1, ?_⟩
      walk_at "r"
      refine ⟨_, Dj.p, dev_no (by decide +kernel) (by decide +kernel) (by decide +kernel) (by decide +kernel), ?_⟩
      walk_at "r"
      refine ⟨_, _, _, _, _, _, _, rfl, Dj, fun pl hpl => ?_⟩
      have npl : pl ≠ pf := fun z => by rw [z, ek] at hpl; cases hpl
      have nol : ¬ Own h s pl := fun f => own_has D1 ((t1.own pl).mpr f) hpl
      have hal : (among (s'.dev j).dbs "ringing").length ≤ 15 := by
        have := among_len (s'.dev j).dbs "ringing"
        have := oj.len.1
        have := D1.bells
        omega
      walk_at "r"
      refine ⟨_, up_same, ?_⟩
      refine for_inv (fun r2 δ m2 => ∃ (s2 : HS) (kv2 : List (Key × SV)) (L : List Int) (b4 : Option SV), r2 = L.map SV.int ∧ L.Nodup ∧ (∀ i ∈ L, lookB (s2.dev j).dbs i = some ("ringing" : Str)) ∧ δ = [some (.ref bx), some (.ref h), some (.ref pf), some (.int (j : Int)), b4] ∧ House K m2 h s2 ∧ Tkn s s2 kv2 ∧ Kps m m2 h s ∧ m2 pf = some (.dK kv2) ∧ m2 pl = some (.lst ((among (s'.dev j).dbs "ringing").map SV.int)) ∧ kv2.length + L.length ≤ 64 * (j + 1)) ⟨s', kv, among (s'.dev j).dbs "ringing", _, rfl, (among_lt oj.nk _).imp (fun h => by omega), fun i hi => among_look hi, rfl, D1.le (.new (.refl _) hpl), t1, k1.le (.new (.refl _) hpl), kp ek hpl, up_same, by omega⟩ (fun y r2 δ m2 hI => ?_) (fun δ m2 hI => ?_)
      · obtain ⟨s2, kv2, L, b4, hr2, hnd, hri, rfl, D2, t2, k2, ek2, el2, hl2⟩ := hI
        cases L with
        | nil => cases hr2
        | cons i L =>
        obtain ⟨rfl, rfl⟩ := List.cons.inj hr2
        have hj2 : j < s2.n := by rw [t2.n]; exact hj
        rw [List.length_cons] at hl2
        obtain ⟨n1, n2⟩ := List.nodup_cons.mp hnd
        have hi := hri i List.mem_cons_self
        refine ⟨el2, ?_⟩
        walk_at "r"
        refine ⟨_, _, _, D2.h, rfl, h_ison _, ?_⟩
        walk_at "r"
        refine ⟨_, _, D2.ion, ons_at _ hj2, ?_⟩
        walk_at "r"
        refine Br_i (fun ho => ?_) (fun ho => ?_)
        · walk_at "r"
          obtain ⟨c, b1, b2⟩ := hbx
          have nb : ∀ {x o}, m x = some o → (∀ xs, o ≠ .lst xs) → (∀ xs, o ≠ .dK xs) → (∀ C xs, o ≠ .ins C xs) → m2 x = some o := fun {x o} e n1 n2 n3 => k2 x o e fun f => by
            rcases f with (rfl | rfl | rfl | rfl | ⟨k, hk, rfl | rfl | rfl⟩) | rfl | rfl
            · rw [D.h] at e; cases e; exact n2 _ rfl
            · rw [D.desk.b] at e; cases e; exact n1 _ rfl
            · rw [D.ion] at e; cases e; exact n1 _ rfl
            · rw [D.rd] at e; cases e; exact n1 _ rfl
            · rw [(D.dev k hk).p] at e; cases e; exact n3 _ _ rfl
            · rw [(D.dev k hk).kd] at e; cases e; exact n2 _ rfl
            · rw [(D.dev k hk).lr] at e; cases e; exact n1 _ rfl
            · rw [D.desk.d] at e; cases e; exact n3 _ _ rfl
            · rw [D.al] at e; cases e; exact n1 _ rfl
          have bx2 : IsBox m2 bx := ⟨c, nb b1 (fun _ z => by cases z) (fun _ z => by cases z) (fun _ _ z => by cases z), nb b2 (fun _ z => by cases z) (fun _ z => by cases z) (fun _ _ z => by cases z)⟩
          refine ⟨bx2, small (by decide) (by decide), fun g g0 g1 => ?_⟩
          walk_at "r"
          refine Br_i (fun _ => ?_) (fun _ => ?_)
          · have Dj2 := D2.dev j hj2
            walk_at "r"
            refine ⟨_, _, _, D2.h, rfl, h_all _, ?_⟩
            walk_at "r"
            refine ⟨_, _, D2.al, devs_at _ hj2, ?_⟩
            walk_at "r"
            refine ⟨_, Dj2.p, dev_no (by decide +kernel) (by decide +kernel) (by decide +kernel) (by decide +kernel), ?_⟩
            walk_at "r"
            refine ⟨_, _, _, _, _, _, _, _, rfl, Dj2, ⟨_, rfl⟩, fun e => (by rw [ho] at e; cases e), fun i' _ e hlk => ?_, fun _ e => absurd hi (e i rfl)⟩
            obtain rfl := SV.int.inj e
            have ad := t2.ad j
            have hkd : Own h s (s2.dev j).kd := by rw [ad.2.1]; exact .inl (.inr (.inr (.inr (.inr ⟨j, hj, .inr (.inl rfl)⟩))))
            have D3 := D2.setD hj2 (putB (s2.dev j).dbs i "to be noted") (s2.dev j).rung ((D2.dok j hj2).put ((D2.dok j hj2).rg _ (lookB_mem hi)).1 ((D2.dok j hj2).rg _ (lookB_mem hi)).2 fun _ => by decide +kernel)
            have ndk : (s2.dev j).lr ≠ (s2.dev j).kd := fun e => by
              obtain ⟨τ, _, _, _, _, _, _, t6⟩ := D2.tag
              obtain ⟨_, u2, u3⟩ := t6 j hj2
              rw [e, u2] at u3; omega
            rw [up_id (by rw [up_ne ndk]; exact Dj2.lr)] at D3
            have k3 := k2.up (x := (s2.dev j).kd) (o := .dK ((putB (s2.dev j).dbs i "to be noted").map dkE)) (.inl hkd)
            have ek3 := (up_ne (o := .dK ((putB (s2.dev j).dbs i "to be noted").map dkE)) (show pf ≠ (s2.dev j).kd from fun z => npf (by rw [z]; exact hkd))).trans ek2
            have el3 := (up_ne (o := .dK ((putB (s2.dev j).dbs i "to be noted").map dkE)) (show pl ≠ (s2.dev j).kd from fun z => nol (by rw [z]; exact hkd))).trans el2
            have t3 := t2.more hj ((t2.on j).symm.trans ho) hi
            generalize up m2 (s2.dev j).kd _ = m3 at D3 k3 ek3 el3 ⊢
            walk_at "r"
            refine ⟨_, _, ek3, rfl, Nat.lt_of_lt_of_le (show _ < 1000 by omega) (by decide), ?_⟩
            have hpl2 := putD_len (kv := kv2) (k := .inl i) (v := .int (j : Int))
            refine .of ⟨_, _, L, _, rfl, n2, fun x hx => ?_, rfl, D3.keep fun x o f e => (up_ne fun z => npf (by rw [← z]; exact (t3.own x).mp f)).trans e, t3, k3.up (.inr hpf), up_same, (up_ne npl).trans el3, by omega⟩
            show lookB (setDev s2.dev j _ j).dbs x = _
            rw [setDev_eq]
            simp only [lookB_put]
            rw [if_neg (fun z => n1 (by rw [← z]; exact hx))]
            exact hri x (List.mem_cons_of_mem _ hx)
          · walk_at "r"
            exact .of ⟨s2, kv2, L, _, rfl, n2, fun x hx => hri x (List.mem_cons_of_mem _ hx), rfl, D2, t2, k2, ek2, el2, by omega⟩
        · walk_at "f"
          walk_at "r"
          exact .of ⟨s2, kv2, L, _, rfl, n2, fun x hx => hri x (List.mem_cons_of_mem _ hx), rfl, D2, t2, k2, ek2, el2, by omega⟩
      · obtain ⟨s2, kv2, L, b4, hr2, hnd, hri, rfl, D2, t2, k2, ek2, el2, hl2⟩ := hI
        refine ⟨el2, ?_⟩
        exact .of ⟨j + 1, s2, kv2, _, _, rfl, by omega, rfl, D2, t2, k2, ek2, by omega⟩
    · obtain ⟨j, s', kv, a3, a4, hr, hj, rfl, D1, t1, k1, ek, hkl⟩ := hI
      refine ⟨trivial, ?_⟩
      walk_at "r"
      exact .of (q _ s' pf kv D1 t1 k1 ek hpf)
end
end Hn

set_option Elab.async false
set_option linter.all false
set_option maxRecDepth 100000
set_option maxHeartbeats 8000000
namespace Hn
open PySem PySem.Spec PyProof.Rows L2 Sy Lm
section
variable {P : Program} {w : World} {K : PySem.W.Frag} {mg : Str → Option Value} {base : Heap}
local macro_rules | `(tactic| walk_at "r") => `(tactic| (conv => whnf))
local macro_rules | `(tactic| walk_at "sp") => `(tactic| (first | rfl | contradiction | exact (False.elim ‹_›)))
local macro_rules | `(tactic| walk_at "len") => `(tactic| (exact Nat.le_trans (show _ ≤ 100000 by first | (simp; done) | (rw [rngS_length]; decide)) (by decide)))
local macro_rules | `(tactic| walk_at "f") => `(tactic| (refine Br_i (fun hb => Bool.noConfusion (show false = true from hb)) (fun _ => ?_)))
local macro_rules | `(tactic| walk_at "t") => `(tactic| (refine Br_i (fun _ => ?_) (fun hb => Bool.noConfusion (show true = false from hb))))
local macro_rules | `(tactic| walk_at "le") => `(tactic| first | exact Le.refl _ | (refine Le.put ?_; walk_at "le") | (refine Le.new ?_ (by assumption); walk_at "le"))
def optP : Option Int → PyData
  | none => .none
  | some i => .int i
theorem rd_opt {m : Mem} (o : Option Int) : Rd m (optI o) (optP o) := by cases o <;> constructor
def stP (b : Str × Option Int) : PyData := if b.1 = "open" then .tuple [.str "open"] else .tuple [.str b.1, optP b.2]
theorem rd_st {m : Mem} (b : Str × Option Int) : Rd m (stV b) (stP b) := by
  unfold stV stP
  split
  · exact .tup (.cons (.str _) .nil)
  · exact .tup (.cons (.str _) (.cons (rd_opt _) .nil))
theorem stP_else {b : Str × Option Int} (h : ¬ b.1 = "open") : stP b = .tuple [.str b.1, optP b.2] := by unfold stP; rw [if_neg h]
theorem tup_shaped {w : Str} {k : Int} (h : PyData.strOk w = true) : SeqAt.shaped (.tuple [.str w, .int k]) = true := by
  unfold SeqAt.shaped
  simp [PyData.canLay0, PyData.canLayAll0, PyData.depth, PyData.depthAll, h]
theorem tup_eqv {w : Str} {k : Int} : PyData.eqv (.tuple [.str w, .int k]) (.tuple [.str w, .int k]) = true := by simp [PyData.eqv, PyData.eqvAll]
theorem st_shaped {b : Str × Option Int} (h : stOk b) : SeqAt.shaped (stP b) = true ∧ PyData.eqv (stP b) (stP b) = true := by
  obtain ⟨st, ow⟩ := b
  have n1 : ¬ ("granted" : Str) = "open" := by decide +kernel
  have n2 : ¬ ("taken" : Str) = "open" := by decide +kernel
  have n3 : ¬ ("withdrawn" : Str) = "open" := by decide +kernel
  rcases h with ⟨h1, h2⟩ | ⟨k, h1, h2⟩ | ⟨h1, h2⟩ <;> simp only at h1 h2
  · subst h1 h2; exact ⟨by decide +kernel, by decide +kernel⟩
  · subst h1
    rcases h2 with rfl | rfl | rfl
    · rw [stP_else n1]; exact ⟨tup_shaped (show PyData.strOk ("granted" : Str) = true by decide +kernel), tup_eqv⟩
    · rw [stP_else n2]; exact ⟨tup_shaped (show PyData.strOk ("taken" : Str) = true by decide +kernel), tup_eqv⟩
    · rw [stP_else n3]; exact ⟨tup_shaped (show PyData.strOk ("withdrawn" : Str) = true by decide +kernel), tup_eqv⟩
  · subst h1 h2; exact ⟨by decide +kernel, by decide +kernel⟩
theorem st_open {b : Str × Option Int} (h : b.1 = "open") : stV b = .tup [.str b.1] := by unfold stV; rw [if_pos h, h]
theorem st_else {b : Str × Option Int} (h : ¬ b.1 = "open") : stV b = .tup [.str b.1, optI b.2] := by unfold stV; rw [if_neg h]
theorem st_0 (b : Str × Option Int) : ∃ xs, stV b = .tup (.str b.1 :: xs) := by
  by_cases h : b.1 = "open"
  · exact ⟨_, st_open h⟩
  · exact ⟨_, st_else h⟩
def plainO : MO → Prop
  | .dK _ => True
  | .lst _ => True
  | .ins _ _ => True
  | _ => False
theorem own_pl {m : Mem} {h : Addr} {s : HS} (D : House K m h s) {x : Addr} {o : MO} (e : m x = some o) (n : ¬ plainO o) : ¬ Own h s x := fun f => by
  have key : ∀ u, m x = some u → plainO u → False := fun u z p => by rw [e] at z; cases z; exact n p
  rcases f with (rfl | rfl | rfl | rfl | ⟨k, hk, rfl | rfl | rfl⟩) | rfl | rfl
  · exact key _ D.h trivial
  · exact key _ D.desk.b trivial
  · exact key _ D.ion trivial
  · exact key _ D.rd trivial
  · exact key _ (D.dev k hk).p trivial
  · exact key _ (D.dev k hk).kd trivial
  · exact key _ (D.dev k hk).lr trivial
  · exact key _ D.desk.d trivial
  · exact key _ D.al trivial
theorem turn_road {s s' : HS} {v : SV} (h : TurnSt s s' v) : s'.road.length ≤ s.road.length + 128 := by
  cases h with
  | offer => exact Nat.le_add_right _ _
  | on => exact Nat.le_add_right _ _
  | take => exact Nat.le_add_right _ _
  | withdraw => exact Nat.le_add_right _ _
  | post L h hl => show (s.road ++ L).length ≤ _; rw [List.length_append]; omega
  | hear s' h =>
    have hd : ∀ q, (heard s q).road = s.road := fun q => by
      unfold heard
      split
      · rfl
      · split <;> rfl
    cases h with
    | stay => exact Nat.le_add_right _ _
    | go q hq s1 h1 => rcases h1 with rfl | rfl; exact Nat.le_add_right _ _; rw [hd]; exact Nat.le_add_right _ _
    | lose q hq s1 h1 r L hL hl => exact Nat.le_trans hl (Nat.le_add_right _ _)
theorem word_ok {b : Str × Option Int} (h : stOk b) : PyData.strOk b.1 = true := by
  rcases h with ⟨h1, _⟩ | ⟨_, _, h2⟩ | ⟨h1, _⟩
  · rw [h1]; decide +kernel
  · rcases h2 with h | h | h <;> rw [h] <;> decide +kernel
  · rw [h1]; decide +kernel
theorem optP_ok (o : Option Int) : NoD (optP o) ∧ Shp 0 (optP o) := by
  cases o with
  | none => exact ⟨trivial, shp_none⟩
  | some i => exact ⟨trivial, shp_int i⟩
theorem stP_ok {b : Str × Option Int} (h : stOk b) : NoD (stP b) ∧ Shp 1 (stP b) := by
  have hw := word_ok h
  unfold stP
  split
  · next e =>
    rw [e] at hw
    exact ⟨⟨trivial, trivial⟩, (shp_list fun d hd => by obtain rfl := List.mem_singleton.mp hd; exact shp_str hw).2⟩
  · refine ⟨⟨trivial, (optP_ok _).1, trivial⟩, (shp_list fun d hd => ?_).2⟩
    rcases List.mem_cons.mp hd with rfl | hd
    · exact shp_str hw
    · obtain rfl := List.mem_singleton.mp hd; exact (optP_ok _).2
theorem open_eqv {b : Str × Option Int} : PyData.eqv (stP b) (.tuple [.str "open"]) = decide (b.1 = "open") := by
  unfold stP
  split
  · next e => rw [decide_eq_true e]; simp [PyData.eqv, PyData.eqvAll]
  · next e => rw [decide_eq_false e]; simp [PyData.eqv, PyData.eqvAll]
/-- a comprehension whose turns make lists -/
theorem lc_refs {keep : Mem → Prop} {g : SG} {SX : SXK} {items : List SV} {δ : DS} {m : Mem} {p : Addr} {te : SE} {vs : List Nat} {S : SV → Mem → Prop} (f : Nat → List SV) (hp : m p = none) (hk : ∀ m', Le m m' → keep m')
    (step : ∀ (j : Nat) x, items[j]? = some x → ∀ acc mb, Le m mb → mb p = none → ∀ K1 : SV → Mem → Prop, (∀ a, mb a = none → a ≠ p → K1 (.ref a) (up (up mb p (.lst acc)) a (.lst (f j)))) → g SX x (wipeD δ vs) (up mb p (.lst acc)) fun δ1 m1 => te SX δ1 m1 K1)
    (done : ∀ mb acc, Le m mb → mb p = none → acc.length = items.length → (∀ j, j < items.length → ∃ a, acc[j]? = some (.ref a) ∧ mb a = some (.lst (f j)) ∧ m a = none) → S (.ref p) (up mb p (.lst acc))) : LcGo p keep g sYes te vs SX δ items m S := by
  refine lc_inv (fun r acc m' => ∃ mb, m' = up mb p (.lst acc) ∧ mb p = none ∧ Le m mb ∧ items.drop acc.length = r ∧ acc.length ≤ items.length ∧ ∀ j, j < acc.length → ∃ a, acc[j]? = some (.ref a) ∧ mb a = some (.lst (f j)) ∧ m a = none) ⟨m, rfl, hp, .refl _, rfl, Nat.zero_le _, fun j h => absurd h (Nat.not_lt_zero _)⟩ (fun x r acc m' h => ?_) (fun acc m' h => ?_)
  · obtain ⟨mb, rfl, hmb, l, hd, hj, ha⟩ := h
    obtain ⟨hx, hd2⟩ := drop_cons hd
    have hj1 := (List.getElem?_eq_some_iff.mp hx).1
    refine ⟨hk _ (.over l hp), ?_⟩
    have e : ∀ K1 : SV → Mem → Prop, ∀ K0 : Mem → Prop, (fun δ1 m1 => sYes SX δ1 m1 fun b m2 => Br b (te SX δ1 m2 K1) (K0 m2)) = fun δ1 m1 => te SX δ1 m1 K1 := fun K1 K0 => by
      funext δ1 m1
      exact Br_true
    rw [e]
    refine step acc.length x hx acc mb l hmb _ fun a ha1 ha2 => ⟨by rw [up_ne (Ne.symm ha2)]; exact up_same, .of ⟨up mb a (.lst (f acc.length)), by rw [up_comm (Ne.symm ha2), up_up], by rw [up_ne (Ne.symm ha2)]; exact hmb, .new l ha1, by rw [List.length_append]; exact hd2, by rw [List.length_append]; exact hj1, fun j hj2 => ?_⟩⟩
    rw [List.length_append] at hj2
    by_cases e : j < acc.length
    · obtain ⟨b, g1, g2, g3⟩ := ha j e
      exact ⟨b, by rw [List.getElem?_append_left e]; exact g1, kp g2 ha1, g3⟩
    · have e2 : j = acc.length := by simp at hj2; omega
      subst e2
      exact ⟨a, by simp, up_same, l.none ha1⟩
  · obtain ⟨mb, rfl, hmb, l, hd, hj, ha⟩ := h
    have el : acc.length = items.length := by
      have := congrArg List.length hd
      rw [List.length_drop, List.length_nil] at this
      omega
    exact ⟨hk _ (.over l hp), done mb acc l hmb el fun j hj => ha j (by omega)⟩
def spQuiet (K : PySem.W.Frag) : SpS := fun vs m _ S => ∃ (h : Addr) (s : HS) (p : Addr) (kv : List (Key × SV)), vs = [.ref h, .ref p] ∧ House K m h s ∧ Pro s ∧ m p = some (.dK kv) ∧ (∀ (i : Nat) v, valS kv (.inl (i : Int)) = some v → ∃ k : Nat, v = .int (k : Int) ∧ s.bs[i]? = some (("taken" : Str), some (k : Int))) ∧
  (∀ (i k : Nat) st ow, k < s.n → (s.dev k).on = true → s.bs[i]? = some (st, ow) → (st = "taken" ∨ st = "withdrawn") → lookB (s.dev k).dbs (i : Int) ≠ some ("ringing" : Str)) ∧ ∀ m', Le m m' → S (.bl true) m'
theorem ok_law_is_quiet (T : Tx K mg) : FnOk P w K mg base CX0 5 (He.ga K "_law_is_quiet") T.fd__law_is_quiet ["_law_h", "_law_taken_here"] (lift K (spQuiet K)) := by
  have G_Desk_state := fn_calm (ok_Desk_state (P := P) (w := w) (base := base) T)
  have b_Desk_state := b_Desk_state T
  have G_Device_rings := ok_Device_rings (P := P) (w := w) (base := base) T
  have b_Device_rings := b_Device_rings T
  refine fn_sy T.F__law_is_quiet sc_law_is_quiet (fun svs m SX Sv h => ?_) (fun cdv A outer s H E hr => ⟨_, _, (gss_cons (gs_for PassesOwn.never rfl (gi_range1 (by rfl) T.z_range (ga_cons (ge_dget hr.u1 (gv 0) ge_str) ga_nil)) (gg_name (i := 2) sc_law_is_quiet.nd rfl (.inr rfl))
      (gss_cons (gs_set (i := 3) sc_law_is_quiet.nd rfl (.inl rfl) (ge_meth T.c_Desk T.M_Desk_state G_Desk_state (hr) b_Desk_state .nil (fun _ => .nil) pass0 (ge_dget hr.u1 (gv 0) ge_str) (ga_cons (gv 2) ga_nil)))
      (gss_cons (gs_cut (gs_if (gw_pt (gw_and (gt_din hr.u1 (gv 2) (gv 1) (by with_unfolding_all rfl)) (gw_and1 (gt_cmp (op_neG K hr.units) sim_ne (gv 3) (ge_tup (ga_cons ge_str (ga_cons (ge_dget hr.u1 (gv 1) (gv 2)) ga_nil))) (nomark _))))) (gss_one (gs_ret ge_bl)) gss_nil))
      (gss_one (gs_if (gt_cmp (op_inG K) (sim_in false) (ge_ix (ix_G K) sim_ix (gv 3) ge_int (fun _ _ => rfl)) (ge_tup (ga_cons ge_str (ga_cons ge_str ga_nil))) (by with_unfolding_all rfl)) (gss_cons (gs_setLc (i := 4) (own := [("_law_k", 5)]) (by rfl) sc_law_is_quiet.nd rfl rfl (sw_true rfl rfl rfl (by decide +kernel)) (gi_range1 (by rfl) T.z_range (ga_cons (ge_callB (cr_len K) sim_len (by rfl) T.z_len (by decide +kernel) (ga_cons (ge_dget hr.u1 (gv 0) ge_str) ga_nil)) ga_nil)) (blkOk_by (own := [("_law_k", 5)]) (N := ["_law_h", "_law_taken_here", "_law_bell", "_law_state", "_law_some", "_law_k"]) (sc := (defScope s_law_is_quiet)) (by decide +kernel)) (fun _ _ _ _ _ => (gg_name (i := 5) sc_law_is_quiet.nd rfl (.inl rfl))) (wp_name (by decide)) (fun _ _ _ _ _ => (gts_one (gw_pt (gw_and (gt_val (ge_ix (ix_G K) sim_ix (ge_dget hr.u1 (gv 0) ge_str) (gv 5) (fun _ _ => rfl))) (gw_and1 (gt_cmp (op_inG K) (sim_in false) (gv 2) (ge_meth0 T.c_Device T.M_Device_rings G_Device_rings (hr.mono (by decide)) b_Device_rings .nil (fun _ => .nil) pass0 (ge_ix (ix_G K) sim_ix (ge_dget hr.u1 (gv 0) ge_str) (gv 5) (fun _ _ => rfl))) (by with_unfolding_all rfl))))))) (fun _ _ _ _ _ => (gv 5)))
      (gss_one (gs_if (gt_cmp (op_neG K hr.units) sim_ne (gv 4) (ge_lst ga_nil) (nomark _)) (gss_one (gs_ret ge_bl)) gss_nil))) gss_nil)))))
      (gss_one (gs_ret ge_bl))), fun svs m SX Sv h => ?_⟩)
  · obtain ⟨h, s, p, kv, rfl, _⟩ := h
    rfl
  · obtain ⟨h, s, p, kv, rfl, D, pro, hp, hkv, hq, q⟩ := h
    have hn := D.desk.n
    have hbl := D.bells
    have hln : (devsP s).length = s.n := by unfold devsP; rw [List.length_map, List.length_range]
    walk_at "r"
    refine ⟨_, _, _, D.h, rfl, h_bells s, ?_⟩
    walk_at "r"
    refine ⟨⟨by omega, by omega⟩, ?_⟩
    refine for_inv (fun r δ m' => m' = m ∧ ∃ (j : Nat) (a2 a3 a4 a5 : Option SV), r = rngS j (s.bs.length - j) ∧ j ≤ s.bs.length ∧ δ = [some (.ref h), some (.ref p), a2, a3, a4, a5]) ⟨rfl, 0, _, _, _, _, (by rw [Nat.sub_zero, Int.toNat_natCast]; rfl), Nat.zero_le _, rfl⟩ (fun x r δ m' hI => ?_) (fun δ m' hI => ?_)
    · obtain ⟨rfl, j, a2, a3, a4, a5, hr, hj, rfl⟩ := hI
      have hj : j < s.bs.length := by
        by_cases e : j < s.bs.length
        · exact e
        · rw [show s.bs.length - j = 0 by omega] at hr; cases hr
      rw [show s.bs.length - j = (s.bs.length - (j + 1)) + 1 by omega] at hr
      obtain ⟨rfl, rfl⟩ := List.cons.inj hr
      obtain ⟨b, hb⟩ : ∃ b, s.bs[j]? = some b := ⟨_, List.getElem?_eq_getElem hj⟩
      have okb := pro.st j b hb
      obtain ⟨xs0, e0⟩ := st_0 b
      refine ⟨trivial, ?_⟩
      walk_at "r"
      refine ⟨_, _, _, D.h, rfl, h_desk s, ?_⟩
      walk_at "r"
      refine ⟨_, D.desk.d, desk_no (by decide +kernel) (by decide +kernel), ?_⟩
      walk_at "r"
      refine ⟨s.d, s.b, _, s.bs, _, rfl, D.desk, ⟨_, rfl⟩, fun i' q' e hq' => ?_, fun hf => ?_⟩
      rotate_left
      · rw [wh_of' (by omega) (by omega)] at hf
        cases hf
      obtain rfl : j = i' := by have := SV.int.inj e; omega
      rw [hb] at hq'
      cases hq'
      walk_at "r"
      refine cut_by (fun δ m8 => m8 = m' ∧ δ = [some (.ref h), some (.ref p), some (.int (j : Int)), some (stV b), a4, a5]) ?_ (fun δ m8 hJ => ?_)
      · walk_at "r"
        refine ⟨_, _, hp, rfl, ?_⟩
        cases hv : valS kv (.inl (j : Int)) with
        | none =>
          walk_at "r"
          walk_at "f"
          walk_at "r"
          walk_at "f"
          walk_at "r"
          exact .of ⟨rfl, rfl⟩
        | some v =>
          obtain ⟨k, rfl, hk⟩ := hkv j v hv
          rw [hb] at hk
          cases hk
          walk_at "r"
          walk_at "t"
          walk_at "r"
          refine ⟨_, _, _, hp, rfl, hv, ?_⟩
          walk_at "r"
          refine ⟨by walk_at "len", ?_⟩
          walk_at "r"
          refine ⟨stP ((("taken" : Str), some (k : Int))), stP ((("taken" : Str), some (k : Int))), rd_st (("taken" : Str), some (k : Int)), rd_st (("taken" : Str), some (k : Int)), shp_ok (stP_ok okb).2 (by decide), shp_ok (stP_ok okb).2 (by decide), ?_⟩
          rw [eqv_refl _ (stP_ok okb).1]
          walk_at "r"
          walk_at "f"
          walk_at "r"
          exact .of ⟨rfl, rfl⟩
      obtain ⟨rfl, rfl⟩ := hJ
      rw [e0]
      walk_at "r"
      refine ⟨_, atI_nat (j := 0) rfl, ?_⟩
      walk_at "r"
      refine ⟨by walk_at "len", ?_⟩
      walk_at "r"
      refine ⟨_, rfl, rfl, rfl, ?_⟩
      walk_at "r"
      have hin : inS (.str b.1) [.str "taken", .str "withdrawn"] = (decide (("taken" : Str) = b.1) || decide (("withdrawn" : Str) = b.1)) := by
        show ((("taken" : Str) == b.1) || ((("withdrawn" : Str) == b.1) || false)) = _
        rw [Bool.or_false]
        rfl
      change Br (inS (.str b.1) [.str "taken", .str "withdrawn"]) _ _
      rw [hin]
      refine Br_i (fun hs => ?_) (fun _ => ?_)
      · have hs2 : b.1 = "taken" ∨ b.1 = "withdrawn" := by
          rw [Bool.or_eq_true] at hs
          exact hs.elim (fun z => .inl (of_decide_eq_true z).symm) fun z => .inr (of_decide_eq_true z).symm
        walk_at "r"
        refine ⟨_, _, _, D.h, rfl, h_all s, ?_⟩
        walk_at "r"
        refine ⟨_, D.al, ?_⟩
        walk_at "r"
        rw [hln]
        refine ⟨⟨by omega, by omega⟩, ?_⟩
        refine ⟨by rw [rngS_length]; exact line_le (by omega), fun pl hpl => ?_⟩
        refine lc_filt (fun _ => false) id (fun acc => trivial) (fun y hy acc K1 K0 _ h0 => ?_) ?_
        · obtain ⟨k, hk⟩ := List.getElem?_of_mem hy
          obtain ⟨hk, rfl⟩ := rngS_get _ _ _ _ hk
          have hk : k < s.n := by omega
          have D2 := D.le (.new (o := .lst acc) (.refl _) hpl)
          have Dk := D2.dev k hk
          rw [Int.zero_add]
          walk_at "r"
          refine ⟨_, _, _, D2.h, rfl, h_ison s, ?_⟩
          walk_at "r"
          refine ⟨_, _, D2.ion, ons_at s hk, ?_⟩
          walk_at "r"
          refine Br_i (fun ho => ?_) (fun _ => ?_)
          · walk_at "r"
            refine ⟨_, _, _, D2.h, rfl, h_all s, ?_⟩
            walk_at "r"
            refine ⟨_, _, D2.al, devs_at s hk, ?_⟩
            walk_at "r"
            refine ⟨_, Dk.p, dev_no (by decide +kernel) (by decide +kernel) (by decide +kernel) (by decide +kernel), ?_⟩
            walk_at "r"
            refine ⟨_, _, _, _, _, _, _, rfl, Dk, fun r hr => ?_⟩
            walk_at "r"
            refine ⟨_, up_same, rfl, flat_ints _, ?_⟩
            walk_at "r"
            change Br (inS (.int (j : Int)) (List.map SV.int _)) _ _
            rw [inS_ints, decide_eq_false (fun z => hq j k b.1 b.2 hk ho hb hs2 (among_look z))]
            walk_at "f"
            exact h0 _ (.new (.refl _) hr) rfl
          · walk_at "f"
            exact h0 _ (.refl _) rfl
        have ez : ((rngS 0 ((s.n : Int)).toNat).filter (fun _ => false)).map id = [] := by simp
        rw [ez]
        walk_at "r"
        refine ⟨by walk_at "len", fun p2 hp2 => ?_⟩
        walk_at "r"
        refine ⟨.list [], .list [], .ref (kp up_same hp2) .nil, .ref up_same .nil, rfl, rfl, ?_⟩
        walk_at "r"
        walk_at "f"
        walk_at "r"
        exact ⟨_, .new (.new (.refl _) hpl) hp2, rfl, j + 1, _, _, _, _, rfl, hj, rfl⟩
      · walk_at "r"
        exact .of ⟨rfl, j + 1, _, _, _, _, rfl, hj, rfl⟩
    · obtain ⟨rfl, j, a2, a3, a4, a5, hr, hj, rfl⟩ := hI
      refine ⟨trivial, ?_⟩
      walk_at "r"
      exact .of (q _ (.refl _))
end
end Hn

set_option Elab.async false
set_option linter.all false
set_option maxRecDepth 100000
set_option maxHeartbeats 8000000
namespace Hn
open PySem PySem.Spec PyProof.Rows L2 Sy Lm
section
variable {P : Program} {w : World} {K : PySem.W.Frag} {mg : Str → Option Value} {base : Heap}
local macro_rules | `(tactic| walk_at "r") => `(tactic| (conv => whnf))
local macro_rules | `(tactic| walk_at "sp") => `(tactic| (first | rfl | contradiction | exact (False.elim ‹_›)))
local macro_rules | `(tactic| walk_at "len") => `(tactic| (exact Nat.le_trans (show _ ≤ 100000 by first | (simp; done) | (rw [rngS_length]; decide)) (by decide)))
local macro_rules | `(tactic| walk_at "f") => `(tactic| (refine Br_i (fun hb => Bool.noConfusion (show false = true from hb)) (fun _ => ?_)))
local macro_rules | `(tactic| walk_at "t") => `(tactic| (refine Br_i (fun _ => ?_) (fun hb => Bool.noConfusion (show true = false from hb))))
local macro_rules | `(tactic| walk_at "le") => `(tactic| first | exact Le.refl _ | (refine Le.put ?_; walk_at "le") | (refine Le.new ?_ (by assumption); walk_at "le"))
def spLaw : SpS := fun vs m _ S => ∃ ns : List Int, vs = [.lst (ns.map .int)] ∧ ns.length ≤ 63 ∧ ∀ m', S (.bl true) m'
theorem own_box {m m' : Mem} {h : Addr} {s : HS} (D : House K m h s) (k : Kps m m' h s) {b : Addr} (bx : IsBox m b) : IsBox m' b := by
  obtain ⟨c, h1, h2⟩ := bx
  exact ⟨c, k _ _ h1 (own_pl D h1 id), k _ _ h2 (own_pl D h2 id)⟩
theorem frm_kps {m m' : Mem} {h : Addr} {s s' : HS} (F : Frm m m' h s s') : Kps m m' h s := fun x o e n => F.keep x o e fun f => n (.inl f)
theorem turn_len {s s' : HS} {v : SV} (t : TurnSt s s' v) (h : s.bs.length ≤ 12) : s'.bs.length ≤ 12 := by
  have hh : ∀ q, (heard s q).bs.length = s.bs.length := fun q => by
    unfold heard
    split
    · exact hearD_len _ _ _ _
    · split <;> rfl
  cases t with
  | offer hl => show (s.bs ++ _).length ≤ 12; rw [List.length_append]; simp; omega
  | on => exact h
  | take => exact h
  | withdraw => show (wdr s.bs _).length ≤ 12; rw [wdr_len]; exact h
  | post => exact h
  | hear s' hs =>
    cases hs with
    | stay => exact h
    | go q hq s1 h1 => rcases h1 with rfl | rfl; exact h; rw [hh]; exact h
    | lose q hq s1 h1 r L hL hl =>
      show s1.bs.length ≤ 12
      rcases h1 with rfl | rfl
      · exact h
      · rw [hh]; exact h
theorem offer_pro {s : HS} (h : Pro s) : Pro { s with bs := s.bs ++ [(("open" : Str), none)] } := by
  refine h.setB (fun i b e => ?_) fun i k ⟨t, z⟩ => ⟨t, ?_⟩
  · by_cases hi : i < s.bs.length
    · rw [List.getElem?_append_left hi] at e
      exact h.st i b e
    · rw [List.getElem?_append_right (by omega)] at e
      obtain rfl := List.mem_singleton.mp (List.mem_of_getElem? e)
      exact .inl ⟨rfl, rfl⟩
  · show (s.bs ++ _)[i]? = _
    rw [List.getElem?_append_left (List.getElem?_eq_some_iff.mp z).1]
    exact z
theorem offer_opn {s : HS} (d : DOk s) (r : ∀ q ∈ s.road, okLtr s q) (o : Opn s) : Opn { s with bs := s.bs ++ [(("open" : Str), none)] } := by
  intro i e
  have e : (s.bs ++ [(("open" : Str), none)])[i]? = _ := e
  by_cases hi : i < s.bs.length
  · rw [List.getElem?_append_left hi] at e
    exact o i e
  · refine ⟨fun k hk => ?_, fun q hq e2 => ?_⟩
    · show lookB (s.dev k).dbs (i : Int) = none ∨ _
      cases e3 : lookB (s.dev k).dbs (i : Int) with
      | none => exact .inl rfl
      | some st =>
        have := (d k hk).rg _ (lookB_mem e3)
        simp only at this
        omega
    · have := (r q hq).2.2.1
      omega
theorem rds_st {m : Mem} (bs : List (Str × Option Int)) : Rds m (bs.map stV) (bs.map stP) := by
  induction bs with
  | nil => exact .nil
  | cons b r ih => exact .cons (rd_st b) ih
def stF (bs : List (Str × Option Int)) (i : Nat) : SV := match bs[i]? with
  | some b => stV b
  | none => .non
/-- rounds -/
def rnds : Nat → HS → HS
  | 0, s => s
  | c + 1, s => rnd (rnds c s)
theorem rnds_n (s : HS) : ∀ c, (rnds c s).n = s.n ∧ (rnds c s).bs.length = s.bs.length ∧ (rnds c s).road = s.road ∧ (∀ k, ((rnds c s).dev k).on = (s.dev k).on) ∧ ∀ h x, Own h (rnds c s) x ↔ Own h s x
  | 0 => ⟨rfl, rfl, rfl, fun _ => rfl, fun _ _ => Iff.rfl⟩
  | c + 1 => by
    obtain ⟨h1, h2, h3, h4, h5⟩ := rnds_n s c
    exact ⟨h1, (rnd_len _).trans h2, h3, fun k => (rnd_on k).trans (h4 k), fun h x => (own_rnd x).trans (h5 h x)⟩
theorem rnds_rd (s : HS) : ∀ c, (rnds c s).rd = s.rd
  | 0 => rfl
  | c + 1 => rnds_rd s c
def opB (bs : List (Str × Option Int)) (x : SV) : Bool := match x with
  | .int i => match bs[i.toNat]? with
    | some b => decide (b.1 = "open")
    | none => false
  | _ => false
theorem one_of {n k : Nat} {pk : Nat → Bool} (hk : k < n) (hp : pk k = true) (hu : ∀ j, j < n → pk j = true → j = k) : (List.range n).filter pk = [k] := by
  have h1 : (List.range n).Nodup := List.nodup_range
  have h2 : ∀ L : List Nat, L.Nodup → (∀ j ∈ L, pk j = true → j = k) → k ∈ L → L.filter pk = [k] := fun L => by
    induction L with
    | nil => intro _ _ h; cases h
    | cons a r ih =>
      intro hn hu hm
      obtain ⟨n1, n2⟩ := List.nodup_cons.mp hn
      by_cases e : a = k
      · subst e
        rw [List.filter_cons, if_pos hp]
        congr 1
        refine List.filter_eq_nil_iff.mpr fun j hj z => n1 ?_
        have := hu j (List.mem_cons_of_mem _ hj) z
        rw [← this]; exact hj
      · have na : ¬ pk a = true := fun z => e (hu a List.mem_cons_self z)
        rw [List.filter_cons, if_neg na]
        exact ih n2 (fun j hj => hu j (List.mem_cons_of_mem _ hj)) ((List.mem_cons.mp hm).resolve_left fun z => e z.symm)
  exact h2 _ h1 (fun j hj => hu j (List.mem_range.mp hj)) (List.mem_range.mpr hk)
/-- known there, by another word than wanted -/
def known (s : HS) (k : Nat) (i : Int) : Prop := ∃ l, lookB (s.dev k).dbs i = some l ∧ l ≠ "wanted"
theorem rnds_pro {s : HS} (p : Pro s) (d : DOk s) : ∀ c, Pro (rnds c s) ∧ DOk (rnds c s) ∧ ∀ i k, own s i k → own (rnds c s) i k
  | 0 => ⟨p, d, fun _ _ z => z⟩
  | c + 1 => by
    obtain ⟨h1, h2, h3⟩ := rnds_pro p d c
    obtain ⟨g1, g2, g3⟩ := rnd_pro h1 h2
    exact ⟨g1, g2, fun i k z => g3 i k (h3 i k z)⟩
theorem calm_two {s : HS} (p : Pro s) (d : DOk s) (o : Opn s) {i : Nat} (hb : s.bs[i]? = some (("open" : Str), none)) (ho : ∃ k, k < s.n ∧ (s.dev k).on = true) : ∃ k, k < s.n ∧ (s.dev k).on = true ∧ (rnds 2 s).bs[i]? = some (("granted" : Str), some (k : Int)) ∧ (List.range s.n).filter (fun j => decide ((i : Int) ∈ ((rnds 2 s).dev j).rung)) = [k] := by
  obtain ⟨k, hk, hon, h1, h2⟩ := rnd_calm p d hb (o i hb).1 ho
  obtain ⟨p1, d1, _⟩ := rnd_pro p d
  obtain ⟨g1, g2⟩ := rnd_grant p1 d1 hk ((rnd_on k).trans hon) h1 h2
  obtain ⟨p2, d2, _⟩ := rnd_pro p1 d1
  refine ⟨k, hk, hon, g1, one_of hk (decide_eq_true g2) fun j hj hm => ?_⟩
  have o1 := p2.rung j hj i (of_decide_eq_true hm)
  rw [Int.toNat_natCast] at o1
  exact own_one o1 ⟨_, g1⟩
theorem states_map (bs : List (Str × Option Int)) : (rngS 0 bs.length).map (fun x => match x with | .int i => stF bs i.toNat | _ => SV.non) = bs.map stV := by
  rw [rngS_0, List.map_map]
  refine List.ext_getElem? fun i => ?_
  rw [List.getElem?_map, List.getElem?_map]
  by_cases h : i < bs.length
  · rw [List.getElem?_range h, List.getElem?_eq_getElem h]
    show some (stF bs ((i : Int)).toNat) = _
    rw [Int.toNat_natCast]
    unfold stF
    rw [List.getElem?_eq_getElem h]
    rfl
  · rw [List.getElem?_eq_none (by rw [List.length_range]; omega), List.getElem?_eq_none (by omega)]
    rfl
/-- devices that heard old letters -/
structure OldL (s s' : HS) : Prop where
  n : s'.n = s.n
  bs : s'.bs = s.bs
  road : s'.road = s.road
  rd : s'.rd = s.rd
  own : ∀ h x, Own h s' x ↔ Own h s x
  on : ∀ k, (s'.dev k).on = (s.dev k).on
  rung : ∀ k, (s'.dev k).rung = (s.dev k).rung
  kn : ∀ k i, known s k i → known s' k i
theorem OldL.refl (s : HS) : OldL s s := ⟨rfl, rfl, rfl, rfl, fun _ _ => Iff.rfl, fun _ => rfl, fun _ => rfl, fun _ _ h => h⟩
theorem hearV_same {dbs : List (Int × Str)} {rung : List Int} {w : Str} {i : Int} (h : ¬ (w = "grant" ∧ (lookB dbs i = none ∨ lookB dbs i = some ("wanted" : Str)))) : (hearV dbs rung w i).2 = rung := by
  unfold hearV
  split
  · rfl
  · split
    · rfl
    · split <;> rfl
theorem hearL_known {l w : Str} (h : l ≠ "wanted") : ∃ l', hearL (some l) w = some l' ∧ l' ≠ "wanted" := by
  unfold hearL
  rw [if_neg (fun z => by cases z.2), if_neg (fun z => z.2.elim (fun z => by cases z) fun z => h (Option.some.inj z))]
  split
  · exact ⟨_, rfl, by decide +kernel⟩
  · split
    · exact ⟨_, rfl, by decide +kernel⟩
    · exact ⟨l, rfl, h⟩
theorem OldL.hear {s s' : HS} (t : OldL s s') {k : Nat} {w : Str} {i : Int} (hw : w = "grant" → known s k i) : OldL s { s' with dev := setDev s'.dev k { s'.dev k with dbs := (hearV (s'.dev k).dbs (s'.dev k).rung w i).1, rung := (hearV (s'.dev k).dbs (s'.dev k).rung w i).2 } } := by
  have hs : (hearV (s'.dev k).dbs (s'.dev k).rung w i).2 = (s'.dev k).rung := hearV_same fun ⟨z1, z2⟩ => by
    obtain ⟨l, h1, h2⟩ := t.kn k i (hw z1)
    rw [h1] at z2
    rcases z2 with z | z
    · cases z
    · exact h2 (Option.some.inj z)
  refine ⟨t.n, t.bs, t.road, t.rd, fun h x => ?_, fun j => ?_, fun j => ?_, fun j x hk => ?_⟩
  · rw [← t.own h x]
    refine own_dev (s := s') (s1 := { s' with dev := setDev s'.dev k { s'.dev k with dbs := (hearV (s'.dev k).dbs (s'.dev k).rung w i).1, rung := (hearV (s'.dev k).dbs (s'.dev k).rung w i).2 } }) rfl rfl rfl rfl rfl rfl (fun j => ?_) x
    show (setDev s'.dev k _ j).p = _ ∧ (setDev s'.dev k _ j).kd = _ ∧ (setDev s'.dev k _ j).lr = _
    by_cases e : j = k
    · subst e; rw [setDev_eq]; exact ⟨rfl, rfl, rfl⟩
    · rw [setDev_ne e]; exact ⟨rfl, rfl, rfl⟩
  · show (setDev s'.dev k _ j).on = _
    by_cases e : j = k
    · subst e; rw [setDev_eq]; exact t.on j
    · rw [setDev_ne e]; exact t.on j
  · show (setDev s'.dev k _ j).rung = _
    by_cases e : j = k
    · subst e; rw [setDev_eq]; exact hs.trans (t.rung j)
    · rw [setDev_ne e]; exact t.rung j
  · obtain ⟨l, h1, h2⟩ := t.kn j x hk
    show ∃ l, lookB (setDev s'.dev k _ j).dbs x = some l ∧ l ≠ "wanted"
    by_cases e : j = k
    · subst e
      rw [setDev_eq]
      simp only [hearV_lk]
      split
      · next ex =>
        rw [← ex, h1]
        exact hearL_known h2
      · exact ⟨l, h1, h2⟩
    · rw [setDev_ne e]; exact ⟨l, h1, h2⟩
theorem ok_law (T : Tx K mg) : FnOk P w K mg base (L2.CX P w) 20 (He.ga K "law") T.fd_law ["_law_script"] (lift K spLaw) := by
  have G_law_begun := ok_law_begun (P := P) (w := w) (base := base) T
  have b_law_begun := b_law_begun T
  have G_law_house := ok_law_house (P := P) (w := w) (base := base) T
  have b_law_house := b_law_house T
  have G_law_is_quiet := ok_law_is_quiet (P := P) (w := w) (base := base) T
  have b_law_is_quiet := b_law_is_quiet T
  have G_law_rang_at := ok_law_rang_at (P := P) (w := w) (base := base) T
  have b_law_rang_at := b_law_rang_at T
  have G_law_round := ok_law_round (P := P) (w := w) (base := base) T
  have b_law_round := b_law_round T
  have G_law_take := ok_law_take (P := P) (w := w) (base := base) T
  have b_law_take := b_law_take T
  have G_law_taken := ok_law_taken (P := P) (w := w) (base := base) T
  have b_law_taken := b_law_taken T
  have G_law_turn := ok_law_turn (P := P) (w := w) (base := base) T
  have b_law_turn := b_law_turn T
  have G_Desk_offer := ok_Desk_offer (P := P) (w := w) (base := base) T
  have b_Desk_offer := b_Desk_offer T
  have G_Desk_state := fn_calm (ok_Desk_state (P := P) (w := w) (base := base) T)
  have b_Desk_state := b_Desk_state T
  have G_Device_hear := ok_Device_hear (P := P) (w := w) (base := base) T
  have b_Device_hear := b_Device_hear T
  have G_Device_rang := ok_Device_rang (P := P) (w := w) (base := base) T
  have b_Device_rang := b_Device_rang T
  have G_Device_turn := ok_Device_turn (P := P) (w := w) (base := base) T
  have kb_Device_turn := kb_Device_turn T
  refine fn_syX T.F_law sc_law (fun svs m SX Sv h => ?_) (fun cdv A outer s H E hr => ⟨_, _, (gss_cons (gs_set (i := 1) sc_law.nd rfl (.inl rfl) (ge_call G_law_begun ((hr.mono (by decide))) (by rfl) T.g__law_begun T.k__law_begun b_law_begun .nil (fun _ => .nil) pass0 (ga_cons (gv 0) ga_nil)))
      (gss_cons (gs_set (i := 2) sc_law.nd rfl (.inr rfl) (ge_call G_law_house ((hr.mono (by decide))) (by rfl) T.g__law_house T.k__law_house b_law_house .nil (fun _ => .nil) pass0 (ga_cons (gv 1) ga_nil)))
      (gss_cons (gs_for (passes_of rfl) rfl (gi_range1 (by rfl) T.z_range (ga_cons (ge_call G_law_take ((hr.mono (by decide))) (by rfl) T.g__law_take T.k__law_take b_law_take .nil (fun _ => .nil) pass0 (ga_cons (gv 1) (ga_cons (ge_ix (ix_G K) sim_ix (ge_lst (ga_cons ge_int (ga_cons ge_int ga_nil))) (ge_call G_law_take ((hr.mono (by decide))) (by rfl) T.g__law_take T.k__law_take b_law_take .nil (fun _ => .nil) pass0 (ga_cons (gv 1) (ga_cons ge_int ga_nil))) (fun _ _ => rfl)) ga_nil))) ga_nil)) (gg_name (i := 3) sc_law.nd rfl (.inl rfl))
      (gss_one (gs_expr (ge_call G_law_turn ((hr.mono (by decide))) (by rfl) T.g__law_turn T.k__law_turn b_law_turn .nil (fun _ => .nil) pass0 (ga_cons (gv 1) (ga_cons (gv 2) ga_nil))))))
      (gss_cons (gs_set (i := 4) sc_law.nd rfl (.inl rfl) (ge_call G_law_take ((hr.mono (by decide))) (by rfl) T.g__law_take T.k__law_take b_law_take .nil (fun _ => .nil) pass0 (ga_cons (gv 1) (ga_cons (ge_callB (cr_len K) sim_len (by rfl) T.z_len (by decide +kernel) (ga_cons (ge_dget hr.u1 (gv 2) ge_str) ga_nil)) ga_nil))))
      (gss_cons (gs_if (gt_cmp op_notN sim_notN (ge_methK1 T.c_Device T.M_Device_turn G_Device_turn ((hr.mono (by decide))) kb_Device_turn pass0 (ge_ix (ix_G K) sim_ix (ge_dget hr.u1 (gv 2) ge_str) (gv 4) (fun _ _ => rfl)) ge_bl) ge_non (nomark _)) (gss_one (gs_ret ge_bl)) gss_nil)
      (gss_cons (gs_asg ge_bl (gg_subL (ge_dget hr.u1 (gv 2) ge_str) (gv 4)))
      (gss_cons (gs_for (passes_of rfl) rfl (gi_range1 (by rfl) T.z_range (ga_cons (ge_call G_law_take ((hr.mono (by decide))) (by rfl) T.g__law_take T.k__law_take b_law_take .nil (fun _ => .nil) pass0 (ga_cons (gv 1) (ga_cons ge_int ga_nil))) ga_nil)) (gg_name (i := 5) sc_law.nd rfl (.inl rfl))
      (gss_one (gs_dput hr.u1 (gv 2) ge_str (ge_op (op_addG K) sim_add (ge_meth0 T.c_Desk T.M_Desk_offer G_Desk_offer ((hr.mono (by decide))) b_Desk_offer .nil (fun _ => .nil) pass0 (ge_dget hr.u1 (gv 2) ge_str)) ge_int))))
      (gss_cons (gs_setLc (i := 6) (own := [("_law_bell", 5)]) (by rfl) sc_law.nd rfl rfl (sw_true rfl rfl rfl (by decide +kernel)) (gi_range1 (by rfl) T.z_range (ga_cons (ge_dget hr.u1 (gv 2) ge_str) ga_nil)) (blkOk_by (own := [("_law_bell", 5)]) (N := ["_law_script", "_law_box", "_law_h", "_law_turn_here", "_law_k", "_law_bell", "_law_calm", "_law_some", "_law_taken_here", "_law_states", "_law_rang", "_law_device", "_law_goal", "_law_letter"]) (sc := (defScope s_law)) (by decide +kernel)) (fun _ _ _ _ _ => (gg_name (i := 5) sc_law.nd rfl (.inl rfl))) (wp_name (by decide)) (fun _ _ _ _ _ => (gts_one (gt_cmp (op_eqG K hr.units) sim_eq (ge_meth T.c_Desk T.M_Desk_state G_Desk_state ((hr.mono (by decide))) b_Desk_state .nil (fun _ => .nil) pass0 (ge_dget hr.u1 (gv 2) ge_str) (ga_cons (gv 5) ga_nil)) (ge_tup (ga_cons ge_str ga_nil)) (nomark _)))) (fun _ _ _ _ _ => (gv 5)))
      (gss_cons (gs_for (passes_of rfl) rfl (gi_range1 (by rfl) T.z_range (ga_cons ge_int ga_nil)) (gg_name (i := 3) sc_law.nd rfl (.inl rfl))
      (gss_one (gs_if (gt_cmp (op_neG K hr.units) sim_ne (ge_call G_law_round ((hr.mono (by decide))) (by rfl) T.g__law_round T.k__law_round b_law_round .nil (fun _ => .nil) pass0 (ga_cons (gv 2) ga_nil)) (ge_lst ga_nil) (nomark _)) (gss_one (gs_ret ge_bl)) gss_nil)))
      (gss_cons (gs_for (passes_of rfl) rfl (gi_seq (gv 6)) (gg_name (i := 5) sc_law.nd rfl (.inl rfl))
      (gss_cons (gs_set (i := 7) sc_law.nd rfl (.inr rfl) (ge_call G_law_rang_at ((hr.mono (by decide))) (by rfl) T.g__law_rang_at T.k__law_rang_at b_law_rang_at .nil (fun _ => .nil) pass0 (ga_cons (gv 2) (ga_cons (gv 5) ga_nil))))
      (gss_cons (gs_if (gw_pt (gw_or (gt_cmp (op_neG K hr.units) sim_ne (ge_callB (cr_len K) sim_len (by rfl) T.z_len (by decide +kernel) (ga_cons (gv 7) ga_nil)) ge_int (nomark _)) (gw_or1 (gt_not (gt_val (ge_ix (ix_G K) sim_ix (ge_dget hr.u1 (gv 2) ge_str) (ge_ix (ix_G K) sim_ix (gv 7) ge_int (fun _ _ => rfl)) (fun _ _ => rfl))))))) (gss_one (gs_ret ge_bl)) gss_nil)
      (gss_one (gs_if (gt_cmp (op_notInDG K hr.u65) sim_notInD (ge_meth T.c_Desk T.M_Desk_state G_Desk_state ((hr.mono (by decide))) b_Desk_state .nil (fun _ => .nil) pass0 (ge_dget hr.u1 (gv 2) ge_str) (ga_cons (gv 5) ga_nil)) (ge_lst (ga_cons (ge_tup (ga_cons ge_str (ga_cons (ge_ix (ix_G K) sim_ix (gv 7) ge_int (fun _ _ => rfl)) ga_nil))) (ga_cons (ge_tup (ga_cons ge_str (ga_cons (ge_ix (ix_G K) sim_ix (gv 7) ge_int (fun _ _ => rfl)) ga_nil))) ga_nil))) (by with_unfolding_all rfl)) (gss_one (gs_ret ge_bl)) gss_nil)))))
      (gss_cons (gs_set (i := 8) sc_law.nd rfl (.inl rfl) (ge_call G_law_taken ((hr.mono (by decide))) (by rfl) T.g__law_taken T.k__law_taken b_law_taken .nil (fun _ => .nil) pass0 (ga_cons (gv 1) (ga_cons (gv 2) ga_nil))))
      (gss_cons (gs_for (passes_of rfl) rfl (gi_range1 (by rfl) T.z_range (ga_cons ge_int ga_nil)) (gg_name (i := 3) sc_law.nd rfl (.inl rfl))
      (gss_one (gs_if (gt_cmp (op_neG K hr.units) sim_ne (ge_call G_law_round ((hr.mono (by decide))) (by rfl) T.g__law_round T.k__law_round b_law_round .nil (fun _ => .nil) pass0 (ga_cons (gv 2) ga_nil)) (ge_lst ga_nil) (nomark _)) (gss_one (gs_ret ge_bl)) gss_nil)))
      (gss_cons (gs_if (gt_not (gt_val (ge_call G_law_is_quiet ((hr.mono (by decide))) (by rfl) T.g__law_is_quiet T.k__law_is_quiet b_law_is_quiet .nil (fun _ => .nil) pass0 (ga_cons (gv 2) (ga_cons (gv 8) ga_nil))))) (gss_one (gs_ret ge_bl)) gss_nil)
      (gss_cons (gs_asg (ge_tup (ga_cons (ge_lc (own := [("_law_bell", 5)]) (by rfl) sc_law.nd (gi_range1 (by rfl) T.z_range (ga_cons (ge_dget hr.u1 (gv 2) ge_str) ga_nil)) (blkOk_by (own := [("_law_bell", 5)]) (N := ["_law_script", "_law_box", "_law_h", "_law_turn_here", "_law_k", "_law_bell", "_law_calm", "_law_some", "_law_taken_here", "_law_states", "_law_rang", "_law_device", "_law_goal", "_law_letter"]) (sc := (defScope s_law)) (by decide +kernel)) (fun _ _ _ _ _ => (gg_name (i := 5) sc_law.nd rfl (.inl rfl))) (wp_name (by decide)) (fun _ _ _ _ _ => gts_nil) (fun _ _ _ _ _ => (ge_meth T.c_Desk T.M_Desk_state G_Desk_state ((hr.mono (by decide))) b_Desk_state .nil (fun _ => .nil) pass0 (ge_dget hr.u1 (gv 2) ge_str) (ga_cons (gv 5) ga_nil)))) (ga_cons (ge_lc (own := [("_law_device", 11)]) (by rfl) sc_law.nd (gi_seq (ge_dget hr.u1 (gv 2) ge_str)) (blkOk_by (own := [("_law_device", 11)]) (N := ["_law_script", "_law_box", "_law_h", "_law_turn_here", "_law_k", "_law_bell", "_law_calm", "_law_some", "_law_taken_here", "_law_states", "_law_rang", "_law_device", "_law_goal", "_law_letter"]) (sc := (defScope s_law)) (by decide +kernel)) (fun _ _ _ _ _ => (gg_name (i := 11) sc_law.nd rfl (.inl rfl))) (wp_name (by decide)) (fun _ _ _ _ _ => gts_nil) (fun _ _ _ _ _ => (ge_meth0 T.c_Device T.M_Device_rang G_Device_rang ((hr.mono (by decide))) b_Device_rang .nil (fun _ => .nil) pass0 (gv 11)))) ga_nil))) (gg_tup 2 (by rfl) (ggs_cons (gg_name (i := 9) sc_law.nd rfl (.inl rfl)) (ggs_cons (gg_name (i := 10) sc_law.nd rfl (.inr rfl)) ggs_nil))))
      (gss_cons (gs_for (passes_of rfl) rfl (gi_seq (ge_dget hr.u1 (gv 2) ge_str)) (gg_tup 2 (by rfl) (ggs_cons (gg_name (i := 12) sc_law.nd rfl (.inl rfl)) (ggs_cons (gg_name (i := 13) sc_law.nd rfl (.inl rfl)) ggs_nil)))
      (gss_one (gs_if (gt_cmp op_notN sim_notN (gv 12) ge_non (nomark _)) (gss_one (gs_if (gt_cmp op_notN sim_notN (ge_meth T.c_Device T.M_Device_hear G_Device_hear ((hr.mono (by decide))) b_Device_hear .nil (fun _ => .nil) pass0 (ge_ix (ix_G K) sim_ix (ge_dget hr.u1 (gv 2) ge_str) (gv 12) (fun _ _ => rfl)) (ga_cons (gv 13) ga_nil)) ge_non (nomark _)) (gss_one (gs_ret ge_bl)) gss_nil)) gss_nil)))
      (gss_cons (gs_set (i := 7) sc_law.nd rfl (.inr rfl) (ge_lc (own := [("_law_device", 11)]) (by rfl) sc_law.nd (gi_seq (ge_dget hr.u1 (gv 2) ge_str)) (blkOk_by (own := [("_law_device", 11)]) (N := ["_law_script", "_law_box", "_law_h", "_law_turn_here", "_law_k", "_law_bell", "_law_calm", "_law_some", "_law_taken_here", "_law_states", "_law_rang", "_law_device", "_law_goal", "_law_letter"]) (sc := (defScope s_law)) (by decide +kernel)) (fun _ _ _ _ _ => (gg_name (i := 11) sc_law.nd rfl (.inl rfl))) (wp_name (by decide)) (fun _ _ _ _ _ => gts_nil) (fun _ _ _ _ _ => (ge_meth0 T.c_Device T.M_Device_rang G_Device_rang ((hr.mono (by decide))) b_Device_rang .nil (fun _ => .nil) pass0 (gv 11)))))
      (gss_cons (gs_if (gt_cmp (op_neG K hr.units) sim_ne (ge_lc (own := [("_law_k", 4)]) (by rfl) sc_law.nd (gi_range1 (by rfl) T.z_range (ga_cons (ge_callB (cr_len K) sim_len (by rfl) T.z_len (by decide +kernel) (ga_cons (gv 7) ga_nil)) ga_nil)) (blkOk_by (own := [("_law_k", 4)]) (N := ["_law_script", "_law_box", "_law_h", "_law_turn_here", "_law_k", "_law_bell", "_law_calm", "_law_some", "_law_taken_here", "_law_states", "_law_rang", "_law_device", "_law_goal", "_law_letter"]) (sc := (defScope s_law)) (by decide +kernel)) (fun _ _ _ _ _ => (gg_name (i := 4) sc_law.nd rfl (.inl rfl))) (wp_name (by decide)) (fun _ _ _ _ _ => (gts_one (gw_pt (gw_and (gt_val (ge_ix (ix_G K) sim_ix (ge_dget hr.u1 (gv 2) ge_str) (gv 4) (fun _ _ => rfl))) (gw_and1 (gt_cmp (op_neG K hr.units) sim_ne (ge_ix (ix_G K) sim_ix (gv 7) (gv 4) (fun _ _ => rfl)) (ge_ix (ix_G K) sim_ix (gv 10) (gv 4) (fun _ _ => rfl)) (nomark _))))))) (fun _ _ _ _ _ => (gv 4))) (ge_lst ga_nil) (nomark _)) (gss_one (gs_ret ge_bl)) gss_nil)
      (gss_one (gs_ret (ge_cmp (op_eqG K hr.units) sim_eq (ge_lc (own := [("_law_bell", 5)]) (by rfl) sc_law.nd (gi_range1 (by rfl) T.z_range (ga_cons (ge_dget hr.u1 (gv 2) ge_str) ga_nil)) (blkOk_by (own := [("_law_bell", 5)]) (N := ["_law_script", "_law_box", "_law_h", "_law_turn_here", "_law_k", "_law_bell", "_law_calm", "_law_some", "_law_taken_here", "_law_states", "_law_rang", "_law_device", "_law_goal", "_law_letter"]) (sc := (defScope s_law)) (by decide +kernel)) (fun _ _ _ _ _ => (gg_name (i := 5) sc_law.nd rfl (.inl rfl))) (wp_name (by decide)) (fun _ _ _ _ _ => gts_nil) (fun _ _ _ _ _ => (ge_meth T.c_Desk T.M_Desk_state G_Desk_state ((hr.mono (by decide))) b_Desk_state .nil (fun _ => .nil) pass0 (ge_dget hr.u1 (gv 2) ge_str) (ga_cons (gv 5) ga_nil)))) (gv 9) (nomark _))))))))))))))))))))), fun svs m SX Sv h => ?_⟩)
  · obtain ⟨ns, rfl, _⟩ := h
    rfl
  obtain ⟨ns, rfl, hl, q⟩ := h
  walk_at "r"
  refine ⟨ns, rfl, hl, fun b cx hcx hb ne => ?_⟩
  have bx : IsBox (up (up m cx .bxi) b (.box cx)) b := ⟨cx, up_same, by rw [up_ne (Ne.symm ne)]; exact up_same⟩
  generalize up (up m cx .bxi) b (.box cx) = m0 at bx
  clear hcx hb ne
  walk_at "r"
  refine ⟨b, rfl, bx, fun m1 h s0 l1 D1 nh => ?_⟩
  have bx1 := bx.le l1
  clear l1 bx
  walk_at "r"
  refine ⟨by walk_at "len", fun p1 hp1 => ?_⟩
  walk_at "r"
  refine ⟨bx1.new hp1, small (by decide) (by decide), fun g1 g10 g11 => ?_⟩
  walk_at "r"
  refine ⟨_, _, up_same, pick2 g10 g11, ?_⟩
  rw [ite_int]
  walk_at "r"
  refine ⟨bx1.new hp1, small (by split <;> decide) (by split <;> decide), fun tn tn0 tn1 => ?_⟩
  have tn61 : tn < 81 := by split at tn1 <;> omega
  clear tn1
  have D2 := D1.le (.new (o := .lst [.int 20, .int 81]) (.refl m1) hp1)
  have bx2 := bx1.le (.new (o := .lst [.int 20, .int 81]) (.refl m1) hp1)
  generalize up m1 p1 _ = m2 at D2 bx2 ⊢
  clear D1 bx1 hp1
  walk_at "r"
  refine ⟨⟨by omega, by omega⟩, ?_⟩
  refine for_inv (fun r δ m' => ∃ (s : HS) (t : Nat) (a3 : Option SV), House K m' h s ∧ Pro s ∧ Opn s ∧ IsBox m' b ∧ s.road.length ≤ 128 * t ∧ t + r.length ≤ 81 ∧ s.bs.length ≤ 12 ∧ δ = [some (.lst (ns.map .int)), some (.ref b), some (.ref h), a3, none, none, none, none, none, none, none, none, none, none]) ⟨s0, 0, _, D2, new_pro nh, new_opn nh, bx2, by rw [nh.2.1]; simp, by rw [rngS_length]; omega, by rw [nh.1]; simp, rfl⟩ (fun x r δ m' hI => ?_) (fun δ m' hI => ?_)
  · obtain ⟨s, t, a3, D, pro, opn, bx, hrd, ht, hbs, rfl⟩ := hI
    rw [List.length_cons] at ht
    refine ⟨trivial, ?_⟩
    walk_at "r"
    refine ⟨b, h, s, rfl, bx, D, by omega, fun m3 s' v D' st F => ?_⟩
    walk_at "r"
    have := turn_road st
    exact .of ⟨s', t + 1, _, D', turn_pro pro st, turn_opn pro D.dok D.road opn st, own_box D (frm_kps F) bx, by omega, by omega, turn_len st hbs, rfl⟩
  obtain ⟨s, t, a3, D, pro, opn, bx, hrd, ht, hbs, rfl⟩ := hI
  refine ⟨trivial, ?_⟩
  clear D2 bx2
  have hn := D.desk.n
  have hln : (devsP s).length = s.n := by unfold devsP; rw [List.length_map, List.length_range]
  have hlo : (onsP s).length = s.n := by unfold onsP; rw [List.length_map, List.length_range]
  walk_at "r"
  refine ⟨_, _, _, D.h, rfl, h_all s, ?_⟩
  walk_at "r"
  refine ⟨_, D.al, ?_⟩
  walk_at "r"
  rw [hln]
  refine ⟨bx, small (by omega) (by omega), fun k' k0 k1 => ?_⟩
  obtain ⟨k, rfl⟩ : ∃ k : Nat, k' = k := ⟨k'.toNat, by omega⟩
  have hk : k < s.n := by omega
  have Dk := D.dev k hk
  obtain ⟨τ, t0, t1, t2, t3, t4, t5, t6⟩ := D.tag
  obtain ⟨u1, u2, u3⟩ := t6 k hk
  walk_at "r"
  refine ⟨_, _, _, D.h, rfl, h_all s, ?_⟩
  walk_at "r"
  refine ⟨_, _, D.al, devs_at s hk, ?_⟩
  walk_at "r"
  refine ⟨_, Dk.p, dev_no (by decide +kernel) (by decide +kernel) (by decide +kernel) (by decide +kernel), ?_⟩
  walk_at "r"
  refine ⟨_, _, _, _, _, _, _, true, rfl, Dk, ?_⟩
  walk_at "r"
  walk_at "f"
  walk_at "r"
  have fp : ∀ {x : Addr} {n : Nat}, τ x = n → n ≠ 10 + 3 * k → up m' (s.dev k).p (.ins (He.ga K "Device") (devF k true (s.dev k).kd (s.dev k).lr)) x = m' x := fun {x n} e ne => up_ne fun z => ne (by rw [← e, z, u1])
  refine ⟨_, _, _, (fp t0 (by omega)).trans D.h, rfl, h_ison s, ?_⟩
  walk_at "r"
  refine ⟨_, k, (fp t3 (by omega)).trans D.ion, ixN_n (by rw [hlo]; exact hk), ?_⟩
  have nip : s.ion ≠ (s.dev k).p := fun e => by rw [e, u1] at t3; omega
  rw [up_comm (Ne.symm nip)]
  have D3 := D.setOn hk true
  have bx3 := own_box D (((Kps.refl m' h s).up (x := s.ion) (o := .lst ((onsP s).set k (.bl true))) (.inl (.inl (.inr (.inr (.inl rfl)))))).up (x := (s.dev k).p) (o := .ins (He.ga K "Device") (devF k true (s.dev k).kd (s.dev k).lr)) (.inl (.inl (.inr (.inr (.inr (.inr ⟨k, hk, .inl rfl⟩))))))) bx
  have pro3 := turn_pro pro (.on k hk true)
  have opn3 := turn_opn pro D.dok D.road opn (.on k hk true)
  have on3 : ∃ j, j < ({ s with dev := setDev s.dev k { s.dev k with on := true } } : HS).n ∧ (({ s with dev := setDev s.dev k { s.dev k with on := true } } : HS).dev j).on = true := ⟨k, hk, by show (setDev s.dev k _ k).on = true; rw [setDev_eq]⟩
  have hbs3 : ({ s with dev := setDev s.dev k { s.dev k with on := true } } : HS).bs.length ≤ 12 := hbs
  have hrd3 : ({ s with dev := setDev s.dev k { s.dev k with on := true } } : HS).road.length ≤ 128 * t := hrd
  generalize up (up m' s.ion _) (s.dev k).p _ = m3 at D3 bx3 ⊢
  generalize ({ s with dev := setDev s.dev k { s.dev k with on := true } } : HS) = s1 at D3 bx3 pro3 opn3 on3 hbs3 hrd3 ⊢
  clear fp nip u1 u2 u3 t0 t1 t2 t3 t4 t5 t6 Dk D bx pro opn hbs hrd hln hlo hn nh hk k0 k1
  refine ⟨bx3, small (by decide) (by decide), fun c0 c00 c01 => ?_⟩
  walk_at "r"
  refine ⟨⟨by omega, by omega⟩, ?_⟩
  refine for_inv (fun r δ m' => ∃ (s : HS) (c : Nat) (a5 : Option SV), House K m' h s ∧ Pro s ∧ Opn s ∧ IsBox m' b ∧ s.road.length ≤ 128 * t ∧ c + r.length ≤ 3 ∧ s.bs.length ≤ 12 + c ∧ (∃ j, j < s.n ∧ (s.dev j).on = true) ∧ δ = [some (.lst (ns.map .int)), some (.ref b), some (.ref h), a3, some (.int (k : Int)), a5, none, none, none, none, none, none, none, none]) ⟨s1, 0, _, D3, pro3, opn3, bx3, hrd3, by rw [rngS_length]; omega, by omega, on3, rfl⟩ (fun x r δ m' hI => ?_) (fun δ m' hI => ?_)
  · obtain ⟨s, c, a5, D, pro, opn, bx, hrd, hc, hbs, hon, rfl⟩ := hI
    rw [List.length_cons] at hc
    obtain ⟨τ, t0, t1, t2, t3, t4, t5, t6⟩ := D.tag
    refine ⟨trivial, ?_⟩
    walk_at "r"
    refine ⟨_, _, _, D.h, rfl, h_desk s, ?_⟩
    walk_at "r"
    refine ⟨_, D.desk.d, desk_no (by decide +kernel) (by decide +kernel), ?_⟩
    walk_at "r"
    refine ⟨s.d, s.b, _, s.bs, rfl, D.desk, ?_⟩
    walk_at "r"
    have nhb : h ≠ s.b := fun e => by rw [e, t1] at t0; omega
    refine ⟨_, _, (up_ne nhb).trans D.h, rfl, Nat.lt_of_lt_of_le (show 5 < 100000 by decide) (by decide), ?_⟩
    rw [put_bells]
    have z := D.offer (by omega) _ rfl
    have e5 : houseD { s with bs := s.bs ++ [(("open" : Str), none)] } = [(.inr "desk", .ref s.d), (.inr "all", .ref s.al), (.inr "is_on", .ref s.ion), (.inr "road", .ref s.rd), (.inr "bells", .int ((s.bs.length : Int) + 1))] := by
      unfold houseD
      rw [List.length_append]
      push_cast
      rfl
    rw [e5] at z
    have bz := own_box D (((Kps.refl m' h s).up (x := s.b) (o := .lst ((s.bs ++ [(("open" : Str), none)]).map bellV)) (.inl (.inl (.inr (.inl rfl))))).up (x := h) (o := .dK [(.inr "desk", .ref s.d), (.inr "all", .ref s.al), (.inr "is_on", .ref s.ion), (.inr "road", .ref s.rd), (.inr "bells", .int ((s.bs.length : Int) + 1))]) (.inl (.inl (.inl rfl)))) bx
    exact .of ⟨_, c + 1, _, z, offer_pro pro, offer_opn D.dok D.road opn, bz, hrd, by omega, (by show (s.bs ++ _).length ≤ _; rw [List.length_append]; simp; omega), hon, rfl⟩
  obtain ⟨s2, c, a5, D, pro, opn, bx, hrd, hc, hbs, hon, rfl⟩ := hI
  refine ⟨trivial, ?_⟩
  clear D3 bx3 pro3 opn3 on3 hbs3 hrd3
  have hn := D.desk.n
  have hbl := D.bells
  walk_at "r"
  refine ⟨_, _, _, D.h, rfl, h_bells s2, ?_⟩
  walk_at "r"
  refine ⟨⟨by omega, by omega⟩, ?_⟩
  refine ⟨by rw [rngS_length]; exact line_le (by omega), fun pc hpc => ?_⟩
  have npc : ¬ Own h s2 pc := fun f => own_has D f hpc
  refine lc_filt (opB s2.bs) id (fun acc => trivial) (fun y hy acc K1 K0 h1 h0 => ?_) ?_
  · obtain ⟨j, hj⟩ := List.getElem?_of_mem hy
    obtain ⟨hj, rfl⟩ := rngS_get _ _ _ _ hj
    have hj : j < s2.bs.length := by omega
    rw [Int.zero_add] at h1 h0 ⊢
    obtain ⟨bb, hb⟩ : ∃ b, s2.bs[j]? = some b := ⟨_, List.getElem?_eq_getElem hj⟩
    obtain ⟨xs0, e0⟩ := st_0 bb
    have okb := pro.st j bb hb
    have D2 := D.le (.new (o := .lst acc) (.refl _) hpc)
    have eB : opB s2.bs (.int (j : Int)) = decide (bb.1 = "open") := by
      show (match s2.bs[((j : Int)).toNat]? with | some b => decide (b.1 = "open") | none => false) = _
      rw [Int.toNat_natCast, hb]
    rw [eB] at h1 h0
    walk_at "r"
    refine ⟨_, _, _, D2.h, rfl, h_desk s2, ?_⟩
    walk_at "r"
    refine ⟨_, D2.desk.d, desk_no (by decide +kernel) (by decide +kernel), ?_⟩
    walk_at "r"
    refine ⟨_, _, _, s2.bs, _, rfl, D2.desk, ⟨_, rfl⟩, fun i' q' e hq' => ?_, fun hf => ?_⟩
    rotate_left
    · rw [wh_of' (by omega) (by omega)] at hf
      cases hf
    obtain rfl : j = i' := by have := SV.int.inj e; omega
    rw [hb] at hq'
    cases hq'
    rw [e0]
    walk_at "r"
    refine ⟨by walk_at "len", ?_⟩
    walk_at "r"
    refine ⟨stP bb, .tuple [.str "open"], by rw [← e0]; exact rd_st bb, .tup (.cons (.str _) .nil), shp_ok (stP_ok okb).2 (by decide), by decide +kernel, ?_⟩
    rw [open_eqv]
    exact Br_i (fun e => h1 _ (.refl _) e) (fun e => h0 _ (.refl _) e)
  rw [List.map_id]
  have hL : ∀ y ∈ (rngS 0 ((s2.bs.length : Int)).toNat).filter (opB s2.bs), ∃ i : Nat, y = .int (i : Int) ∧ s2.bs[i]? = some (("open" : Str), none) := fun y hy => by
    obtain ⟨h1, h2⟩ := List.mem_filter.mp hy
    obtain ⟨j, hj⟩ := List.getElem?_of_mem h1
    obtain ⟨hj, rfl⟩ := rngS_get _ _ _ _ hj
    have hj : j < s2.bs.length := by omega
    rw [Int.zero_add] at h2 ⊢
    obtain ⟨bb, hb⟩ : ∃ b, s2.bs[j]? = some b := ⟨_, List.getElem?_eq_getElem hj⟩
    unfold opB at h2
    simp only [Int.toNat_natCast, hb] at h2
    have h2 := of_decide_eq_true h2
    refine ⟨j, rfl, ?_⟩
    rw [hb]
    rcases pro.st j bb hb with ⟨z1, z2⟩ | ⟨_, _, z⟩ | ⟨z, _⟩
    · rw [← z1, ← z2]
    · rw [h2] at z; rcases z with z | z | z <;> exact absurd z (by decide +kernel)
    · rw [h2] at z; exact absurd z (by decide +kernel)
  generalize (rngS 0 ((s2.bs.length : Int)).toNat).filter (opB s2.bs) = L at hL
  have lc := Le.new (o := .lst L) (.refl m') hpc
  have D4 := D.le lc
  have bx4 := bx.le lc
  have hpc4 : up m' pc (.lst L) pc = some (.lst L) := up_same
  generalize up m' pc (.lst L) = m4 at D4 bx4 hpc4 ⊢
  clear D bx lc hpc
  have dok := D4.dok
  walk_at "r"
  refine ⟨⟨by decide, by decide⟩, ?_⟩
  refine for_inv (fun r δ m' => ∃ (c : Nat) (a3 : Option SV), House K m' h (rnds c s2) ∧ Kps m4 m' h s2 ∧ r = rngS c (2 - c) ∧ c ≤ 2 ∧ δ = [some (.lst (ns.map .int)), some (.ref b), some (.ref h), a3, some (.int (k : Int)), a5, some (.ref pc), none, none, none, none, none, none, none]) ⟨0, _, D4, Kps.refl _ _ _, rfl, by omega, rfl⟩ (fun x r δ m' hI => ?_) (fun δ m5 hI => ?_)
  · obtain ⟨c, a3, Dr, kr, hr, hc, rfl⟩ := hI
    have hc : c < 2 := by
      by_cases e : c < 2
      · exact e
      · rw [show 2 - c = 0 by omega] at hr; cases hr
    rw [show 2 - c = (2 - (c + 1)) + 1 by omega] at hr
    obtain ⟨rfl, rfl⟩ := List.cons.inj hr
    refine ⟨trivial, ?_⟩
    walk_at "r"
    refine ⟨h, rnds c s2, rfl, Dr, fun m6 p D6 k6 e6 hp => ?_⟩
    walk_at "r"
    refine ⟨by walk_at "len", fun p2 hp2 => ?_⟩
    walk_at "r"
    refine ⟨.list [], .list [], .ref (kp e6 hp2) .nil, .ref up_same .nil, rfl, rfl, ?_⟩
    walk_at "r"
    walk_at "f"
    walk_at "r"
    have eo := (rnds_n s2 c).2.2.2.2
    exact .of ⟨c + 1, _, D6.le (.new (.refl _) hp2), (kr.trans k6 fun x f => (eo h x).mp f).le (.new (.refl _) hp2), rfl, hc, rfl⟩
  obtain ⟨c, a3', Dr, kr, hr, hc, rfl⟩ := hI
  have ec : c = 2 := by
    by_cases e : c < 2
    · rw [show 2 - c = (2 - (c + 1)) + 1 by omega] at hr; cases hr
    · omega
  subst ec
  refine ⟨trivial, ?_⟩
  have bx5 := own_box D4 kr bx4
  have hpc5 := kr _ _ hpc4 npc
  obtain ⟨e41, e42, e43, e44, e45⟩ := rnds_n s2 2
  obtain ⟨pro4, dok4, mono4⟩ := rnds_pro pro dok 2
  have D5 := Dr
  clear Dr kr hr hc D4 bx4 hpc4
  walk_at "r"
  refine ⟨L, hpc5, ?_⟩
  refine for_inv (fun r δ m' => Le m5 m' ∧ (∀ y ∈ r, ∃ i : Nat, y = .int (i : Int) ∧ s2.bs[i]? = some (("open" : Str), none)) ∧ ∃ a5 a7, δ = [some (.lst (ns.map .int)), some (.ref b), some (.ref h), a3', some (.int (k : Int)), a5, some (.ref pc), a7, none, none, none, none, none, none]) ⟨.refl _, hL, _, _, rfl⟩ (fun y r δ m' hI => ?_) (fun δ m' hI => ?_)
  · obtain ⟨l6, hy, a5', a7, rfl⟩ := hI
    obtain ⟨i, rfl, hi⟩ := hy y List.mem_cons_self
    have hr := fun y h => hy y (List.mem_cons_of_mem _ h)
    obtain ⟨k, hk, hko, hg, hone⟩ := calm_two pro dok opn hi hon
    have D6 := D5.le l6
    refine ⟨l6 _ _ hpc5, ?_⟩
    walk_at "r"
    refine ⟨h, rnds 2 s2, (i : Int), rfl, D6, fun p hp => ?_⟩
    rw [e41, hone]
    have D7 := D6.le (.new (o := .lst ([k].map fun (k : Nat) => .int (k : Int))) (.refl _) hp)
    walk_at "r"
    refine ⟨_, up_same, ?_⟩
    walk_at "r"
    refine Br_i (fun z => (by simp at z)) (fun _ => ?_)
    walk_at "r"
    refine ⟨_, _, _, D7.h, rfl, h_ison _, ?_⟩
    walk_at "r"
    refine ⟨_, .int (k : Int), up_same, atI_nat (j := 0) rfl, ?_⟩
    walk_at "r"
    refine ⟨_, _, D7.ion, ons_at _ (show k < (rnds 2 s2).n by omega), ?_⟩
    rw [e44 k, hko]
    walk_at "r"
    walk_at "f"
    walk_at "r"
    refine ⟨_, _, _, D7.h, rfl, h_desk _, ?_⟩
    walk_at "r"
    refine ⟨_, D7.desk.d, desk_no (by decide +kernel) (by decide +kernel), ?_⟩
    walk_at "r"
    refine ⟨_, _, _, (rnds 2 s2).bs, _, rfl, D7.desk, ⟨_, rfl⟩, fun i' q' e hq' => ?_, fun hf => ?_⟩
    rotate_left
    · have := (List.getElem?_eq_some_iff.mp hg).1
      rw [wh_of' (by omega) (by omega)] at hf
      cases hf
    obtain rfl : i = i' := by have := SV.int.inj e; omega
    rw [hg] at hq'
    cases hq'
    have okg := pro4.st i _ hg
    have eg : stV ((("granted" : Str), some (k : Int))) = .tup [.str "granted", .int (k : Int)] := st_else (stOk_some okg rfl)
    have ep : stP ((("granted" : Str), some (k : Int))) = .tuple [.str "granted", .int (k : Int)] := stP_else (stOk_some okg rfl)
    rw [eg]
    walk_at "r"
    refine ⟨_, .int (k : Int), up_same, atI_nat (j := 0) rfl, ?_⟩
    walk_at "r"
    refine ⟨by walk_at "len", ?_⟩
    walk_at "r"
    refine ⟨_, .int (k : Int), up_same, atI_nat (j := 0) rfl, ?_⟩
    walk_at "r"
    refine ⟨by walk_at "len", ?_⟩
    walk_at "r"
    refine ⟨by walk_at "len", fun p2 hp2 => ?_⟩
    walk_at "r"
    have sw : ∀ w : Str, PyData.strOk w = true → Shp 1 (.tuple [.str w, .int (k : Int)]) := fun w hw => (shp_list fun d hd => by
      rcases List.mem_cons.mp hd with rfl | hd
      · exact shp_str hw
      · obtain rfl := List.mem_singleton.mp hd; exact shp_int _).2
    refine ⟨.tuple [.str "granted", .int (k : Int)], [.tuple [.str "granted", .int (k : Int)], .tuple [.str "taken", .int (k : Int)]], .tup (.cons (.str _) (.cons (.int _) .nil)), .ref up_same (.cons (.tup (.cons (.str _) (.cons (.int _) .nil))) (.cons (.tup (.cons (.str _) (.cons (.int _) .nil))) .nil)), shp_ok (sw "granted" (by decide +kernel)) (by decide), shp_ok (n := 2) (shp_list fun d hd => ?_).1 (by decide), ?_⟩
    · rcases List.mem_cons.mp hd with rfl | hd
      · exact sw "granted" (by decide +kernel)
      · obtain rfl := List.mem_singleton.mp hd; exact sw "taken" (by decide +kernel)
    have ea : (([.tuple [.str "granted", .int (k : Int)], .tuple [.str "taken", .int (k : Int)]] : List PyData).any fun z => PyData.eqv z (.tuple [.str "granted", .int (k : Int)])) = true := by
      rw [List.any_cons, tup_eqv, Bool.true_or]
    rw [ea]
    walk_at "r"
    walk_at "f"
    walk_at "r"
    exact .of ⟨(l6.trans (.new (.refl _) hp)).trans (.new (.refl _) hp2), hr, _, _, rfl⟩
  obtain ⟨l6, _, a5', a7, rfl⟩ := hI
  have D6 := D5.le l6
  have bx6 := bx5.le l6
  refine ⟨l6 _ _ hpc5, ?_⟩
  clear D5 bx5 hpc5 hL
  walk_at "r"
  refine ⟨b, h, rnds 2 s2, rfl, bx6, D6, pro4, fun m7 s5 pt kv D7 tk k7 ek hpt => ?_⟩
  have bx7 := own_box D6 k7 bx6
  have npt : ¬ Own h s5 pt := fun f => own_has D6 ((tk.own pt).mp f) hpt
  have dok7 := D7.dok
  clear D6 bx6 k7 hpt
  walk_at "r"
  refine ⟨⟨by decide, by decide⟩, ?_⟩
  refine for_inv (fun r δ m' => ∃ (c : Nat) (a3 : Option SV), House K m' h (rnds c s5) ∧ Kps m7 m' h s5 ∧ r = rngS c (2 - c) ∧ c ≤ 2 ∧ δ = [some (.lst (ns.map .int)), some (.ref b), some (.ref h), a3, some (.int (k : Int)), a5', some (.ref pc), a7, some (.ref pt), none, none, none, none, none]) ⟨0, _, D7, Kps.refl _ _ _, rfl, by omega, rfl⟩ (fun x r δ m' hI => ?_) (fun δ m8 hI => ?_)
  · obtain ⟨c, a3, Dr, kr, hr, hc, rfl⟩ := hI
    have hc : c < 2 := by
      by_cases e : c < 2
      · exact e
      · rw [show 2 - c = 0 by omega] at hr; cases hr
    rw [show 2 - c = (2 - (c + 1)) + 1 by omega] at hr
    obtain ⟨rfl, rfl⟩ := List.cons.inj hr
    refine ⟨trivial, ?_⟩
    walk_at "r"
    refine ⟨h, rnds c s5, rfl, Dr, fun m6 p D6 k6 e6 hp => ?_⟩
    walk_at "r"
    refine ⟨by walk_at "len", fun p2 hp2 => ?_⟩
    walk_at "r"
    refine ⟨.list [], .list [], .ref (kp e6 hp2) .nil, .ref up_same .nil, rfl, rfl, ?_⟩
    walk_at "r"
    walk_at "f"
    walk_at "r"
    have eo := (rnds_n s5 c).2.2.2.2
    exact .of ⟨c + 1, _, D6.le (.new (.refl _) hp2), (kr.trans k6 fun x f => (eo h x).mp f).le (.new (.refl _) hp2), rfl, hc, rfl⟩
  obtain ⟨c, a3', Dr, kr, hr, hc, rfl⟩ := hI
  have ec : c = 2 := by
    by_cases e : c < 2
    · rw [show 2 - c = (2 - (c + 1)) + 1 by omega] at hr; cases hr
    · omega
  subst ec
  refine ⟨trivial, ?_⟩
  have bx8 := own_box D7 kr bx7
  have hpt8 := kr _ _ ek npt
  obtain ⟨e81, e82, e83, e84, e85⟩ := rnds_n s5 2
  obtain ⟨pro7, dok7', mono7⟩ := rnds_pro tk.pro dok7 1
  obtain ⟨pro8, dok8, mono8⟩ := rnds_pro tk.pro dok7 2
  have D8 := Dr
  have hn5 : s5.n = s2.n := tk.n.trans e41
  clear Dr kr hr hc D7 bx7
  walk_at "r"
  refine ⟨h, rnds 2 s5, pt, kv, rfl, D8, pro8, hpt8, fun i v hv => ?_, fun i k st ow hk ho hb hs => ?_, fun m9 l9 => ?_⟩
  · obtain ⟨k, hk, rfl, hko, hl⟩ := tk.kv i v hv
    have hk5 : k < s5.n := by rw [tk.n]; exact hk
    have ow := tk.pro.dev k hk5 _ _ hl (.inr rfl)
    rw [Int.toNat_natCast] at ow
    obtain ⟨st, hb⟩ := ow
    exact ⟨k, rfl, rnd_taken pro7 dok7' hk5 (rnd_took tk.pro dok7 hk5 ((tk.on k).trans hko) hb hl)⟩
  · exact rnd_quiet pro7 dok7' (by rw [(rnds_n s5 1).1]; omega) (by rw [(rnds_n s5 1).2.2.2.1, ← e84]; exact ho) hb hs
  have D9 := D8.le l9
  walk_at "r"
  walk_at "f"
  walk_at "r"
  have hkn : ∀ q ∈ s2.road, ∀ k, q.goal = some k → q.w = "grant" → q.dv = k → k < s2.n → (s5.dev k).on = true → known (rnds 2 s5) k q.bl := fun q hq k e1 e2 e3 e4 e5 => by
    have o1 := mono4 _ _ ((pro.ltr q hq).1 k e1 e2 e3)
    have o2 : own s5 q.bl k := by
      obtain ⟨st, z⟩ := o1
      exact ⟨st, by rw [tk.bs]; exact z⟩
    exact rnd_known pro7 dok7' (i := q.bl) (k := k) (by rw [(rnds_n s5 1).1]; omega) (by rw [(rnds_n s5 1).2.2.2.1]; exact e5) (mono7 _ _ o2)
  have hroad : (rnds 2 s5).road = s2.road := e83.trans (tk.road.trans e43)
  have hrd9 : (rnds 2 s5).road.length ≤ 128 * t := by rw [hroad]; exact hrd
  have hon9 : ∀ k, ((rnds 2 s5).dev k).on = (s5.dev k).on := e84
  have hn9 : (rnds 2 s5).n = s2.n := e81.trans hn5
  generalize rnds 2 s5 = s6 at D8 D9 pro8 dok8 hkn hroad hrd9 hon9 hn9 e85 ⊢
  clear D8 hpt8 bx8 ek mono7 mono8 pro7 dok7' dok8 dok7 e81 e82 e83 e84 e85 e41 e42 e43 e44 e45 mono4 pro4 dok4 l9 npt
  have hn6 := D9.desk.n
  have hb6 := D9.bells
  have hln : (devsP s6).length = s6.n := by unfold devsP; rw [List.length_map, List.length_range]
  refine ⟨_, _, _, D9.h, rfl, h_bells s6, ?_⟩
  walk_at "r"
  refine ⟨⟨by omega, by omega⟩, ?_⟩
  refine ⟨by rw [rngS_length]; exact line_le (by omega), fun ps hps => ?_⟩
  refine lc_map (fun x => match x with | .int i => stF s6.bs i.toNat | _ => SV.non) (fun acc => trivial) (fun y hy acc K1 hK => ?_) ?_
  · obtain ⟨j, hj⟩ := List.getElem?_of_mem hy
    obtain ⟨hj, rfl⟩ := rngS_get _ _ _ _ hj
    have hj : j < s6.bs.length := by omega
    rw [Int.zero_add] at hK ⊢
    obtain ⟨bb, hb⟩ : ∃ b, s6.bs[j]? = some b := ⟨_, List.getElem?_eq_getElem hj⟩
    have Dx := D9.le (.new (o := .lst acc) (.refl _) hps)
    walk_at "r"
    refine ⟨_, _, _, Dx.h, rfl, h_desk s6, ?_⟩
    walk_at "r"
    refine ⟨_, Dx.desk.d, desk_no (by decide +kernel) (by decide +kernel), ?_⟩
    walk_at "r"
    refine ⟨_, _, _, s6.bs, _, rfl, Dx.desk, ⟨_, rfl⟩, fun i' q' e hq' => ?_, fun hf => ?_⟩
    rotate_left
    · rw [wh_of' (by omega) (by omega)] at hf
      cases hf
    obtain rfl : j = i' := by have := SV.int.inj e; omega
    rw [hb] at hq'
    cases hq'
    have es : stF s6.bs ((j : Int)).toNat = stV bb := by
      rw [Int.toNat_natCast]
      unfold stF
      rw [hb]
    have hK2 := hK _ (.refl _)
    simp only [es] at hK2
    exact hK2
  rw [Int.toNat_natCast, states_map]
  have nps : ¬ Own h s6 ps := fun f => own_has D9 f hps
  have eps : up m9 ps (.lst (s6.bs.map stV)) ps = some (.lst (s6.bs.map stV)) := up_same
  have l10 := Le.new (o := .lst (s6.bs.map stV)) (.refl m9) hps
  have D10 := D9.le l10
  generalize up m9 ps (.lst (s6.bs.map stV)) = m10 at eps l10 D10 ⊢
  clear hps
  walk_at "r"
  refine ⟨_, _, _, D10.h, rfl, h_all s6, ?_⟩
  walk_at "r"
  refine ⟨_, D10.al, ?_⟩
  refine ⟨by rw [hln]; exact line_le (by omega), fun pg hpg => ?_⟩
  refine lc_refs (fun j => (s6.dev j).rung.map .int) hpg (fun m' l => l _ _ D10.al) (fun j x hx acc mb l hmb K1 hK => ?_) (fun mb acc l hmb hal hac => ?_)
  · obtain ⟨hj, rfl⟩ := devs_get hx
    have Dj := (D10.le (l.trans (.new (o := .lst acc) (.refl _) hmb))).dev j hj
    walk_at "r"
    refine ⟨_, Dj.p, dev_no (by decide +kernel) (by decide +kernel) (by decide +kernel) (by decide +kernel), ?_⟩
    walk_at "r"
    refine ⟨_, _, _, _, _, _, _, rfl, Dj, fun r hr => ?_⟩
    have nr : r ≠ pg := fun e => by rw [e, up_same] at hr; cases hr
    rw [up_ne nr] at hr
    exact hK r hr nr
  rw [hln] at hac hal
  have l11 := l.over hpg (o := .lst acc)
  have epg : up mb pg (.lst acc) pg = some (.lst acc) := up_same
  have npg : ¬ Own h s6 pg := fun f => own_has D10 f hpg
  have hac2 : ∀ j, j < s6.n → ∃ a, acc[j]? = some (.ref a) ∧ up mb pg (.lst acc) a = some (.lst ((s6.dev j).rung.map .int)) ∧ ¬ Own h s6 a := fun j hj => by
    obtain ⟨a, z1, z2, z3⟩ := hac j hj
    exact ⟨a, z1, (up_ne (mne z2 hmb)).trans z2, fun f => own_has D10 f z3⟩
  have D11 := D10.le l11
  have eps11 := l11 _ _ eps
  generalize up mb pg (.lst acc) = m11 at l11 epg hac2 D11 eps11 ⊢
  clear hac hmb l hpg eps l10 l11 D10 D9
  walk_at "r"
  refine ⟨by walk_at "len", ?_⟩
  walk_at "r"
  refine ⟨rfl, ?_⟩
  walk_at "r"
  refine ⟨_, _, _, D11.h, rfl, h_road s6, ?_⟩
  walk_at "r"
  refine ⟨_, D11.rd, ?_⟩
  refine for_inv (fun r δ m' => ∃ (s7 : HS) (R : List Ltr) (a12 a13 : Option SV), OldL s6 s7 ∧ House K m' h s7 ∧ Kps m11 m' h s6 ∧ r = R.map Ltr.v ∧ (∀ q ∈ R, q ∈ s6.road) ∧ δ = [some (.lst (ns.map .int)), some (.ref b), some (.ref h), a3', some (.int (k : Int)), a5', some (.ref pc), a7, some (.ref pt), some (.ref ps), some (.ref pg), none, a12, a13]) ⟨s6, s6.road, _, _, .refl _, D11, Kps.refl _ _ _, rfl, fun q h => h, rfl⟩ (fun x r δ m' hI => ?_) (fun δ m12 hI => ?_)
  · obtain ⟨s7, R, a12, a13, od, D12, k12, hr, hR, rfl⟩ := hI
    cases R with
    | nil => cases hr
    | cons q0 R =>
    obtain ⟨rfl, rfl⟩ := List.cons.inj hr
    have hq0 := hR q0 List.mem_cons_self
    have hR' := fun q h => hR q (List.mem_cons_of_mem _ h)
    have okq := D12.road q0 (by rw [od.road]; exact hq0)
    have erd := D12.rd
    rw [od.rd, od.road] at erd
    refine ⟨erd, ?_⟩
    walk_at "r"
    refine ⟨rfl, ?_⟩
    cases hg : q0.goal with
    | none =>
      walk_at "r"
      walk_at "f"
      walk_at "r"
      exact .of ⟨s7, R, _, _, od, D12, k12, rfl, hR', rfl⟩
    | some g =>
      have hgn := okq.1 g hg
      have Dg := D12.dev g hgn
      walk_at "r"
      walk_at "t"
      walk_at "r"
      refine ⟨_, _, _, D12.h, rfl, h_all s7, ?_⟩
      walk_at "r"
      refine ⟨_, _, D12.al, devs_at s7 hgn, ?_⟩
      walk_at "r"
      refine ⟨_, Dg.p, dev_no (by decide +kernel) (by decide +kernel) (by decide +kernel) (by decide +kernel), ?_⟩
      walk_at "r"
      refine ⟨_, _, _, _, _, _, _, q0.w, q0.dv, q0.bl, rfl, Dg, ?_⟩
      by_cases hc : (s7.dev g).on = true ∧ q0.dv = g
      · have hc' : (s7.dev g).on = true ∧ (q0.dv : Int) = (g : Int) := ⟨hc.1, by omega⟩
        rw [if_pos hc']
        have ok2 := (D12.dok g hgn).hear (w := q0.w) (i := q0.bl) (by omega) (by have := okq.2.2.1; omega)
        have D13 := D12.setD hgn _ _ ok2
        have od2 := od.hear (k := g) (w := q0.w) (i := q0.bl) fun hw => hkn q0 (by rw [← hroad]; exact hq0) g hg hw hc.2 (by rw [← hn9, ← od.n]; exact hgn) (by rw [← hon9, ← od.on]; exact hc.1)
        have fo : ∀ x, Own h s7 x → Own h s6 x := fun x f => (od.own h x).mp f
        have k13 := (k12.up (x := (s7.dev g).kd) (o := .dK ((hearV (s7.dev g).dbs (s7.dev g).rung q0.w q0.bl).1.map dkE)) (.inl (fo _ (.inl (.inr (.inr (.inr (.inr ⟨g, hgn, .inr (.inl rfl)⟩)))))))).up (x := (s7.dev g).lr) (o := .lst ((hearV (s7.dev g).dbs (s7.dev g).rung q0.w q0.bl).2.map .int)) (.inl (fo _ (.inl (.inr (.inr (.inr (.inr ⟨g, hgn, .inr (.inr rfl)⟩)))))))
        walk_at "r"
        walk_at "f"
        walk_at "r"
        exact .of ⟨_, R, _, _, od2, D13, k13, rfl, hR', rfl⟩
      · rw [if_neg (fun z => hc ⟨z.1, by have := z.2; omega⟩)]
        walk_at "r"
        walk_at "f"
        walk_at "r"
        exact .of ⟨s7, R, _, _, od, D12, k12, rfl, hR', rfl⟩
  obtain ⟨s7, R, a12, a13, od, D12, k12, _, _, rfl⟩ := hI
  have hn7 : s7.n = s6.n := od.n
  have hln7 : (devsP s7).length = s7.n := by unfold devsP; rw [List.length_map, List.length_range]
  have erd := D12.rd
  rw [od.rd, od.road] at erd
  refine ⟨erd, ?_⟩
  have epg12 := k12 _ _ epg npg
  have eps12 := k12 _ _ eps11 nps
  have hac12 : ∀ j, j < s6.n → ∃ a, acc[j]? = some (.ref a) ∧ m12 a = some (.lst ((s6.dev j).rung.map .int)) := fun j hj => by
    obtain ⟨a, z1, z2, z3⟩ := hac2 j hj
    exact ⟨a, z1, k12 _ _ z2 z3⟩
  clear k12 hac2 epg eps11 npg nps D11 hkn
  walk_at "r"
  refine ⟨_, _, _, D12.h, rfl, h_all s7, ?_⟩
  walk_at "r"
  refine ⟨_, D12.al, ?_⟩
  refine ⟨by rw [hln7]; exact line_le (by omega), fun pv hpv => ?_⟩
  refine lc_refs (fun j => (s7.dev j).rung.map .int) hpv (fun m' l => l _ _ D12.al) (fun j x hx acc mb l hmb K1 hK => ?_) (fun mb acc2 l hmb hal2 hac3 => ?_)
  · obtain ⟨hj, rfl⟩ := devs_get hx
    have Dj := (D12.le (l.trans (.new (o := .lst acc) (.refl _) hmb))).dev j hj
    walk_at "r"
    refine ⟨_, Dj.p, dev_no (by decide +kernel) (by decide +kernel) (by decide +kernel) (by decide +kernel), ?_⟩
    walk_at "r"
    refine ⟨_, _, _, _, _, _, _, rfl, Dj, fun r hr => ?_⟩
    have nr : r ≠ pv := fun e => by rw [e, up_same] at hr; cases hr
    rw [up_ne nr] at hr
    exact hK r hr nr
  rw [hln7] at hac3 hal2
  have l13 := l.over hpv (o := .lst acc2)
  have epv : up mb pv (.lst acc2) pv = some (.lst acc2) := up_same
  have hac13 : ∀ j, j < s7.n → ∃ a, acc2[j]? = some (.ref a) ∧ up mb pv (.lst acc2) a = some (.lst ((s7.dev j).rung.map .int)) := fun j hj => by
    obtain ⟨a, z1, z2, z3⟩ := hac3 j hj
    exact ⟨a, z1, (up_ne (mne z2 hmb)).trans z2⟩
  have D13 := D12.le l13
  have eps13 := l13 _ _ eps12
  have epg13 := l13 _ _ epg12
  have hacG : ∀ j, j < s6.n → ∃ a, acc[j]? = some (.ref a) ∧ up mb pv (.lst acc2) a = some (.lst ((s6.dev j).rung.map .int)) := fun j hj => by
    obtain ⟨a, z1, z2⟩ := hac12 j hj
    exact ⟨a, z1, l13 _ _ z2⟩
  generalize up mb pv (.lst acc2) = m13 at epv hac13 D13 eps13 epg13 hacG ⊢
  clear hac3 hmb l hpv l13 D12 hac12 eps12 epg12
  walk_at "r"
  refine ⟨_, epv, ?_⟩
  walk_at "r"
  rw [hal2]
  refine ⟨⟨by omega, by omega⟩, ?_⟩
  refine ⟨by rw [rngS_length]; exact line_le (by omega), fun p1 hp1 => ?_⟩
  refine lc_filt (fun _ => false) id (fun acc => trivial) (fun y hy acc4 K1 K0 _ h0 => ?_) ?_
  · obtain ⟨j, hj⟩ := List.getElem?_of_mem hy
    obtain ⟨hj, rfl⟩ := rngS_get _ _ _ _ hj
    have hj : j < s7.n := by omega
    rw [Int.zero_add]
    obtain ⟨a, z1, z2⟩ := hac13 j hj
    obtain ⟨a', z3, z4⟩ := hacG j (by omega)
    have lx := Le.new (o := .lst acc4) (.refl m13) hp1
    have Dx := D13.le lx
    walk_at "r"
    refine ⟨_, _, _, Dx.h, rfl, h_ison s7, ?_⟩
    walk_at "r"
    refine ⟨_, _, Dx.ion, ons_at s7 hj, ?_⟩
    walk_at "r"
    refine Br_i (fun _ => ?_) (fun _ => ?_)
    · walk_at "r"
      refine ⟨_, _, lx _ _ epv, atI_nat z1, ?_⟩
      walk_at "r"
      refine ⟨_, _, lx _ _ epg13, atI_nat z3, ?_⟩
      walk_at "r"
      refine ⟨_, _, .ref (lx _ _ z2) (rds_ints _), .ref (lx _ _ z4) (rds_ints _), shaped_ints _, shaped_ints _, ?_⟩
      rw [od.rung j, eqv_ints]
      walk_at "r"
      walk_at "f"
      exact h0 _ (.refl _) rfl
    · walk_at "f"
      exact h0 _ (.refl _) rfl
  have ez : ((rngS 0 ((s7.n : Int)).toNat).filter (fun _ => false)).map id = [] := by simp
  rw [ez]
  walk_at "r"
  refine ⟨by walk_at "len", fun p2 hp2 => ?_⟩
  walk_at "r"
  refine ⟨.list [], .list [], .ref (kp up_same hp2) .nil, .ref up_same .nil, rfl, rfl, ?_⟩
  have l14 := (Le.new (o := .lst []) (.refl m13) hp1).trans (.new (o := .lst []) (.refl _) hp2)
  have D14 := D13.le l14
  have eps14 := l14 _ _ eps13
  generalize up (up m13 p1 _) p2 _ = m14 at D14 eps14 ⊢
  walk_at "r"
  walk_at "f"
  walk_at "r"
  have hb7 : s7.bs = s6.bs := od.bs
  have hb7l : s7.bs.length = s6.bs.length := by rw [hb7]
  refine ⟨_, _, _, D14.h, rfl, h_bells s7, ?_⟩
  walk_at "r"
  rw [hb7]
  refine ⟨⟨by omega, by omega⟩, ?_⟩
  refine ⟨by rw [rngS_length]; exact line_le (by omega), fun pz hpz => ?_⟩
  refine lc_map (fun x => match x with | .int i => stF s6.bs i.toNat | _ => SV.non) (fun acc => trivial) (fun y hy acc K1 hK => ?_) ?_
  · obtain ⟨j, hj⟩ := List.getElem?_of_mem hy
    obtain ⟨hj, rfl⟩ := rngS_get _ _ _ _ hj
    have hj : j < s6.bs.length := by omega
    rw [Int.zero_add] at hK ⊢
    obtain ⟨bb, hb⟩ : ∃ b, s6.bs[j]? = some b := ⟨_, List.getElem?_eq_getElem hj⟩
    have Dx := D14.le (.new (o := .lst acc) (.refl _) hpz)
    walk_at "r"
    refine ⟨_, _, _, Dx.h, rfl, h_desk s7, ?_⟩
    walk_at "r"
    refine ⟨_, Dx.desk.d, desk_no (by decide +kernel) (by decide +kernel), ?_⟩
    walk_at "r"
    refine ⟨_, _, _, s7.bs, _, rfl, Dx.desk, ⟨_, rfl⟩, fun i' q' e hq' => ?_, fun hf => ?_⟩
    rotate_left
    · rw [wh_of' (by omega) (by omega)] at hf
      cases hf
    obtain rfl : j = i' := by have := SV.int.inj e; omega
    rw [hb7] at hq'
    rw [hb] at hq'
    cases hq'
    have es : stF s6.bs ((j : Int)).toNat = stV bb := by
      rw [Int.toNat_natCast]
      unfold stF
      rw [hb]
    have hK2 := hK _ (.refl _)
    simp only [es] at hK2
    exact hK2
  rw [Int.toNat_natCast, states_map]
  walk_at "r"
  refine ⟨.list (s6.bs.map stP), .list (s6.bs.map stP), .ref up_same (rds_st _), .ref (kp eps14 hpz) (rds_st _), ?_, ?_, ?_⟩
  · exact shp_ok (n := 2) (shp_list fun d hd => by
      obtain ⟨x, hx, rfl⟩ := List.mem_map.mp hd
      obtain ⟨j, hj⟩ := List.getElem?_of_mem hx
      exact (stP_ok (pro8.st j x hj)).2).1 (by decide)
  · exact shp_ok (n := 2) (shp_list fun d hd => by
      obtain ⟨x, hx, rfl⟩ := List.mem_map.mp hd
      obtain ⟨j, hj⟩ := List.getElem?_of_mem hx
      exact (stP_ok (pro8.st j x hj)).2).1 (by decide)
  · rw [eqv_refl (.list (s6.bs.map stP)) (noDs_of fun d hd => by
      obtain ⟨x, hx, rfl⟩ := List.mem_map.mp hd
      obtain ⟨j, hj⟩ := List.getElem?_of_mem hx
      exact (stP_ok (pro8.st j x hj)).1)]
    exact .of (q _)
end
end Hn

set_option Elab.async false
set_option linter.all false
set_option maxRecDepth 100000
set_option maxHeartbeats 0
namespace Hn
open PySem PySem.Spec PyProof.Rows L2 Sy
def d_is_number : He.DefD := ⟨("is_number", none), "is_number", "is_number", defArgs s_is_number, defBody s_is_number, defScope s_is_number, [], []⟩
def d_is_whole : He.DefD := ⟨("is_whole", none), "is_whole", "is_whole", defArgs s_is_whole, defBody s_is_whole, defScope s_is_whole, [], []⟩
def d_refuse_bad_many : He.DefD := ⟨("refuse_bad_many", none), "refuse_bad_many", "refuse_bad_many", defArgs s_refuse_bad_many, defBody s_refuse_bad_many, defScope s_refuse_bad_many, [], []⟩
def d_refuse_bad_device : He.DefD := ⟨("refuse_bad_device", none), "refuse_bad_device", "refuse_bad_device", defArgs s_refuse_bad_device, defBody s_refuse_bad_device, defScope s_refuse_bad_device, [], []⟩
def d_refuse_bad_bell : He.DefD := ⟨("refuse_bad_bell", none), "refuse_bad_bell", "refuse_bad_bell", defArgs s_refuse_bad_bell, defBody s_refuse_bad_bell, defScope s_refuse_bad_bell, [], []⟩
def d_word_to : He.DefD := ⟨("word_to", none), "word_to", "word_to", defArgs s_word_to, defBody s_word_to, defScope s_word_to, [], []⟩
def d_law_begun : He.DefD := ⟨("_law_begun", none), "_law_begun", "_law_begun", defArgs s_law_begun, defBody s_law_begun, defScope s_law_begun, [], []⟩
def d_law_take : He.DefD := ⟨("_law_take", none), "_law_take", "_law_take", defArgs s_law_take, defBody s_law_take, defScope s_law_take, [], []⟩
def d_law_alike : He.DefD := ⟨("_law_alike", none), "_law_alike", "_law_alike", defArgs s_law_alike, defBody s_law_alike, defScope s_law_alike, [], []⟩
def d_law_house : He.DefD := ⟨("_law_house", none), "_law_house", "_law_house", defArgs s_law_house, defBody s_law_house, defScope s_law_house, [], []⟩
def d_law_post : He.DefD := ⟨("_law_post", none), "_law_post", "_law_post", defArgs s_law_post, defBody s_law_post, defScope s_law_post, [], []⟩
def d_law_hear : He.DefD := ⟨("_law_hear", none), "_law_hear", "_law_hear", defArgs s_law_hear, defBody s_law_hear, defScope s_law_hear, [], []⟩
def d_law_turn : He.DefD := ⟨("_law_turn", none), "_law_turn", "_law_turn", defArgs s_law_turn, defBody s_law_turn, defScope s_law_turn, [], []⟩
def d_law_round : He.DefD := ⟨("_law_round", none), "_law_round", "_law_round", defArgs s_law_round, defBody s_law_round, defScope s_law_round, [], []⟩
def d_law_rang_at : He.DefD := ⟨("_law_rang_at", none), "_law_rang_at", "_law_rang_at", defArgs s_law_rang_at, defBody s_law_rang_at, defScope s_law_rang_at, [], []⟩
def d_law_taken : He.DefD := ⟨("_law_taken", none), "_law_taken", "_law_taken", defArgs s_law_taken, defBody s_law_taken, defScope s_law_taken, [], []⟩
def d_law_is_quiet : He.DefD := ⟨("_law_is_quiet", none), "_law_is_quiet", "_law_is_quiet", defArgs s_law_is_quiet, defBody s_law_is_quiet, defScope s_law_is_quiet, [], []⟩
def d_law : He.DefD := ⟨("law", none), "law", "law", defArgs s_law, defBody s_law, defScope s_law, [], []⟩
def d_Desk___init__ : He.DefD := ⟨("Desk", some "__init__"), "__init__", "Desk.__init__", defArgs s_Desk___init__, defBody s_Desk___init__, defScope s_Desk___init__, [], []⟩
def d_Desk_offer : He.DefD := ⟨("Desk", some "offer"), "offer", "Desk.offer", defArgs s_Desk_offer, defBody s_Desk_offer, defScope s_Desk_offer, [], []⟩
def d_Desk_withdraw : He.DefD := ⟨("Desk", some "withdraw"), "withdraw", "Desk.withdraw", defArgs s_Desk_withdraw, defBody s_Desk_withdraw, defScope s_Desk_withdraw, [], []⟩
def d_Desk_letters : He.DefD := ⟨("Desk", some "letters"), "letters", "Desk.letters", defArgs s_Desk_letters, defBody s_Desk_letters, defScope s_Desk_letters, [], []⟩
def d_Desk_hear : He.DefD := ⟨("Desk", some "hear"), "hear", "Desk.hear", defArgs s_Desk_hear, defBody s_Desk_hear, defScope s_Desk_hear, [], []⟩
def d_Desk_state : He.DefD := ⟨("Desk", some "state"), "state", "Desk.state", defArgs s_Desk_state, defBody s_Desk_state, defScope s_Desk_state, [], []⟩
def d_Device___init__ : He.DefD := ⟨("Device", some "__init__"), "__init__", "Device.__init__", defArgs s_Device___init__, defBody s_Device___init__, defScope s_Device___init__, [], []⟩
def d_Device_turn : He.DefD := ⟨("Device", some "turn"), "turn", "Device.turn", defArgs s_Device_turn, defBody s_Device_turn, defScope s_Device_turn, [], []⟩
def d_Device_hear : He.DefD := ⟨("Device", some "hear"), "hear", "Device.hear", defArgs s_Device_hear, defBody s_Device_hear, defScope s_Device_hear, [], []⟩
def d_Device_take : He.DefD := ⟨("Device", some "take"), "take", "Device.take", defArgs s_Device_take, defBody s_Device_take, defScope s_Device_take, [], []⟩
def d_Device_letters : He.DefD := ⟨("Device", some "letters"), "letters", "Device.letters", defArgs s_Device_letters, defBody s_Device_letters, defScope s_Device_letters, [], []⟩
def d_Device_rings : He.DefD := ⟨("Device", some "rings"), "rings", "Device.rings", defArgs s_Device_rings, defBody s_Device_rings, defScope s_Device_rings, [], []⟩
def d_Device_rang : He.DefD := ⟨("Device", some "rang"), "rang", "Device.rang", defArgs s_Device_rang, defBody s_Device_rang, defScope s_Device_rang, [], []⟩
def d_Device__among : He.DefD := ⟨("Device", some "_among"), "_among", "Device._among", defArgs s_Device__among, defBody s_Device__among, defScope s_Device__among, [], []⟩
def fn_0 : List He.DefD := [d_is_number, d_is_whole, d_refuse_bad_many, d_refuse_bad_device, d_refuse_bad_bell, d_word_to, d_law_begun, d_law_take, d_law_alike, d_law_house, d_law_post, d_law_hear, d_law_turn, d_law_round, d_law_rang_at, d_law_taken, d_law_is_quiet, d_law, d_Desk___init__, d_Desk_offer, d_Desk_withdraw, d_Desk_letters, d_Desk_hear, d_Desk_state, d_Device___init__, d_Device_turn, d_Device_hear, d_Device_take, d_Device_letters, d_Device_rings]
def fn_1 : List He.DefD := [d_Device_rang, d_Device__among]
def fn : List He.DefD := fn_0 ++ fn_1
def fa_0 : List He.Fa := [.glo "is_number", .glo "is_whole", .glo "refuse_bad_many", .glo "refuse_bad_device", .glo "refuse_bad_bell", .glo "word_to", .glo "_law_begun", .glo "_law_take", .glo "_law_alike", .glo "_law_house", .glo "_law_post", .glo "_law_hear", .glo "_law_turn", .glo "_law_round", .glo "_law_rang_at", .glo "_law_taken", .glo "_law_is_quiet", .glo "law", .glo "NoticeError", .glo "BadDevice", .glo "BadBell", .glo "NotRinging", .glo "IsOff", .glo "Desk", .glo "Device", .free "isinstance", .free "bool", .free "int", .free "tuple", .free "list"]
def fa_1 : List He.Fa := [.free "len", .free "all", .free "any", .free "range", .free "min", .free "max", .free "sum", .free "str", .free "sorted", .free "enumerate", .free "zip", .free "dict", .free "set", .free "ValueError", .exc "NoticeError", .exc "BadDevice", .exc "BadBell", .exc "NotRinging", .exc "IsOff", .int "MOST_DEVICES" (4), .str "OPEN" "open", .str "GRANTED" "granted", .str "TAKEN" "taken", .str "WITHDRAWN" "withdrawn", .str "WANTED" "wanted", .str "RINGING" "ringing", .str "TO_BE_NOTED" "to be noted", .str "OVER" "over", .str "OFFER" "offer", .str "GRANT" "grant"]
def fa_2 : List He.Fa := [.str "GONE" "gone", .str "NOTED" "noted", .str "WANT" "want", .str "TOOK" "took", .keep "NoticeError", .keep "BadDevice", .keep "BadBell", .keep "NotRinging", .keep "IsOff", .keep "Desk", .keep "Device", .exm "NoticeError" "NoticeError" true, .exm "BadDevice" "NoticeError" true, .exm "BadBell" "NoticeError" true, .exm "NotRinging" "NoticeError" true, .exm "IsOff" "NoticeError" true, .cls "Desk", .mkr "Desk", .noat "Desk" "_many", .noat "Desk" "_bells", .meth "Desk" "__init__", .meth "Desk" "offer", .meth "Desk" "withdraw", .meth "Desk" "letters", .meth "Desk" "hear", .meth "Desk" "state", .cls "Device", .mkr "Device", .noat "Device" "_number", .noat "Device" "_on"]
def fa_3 : List He.Fa := [.noat "Device" "_bells", .noat "Device" "_rung", .meth "Device" "__init__", .meth "Device" "turn", .meth "Device" "hear", .meth "Device" "take", .meth "Device" "letters", .meth "Device" "rings", .meth "Device" "rang", .meth "Device" "_among"]
def fa : List He.Fa := fa_0 ++ fa_1 ++ fa_2 ++ fa_3
def tf : List He.Defn := []
def names_0 : List PySem.Str := ["NoticeError", "BadDevice", "BadBell", "NotRinging", "IsOff", "MOST_DEVICES", "is_number", "is_whole", "refuse_bad_many", "refuse_bad_device", "refuse_bad_bell", "OPEN", "GRANTED", "TAKEN", "WITHDRAWN", "WANTED", "RINGING", "TO_BE_NOTED", "OVER", "OFFER", "GRANT", "GONE", "NOTED", "WANT", "TOOK", "word_to", "Desk", "Device", "_law_begun", "_law_take"]
def names_1 : List PySem.Str := ["_law_alike", "_law_house", "_law_post", "_law_hear", "_law_turn", "_law_round", "_law_rang_at", "_law_taken", "_law_is_quiet"]
def names : List PySem.Str := names_0 ++ names_1
def exOne (K : PySem.W.Frag) (X : Str) (L : List (Str × Bool)) : Bool := He.eqO (PySem.W.findIn K (.ref (He.ga K X)) "__getattribute__") (some (some (.builtin "BaseException.__getattribute__"))) && (He.eqO (PySem.W.findIn K (.ref (He.ga K X)) "__getattr__") (some none) &&
  (decide (PySem.W.subIn K (.ref (He.ga K X)) (.type "BaseException") = some true) && (PySem.W.hasDictIn K (He.ga K X) && (He.eqO (PySem.W.findIn K (.ref (He.ga K X)) "__class__") (some (some (.builtin "object.__class__"))) && (He.eqO (PySem.W.specialIn K (.builtin "object.__class__") "__get__") (some (some (.builtin "getset_descriptor.__get__"))) &&
  (decide (PySem.W.takesIn K (.builtin "object.__class__") = some true) && (decide (PySem.W.mroIn K (He.ga K X) (.type "object") = some true) && (decide (PySem.W.kitOne K (.ref (He.ga K X)) (.type "ValueError") = some true) && L.all fun q => decide (PySem.W.kitOne K (.ref (He.ga K X)) (.ref (He.ga K q.1)) = some q.2)))))))))
theorem exOne_ok {K : PySem.W.Frag} {X : Str} {L : List (Str × Bool)} (h : exOne K X L = true) : ExcC K (He.ga K X) ∧ PySem.W.kitOne K (.ref (He.ga K X)) (.type "ValueError") = some true ∧ ∀ q ∈ L, PySem.W.kitOne K (.ref (He.ga K X)) (.ref (He.ga K q.1)) = some q.2 := by
  obtain ⟨h1, h⟩ := He.ba h
  obtain ⟨h2, h⟩ := He.ba h
  obtain ⟨h3, h⟩ := He.ba h
  obtain ⟨h4, h⟩ := He.ba h
  obtain ⟨h5, h⟩ := He.ba h
  obtain ⟨h6, h⟩ := He.ba h
  obtain ⟨h7, h⟩ := He.ba h
  obtain ⟨h8, h⟩ := He.ba h
  obtain ⟨h9, h⟩ := He.ba h
  exact ⟨⟨He.eqO_ok h1, He.eqO_ok h2, of_decide_eq_true h3, h4, He.eqO_ok h5, He.eqO_ok h6, of_decide_eq_true h7, of_decide_eq_true h8⟩, of_decide_eq_true h9, fun q hq => of_decide_eq_true (List.all_eq_true.mp h q hq)⟩
def exb (K : PySem.W.Frag) : Bool := true
abbrev R : PySem.W.OpenRow := PySem.W.OpenLaw.row PySem.Challenge.rw_hushnotice_k11_whole_bells_ring_in_calm
abbrev hk : PySem.W.Hook := He.hookX 5 fa fn [] tf exb
def ob (s : PySem.W.SharedT) : He.AlX := He.obsX 5 fa fn [] tf exb (HandSHeadRun.getT s)
theorem ob_eq (s : PySem.W.SharedT) : ob s = hk.obs s.abs := He.obsX_eq (HandSHeadRun.getT_eq s)
theorem run (w : World) : HandSHeadRun.RunEq R (PySem.W.view R.prog [43]) hk ob 5000 names w := by
  intro os
  kernel_rfl
theorem tx_of {w : World} {h : Heap} {K : PySem.W.Frag} {mg : Str → Option Value} (X : K.In h) (G : h.Ns mainGlobals mg) (c : He.SaysX fa fn [] tf exb w h K) : Nonempty (Tx K mg) := by
  obtain ⟨f0, F0⟩ := c.t.d.def_ 0 (d := d_is_number) rfl
  obtain ⟨f1, F1⟩ := c.t.d.def_ 1 (d := d_is_whole) rfl
  obtain ⟨f2, F2⟩ := c.t.d.def_ 2 (d := d_refuse_bad_many) rfl
  obtain ⟨f3, F3⟩ := c.t.d.def_ 3 (d := d_refuse_bad_device) rfl
  obtain ⟨f4, F4⟩ := c.t.d.def_ 4 (d := d_refuse_bad_bell) rfl
  obtain ⟨f5, F5⟩ := c.t.d.def_ 5 (d := d_word_to) rfl
  obtain ⟨f6, F6⟩ := c.t.d.def_ 6 (d := d_law_begun) rfl
  obtain ⟨f7, F7⟩ := c.t.d.def_ 7 (d := d_law_take) rfl
  obtain ⟨f8, F8⟩ := c.t.d.def_ 8 (d := d_law_alike) rfl
  obtain ⟨f9, F9⟩ := c.t.d.def_ 9 (d := d_law_house) rfl
  obtain ⟨f10, F10⟩ := c.t.d.def_ 10 (d := d_law_post) rfl
  obtain ⟨f11, F11⟩ := c.t.d.def_ 11 (d := d_law_hear) rfl
  obtain ⟨f12, F12⟩ := c.t.d.def_ 12 (d := d_law_turn) rfl
  obtain ⟨f13, F13⟩ := c.t.d.def_ 13 (d := d_law_round) rfl
  obtain ⟨f14, F14⟩ := c.t.d.def_ 14 (d := d_law_rang_at) rfl
  obtain ⟨f15, F15⟩ := c.t.d.def_ 15 (d := d_law_taken) rfl
  obtain ⟨f16, F16⟩ := c.t.d.def_ 16 (d := d_law_is_quiet) rfl
  obtain ⟨f17, F17⟩ := c.t.d.def_ 17 (d := d_law) rfl
  obtain ⟨f18, F18⟩ := c.t.d.def_ 18 (d := d_Desk___init__) rfl
  obtain ⟨f19, F19⟩ := c.t.d.def_ 19 (d := d_Desk_offer) rfl
  obtain ⟨f20, F20⟩ := c.t.d.def_ 20 (d := d_Desk_withdraw) rfl
  obtain ⟨f21, F21⟩ := c.t.d.def_ 21 (d := d_Desk_letters) rfl
  obtain ⟨f22, F22⟩ := c.t.d.def_ 22 (d := d_Desk_hear) rfl
  obtain ⟨f23, F23⟩ := c.t.d.def_ 23 (d := d_Desk_state) rfl
  obtain ⟨f24, F24⟩ := c.t.d.def_ 24 (d := d_Device___init__) rfl
  obtain ⟨f25, F25⟩ := c.t.d.def_ 25 (d := d_Device_turn) rfl
  obtain ⟨f26, F26⟩ := c.t.d.def_ 26 (d := d_Device_hear) rfl
  obtain ⟨f27, F27⟩ := c.t.d.def_ 27 (d := d_Device_take) rfl
  obtain ⟨f28, F28⟩ := c.t.d.def_ 28 (d := d_Device_letters) rfl
  obtain ⟨f29, F29⟩ := c.t.d.def_ 29 (d := d_Device_rings) rfl
  obtain ⟨f30, F30⟩ := c.t.d.def_ 30 (d := d_Device_rang) rfl
  obtain ⟨f31, F31⟩ := c.t.d.def_ 31 (d := d_Device__among) rfl
  exact ⟨{
    fd_Desk___init__ := f18
    F_Desk___init__ := F18
    fd_Desk_offer := f19
    F_Desk_offer := F19
    fd_Desk_withdraw := f20
    F_Desk_withdraw := F20
    fd_Desk_letters := f21
    F_Desk_letters := F21
    fd_Desk_hear := f22
    F_Desk_hear := F22
    fd_Desk_state := f23
    F_Desk_state := F23
    fd_Device___init__ := f24
    F_Device___init__ := F24
    fd_Device_turn := f25
    F_Device_turn := F25
    fd_Device_hear := f26
    F_Device_hear := F26
    fd_Device_take := f27
    F_Device_take := F27
    fd_Device_letters := f28
    F_Device_letters := F28
    fd_Device_rings := f29
    F_Device_rings := F29
    fd_Device_rang := f30
    F_Device_rang := F30
    fd_Device__among := f31
    F_Device__among := F31
    c_Desk := He.cls_ok (c.t.d.fact 76 (f := .cls "Desk") rfl)
    mk_Desk := He.mkr_ok (c.t.d.fact 77 (f := .mkr "Desk") rfl)
    n_Desk__many := He.noat_ok (c.t.d.fact 78 (f := .noat "Desk" "_many") rfl)
    n_Desk__bells := He.noat_ok (c.t.d.fact 79 (f := .noat "Desk" "_bells") rfl)
    M_Desk___init__ := He.meth_ok (c.t.d.fact 80 (f := .meth "Desk" "__init__") rfl)
    M_Desk_offer := He.meth_ok (c.t.d.fact 81 (f := .meth "Desk" "offer") rfl)
    M_Desk_withdraw := He.meth_ok (c.t.d.fact 82 (f := .meth "Desk" "withdraw") rfl)
    M_Desk_letters := He.meth_ok (c.t.d.fact 83 (f := .meth "Desk" "letters") rfl)
    M_Desk_hear := He.meth_ok (c.t.d.fact 84 (f := .meth "Desk" "hear") rfl)
    M_Desk_state := He.meth_ok (c.t.d.fact 85 (f := .meth "Desk" "state") rfl)
    c_Device := He.cls_ok (c.t.d.fact 86 (f := .cls "Device") rfl)
    mk_Device := He.mkr_ok (c.t.d.fact 87 (f := .mkr "Device") rfl)
    n_Device__number := He.noat_ok (c.t.d.fact 88 (f := .noat "Device" "_number") rfl)
    n_Device__on := He.noat_ok (c.t.d.fact 89 (f := .noat "Device" "_on") rfl)
    n_Device__bells := He.noat_ok (c.t.d.fact 90 (f := .noat "Device" "_bells") rfl)
    n_Device__rung := He.noat_ok (c.t.d.fact 91 (f := .noat "Device" "_rung") rfl)
    M_Device___init__ := He.meth_ok (c.t.d.fact 92 (f := .meth "Device" "__init__") rfl)
    M_Device_turn := He.meth_ok (c.t.d.fact 93 (f := .meth "Device" "turn") rfl)
    M_Device_hear := He.meth_ok (c.t.d.fact 94 (f := .meth "Device" "hear") rfl)
    M_Device_take := He.meth_ok (c.t.d.fact 95 (f := .meth "Device" "take") rfl)
    M_Device_letters := He.meth_ok (c.t.d.fact 96 (f := .meth "Device" "letters") rfl)
    M_Device_rings := He.meth_ok (c.t.d.fact 97 (f := .meth "Device" "rings") rfl)
    M_Device_rang := He.meth_ok (c.t.d.fact 98 (f := .meth "Device" "rang") rfl)
    M_Device__among := He.meth_ok (c.t.d.fact 99 (f := .meth "Device" "_among") rfl)
    fd_is_number := f0
    F_is_number := F0
    fd_is_whole := f1
    F_is_whole := F1
    fd_refuse_bad_many := f2
    F_refuse_bad_many := F2
    fd_refuse_bad_device := f3
    F_refuse_bad_device := F3
    fd_refuse_bad_bell := f4
    F_refuse_bad_bell := F4
    fd_word_to := f5
    F_word_to := F5
    fd__law_begun := f6
    F__law_begun := F6
    fd__law_take := f7
    F__law_take := F7
    fd__law_alike := f8
    F__law_alike := F8
    fd__law_house := f9
    F__law_house := F9
    fd__law_post := f10
    F__law_post := F10
    fd__law_hear := f11
    F__law_hear := F11
    fd__law_turn := f12
    F__law_turn := F12
    fd__law_round := f13
    F__law_round := F13
    fd__law_rang_at := f14
    F__law_rang_at := F14
    fd__law_taken := f15
    F__law_taken := F15
    fd__law_is_quiet := f16
    F__law_is_quiet := F16
    fd_law := f17
    F_law := F17
    g_is_number := He.glo_ok X G (c.t.d.fact 0 (f := .glo "is_number") rfl)
    k_is_number := F0.kp
    g_is_whole := He.glo_ok X G (c.t.d.fact 1 (f := .glo "is_whole") rfl)
    k_is_whole := F1.kp
    g_refuse_bad_many := He.glo_ok X G (c.t.d.fact 2 (f := .glo "refuse_bad_many") rfl)
    k_refuse_bad_many := F2.kp
    g_refuse_bad_device := He.glo_ok X G (c.t.d.fact 3 (f := .glo "refuse_bad_device") rfl)
    k_refuse_bad_device := F3.kp
    g_refuse_bad_bell := He.glo_ok X G (c.t.d.fact 4 (f := .glo "refuse_bad_bell") rfl)
    k_refuse_bad_bell := F4.kp
    g_word_to := He.glo_ok X G (c.t.d.fact 5 (f := .glo "word_to") rfl)
    k_word_to := F5.kp
    g__law_begun := He.glo_ok X G (c.t.d.fact 6 (f := .glo "_law_begun") rfl)
    k__law_begun := F6.kp
    g__law_take := He.glo_ok X G (c.t.d.fact 7 (f := .glo "_law_take") rfl)
    k__law_take := F7.kp
    g__law_alike := He.glo_ok X G (c.t.d.fact 8 (f := .glo "_law_alike") rfl)
    k__law_alike := F8.kp
    g__law_house := He.glo_ok X G (c.t.d.fact 9 (f := .glo "_law_house") rfl)
    k__law_house := F9.kp
    g__law_post := He.glo_ok X G (c.t.d.fact 10 (f := .glo "_law_post") rfl)
    k__law_post := F10.kp
    g__law_hear := He.glo_ok X G (c.t.d.fact 11 (f := .glo "_law_hear") rfl)
    k__law_hear := F11.kp
    g__law_turn := He.glo_ok X G (c.t.d.fact 12 (f := .glo "_law_turn") rfl)
    k__law_turn := F12.kp
    g__law_round := He.glo_ok X G (c.t.d.fact 13 (f := .glo "_law_round") rfl)
    k__law_round := F13.kp
    g__law_rang_at := He.glo_ok X G (c.t.d.fact 14 (f := .glo "_law_rang_at") rfl)
    k__law_rang_at := F14.kp
    g__law_taken := He.glo_ok X G (c.t.d.fact 15 (f := .glo "_law_taken") rfl)
    k__law_taken := F15.kp
    g__law_is_quiet := He.glo_ok X G (c.t.d.fact 16 (f := .glo "_law_is_quiet") rfl)
    k__law_is_quiet := F16.kp
    g_law := He.glo_ok X G (c.t.d.fact 17 (f := .glo "law") rfl)
    k_law := F17.kp
    g_NoticeError := He.glo_ok X G (c.t.d.fact 18 (f := .glo "NoticeError") rfl)
    k_NoticeError := He.keep_ok (c.t.d.fact 64 (f := .keep "NoticeError") rfl)
    g_BadDevice := He.glo_ok X G (c.t.d.fact 19 (f := .glo "BadDevice") rfl)
    k_BadDevice := He.keep_ok (c.t.d.fact 65 (f := .keep "BadDevice") rfl)
    g_BadBell := He.glo_ok X G (c.t.d.fact 20 (f := .glo "BadBell") rfl)
    k_BadBell := He.keep_ok (c.t.d.fact 66 (f := .keep "BadBell") rfl)
    g_NotRinging := He.glo_ok X G (c.t.d.fact 21 (f := .glo "NotRinging") rfl)
    k_NotRinging := He.keep_ok (c.t.d.fact 67 (f := .keep "NotRinging") rfl)
    g_IsOff := He.glo_ok X G (c.t.d.fact 22 (f := .glo "IsOff") rfl)
    k_IsOff := He.keep_ok (c.t.d.fact 68 (f := .keep "IsOff") rfl)
    g_Desk := He.glo_ok X G (c.t.d.fact 23 (f := .glo "Desk") rfl)
    k_Desk := He.keep_ok (c.t.d.fact 69 (f := .keep "Desk") rfl)
    g_Device := He.glo_ok X G (c.t.d.fact 24 (f := .glo "Device") rfl)
    k_Device := He.keep_ok (c.t.d.fact 70 (f := .keep "Device") rfl)
    x_NoticeError := (He.exc_ok (c.t.d.fact 44 (f := .exc "NoticeError") rfl)).1
    e_NoticeError := (He.exc_ok (c.t.d.fact 44 (f := .exc "NoticeError") rfl)).2.2.1
    t_NoticeError := (He.exc_ok (c.t.d.fact 44 (f := .exc "NoticeError") rfl)).2.2.2
    x_BadDevice := (He.exc_ok (c.t.d.fact 45 (f := .exc "BadDevice") rfl)).1
    e_BadDevice := (He.exc_ok (c.t.d.fact 45 (f := .exc "BadDevice") rfl)).2.2.1
    t_BadDevice := (He.exc_ok (c.t.d.fact 45 (f := .exc "BadDevice") rfl)).2.2.2
    x_BadBell := (He.exc_ok (c.t.d.fact 46 (f := .exc "BadBell") rfl)).1
    e_BadBell := (He.exc_ok (c.t.d.fact 46 (f := .exc "BadBell") rfl)).2.2.1
    t_BadBell := (He.exc_ok (c.t.d.fact 46 (f := .exc "BadBell") rfl)).2.2.2
    x_NotRinging := (He.exc_ok (c.t.d.fact 47 (f := .exc "NotRinging") rfl)).1
    e_NotRinging := (He.exc_ok (c.t.d.fact 47 (f := .exc "NotRinging") rfl)).2.2.1
    t_NotRinging := (He.exc_ok (c.t.d.fact 47 (f := .exc "NotRinging") rfl)).2.2.2
    x_IsOff := (He.exc_ok (c.t.d.fact 48 (f := .exc "IsOff") rfl)).1
    e_IsOff := (He.exc_ok (c.t.d.fact 48 (f := .exc "IsOff") rfl)).2.2.1
    t_IsOff := (He.exc_ok (c.t.d.fact 48 (f := .exc "IsOff") rfl)).2.2.2
    i_MOST_DEVICES := He.int_ok X G (c.t.d.fact 49 (f := .int "MOST_DEVICES" (4)) rfl)
    i_OPEN := He.str_ok X G (c.t.d.fact 50 (f := .str "OPEN" "open") rfl)
    i_GRANTED := He.str_ok X G (c.t.d.fact 51 (f := .str "GRANTED" "granted") rfl)
    i_TAKEN := He.str_ok X G (c.t.d.fact 52 (f := .str "TAKEN" "taken") rfl)
    i_WITHDRAWN := He.str_ok X G (c.t.d.fact 53 (f := .str "WITHDRAWN" "withdrawn") rfl)
    i_WANTED := He.str_ok X G (c.t.d.fact 54 (f := .str "WANTED" "wanted") rfl)
    i_RINGING := He.str_ok X G (c.t.d.fact 55 (f := .str "RINGING" "ringing") rfl)
    i_TO_BE_NOTED := He.str_ok X G (c.t.d.fact 56 (f := .str "TO_BE_NOTED" "to be noted") rfl)
    i_OVER := He.str_ok X G (c.t.d.fact 57 (f := .str "OVER" "over") rfl)
    i_OFFER := He.str_ok X G (c.t.d.fact 58 (f := .str "OFFER" "offer") rfl)
    i_GRANT := He.str_ok X G (c.t.d.fact 59 (f := .str "GRANT" "grant") rfl)
    i_GONE := He.str_ok X G (c.t.d.fact 60 (f := .str "GONE" "gone") rfl)
    i_NOTED := He.str_ok X G (c.t.d.fact 61 (f := .str "NOTED" "noted") rfl)
    i_WANT := He.str_ok X G (c.t.d.fact 62 (f := .str "WANT" "want") rfl)
    i_TOOK := He.str_ok X G (c.t.d.fact 63 (f := .str "TOOK" "took") rfl)
    z_isinstance := He.free_ok X G (c.t.d.fact 25 (f := .free "isinstance") rfl)
    z_bool := He.free_ok X G (c.t.d.fact 26 (f := .free "bool") rfl)
    z_int := He.free_ok X G (c.t.d.fact 27 (f := .free "int") rfl)
    z_tuple := He.free_ok X G (c.t.d.fact 28 (f := .free "tuple") rfl)
    z_list := He.free_ok X G (c.t.d.fact 29 (f := .free "list") rfl)
    z_len := He.free_ok X G (c.t.d.fact 30 (f := .free "len") rfl)
    z_all := He.free_ok X G (c.t.d.fact 31 (f := .free "all") rfl)
    z_any := He.free_ok X G (c.t.d.fact 32 (f := .free "any") rfl)
    z_range := He.free_ok X G (c.t.d.fact 33 (f := .free "range") rfl)
    z_min := He.free_ok X G (c.t.d.fact 34 (f := .free "min") rfl)
    z_max := He.free_ok X G (c.t.d.fact 35 (f := .free "max") rfl)
    z_sum := He.free_ok X G (c.t.d.fact 36 (f := .free "sum") rfl)
    z_str := He.free_ok X G (c.t.d.fact 37 (f := .free "str") rfl)
    z_sorted := He.free_ok X G (c.t.d.fact 38 (f := .free "sorted") rfl)
    z_enumerate := He.free_ok X G (c.t.d.fact 39 (f := .free "enumerate") rfl)
    z_zip := He.free_ok X G (c.t.d.fact 40 (f := .free "zip") rfl)
    z_dict := He.free_ok X G (c.t.d.fact 41 (f := .free "dict") rfl)
    z_set := He.free_ok X G (c.t.d.fact 42 (f := .free "set") rfl)
    z_ValueError := He.free_ok X G (c.t.d.fact 43 (f := .free "ValueError") rfl) }⟩
end Hn
open PySem PySem.W PySem.Calls PyProof.Rows
theorem PySem.Challenge.cw_hushnotice_k11_whole_bells_ring_in_calm_holds : PySem.Challenge.rw_hushnotice_k11_whole_bells_ring_in_calm.Holds := by
  w_on; o_law
  refine HandSHeadRun.head_any (r := OpenLaw.row PySem.Challenge.rw_hushnotice_k11_whole_bells_ring_in_calm) (q := view (OpenLaw.row PySem.Challenge.rw_hushnotice_k11_whole_bells_ring_in_calm).prog [43]) (H := Hn.hk) (ob := Hn.ob) (M := 5000) (loose := Hn.names) (d := HandSHeadRun.topDef (OpenLaw.row PySem.Challenge.rw_hushnotice_k11_whole_bells_ring_in_calm).prog 43) (kwd := []) Hn.ob_eq
    (by kernel_rfl) (fun s => by kernel_rfl) Hn.run (by kernel_rfl) (by kernel_rfl) (by kernel_rfl) (by rfl) (by first | assumption | decide +kernel) (by decide +kernel) ⟨rfl, rfl, rfl, rfl, rfl, by decide +kernel⟩ ?hw ?hc
  case hw => w_witness2
  case hc =>
    refine LamX.walk_ofTsE (l := PySem.Challenge.rw_hushnotice_k11_whole_bells_ring_in_calm) (n := 63) (k := 20) (CX := fun w => L2.CX PySem.Challenge.rw_hushnotice_k11_whole_bells_ring_in_calm.prog w) (x := "_law_script") rfl (by decide) rfl ⟨rfl, by decide, by decide⟩ (fun w mg fa h hY hns hmg => ?_) (fun w H s e s' hx => ?_)
    · obtain ⟨K, X, c⟩ := hY
      obtain ⟨T⟩ := Hn.tx_of X hns c
      have ef : fa = He.ga K "law" := by
        have z : mg "law" = some (.ref fa) := hmg
        rw [T.g_law] at z
        cases z
        rfl
      subst ef
      refine ⟨K, X, T.fd_law, Hn.tf.map fun p => He.cT K p, Sy.lift K Hn.spLaw, fun p hp => ?_, fun p hp => ?_, fun p hp => ?_, fun s u => ?_, fun H a ns hl hb ht hq => ?_, fun base XB GB TB => ?_⟩
      · obtain ⟨q, hq, rfl⟩ := List.mem_map.mp hp
        exact c.empty q hq
      · obtain ⟨q, hq, rfl⟩ := List.mem_map.mp hp
        exact c.out q hq
      · obtain ⟨q, hq, rfl⟩ := List.mem_map.mp hp
        exact PySem.W.codeHd_of_K X (c.hd q hq)
      · obtain ⟨oc, od, dV, kV, doc, pm, an, cdv, ct, osl, e, lk, hcd, hD, hK⟩ := T.F_law.ex
        rw [e]
        rcases hD with ⟨_, rfl⟩ | ⟨n, _⟩
        · exact .of_eq rfl
        · exact absurd rfl n
      · refine ⟨fun y => match H y with | some (.lst xs) => some (.lst xs) | some (.frz o u) => some (.frz o u) | _ => none, [.lst (ns.map .int)], fun _ => none, fun _ _ => False, fun v _ => v = .bl true, ⟨fun y o e => ?_, fun b u hu => ?_⟩, .cons (.lst (vs := ns.map L2.V.int) ?_ (Sy.vrs_of_ints ns)) .nil, ⟨ns, rfl, hl, fun _ => rfl⟩, fun x d F' H' m' _ _ _ z => z.elim, fun v F' H' sv m' _ _ rv e => ?_⟩
        · show H y = some o
          have e : (match H y with | some (.lst xs) => some (.lst xs) | some (.frz o u) => some (.frz o u) | _ => none : Option L2.HO) = some o := e
          split at e
          · rename_i q
            rw [q, e]
          · rename_i q
            rw [q, e]
          · cases e
        · cases hu
        · rcases hq with (hq | ⟨o, hq⟩) | hq
          · refine .inl (.inl ?_)
            show (match H a with | some (.lst xs) => some (.lst xs) | some (.frz o u) => some (.frz o u) | _ => none : Option L2.HO) = _
            rw [hq]
          · refine .inl (.inr ⟨o, ?_⟩)
            show (match H a with | some (.lst xs) => some (.lst xs) | some (.frz o u) => some (.frz o u) | _ => none : Option L2.HO) = _
            rw [hq]
          · exact .inr hq
        · subst e
          cases rv
          rfl
      · exact Hn.ok_law T
    · obtain ⟨_, _, _, _, _, _, _, _, _, _, _, _, z⟩ := hx
      exact z

