import PyProof.Rows.All
import Wide.All
import OpenK.AllK
import Wide.FinOn
import HandS.Lambda
import HandS.Nested
import KE.KDflt
import HandS.ForMost
import HandS.Exc
import HandS.ExcOwn
import HandS.TryOnly
import HandS.WordsExc
import HandS.IsInst
import HandS.Defaults
import HandS.TupAny
import HandS.Wide
import HandS.ExcIs
import PyProof.SumAnyB
import PyProof.Rows.SumGenD
import HandS.HeadHook1
import HandS.HeadHook2
import HandS.HeadHook3
import HandS.HeadHook4
import PySem.Challenge.RW_hushnotice_k02_hours
import KE.KStateDown
import Lean
import HandS.Base
import HandS.Call
import HandS.Ends
import HandS.More
import HandS.Words
import HandS.Head0
import HandS.Head1
import HandS.Head2
import HandS.HeadEnd
import HandS.HeadWalk
set_option Elab.async false
set_option linter.all false
set_option maxRecDepth 100000
set_option maxHeartbeats 4000000
/-! Lambdas as values: made, kept in lists, called later by others. -/
namespace Lm
open PySem PySem.Spec PyProof.Rows L2 LamX NdefX
/-- the function data of a lambda: F its words (no statements), e its expression, dV its defaults -/
abbrev lfd (F : NF) (e : Expr) (dV doc pm ctv : Value) : FuncData := PySem.W.kdv_fn F.name F.qual F.params (.expr e) F.scope F.cl dV doc pm (.ref F.c) ctv
def LamO (f : Addr) (F : NF) (e : Expr) (dV : Value) : HO := .ext fun h => ∃ (od : Option Addr) (sl : Array (Option Value)) (doc pm ctv : Value), h.get? f = some (⟨.type "function", od, .func (lfd F e dV doc pm ctv), sl⟩ : Obj)
theorem lamO_at {P : Program} {w : World} {H : Hp} {h : Heap} {f : Addr} {F : NF} {e : Expr} {dV : Value} (hok : HOk P w H h) (q : H f = some (LamO f F e dV)) : ∃ (od : Option Addr) (sl : Array (Option Value)) (doc pm ctv : Value), h.get? f = some (⟨.type "function", od, .func (lfd F e dV doc pm ctv), sl⟩ : Obj) := by
  obtain ⟨z, _, _⟩ := hok f _ q
  exact z
section
variable {X : Cx} {pins : List (Addr × Obj)} {σ : L2.St} {H : Hp} {s : Shared}
theorem inv_lam {F : NF} {e : Expr} {dV : Value} {o : Obj} {t' : Nat} {doc pm ctv : Value} (I : Inv X pins σ H s) (ho : o = { cls := .type "function", data := .func (lfd F e dV doc pm ctv) }) :
    Inv X pins σ (upd H s.heap.objs.size (LamO s.heap.objs.size F e dV)) { s with heap := s.heap.push o, toks := t' } := by
  subst ho
  refine I.laid (a := s.heap.objs.size) (fun b u e => Heap.get?_push_of_some _ e) (Nat.le_refl _) ?_
  have z : (s.heap.push ({ cls := .type "function", data := .func (lfd F e dV doc pm ctv) } : Obj)).get? s.heap.objs.size = some ({ cls := .type "function", data := .func (lfd F e dV doc pm ctv) } : Obj) := Heap.get?_push_size _ rfl
  exact ⟨⟨_, _, doc, pm, ctv, z⟩, ⟨_, z⟩, fun h1 h2 ⟨od, sl, d, p, t, z⟩ st => ⟨od, sl, d, p, t, st _ z⟩⟩
/-- the lambda's words -/
abbrev NF.lam (X : Cx) (params : Arguments) (scope : Scope) (c' : Addr) : NF := ⟨"<lambda>", X.env.qual ++ "<lambda>", params, [], scope, cloFrom X.env.cells scope.names [], c'⟩
/-- the lambda's object is made: its code object is new, or found in the table -/
theorem lam_tail {nm : Nat → Nat → Str} {c P : Addr} {params : Arguments} {body : Expr} {scope : Scope} {pos : Pos} {dV : Value} {E : Value → Shared → Prop} {Q : Value → Shared → Prop} (I : Inv X pins σ H s) (TB : TabB X.base X.mg c P) (hcode : X.env.code = .ref c)
    (hn : nm pos.line pos.col = X.env.qual ++ "<lambda>") (hT : TabN H P nm) (hfree : ∀ y ∈ scope.names, y.2 = .free → ∃ c, X.env.cells.lookup y.1 = some c)
    (h : ∀ (f c' : Addr) (H1 : Hp) (s' : Shared), Inv X pins σ H1 s' → (∀ b o, b ≠ P → H b = some o → H1 b = some o) → (∀ b, H1 b = Option.none → H b = Option.none) → TabN H1 P nm → H f = none → H1 f = some (LamO f (NF.lam X params scope c') body dV) → H1 c' = some (CodeO c' (X.env.qual ++ "<lambda>")) →
      (∀ b o, H1 b = some o → H b = none → b = f ∨ b = c') → Q (.ref f) s') :
    wpAny (model X.prog X.w) X.A (makeTail "<lambda>" (X.env.qual ++ "<lambda>") params (.expr body) scope X.env dV .none none pos pos.line) Q E s := by
  obtain ⟨ps, hP, ht, ha⟩ := (show TabN H P nm from hT)
  have bP : s.heap.BuiltinsAt X.mg P := TB.bm.keeps I.bk
  have hP' : s.heap.get? P = some { cls := .none, data := .fields ps } := I.hok P _ hP
  cases hc : codeAmong pos ps.toList with
  | none =>
    refine PySem.W.kdv_makeTail (mg := X.mg) (c := c) (P := P) (ps := ps) (closure_ok hfree) I.ok.glob (I.mod.glob.keeps I.bk) hcode (TB.code.keeps I.bk) hP' ht hc TB.gP bP fun c' ctv doc h' tk hx hge hlt hrec htb => ?_
    obtain ⟨c2, oc, vs, t, e2, hoc, hd, hv⟩ := hrec
    cases e2
    have nC : H c' = none := I.hok.fresh hge
    have I1 := inv_table (t' := tk) (more := #[rawInt pos.line, rawInt pos.col, .ref c']) (h' := h') I hP (fun b o hb e => hx b o hb e) htb hge ⟨oc, vs, t, hoc, hd, hv⟩
    have hE : ∀ b o, b ≠ P → H b = some o → (upd (upd H P (.tbl (ps ++ #[rawInt pos.line, rawInt pos.col, .ref c']))) c' (CodeO c' (X.env.qual ++ "<lambda>"))) b = some o := fun b o n e => by
      rw [upd_ne (ne_of_none e nC), upd_ne n]
      exact e
    have eL : (ps ++ #[rawInt pos.line, rawInt pos.col, .ref c']).toList = ps.toList ++ [rawInt pos.line, rawInt pos.col, .ref c'] := by simp
    have nP : ∀ {b : Addr} {q : Str}, H b = some (CodeO b q) → b ≠ P := fun {b q} e z => by
      rw [z, hP] at e
      exact codeO_ne _ (Option.some.inj e).symm
    have T1 : TabN (upd (upd H P (.tbl (ps ++ #[rawInt pos.line, rawInt pos.col, .ref c']))) c' (CodeO c' (X.env.qual ++ "<lambda>"))) P nm := by
      refine ⟨_, by rw [upd_ne (ne_of_none hP nC), upd_same], by rw [eL]; exact PySem.TriplesOk_snoc _ _ _ _ ht, fun p' cv hcv => ?_⟩
      rw [eL] at hcv
      rcases among_app2 _ ht hcv with z | ⟨z, z1, z2⟩
      · obtain ⟨c0, e1, e2⟩ := ha p' cv z
        exact ⟨c0, e1, hE _ _ (nP e2) e2⟩
      · refine ⟨c', z, ?_⟩
        rw [← z1, ← z2, hn]
        exact upd_same
    have nF := I1.hok.fresh (Nat.le_refl _)
    have I2 := inv_lam (F := NF.lam X params scope c') (e := body) (dV := dV) (t' := tk) (doc := doc) (pm := (X.mg "__name__").getD .none) (ctv := ctv) I1 rfl
    refine h h'.objs.size c' _ _ I2 (fun b o n e => ?_) (fun b e => upd_none (upd_none (upd_none e))) (T1.ext fun b o e => ?_) (I.hok.fresh (Nat.le_trans hge (Nat.le_of_lt hlt))) upd_same ?_ (fun b o e n => ?_)
    · have e1 := hE b o n e
      exact (upd_ne (ne_of_none e1 nF)).trans e1
    · exact (upd_ne (ne_of_none e nF)).trans e
    · exact (upd_ne (Nat.ne_of_lt hlt)).trans upd_same
    · by_cases q1 : b = h'.objs.size
      · exact .inl q1
      · rw [upd_ne q1] at e
        by_cases q2 : b = c'
        · exact .inr q2
        · rw [upd_ne q2] at e
          by_cases q3 : b = P
          · rw [q3, hP] at n
            cases n
          · rw [upd_ne q3, n] at e
            cases e
  | some cv =>
    obtain ⟨c', e, hco⟩ := ha pos cv hc
    subst e
    rw [hn] at hco
    refine PySem.W.kdv_makeTailHit (mg := X.mg) (c := c) (P := P) (ps := ps) (closure_ok hfree) I.ok.glob (I.mod.glob.keeps I.bk) hcode (TB.code.keeps I.bk) hP' ht hc bP fun ctv doc h' tk hx hsz => ?_
    have I1 : Inv X pins σ H { s with heap := h', toks := tk } := I.kept hx
    have nF : H h'.objs.size = none := I1.hok.fresh (Nat.le_refl _)
    have I2 := inv_lam (F := NF.lam X params scope c') (e := body) (dV := dV) (t' := tk) (doc := doc) (pm := (X.mg "__name__").getD .none) (ctv := ctv) I1 rfl
    refine h h'.objs.size c' _ _ I2 (fun b o n e => ?_) (fun b e => upd_none e) (hT.ext fun b o e => ?_) nF upd_same ?_ (fun b o e n => ?_)
    · exact (upd_ne (ne_of_none e nF)).trans e
    · exact (upd_ne (ne_of_none e nF)).trans e
    · exact (upd_ne (ne_of_none hco nF)).trans hco
    · by_cases q1 : b = h'.objs.size
      · exact .inl q1
      · rw [upd_ne q1, n] at e
        cases e
/-- lambda: body -/
def tLam0 (P : Addr) (nm : Nat → Nat → Str) (mk : Addr → NF) (body : Expr) : TE := fun σ H Q => TabN H P nm ∧ ∀ (f c' : Addr) (H1 : Hp), (∀ b o, b ≠ P → H b = some o → H1 b = some o) → (∀ b, H1 b = Option.none → H b = Option.none) → TabN H1 P nm → H f = none → H1 f = some (LamO f (mk c') body .none) → H1 c' = some (CodeO c' (mk c').qual) →
  (∀ b o, H1 b = some o → H b = none → b = f ∨ b = c') → Q (.ref f) H1
theorem pe_lam0 {nm : Nat → Nat → Str} {c P : Addr} {params : Arguments} {body : Expr} {scope : Scope} {pos : Pos} (TB : TabB X.base X.mg c P) (hcode : X.env.code = .ref c) (hn : nm pos.line pos.col = X.env.qual ++ "<lambda>")
    (hfree : ∀ y ∈ scope.names, y.2 = .free → X.env.scope.names.lookup y.1 = some .cell ∨ X.env.scope.names.lookup y.1 = some .free) (hdef : defaultsOf params X.env = ([], [])) : PE X (.Lambda params body scope pos) (tLam0 P nm (NF.lam X params scope) body) := by
  refine ⟨fun pins s σ H Q I h => ?_⟩
  obtain ⟨hT, h⟩ := h
  refine PySem.W.kla_eval hdef ?_
  rw [makeFunction_eq]
  simp only [List.zip_nil_right, List.filterMap_nil, List.isEmpty_nil, if_true, pure_bind]
  have hfr : ∀ y ∈ scope.names, y.2 = .free → ∃ c, X.env.cells.lookup y.1 = some c := fun y hy e => (hfree y hy e).elim (fun z => I.ok.has _ (.inl z)) fun z => I.ok.has _ (.inr z)
  refine lam_tail I TB hcode hn hT hfr fun f c' H1 s' I1 k0 k1 T1 f0 f1 c1 nw => ?_
  exact ⟨.ref f, H1, I1, rfl, h f c' H1 k0 k1 T1 f0 f1 c1 nw⟩
/-- lambda a=0: body; the defaults' tuple stands at T -/
def tLam1 (P : Addr) (nm : Nat → Nat → Str) (mk : Addr → NF) (body : Expr) (i : Int) : TE := fun σ H Q => TabN H P nm ∧ ∀ (f c' T : Addr) (H1 : Hp), (∀ b o, b ≠ P → H b = some o → H1 b = some o) → (∀ b, H1 b = Option.none → H b = Option.none) → TabN H1 P nm → H f = none → H T = none → H1 T = some (.tup [.int i]) → H1 f = some (LamO f (mk c') body (.ref T)) → H1 c' = some (CodeO c' (mk c').qual) →
  (∀ b o, H1 b = some o → H b = none → b = f ∨ b = c' ∨ b = T) → Q (.ref f) H1
theorem pe_lam1 {nm : Nat → Nat → Str} {c P : Addr} {params : Arguments} {body : Expr} {scope : Scope} {pos p1 : Pos} {i : Int} {j : Nat} (TB : TabB X.base X.mg c P) (hcode : X.env.code = .ref c) (hn : nm pos.line pos.col = X.env.qual ++ "<lambda>")
    (hfree : ∀ y ∈ scope.names, y.2 = .free → X.env.scope.names.lookup y.1 = some .cell ∨ X.env.scope.names.lookup y.1 = some .free) (hd : params.defaults = [.Constant (.int i) j p1]) (hk : params.kw_defaults = []) : PE X (.Lambda params body scope pos) (tLam1 P nm (NF.lam X params scope) body i) := by
  refine ⟨fun pins s σ H Q I h => ?_⟩
  obtain ⟨hT, h⟩ := h
  refine PySem.W.kdv_lam (by rw [hd]; rfl) hk ?_
  rw [hd]
  refine PySem.W.kdv_all1 (thn ((pe_int (X := X) (i := i) (pos := p1)).run pins s σ H (fun v H1 => v = .int i ∧ H1 = H) I ⟨rfl, rfl⟩) fun u s1 ⟨v, H1, I1, r1, q1⟩ => ?_)
  obtain ⟨ev, eH⟩ := q1
  subst ev
  rw [eH] at I1
  obtain ⟨t, rfl⟩ : ∃ t, u = .int i t := r1
  refine PySem.W.kdv_all0 ?_
  rw [makeFunction_eq]
  simp only [List.zip_nil_right, List.filterMap_nil, List.isEmpty_nil, List.isEmpty_cons, Bool.false_eq_true, if_false, if_true, pure_bind]
  refine wpAny_bind (wpAny_newTextTuple ?_)
  have hf : H s1.heap.objs.size = none := I1.hok.fresh (Nat.le_refl _)
  have I2 : Inv X pins σ (upd H s1.heap.objs.size (.tup [.int i])) { s1 with heap := s1.heap.push { cls := .type "tuple", data := .seq [Value.int i t].toArray } } := I1.laid (t' := s1.toks) (fun b u e => Heap.get?_push_of_some _ e) (Nat.le_refl _) ⟨(by show 1 ≤ sizeLine; decide), [.int i t], .cons ⟨t, rfl⟩ .nil, ⟨_, Heap.get?_push_size _ rfl, rfl, _, rfl⟩⟩
  have hfr : ∀ y ∈ scope.names, y.2 = .free → ∃ c, X.env.cells.lookup y.1 = some c := fun y hy e => (hfree y hy e).elim (fun z => I.ok.has _ (.inl z)) fun z => I.ok.has _ (.inr z)
  have hT2 : TabN (upd H s1.heap.objs.size (.tup [.int i])) P nm := hT.ext fun b o e => (upd_ne (ne_of_none e hf)).trans e
  have hTP : s1.heap.objs.size ≠ P := fun z => by
    obtain ⟨ps, hP, _⟩ := hT
    rw [z, hP] at hf
    cases hf
  refine lam_tail I2 TB hcode hn hT2 hfr fun f c' H1 s' I1 k0 k1 T1 f0 f1 c1 nw => ?_
  refine ⟨.ref f, H1, I1, rfl, h f c' s1.heap.objs.size H1 (fun b o n e => k0 b o n ((upd_ne (ne_of_none e hf)).trans e)) (fun b e => upd_none (k1 b e)) T1 (upd_none f0) hf (k0 _ _ hTP upd_same) f1 c1 (fun b o e n => ?_)⟩
  by_cases q : b = s1.heap.objs.size
  · exact .inr (.inr q)
  · rcases nw b o e ((upd_ne q).trans n) with z | z
    · exact .inl z
    · exact .inr (.inl z)
end
/-! ### calls -/
section
variable {CX : CXT} {P : Program} {w : World} {K : PySem.W.Frag} {mg : Str → Option Value} {base : Heap} {N ps fr : List Str} {F : NF} {e : Expr} {dV : Value} {f : Addr} {k : Nat} {tb : List (Option V) → XK → TE}
/-- the lambda at f, called without arguments, at every state where its cells hold ws -/
def LOk (CX : CXT) (P : Program) (w : World) (K : PySem.W.Frag) (mg : Str → Option Value) (base : Heap) (k : Nat) (f : Addr) (F : NF) (e : Expr) (dV : Value) (fr : List Str) (ws : List (Option V)) (Z : Hp → Prop) (sp : Hp → VK → XK → Prop) : Prop :=
  ∀ (A : Around) (outer : List Env) (s : Shared) (H : Hp) (Q : VK) (E : XK), Room k A → Env0 P w K mg base A outer s H → H f = some (LamO f F e dV) → H F.c = some (CodeO F.c F.qual) → Z H → CellsAt F.cl fr ws s.heap H → sp H Q E →
    codeAny (model P w) A (.call (.ref f) ⟨[], []⟩) (CR CX outer P w H s Q E) s
theorem lok_of {vs : List V} {Z : Hp → Prop} {ws : List (Option V)} {sp : Hp → VK → XK → Prop} (S : NScope N ps fr F.scope) (hl : vs.length = ps.length)
    (hb : ∀ (doc pm ctv : Value) (s : Shared) (H : Hp), HOk P w H s.heap → Z H → ∃ us, Vals vs us ∧ BindsTo s (lfd F e dV doc pm ctv) ⟨[], []⟩ (ps.zip us))
    (hbody : ∀ (A : Around) (outer : List Env) (s : Shared) (H : Hp) (Q : VK) (E : XK), Room k (A.deeper (envF F f s.heap.objs.size)) → sp H Q E → ∃ tb, PE (ncx CX P w K mg base N F f A outer s H E) e tb ∧ tb (startF N vs ws) H Q) : LOk CX P w K mg base (k + 1) f F e dV fr ws Z sp := by
  intro A outer s H Q E hr e0 hf hc hZ C hsp
  have lim : s.heap.NoLimit := e0.mod.nolimit.keeps fun b o e => (e0.bs b o e).1
  obtain ⟨od, sl, doc, pm, ctv, ho⟩ := lamO_at e0.hok hf
  obtain ⟨us, r, hbd⟩ := hb doc pm ctv s H e0.hok hZ
  refine PySem.W.kla_callFunE hr.depth ho rfl S.co S.gen rfl (codeO_at e0.hok hc) (hbd _ _ _ _ ?_)
  refine wpAny_newFunctionEnv S.nocell (fun ⟨n, _⟩ hy => S.par n (List.of_mem_zip hy).1) (fun h₁ hns hsb => ⟨lim.fresh _ hsb, ?_⟩) S.kind
  show codeAny _ _ (.expr e (envF F f s.heap.objs.size)) _ _
  have kp : ∀ b o, s.heap.get? b = some o → h₁.get? b = some o := fun b o e => hsb.extBut b o (Nat.ne_of_lt (Heap.lt_size e)) (Heap.get?_push_of_some _ e)
  obtain ⟨tb, ht, hq⟩ := hbody A outer s H Q E (hr.deeper _) hsp
  have I : Inv (ncx CX P w K mg base N F f A outer s H E) [] (startF N vs ws) H { s with heap := h₁, toks := s.toks + (ps.zip us).length } := inv_startN S hr.hd e0 hl r C hns kp
  refine PySem.W.kla_codeExpr (wpAny_mono (ht.run [] _ (startF N vs ws) H Q I hq) (fun v s' hq => ?_) fun e s' hq => hq)
  obtain ⟨w', H', J', rv, q⟩ := hq
  exact ⟨w', H', J'.os, J'.bare, J'.base, J'.hok, rv, q⟩
end
end Lm

set_option Elab.async false
set_option linter.all false
set_option maxRecDepth 100000
set_option maxHeartbeats 4000000
/-! Symbolic values and a symbolic memory: tuples are values, lists, dicts, instances are owned cells of the memory; F (hidden) is the part of the abstract heap that no longer changes. -/
namespace Sy
open PySem PySem.Spec PyProof.Rows L2
inductive SV where
  | non | bl (b : Bool) | int (i : Int) | str (x : Str) | tup (xs : List SV) | lst (xs : List SV) | ref (a : Addr) | ty (n : String)
inductive MO where
  | lst (xs : List SV) | dK (kvs : List (Key × SV)) | dT (kvs : List (List Key × SV)) | ins (C : Addr) (fs : List (Str × SV)) | box (c : Addr) | bxi | tab (nm : Nat → Nat → Str) | lam (mk : Addr → NdefX.NF) (e : Expr) (d : Option Int) | pred (ψ : Hp → Hp → Prop) | xd (fs : List (Str × SV)) | raw (o : HO)
abbrev Mem := Addr → Option MO
def up (m : Mem) (a : Addr) (o : MO) : Mem := fun b => if b = a then some o else m b
theorem up_same {m : Mem} {a : Addr} {o : MO} : up m a o a = some o := by unfold up; rw [if_pos rfl]
theorem up_ne {m : Mem} {a b : Addr} {o : MO} (h : b ≠ a) : up m a o b = m b := by unfold up; rw [if_neg h]
theorem up_up {m : Mem} {a : Addr} {o u : MO} : up (up m a o) a u = up m a u := by
  funext b; unfold up; split <;> rfl
theorem up_comm {m : Mem} {a b : Addr} {o u : MO} (h : a ≠ b) : up (up m a o) b u = up (up m b u) a o := by
  funext c; unfold up
  by_cases h1 : c = b
  · subst h1; rw [if_pos rfl, if_neg (Ne.symm h), if_pos rfl]
  · rw [if_neg h1]
    by_cases h2 : c = a
    · rw [if_pos h2, if_pos h2]
    · rw [if_neg h2, if_neg h2, if_neg h1]
theorem up_id {m : Mem} {a : Addr} {o : MO} (h : m a = some o) : up m a o = m := by
  funext b; unfold up; split
  · next e => rw [e, h]
  · rfl
theorem mne {m : Mem} {a b : Addr} {o : MO} (h : m a = some o) (n : m b = none) : a ≠ b := fun e => by rw [e, n] at h; cases h
def Le (a m : Mem) : Prop := ∀ b o, a b = some o → m b = some o
theorem Le.refl (m : Mem) : Le m m := fun _ _ h => h
theorem Le.trans {a b c : Mem} (h : Le a b) (k : Le b c) : Le a c := fun x o e => k x o (h x o e)
theorem Le.new {a m : Mem} {p : Addr} {o : MO} (h : Le a m) (n : m p = none) : Le a (up m p o) := fun x u e => by
  have e2 := h x u e
  rw [up_ne (mne e2 n)]
  exact e2
theorem Le.put {a m : Mem} {p : Addr} {o : MO} (h : Le a m) : Le (up a p o) (up m p o) := fun x u e => by
  by_cases q : x = p
  · subst q; rw [up_same] at e ⊢; exact e
  · rw [up_ne q] at e ⊢; exact h x u e
theorem Le.none {a m : Mem} {p : Addr} (h : Le a m) (n : m p = none) : a p = none := by
  cases q : a p with
  | none => rfl
  | some o => rw [h p o q] at n; cases n
inductive Fg (P : Mem → Prop) (m : Mem) : Prop where
  | mk (a : Mem) (l : Le a m) (h : P a) : Fg P m
theorem Fg.of {P : Mem → Prop} {m : Mem} (h : P m) : Fg P m := ⟨m, .refl m, h⟩
/-- frozen parts -/
def Sub (F H : Hp) : Prop := ∀ a o, F a = some o → H a = some o
theorem Sub.refl (H : Hp) : Sub H H := fun _ _ h => h
theorem Sub.trans {F G H : Hp} (a : Sub F G) (b : Sub G H) : Sub F H := fun x o h => b x o (a x o h)
theorem Sub.gone {F H : Hp} (e : Sub F H) {p : Addr} (h : H p = none) : F p = none := by
  cases q : F p with
  | none => rfl
  | some o => rw [e p o q] at h; cases h
theorem Sub.new {F : Hp} {p : Addr} {o : HO} (h : F p = none) : Sub F (upd F p o) := fun a u e => by
  rw [upd_ne (ne_of_none e h)]; exact e
theorem Sub.upd2 {F H : Hp} {p : Addr} {o : HO} (e : Sub F H) : Sub (upd F p o) (upd H p o) := fun a u h => by
  by_cases ha : a = p
  · subst ha; rw [upd_same] at h ⊢; exact h
  · rw [upd_ne ha] at h ⊢; exact e a u h
theorem Sub.free {F H : Hp} {p : Addr} {o : HO} (e : Sub F H) (h : F p = none) : Sub F (upd H p o) := fun a u ha => by
  rw [upd_ne (ne_of_none ha h)]; exact e a u ha
theorem Sub.in {F H : Hp} {p : Addr} {o : HO} (e : Sub F H) (h : H p = some o) : Sub (upd F p o) H := fun a u ha => by
  by_cases hp : a = p
  · subst hp; rw [upd_same] at ha; cases ha; exact h
  · rw [upd_ne hp] at ha; exact e a u ha
theorem sql_sub {K : PySem.W.Frag} {F H : Hp} {a : Addr} {xs : List V} (e : Sub F H) (h : SqL K F a xs) : SqL K H a xs := by
  rcases h with (h | ⟨o, h⟩) | h
  · exact .inl (.inl (e _ _ h))
  · exact .inl (.inr ⟨o, e _ _ h⟩)
  · exact .inr h
theorem sqt_sub {K : PySem.W.Frag} {F H : Hp} {a : Addr} {xs : List V} (e : Sub F H) (h : SqT K F a xs) : SqT K H a xs := by
  rcases h with (h | ⟨o, h⟩) | h
  · exact .inl (.inl (e _ _ h))
  · exact .inl (.inr ⟨o, e _ _ h⟩)
  · exact .inr h
/-! ### values -/
mutual
inductive VR (K : PySem.W.Frag) (F : Hp) : V → SV → Prop
  | non : VR K F .non .non
  | bl (b : Bool) : VR K F (.bl b) (.bl b)
  | int (i : Int) : VR K F (.int i) (.int i)
  | str (x : Str) : VR K F (.str x) (.str x)
  | ty (n : String) : VR K F (.ty n) (.ty n)
  | ref (a : Addr) : VR K F (.ref a) (.ref a)
  | tup {a : Addr} {vs : List V} {xs : List SV} : SqT K F a vs → VRs K F vs xs → VR K F (.ref a) (.tup xs)
  | lst {a : Addr} {vs : List V} {xs : List SV} : SqL K F a vs → VRs K F vs xs → VR K F (.ref a) (.lst xs)
inductive VRs (K : PySem.W.Frag) (F : Hp) : List V → List SV → Prop
  | nil : VRs K F [] []
  | cons {v : V} {x : SV} {vs : List V} {xs : List SV} : VR K F v x → VRs K F vs xs → VRs K F (v :: vs) (x :: xs)
end
mutual
theorem vr_sub {K : PySem.W.Frag} {F H : Hp} (e : Sub F H) : ∀ {v : V} {d : SV}, VR K F v d → VR K H v d
  | _, _, .non => .non
  | _, _, .bl b => .bl b
  | _, _, .int i => .int i
  | _, _, .str x => .str x
  | _, _, .ty x => .ty x
  | _, _, .ref x => .ref x
  | _, _, .lst h a => .lst (sql_sub e h) (vrs_sub e a)
  | _, _, .tup h a => .tup (sqt_sub e h) (vrs_sub e a)
theorem vrs_sub {K : PySem.W.Frag} {F H : Hp} (e : Sub F H) : ∀ {vs : List V} {ds : List SV}, VRs K F vs ds → VRs K H vs ds
  | _, _, .nil => .nil
  | _, _, .cons a b => .cons (vr_sub e a) (vrs_sub e b)
end
section
variable {K : PySem.W.Frag} {F H : Hp}
theorem vrs_length : ∀ {vs : List V} {ds : List SV}, VRs K F vs ds → vs.length = ds.length
  | _, _, .nil => rfl
  | _, _, .cons _ b => by rw [List.length_cons, List.length_cons, vrs_length b]
theorem vrs_get : ∀ {vs : List V} {ds : List SV} {i : Nat} {d : SV}, VRs K F vs ds → ds[i]? = some d → ∃ v, vs[i]? = some v ∧ VR K F v d
  | _, _, _, _, .nil, e => by simp at e
  | _, _, 0, _, .cons r _, e => by simp at e; subst e; exact ⟨_, rfl, r⟩
  | _, _, i + 1, d, .cons _ t, e => by
    obtain ⟨u, h1, h2⟩ := vrs_get (i := i) (d := d) t (by simpa using e)
    exact ⟨u, by simpa using h1, h2⟩
theorem vrs_getV : ∀ {vs : List V} {ds : List SV} {i : Nat} {v : V}, VRs K F vs ds → vs[i]? = some v → ∃ d, ds[i]? = some d ∧ VR K F v d
  | _, _, _, _, .nil, e => by simp at e
  | _, _, 0, _, .cons r _, e => by simp at e; subst e; exact ⟨_, rfl, r⟩
  | _, _, i + 1, v, .cons _ t, e => by
    obtain ⟨u, h1, h2⟩ := vrs_getV (i := i) (v := v) t (by simpa using e)
    exact ⟨u, by simpa using h1, h2⟩
theorem vrs_append : ∀ {vs ws : List V} {ds es : List SV}, VRs K F vs ds → VRs K F ws es → VRs K F (vs ++ ws) (ds ++ es)
  | _, _, _, _, .nil, s => s
  | _, _, _, _, .cons r t, s => .cons r (vrs_append t s)
theorem vrs_take : ∀ {vs : List V} {ds : List SV} (n : Nat), VRs K F vs ds → VRs K F (vs.take n) (ds.take n)
  | _, _, 0, _ => .nil
  | _, _, _ + 1, .nil => .nil
  | _, _, n + 1, .cons r t => .cons r (vrs_take n t)
theorem vrs_drop : ∀ {vs : List V} {ds : List SV} (n : Nat), VRs K F vs ds → VRs K F (vs.drop n) (ds.drop n)
  | _, _, 0, r => r
  | _, _, _ + 1, .nil => .nil
  | _, _, n + 1, .cons _ t => vrs_drop n t
theorem vrs_set : ∀ {vs : List V} {ds : List SV} {v : V} {d : SV} (n : Nat), VRs K F vs ds → VR K F v d → VRs K F (vs.set n v) (ds.set n d)
  | _, _, _, _, _, .nil, _ => .nil
  | _, _, _, _, 0, .cons _ t, r => .cons r t
  | _, _, _, _, n + 1, .cons q t, r => .cons q (vrs_set n t r)
theorem vrs_erase : ∀ {vs : List V} {ds : List SV} (n : Nat), VRs K F vs ds → VRs K F (vs.eraseIdx n) (ds.eraseIdx n)
  | _, _, _, .nil => .nil
  | _, _, 0, .cons _ t => t
  | _, _, n + 1, .cons q t => .cons q (vrs_erase n t)
theorem vrs_ints : ∀ {vs : List V} {ns : List Int}, VRs K F vs (ns.map SV.int) → vs = ns.map V.int
  | _, [], .nil => rfl
  | _, _ :: _, .cons (.int _) t => by rw [vrs_ints t]; rfl
theorem vrs_of_ints : ∀ (ns : List Int), VRs K F (ns.map V.int) (ns.map SV.int)
  | [] => .nil
  | _ :: r => .cons (.int _) (vrs_of_ints r)
theorem vrs_bls : ∀ {vs : List V} {ns : List Bool}, VRs K F vs (ns.map SV.bl) → vs = ns.map V.bl
  | _, [], .nil => rfl
  | _, _ :: _, .cons (.bl _) t => by rw [vrs_bls t]; rfl
theorem vrs_strs : ∀ {vs : List V} {ns : List Str}, VRs K F vs (ns.map SV.str) → vs = ns.map V.str
  | _, [], .nil => rfl
  | _, _ :: _, .cons (.str _) t => by rw [vrs_strs t]; rfl
theorem vr_int {v : V} {i : Int} (h : VR K F v (.int i)) : v = .int i := by cases h; rfl
theorem vr_bl {v : V} {i : Bool} (h : VR K F v (.bl i)) : v = .bl i := by cases h; rfl
theorem vr_str {v : V} {i : Str} (h : VR K F v (.str i)) : v = .str i := by cases h; rfl
theorem vr_non {v : V} (h : VR K F v .non) : v = .non := by cases h; rfl
theorem vr_ref {v : V} {a : Addr} (h : VR K F v (.ref a)) : v = .ref a := by cases h; rfl
theorem vr_ty {v : V} {n : String} (h : VR K F v (.ty n)) : v = .ty n := by cases h; rfl
end
/-- keyed values -/
inductive KR {κ : Type} (K : PySem.W.Frag) (F : Hp) : List (κ × V) → List (κ × SV) → Prop
  | nil : KR K F [] []
  | cons {k : κ} {v : V} {x : SV} {vs : List (κ × V)} {xs : List (κ × SV)} : VR K F v x → KR K F vs xs → KR K F ((k, v) :: vs) ((k, x) :: xs)
section
variable {K : PySem.W.Frag} {F H : Hp} {κ : Type}
theorem kr_sub (e : Sub F H) : ∀ {vs : List (κ × V)} {xs : List (κ × SV)}, KR K F vs xs → KR K H vs xs
  | _, _, .nil => .nil
  | _, _, .cons a b => .cons (vr_sub e a) (kr_sub e b)
theorem kr_keys : ∀ {vs : List (κ × V)} {xs : List (κ × SV)}, KR K F vs xs → vs.map (·.1) = xs.map (·.1)
  | _, _, .nil => rfl
  | _, _, .cons _ b => by rw [List.map_cons, List.map_cons, kr_keys b]
theorem kr_length {vs : List (κ × V)} {xs : List (κ × SV)} (h : KR K F vs xs) : vs.length = xs.length := by
  have := congrArg List.length (kr_keys h)
  simpa using this
theorem kr_lookup [BEq κ] : ∀ {vs : List (κ × V)} {xs : List (κ × SV)} {k : κ}, KR K F vs xs → match xs.lookup k with | some x => ∃ v, vs.lookup k = some v ∧ VR K F v x | none => vs.lookup k = none
  | _, _, _, .nil => rfl
  | (k', v) :: vs, (_, x) :: xs, k, .cons r t => by
    rw [List.lookup_cons, List.lookup_cons]
    cases k == k' with
    | true => exact ⟨v, rfl, r⟩
    | false => exact kr_lookup t
end
/-! ### the memory -/
/-- what never changes where it stands -/
def Still : HO → Prop
  | .ext _ => True
  | .tup _ => True
  | .own _ => True
  | _ => False
def MOR (K : PySem.W.Frag) (F H : Hp) (m : Mem) (a : Addr) : MO → Prop
  | .lst xs => ∃ vs, H a = some (.lst vs) ∧ VRs K F vs xs
  | .dK kvs => ∃ us, H a = some (.dK us) ∧ KR K F us kvs
  | .dT kvs => ∃ us, H a = some (.dT us) ∧ KR K F us kvs
  | .ins C fs => ∃ dx us, H a = some (.ins C dx us) ∧ H dx = some (.own a) ∧ F dx = none ∧ m dx = none ∧ KR K F us fs
  | .xd fs => ∃ us, H a = some (.xd us) ∧ KR K F us fs
  | .box c => ∃ sv : Int, H a = some (.lst [.ref c, .int sv])
  | .bxi => ∃ ns : List Int, H a = some (.lst (ns.map V.int)) ∧ ns.length ≤ 63
  | .tab nm => NdefX.TabN H a nm
  | .lam mk e d => ∃ (c : Addr) (dV : Value), H a = some (Lm.LamO a (mk c) e dV) ∧ H c = some (LamX.CodeO (mk c).c (mk c).qual) ∧ (mk c).c = c ∧ (match d with | none => dV = .none | some i => ∃ T, dV = .ref T ∧ H T = some (.tup [.int i]))
  | .pred ψ => (∃ u, H a = some u ∧ Still u) ∧ ∀ F' H', Sub F F' → (∀ b u, H b = some u → Still u → H' b = some u) → ψ F' H'
  | .raw o => H a = some o
structure MR (K : PySem.W.Frag) (F H : Hp) (m : Mem) : Prop where
  sub : Sub F H
  at_ : ∀ a o, m a = some o → F a = none ∧ MOR K F H m a o
section
variable {K : PySem.W.Frag} {F H F' H' : Hp} {m m' : Mem} {a p : Addr} {o : MO} {ho : HO}
theorem mor_some : ∀ {o : MO}, MOR K F H m a o → ∃ u, H a = some u
  | .lst _, ⟨_, h, _⟩ => ⟨_, h⟩
  | .dK _, ⟨_, h, _⟩ => ⟨_, h⟩
  | .dT _, ⟨_, h, _⟩ => ⟨_, h⟩
  | .ins _ _, ⟨_, _, h, _⟩ => ⟨_, h⟩
  | .xd _, ⟨_, h, _⟩ => ⟨_, h⟩
  | .box _, ⟨_, h⟩ => ⟨_, h⟩
  | .bxi, ⟨_, h, _⟩ => ⟨_, h⟩
  | .tab _, ⟨_, h, _⟩ => ⟨_, h⟩
  | .lam _ _ _, ⟨_, _, h, _⟩ => ⟨_, h⟩
  | .pred _, ⟨⟨u, h, _⟩, _⟩ => ⟨u, h⟩
  | .raw _, h => ⟨_, h⟩
theorem MR.have_ (M : MR K F H m) (h : m a = some o) : ∃ u, H a = some u := mor_some (M.at_ a o h).2
theorem MR.gone (M : MR K F H m) (h : H p = none) : m p = none := by
  cases q : m p with
  | none => rfl
  | some o =>
    obtain ⟨u, z⟩ := M.have_ q
    rw [h] at z; cases z
/-- another frame: what is tracked stays as it is, the frozen part grows where nothing is owned -/
theorem mor_keep (sF : Sub F F') (hm : ∀ b, m b = none → (∀ o', m' b = some o' → False) ∨ b = p) (hH : ∀ b u, b ≠ p → H b = some u → H' b = some u) (hp : ∀ u, H p = some u → ¬ Still u)
    (hF : ∀ b u, H b = some u → F b = none → F' b = none) : ∀ {o : MO}, a ≠ p → MOR K F H m a o → MOR K F' H' m' a o := fun {o} n h => by
  have key : ∀ b u, H b = some u → m b = none → b ≠ p → m' b = none := fun b u hb mb np => by
    cases q : m' b with
    | none => rfl
    | some o' =>
      rcases hm b mb with z | z
      · exact (z o' q).elim
      · exact (np z).elim
  have still : ∀ b u, H b = some u → Still u → H' b = some u := fun b u e1 e2 => hH b u (fun z => hp u (by rw [← z]; exact e1) e2) e1
  cases o with
  | lst xs => obtain ⟨vs, h1, h2⟩ := h; exact ⟨vs, hH _ _ n h1, vrs_sub sF h2⟩
  | dK xs => obtain ⟨vs, h1, h2⟩ := h; exact ⟨vs, hH _ _ n h1, kr_sub sF h2⟩
  | dT xs => obtain ⟨vs, h1, h2⟩ := h; exact ⟨vs, hH _ _ n h1, kr_sub sF h2⟩
  | xd xs => obtain ⟨vs, h1, h2⟩ := h; exact ⟨vs, hH _ _ n h1, kr_sub sF h2⟩
  | ins C fs =>
    obtain ⟨dx, us, h1, h2, h3, h4, h5⟩ := h
    have nd : dx ≠ p := fun z => by subst z; exact hp _ h2 trivial
    exact ⟨dx, us, hH _ _ n h1, hH _ _ nd h2, hF _ _ h2 h3, key _ _ h2 h4 nd, kr_sub sF h5⟩
  | box c => obtain ⟨sv, h1⟩ := h; exact ⟨sv, hH _ _ n h1⟩
  | bxi => obtain ⟨ns, h1, h2⟩ := h; exact ⟨ns, hH _ _ n h1, h2⟩
  | tab nm =>
    obtain ⟨ps, h1, h2, h3⟩ := h
    refine ⟨ps, hH _ _ n h1, h2, fun pos cv hc => ?_⟩
    obtain ⟨c, e1, e2⟩ := h3 pos cv hc
    exact ⟨c, e1, still _ _ e2 trivial⟩
  | lam mk e d =>
    obtain ⟨c, dV, h1, h2, h3, h4⟩ := h
    refine ⟨c, dV, hH _ _ n h1, still _ _ h2 trivial, h3, ?_⟩
    cases d with
    | none => exact h4
    | some i =>
      obtain ⟨T, e1, e2⟩ := h4
      exact ⟨T, e1, still _ _ e2 trivial⟩
  | pred ψ =>
    obtain ⟨⟨u, h1, h2⟩, h3⟩ := h
    exact ⟨⟨u, hH _ _ n h1, h2⟩, fun F2 H2 s2 k2 => h3 F2 H2 (sF.trans s2) fun b u' e1 e2 => k2 b u' (still b u' e1 e2) e2⟩
  | raw u => exact hH _ _ n h
/-- an owned cell changes -/
theorem MR.put {o0 : MO} (M : MR K F H m) (h0 : m a = some o0) (hown : ∀ u, H a = some u → ¬ Still u) (n : MOR K F (upd H a ho) (up m a o) a o) : MR K F (upd H a ho) (up m a o) where
  sub := M.sub.free (M.at_ a o0 h0).1
  at_ := fun b u hb => by
    by_cases e : b = a
    · subst e
      rw [up_same] at hb; cases hb
      exact ⟨(M.at_ b o0 h0).1, n⟩
    · rw [up_ne e] at hb
      refine ⟨(M.at_ b u hb).1, mor_keep (p := a) (.refl F) (fun c hc => ?_) (fun c u q1 q2 => (upd_ne q1).trans q2) hown (fun _ _ _ z => z) e (M.at_ b u hb).2⟩
      by_cases e2 : c = a
      · exact .inr e2
      · exact .inl fun o' z => by rw [up_ne e2, hc] at z; cases z
/-- an owned cell is told of in another way -/
theorem MR.reab {o0 : MO} (M : MR K F H m) (h0 : m a = some o0) (hown : ∀ u, H a = some u → ¬ Still u) (n : MOR K F H (up m a o) a o) : MR K F H (up m a o) where
  sub := M.sub
  at_ := fun b u hb => by
    by_cases e : b = a
    · subst e
      rw [up_same] at hb; cases hb
      exact ⟨(M.at_ b o0 h0).1, n⟩
    · rw [up_ne e] at hb
      refine ⟨(M.at_ b u hb).1, mor_keep (p := a) (.refl F) (fun c hc => ?_) (fun c u q1 q2 => q2) hown (fun _ _ _ z => z) e (M.at_ b u hb).2⟩
      by_cases e2 : c = a
      · exact .inr e2
      · exact .inl fun o' z => by rw [up_ne e2, hc] at z; cases z
/-- a thing that stands already is owned from now on -/
theorem MR.adopt (M : MR K F H m) (h0 : m a = none) (hF : F a = none) (hn : ∀ x, H a ≠ some (.own x)) (n : MOR K F H (up m a o) a o) : MR K F H (up m a o) where
  sub := M.sub
  at_ := fun b u hb => by
    by_cases e : b = a
    · subst e
      rw [up_same] at hb; cases hb
      exact ⟨hF, n⟩
    · rw [up_ne e] at hb
      obtain ⟨z1, z2⟩ := M.at_ b u hb
      refine ⟨z1, ?_⟩
      cases u with
      | ins C fs =>
        obtain ⟨dx, us, h1, h2, h3, h4, h5⟩ := z2
        exact ⟨dx, us, h1, h2, h3, by rw [up_ne (fun q => hn _ (by rw [← q]; exact h2))]; exact h4, h5⟩
      | _ => exact z2
/-- a lambda's making: the table at P grows, other things stay -/
theorem MR.table {P : Addr} {nm : Nat → Nat → Str} {H1 : Hp} (M : MR K F H m) (hP : m P = some (.tab nm)) (k : ∀ b o, b ≠ P → H b = some o → H1 b = some o) (t : NdefX.TabN H1 P nm) : MR K F H1 m where
  sub := fun b o e => k b o (fun z => by rw [z, (M.at_ P _ hP).1] at e; cases e) (M.sub b o e)
  at_ := fun b u hb => by
    obtain ⟨z1, z2⟩ := M.at_ b u hb
    refine ⟨z1, ?_⟩
    by_cases e : b = P
    · subst e
      rw [hP] at hb; cases hb
      exact t
    · exact mor_keep (p := P) (.refl F) (fun c hc => .inl fun o' z => by rw [hc] at z; cases z) (fun c u q1 q2 => k c u q1 q2) (fun u hu => by
        obtain ⟨ps, h1, _⟩ := (M.at_ P _ hP).2
        rw [h1] at hu; cases hu; exact fun z => z) (fun _ _ _ z => z) e z2
/-- a new owned cell -/
theorem MR.new_ (M : MR K F H m) (hp : H p = none) (n : MOR K F (upd H p ho) (up m p o) p o) : MR K F (upd H p ho) (up m p o) where
  sub := M.sub.free (M.sub.gone hp)
  at_ := fun b u hb => by
    by_cases e : b = p
    · subst e
      rw [up_same] at hb; cases hb
      exact ⟨M.sub.gone hp, n⟩
    · rw [up_ne e] at hb
      refine ⟨(M.at_ b u hb).1, mor_keep (p := p) (.refl F) (fun c hc => ?_) (fun c u q1 q2 => (upd_ne q1).trans q2) (fun u z => by rw [hp] at z; cases z) (fun _ _ _ z => z) e (M.at_ b u hb).2⟩
      by_cases e2 : c = p
      · exact .inr e2
      · exact .inl fun o' z => by rw [up_ne e2, hc] at z; cases z
/-- a new thing that isn't told of -/
theorem MR.hid (M : MR K F H m) (hp : H p = none) : MR K F (upd H p ho) m where
  sub := M.sub.free (M.sub.gone hp)
  at_ := fun b u hb => ⟨(M.at_ b u hb).1, mor_keep (p := p) (.refl F) (fun c hc => .inl fun o' z => by rw [hc] at z; cases z) (fun c u q1 q2 => (upd_ne q1).trans q2) (fun u z => by rw [hp] at z; cases z) (fun _ _ _ z => z) (fun e => by
    subst e
    obtain ⟨u, z⟩ := M.have_ hb
    rw [hp] at z; cases z) (M.at_ b u hb).2⟩
/-- a new frozen thing -/
theorem MR.frz (M : MR K F H m) (hp : H p = none) : MR K (upd F p ho) (upd H p ho) m where
  sub := M.sub.upd2
  at_ := fun b u hb => by
    have nb : b ≠ p := fun e => by
      subst e
      obtain ⟨u, z⟩ := M.have_ hb
      rw [hp] at z; cases z
    exact ⟨(upd_ne nb).trans (M.at_ b u hb).1, mor_keep (p := p) (Sub.new (M.sub.gone hp)) (fun c hc => .inl fun o' z => by rw [hc] at z; cases z) (fun c u q1 q2 => (upd_ne q1).trans q2) (fun u z => by rw [hp] at z; cases z) 
      (fun c u q1 q2 => (upd_ne (ne_of_none q1 hp)).trans q2) nb (M.at_ b u hb).2⟩
/-- cells are forgotten -/
theorem MR.drop (M : MR K F H m) (h : ∀ b o, m' b = some o → m b = some o) : MR K F H m' where
  sub := M.sub
  at_ := fun b u hb => by
    have z := M.at_ b u (h b u hb)
    refine ⟨z.1, ?_⟩
    have w := z.2
    have key : ∀ c, m c = none → m' c = none := fun c hc => by
      cases q : m' c with
      | none => rfl
      | some o' => rw [h c o' q] at hc; cases hc
    cases u with
    | ins C fs => obtain ⟨dx, us, h1, h2, h3, h4, h5⟩ := w; exact ⟨dx, us, h1, h2, h3, key _ h4, h5⟩
    | _ => exact w
def del (m : Mem) (a : Addr) : Mem := fun b => if b = a then none else m b
theorem del_some {b : Addr} (h : del m a b = some o) : m b = some o ∧ b ≠ a := by
  unfold del at h
  split at h
  · cases h
  · next e => exact ⟨h, e⟩
theorem del_new (h : m p = none) : del (up m p o) p = m := by
  funext b; unfold del up
  split
  · next e => rw [e, h]
  · rfl
/-- an owned cell is frozen -/
theorem MR.freeze (M : MR K F H m) (h0 : m a = some o) (hh : H a = some ho) (hown : ¬ Still ho) : MR K (upd F a ho) H (del m a) where
  sub := M.sub.in hh
  at_ := fun b u hb => by
    obtain ⟨hb, e⟩ := del_some hb
    obtain ⟨z1, z2⟩ := M.at_ b u hb
    refine ⟨(upd_ne e).trans z1, ?_⟩
    have sF : Sub F (upd F a ho) := Sub.new (M.at_ a o h0).1
    cases u with
    | lst xs => obtain ⟨vs, h1, h2⟩ := z2; exact ⟨vs, h1, vrs_sub sF h2⟩
    | dK xs => obtain ⟨vs, h1, h2⟩ := z2; exact ⟨vs, h1, kr_sub sF h2⟩
    | dT xs => obtain ⟨vs, h1, h2⟩ := z2; exact ⟨vs, h1, kr_sub sF h2⟩
    | xd xs => obtain ⟨vs, h1, h2⟩ := z2; exact ⟨vs, h1, kr_sub sF h2⟩
    | ins C fs =>
      obtain ⟨dx, us, h1, h2, h3, h4, h5⟩ := z2
      have nd : dx ≠ a := fun q => by subst q; rw [hh] at h2; cases h2; exact hown trivial
      exact ⟨dx, us, h1, h2, (upd_ne nd).trans h3, by unfold del; rw [if_neg nd]; exact h4, kr_sub sF h5⟩
    | box c => exact z2
    | bxi => exact z2
    | tab nm => exact z2
    | lam mk e d => exact z2
    | pred ψ => exact ⟨z2.1, fun F2 H2 s2 k2 => z2.2 F2 H2 (sF.trans s2) k2⟩
    | raw u => exact z2
theorem MR.lst_ {xs : List SV} (M : MR K F H m) (h : m a = some (.lst xs)) : ∃ vs, H a = some (.lst vs) ∧ VRs K F vs xs := (M.at_ a _ h).2
theorem MR.nown {xs : List SV} (M : MR K F H m) (h : m a = some (.lst xs)) : ∀ u, H a = some u → ¬ Still u := fun u hu x => by
  obtain ⟨vs, z, _⟩ := M.lst_ h
  rw [z] at hu; cases hu; exact x
/-- a list gets another content -/
theorem MR.setL {xs ys : List SV} {ws : List V} (M : MR K F H m) (h : m a = some (.lst xs)) (r : VRs K F ws ys) : MR K F (upd H a (.lst ws)) (up m a (.lst ys)) := M.put h (M.nown h) ⟨ws, upd_same, r⟩
theorem MR.newL {ys : List SV} {ws : List V} (M : MR K F H m) (hp : H p = none) (r : VRs K F ws ys) : MR K F (upd H p (.lst ws)) (up m p (.lst ys)) := M.new_ hp ⟨ws, upd_same, r⟩
end
/-! ### slots -/
abbrev DS := List (Option SV)
structure SR (K : PySem.W.Frag) (F : Hp) (σ : L2.St) (δ : DS) : Prop where
  len : σ.length = δ.length
  at_ : ∀ (i : Nat) (d : SV), δ[i]? = some (some d) → ∃ v, σ[i]? = some (some v) ∧ VR K F v d
section
variable {K : PySem.W.Frag} {F F' H : Hp} {σ : L2.St} {δ : DS}
theorem SR.sub (h : SR K F σ δ) (s : Sub F F') : SR K F' σ δ := ⟨h.len, fun i d e => by
  obtain ⟨v, h1, h2⟩ := h.at_ i d e
  exact ⟨v, h1, vr_sub s h2⟩⟩
theorem SR.set {i : Nat} {v : V} {d : SV} (h : SR K F σ δ) (dv : VR K F v d) : SR K F (σ.set i (some v)) (δ.set i (some d)) := ⟨by rw [List.length_set, List.length_set]; exact h.len, fun j e hj => by
  by_cases hji : i = j
  · subst hji
    by_cases hl : i < δ.length
    · rw [List.getElem?_set_self hl] at hj
      cases hj
      exact ⟨v, List.getElem?_set_self (by rw [h.len]; exact hl), dv⟩
    · rw [List.getElem?_eq_none (by rw [List.length_set]; omega)] at hj
      cases hj
  · rw [List.getElem?_set_ne hji] at hj ⊢
    exact h.at_ j e hj⟩
theorem SR.setNo {i : Nat} {v : Option V} (h : SR K F σ δ) : SR K F (σ.set i v) (δ.set i none) := ⟨by rw [List.length_set, List.length_set]; exact h.len, fun j e hj => by
  by_cases hji : i = j
  · subst hji
    by_cases hl : i < δ.length
    · rw [List.getElem?_set_self hl] at hj
      cases hj
    · rw [List.getElem?_eq_none (by rw [List.length_set]; omega)] at hj
      cases hj
  · rw [List.getElem?_set_ne hji] at hj ⊢
    exact h.at_ j e hj⟩
def wipeD (δ : DS) : List Nat → DS
  | [] => δ
  | v :: vs => (wipeD δ vs).set v none
theorem SR.wipe (h : SR K F σ δ) : ∀ vs : List Nat, SR K F (L2.wipe σ vs) (wipeD δ vs)
  | [] => h
  | _ :: vs => (h.wipe vs).setNo
def startD (n : Nat) (ds : List SV) : DS := ds.map some ++ List.replicate (n - ds.length) none
theorem SR.start {N : List Str} {vs : List V} {ds : List SV} (h : VRs K F vs ds) : SR K F (L2.start N vs) (startD N.length ds) := ⟨by
  unfold L2.start startD
  rw [List.length_append, List.length_append, List.length_map, List.length_map, List.length_replicate, List.length_replicate, vrs_length h], fun i d e => by
  unfold startD at e
  unfold L2.start
  by_cases hi : i < ds.length
  · rw [List.getElem?_append_left (by rw [List.length_map]; exact hi), List.getElem?_map] at e
    obtain ⟨d', h1, h2⟩ := Option.map_eq_some_iff.mp e
    cases h2
    obtain ⟨v, h3, h4⟩ := vrs_get h h1
    refine ⟨v, ?_, h4⟩
    rw [List.getElem?_append_left (by rw [List.length_map, vrs_length h]; exact hi), List.getElem?_map, h3]
    rfl
  · rw [List.getElem?_append_right (by rw [List.length_map]; omega), List.getElem?_replicate] at e
    split at e <;> cases e⟩
end
end Sy

set_option Elab.async false
set_option linter.all false
set_option maxRecDepth 100000
set_option maxHeartbeats 4000000
/-! Readings told over symbolic values: expressions. -/
namespace Sy
open PySem PySem.Spec PyProof.Rows L2
/-- an exception: its class, its fields (none: no dict of its own) -/
structure XO where
  cls : Addr
  fs : Option (List (Str × SV)) := none
abbrev SXK := XO → Mem → Prop
def XOk (K : PySem.W.Frag) (F H : Hp) (m : Mem) (d : Option Addr) (x : XO) : Prop := match x.fs with
  | none => d = none
  | some fs => ∃ (dd : Addr) (us : List (Str × V)), d = some dd ∧ H dd = some (.xd us) ∧ F dd = none ∧ m dd = none ∧ KR K F us fs
def ExOk (K : PySem.W.Frag) (F : Hp) (E : XK) (SX : SXK) : Prop := ∀ x d F' H' m', Sub F F' → MR K F' H' m' → XOk K F' H' m' d x → SX x m' → E (.ref x.cls) d H'
theorem ExOk.go {K : PySem.W.Frag} {F F' : Hp} {E : XK} {SX : SXK} (h : ExOk K F E SX) (s : Sub F F') : ExOk K F' E SX := fun x d F2 H2 m2 s2 => h x d F2 H2 m2 (s.trans s2)
theorem ExOk.fg {K : PySem.W.Frag} {F : Hp} {E : XK} {SX : SXK} (h : ExOk K F E SX) : ExOk K F E (fun x => Fg (SX x)) := fun x d F' H' m' s M hx ⟨m2, l2, q⟩ => h x d F' H' m2 s (M.drop l2) (by
  unfold XOk at hx ⊢
  cases e : x.fs with
  | none => rw [e] at hx; exact hx
  | some fs =>
    rw [e] at hx
    obtain ⟨dd, us, h1, h2, h3, h4, h5⟩ := hx
    exact ⟨dd, us, h1, h2, h3, l2.none h4, h5⟩) q
/-- the state: slots, memory, the wish of exceptions -/
structure Rl (K : PySem.W.Frag) (E : XK) (σ : L2.St) (F H : Hp) (δ : DS) (m : Mem) (SX : SXK) : Prop where
  sr : SR K F σ δ
  mr : MR K F H m
  ex : ExOk K F E SX
section
variable {K : PySem.W.Frag} {E : XK} {σ σ' : L2.St} {F F' H H' : Hp} {δ δ' : DS} {m m' : Mem} {SX : SXK}
theorem Rl.go (r : Rl K E σ F H δ m SX) (s : Sub F F') (M : MR K F' H' m') : Rl K E σ F' H' δ m' SX := ⟨r.sr.sub s, M, r.ex.go s⟩
end
abbrev SE := SXK → DS → Mem → (SV → Mem → Prop) → Prop
abbrev SA := SXK → DS → Mem → (List SV → Mem → Prop) → Prop
abbrev STt := SXK → DS → Mem → (Bool → Mem → Prop) → Prop
def Cn (K : PySem.W.Frag) (F : Hp) (S : SV → Mem → Prop) (Q : VK) : Prop := ∀ v F' H' sv m', Sub F F' → MR K F' H' m' → VR K F' v sv → S sv m' → Q v H'
def CnA (K : PySem.W.Frag) (F : Hp) (S : List SV → Mem → Prop) (Q : List V → Hp → Prop) : Prop := ∀ v F' H' sv m', Sub F F' → MR K F' H' m' → VRs K F' v sv → S sv m' → Q v H'
def CnT (K : PySem.W.Frag) (F : Hp) (S : Bool → Mem → Prop) (Q : Bool → Hp → Prop) : Prop := ∀ b F' H' m', Sub F F' → MR K F' H' m' → S b m' → Q b H'
theorem Cn.go {K : PySem.W.Frag} {F F' : Hp} {S : SV → Mem → Prop} {Q : VK} (c : Cn K F S Q) (s : Sub F F') : Cn K F' S Q := fun v F2 H2 sv m2 s2 => c v F2 H2 sv m2 (s.trans s2)
theorem CnA.go {K : PySem.W.Frag} {F F' : Hp} {S : List SV → Mem → Prop} {Q : List V → Hp → Prop} (c : CnA K F S Q) (s : Sub F F') : CnA K F' S Q := fun v F2 H2 sv m2 s2 => c v F2 H2 sv m2 (s.trans s2)
theorem CnT.go {K : PySem.W.Frag} {F F' : Hp} {S : Bool → Mem → Prop} {Q : Bool → Hp → Prop} (c : CnT K F S Q) (s : Sub F F') : CnT K F' S Q := fun v F2 H2 m2 s2 => c v F2 H2 m2 (s.trans s2)
def SimE (K : PySem.W.Frag) (E : XK) (te : TE) (se : SE) : Prop := ∀ σ F H δ m SX S Q, Rl K E σ F H δ m SX → se SX δ m S → Cn K F S Q → te σ H Q
def SimA (K : PySem.W.Frag) (E : XK) (te : TA) (se : SA) : Prop := ∀ σ F H δ m SX S Q, Rl K E σ F H δ m SX → se SX δ m S → CnA K F S Q → te σ H Q
def SimT (K : PySem.W.Frag) (E : XK) (te : TT) (se : STt) : Prop := ∀ σ F H δ m SX S Q, Rl K E σ F H δ m SX → se SX δ m S → CnT K F S Q → te σ H Q
structure GE (K : PySem.W.Frag) (E : XK) (X : Cx) (e : Expr) (te : TE) (se : SE) : Prop where
  pe : PE X e te
  sim : SimE K E te se
structure GT (K : PySem.W.Frag) (E : XK) (X : Cx) (e : Expr) (te : TT) (se : STt) : Prop where
  pe : PT X e te
  sim : SimT K E te se
structure GW (K : PySem.W.Frag) (E : XK) (X : Cx) (e : Expr) (te : TT) (se : STt) : Prop where
  pe : PW X e te
  sim : SimT K E te se
structure GA (K : PySem.W.Frag) (E : XK) (X : Cx) (e : List Expr) (te : TA) (se : SA) : Prop where
  pe : PA X e te
  sim : SimA K E te se
abbrev SR2 := SV → SV → Mem → (SV → Mem → Prop) → Prop
def SimR (K : PySem.W.Frag) (r : R2) (s : SR2) : Prop := ∀ F H m x y a b S Q, MR K F H m → VR K F x a → VR K F y b → s a b m S → Cn K F S Q → r x y H Q
abbrev SR1 := SV → Mem → (SV → Mem → Prop) → Prop
def SimU (K : PySem.W.Frag) (r : V → Hp → VK → Prop) (s : SR1) : Prop := ∀ F H m x a S Q, MR K F H m → VR K F x a → s a m S → Cn K F S Q → r x H Q
abbrev SRC := List SV → Mem → (SV → Mem → Prop) → Prop
def SimC (K : PySem.W.Frag) (r : List V → Hp → VK → Prop) (s : SRC) : Prop := ∀ F H m xs as S Q, MR K F H m → VRs K F xs as → s as m S → Cn K F S Q → r xs H Q
abbrev SRM := SV → List SV → Mem → (SV → Mem → Prop) → Prop
def SimM (K : PySem.W.Frag) (r : V → List V → Hp → VK → Prop) (s : SRM) : Prop := ∀ F H m x xs a as S Q, MR K F H m → VR K F x a → VRs K F xs as → s a as m S → Cn K F S Q → r x xs H Q
/-! ### combinators -/
def sVar (i : Nat) : SE := fun _ δ m S => match δ[i]? with
  | some (some v) => S v m
  | _ => False
def sC (v : SV) : SE := fun _ _ m S => S v m
def sOp (r : SR2) (a b : SE) : SE := fun SX δ m S => a SX δ m fun x m1 => b SX δ m1 fun y m2 => r x y m2 S
def sUn (r : SR1) (a : SE) : SE := fun SX δ m S => a SX δ m fun x m1 => r x m1 S
/-- a branch -/
@[irreducible] def Br (b : Bool) (A B : Prop) : Prop := if b = true then A else B
theorem Br_t {A B : Prop} (h : A) : Br true A B := by unfold Br; exact h
theorem Br_f {A B : Prop} (h : B) : Br false A B := by unfold Br; exact h
theorem Br_i {b : Bool} {A B : Prop} (h1 : b = true → A) (h2 : b = false → B) : Br b A B := by
  cases b with
  | true => exact Br_t (h1 rfl)
  | false => exact Br_f (h2 rfl)
theorem Br_eq {b : Bool} {A B : Prop} : Br b A B = (if b = true then A else B) := by unfold Br; rfl
def sB (a : SE) : STt := fun SX δ m S => a SX δ m fun x m1 => match x with
  | .bl b => S b m1
  | _ => False
def sAnd (t u : STt) : STt := fun SX δ m S => t SX δ m fun c m1 => Br c (u SX δ m1 S) (S false m1)
def sOr (t u : STt) : STt := fun SX δ m S => t SX δ m fun c m1 => Br c (S true m1) (u SX δ m1 S)
def sNot (t : STt) : STt := fun SX δ m S => t SX δ m fun c m1 => S (!c) m1
def sAndV (a b : SE) : SE := fun SX δ m S => a SX δ m fun x m1 => match x with
  | .bl c => Br c (b SX δ m1 S) (S (.bl false) m1)
  | _ => False
def sOrV (a b : SE) : SE := fun SX δ m S => a SX δ m fun x m1 => match x with
  | .bl c => Br c (S (.bl true) m1) (b SX δ m1 S)
  | _ => False
def sNotV (a : SE) : SE := fun SX δ m S => a SX δ m fun x m1 => match x with
  | .bl c => S (.bl (!c)) m1
  | _ => False
def sIfE (t : STt) (a b : SE) : SE := fun SX δ m S => t SX δ m fun c m1 => Br c (a SX δ m1 S) (b SX δ m1 S)
def sNil : SA := fun _ _ m S => S [] m
def sCons (a : SE) (r : SA) : SA := fun SX δ m S => a SX δ m fun x m1 => r SX δ m1 fun xs m2 => S (x :: xs) m2
def sTup (a : SA) : SE := fun SX δ m S => a SX δ m fun xs m1 => xs.length ≤ sizeLine ∧ S (.tup xs) m1
def sLst (a : SA) : SE := fun SX δ m S => a SX δ m fun xs m1 => xs.length ≤ sizeLine ∧ ∀ p, m1 p = none → S (.ref p) (up m1 p (.lst xs))
def sChain (r r' : SR2) (a b c : SE) : SE := fun SX δ m S => a SX δ m fun x m1 => b SX δ m1 fun y m2 => r x y m2 fun z m3 => match z with
  | .bl k => Br k (c SX δ m3 fun w m4 => r' y w m4 S) (S (.bl false) m3)
  | _ => False
section
variable {K : PySem.W.Frag} {E : XK} {X : Cx} {a b c e : Expr} {es : List Expr} {ta tb tc te : TE} {sa sb sc se : SE} {pos : Pos} {t u : TT} {st su : STt} {tl : TA} {sl : SA}
theorem ge_var {i : Nat} {x : Str} (hN : X.N[i]? = some x) (hv : Vis X.env.scope x) (hd : (x == ("__debug__" : Str)) = false := by decide) (hcd : (x == ("__classdict__" : Str)) = false := by decide) : GE K E X (.Name x pos) (tVar i) (sVar i) :=
  ⟨pe_var hN hv hd hcd, fun σ F H δ m SX S Q r h c => by
    unfold sVar at h
    split at h
    · next v e =>
      obtain ⟨w, h1, h2⟩ := r.sr.at_ i v e
      exact ⟨w, h1, c w F H v m (.refl F) r.mr h2 h⟩
    · exact h.elim⟩
theorem sim_c {v : V} {d : SV} (hd : ∀ F, VR K F v d) : SimE K E (tC v) (sC d) := fun σ F H δ m SX S Q r h c => c v F H d m (.refl F) r.mr (hd F) h
theorem ge_int {i j} : GE K E X (.Constant (.int i) j pos) (tC (.int i)) (sC (.int i)) := ⟨pe_int, sim_c fun _ => .int _⟩
theorem ge_bl {i j} : GE K E X (.Constant (.bool i) j pos) (tC (.bl i)) (sC (.bl i)) := ⟨pe_bl, sim_c fun _ => .bl _⟩
theorem ge_non {j} : GE K E X (.Constant .none j pos) (tC .non) (sC .non) := ⟨pe_non, sim_c fun _ => .non⟩
theorem ge_str {i j} : GE K E X (.Constant (.str i) j pos) (tC (.str i)) (sC (.str i)) := ⟨pe_str, sim_c fun _ => .str _⟩
theorem ge_gi {x : Str} {i : Int} (hg : Gl X x) (h : ∃ t, X.mg x = some (.int i t)) (hd : (x == ("__debug__" : Str)) = false := by decide) : GE K E X (.Name x pos) (tC (.int i)) (sC (.int i)) := by
  obtain ⟨t, ht⟩ := h
  exact ⟨pe_glob (v := .int i) hg ht ⟨t, rfl⟩ hd, sim_c fun _ => .int _⟩
theorem ge_gs {x y : Str} (hg : Gl X x) (h : ∃ t, X.mg x = some (.str y t)) (hd : (x == ("__debug__" : Str)) = false := by decide) : GE K E X (.Name x pos) (tC (.str y)) (sC (.str y)) := by
  obtain ⟨t, ht⟩ := h
  exact ⟨pe_glob (v := .str y) hg ht ⟨t, rfl⟩ hd, sim_c fun _ => .str _⟩
theorem ge_gr {x : Str} {p : Addr} (hg : Gl X x) (h : X.mg x = some (.ref p)) (hd : (x == ("__debug__" : Str)) = false := by decide) : GE K E X (.Name x pos) (tC (.ref p)) (sC (.ref p)) := ⟨pe_glob (v := .ref p) hg h rfl hd, sim_c fun _ => .ref _⟩
theorem ge_ty {x : Str} {n : String} (hg : Gl X x) (hm : X.mg x = none) (hv : bootBuiltins x = some (.type n)) (hn : x ≠ "__name__" := by decide) (hd : (x == ("__debug__" : Str)) = false := by decide) : GE K E X (.Name x pos) (tC (.ty n)) (sC (.ty n)) :=
  ⟨pe_bltn (v := .ty n) hg hm hv rfl hn hd, sim_c fun _ => .ty _⟩
theorem sim_op {r : R2} {s : SR2} (hr : SimR K r s) (ha : SimE K E ta sa) (hb : SimE K E tb sb) : SimE K E (tOp r ta tb) (sOp s sa sb) := fun σ F H δ m SX S Q q h c =>
  ha σ F H δ m SX _ _ q h fun x F1 H1 sx m1 s1 M1 v1 h1 => hb σ F1 H1 δ m1 SX _ _ (q.go s1 M1) h1 fun y F2 H2 sy m2 s2 M2 v2 h2 =>
    hr F2 H2 m2 x y sx sy S Q M2 (vr_sub s2 v1) v2 h2 (c.go (s1.trans s2))
theorem ge_op {op : Operator} {r : R2} {s : SR2} (ho : OpR X (binaryOp op) r) (hr : SimR K r s) (ha : GE K E X a ta sa) (hb : GE K E X b tb sb) : GE K E X (.BinOp a op b pos) (tOp r ta tb) (sOp s sa sb) := ⟨pe_op ho ha.pe hb.pe, sim_op hr ha.sim hb.sim⟩
theorem ge_cmp {op : CmpOp} {r : R2} {s : SR2} (ho : OpR X (compareOp op) r) (hr : SimR K r s) (ha : GE K E X a ta sa) (hb : GE K E X b tb sb) (hm : behindInMarks op b = false) : GE K E X (.Compare a [op] [b] pos) (tOp r ta tb) (sOp s sa sb) := ⟨pe_cmpR ho ha.pe hb.pe hm, sim_op hr ha.sim hb.sim⟩
theorem sim_test (h : SimE K E te se) : SimT K E (tTest te) (sB se) := fun σ F H δ m SX S Q r q c =>
  h σ F H δ m SX _ _ r q fun v F1 H1 sv m1 s1 M1 v1 h1 => by
    cases v1 with
    | bl b => exact ⟨b, rfl, c b F1 H1 m1 s1 M1 h1⟩
    | _ => exact (show False from h1).elim
theorem gt_cmp {op : CmpOp} {r : R2} {s : SR2} (ho : OpR X (compareOp op) r) (hr : SimR K r s) (ha : GE K E X a ta sa) (hb : GE K E X b tb sb) (hm : behindInMarks op b = false) : GT K E X (.Compare a [op] [b] pos) (tTest (tOp r ta tb)) (sB (sOp s sa sb)) := ⟨pt_cmpR ho ha.pe hb.pe hm, sim_test (sim_op hr ha.sim hb.sim)⟩
theorem sim_chain {r r' : R2} {s s' : SR2} (hr : SimR K r s) (hr' : SimR K r' s') (ha : SimE K E ta sa) (hb : SimE K E tb sb) (hc : SimE K E tc sc) : SimE K E (tChain r r' ta tb tc) (sChain s s' sa sb sc) := fun σ F H δ m SX S Q q h c =>
  ha σ F H δ m SX _ _ q h fun x F1 H1 sx m1 s1 M1 v1 h1 => hb σ F1 H1 δ m1 SX _ _ (q.go s1 M1) h1 fun y F2 H2 sy m2 s2 M2 v2 h2 =>
    hr F2 H2 m2 x y sx sy _ _ M2 (vr_sub s2 v1) v2 h2 fun z F3 H3 sz m3 s3 M3 v3 h3 => by
      cases v3 with
      | bl k =>
        refine ⟨k, rfl, ?_⟩
        have h3 : Br k _ _ := h3
        rw [Br_eq] at h3
        have s13 := (s1.trans s2).trans s3
        split
        · next e =>
          rw [if_pos e] at h3
          exact hc σ F3 H3 δ m3 SX _ _ (q.go s13 M3) h3 fun w F4 H4 sw m4 s4 M4 v4 h4 => hr' F4 H4 m4 y w sy sw S Q M4 (vr_sub (s3.trans s4) v2) v4 h4 (c.go (s13.trans s4))
        · next e =>
          rw [if_neg e] at h3
          exact c _ F3 H3 _ m3 s13 M3 (.bl false) h3
      | _ => exact (show False from h3).elim
theorem ge_chain {op op' : CmpOp} {r r' : R2} {s s' : SR2} (ho : OpR X (compareOp op) r) (ho' : OpR X (compareOp op') r') (hr : SimR K r s) (hr' : SimR K r' s') (ha : GE K E X a ta sa) (hb : GE K E X b tb sb) (hc : GE K E X c tc sc)
    (hm : lastMarks [op, op'] [b, c] = false := by with_unfolding_all rfl) : GE K E X (.Compare a [op, op'] [b, c] pos) (tChain r r' ta tb tc) (sChain s s' sa sb sc) := ⟨pe_chain ho ho' ha.pe hb.pe hc.pe hm, sim_chain hr hr' ha.sim hb.sim hc.sim⟩
theorem gt_chain {op op' : CmpOp} {r r' : R2} {s s' : SR2} (ho : OpR X (compareOp op) r) (ho' : OpR X (compareOp op') r') (hr : SimR K r s) (hr' : SimR K r' s') (ha : GE K E X a ta sa) (hb : GE K E X b tb sb) (hc : GE K E X c tc sc)
    (hm : lastMarks [op, op'] [b, c] = false := by with_unfolding_all rfl) : GT K E X (.Compare a [op, op'] [b, c] pos) (tTest (tChain r r' ta tb tc)) (sB (sChain s s' sa sb sc)) := ⟨pt_chain ho ho' ha.pe hb.pe hc.pe hm, sim_test (sim_chain hr hr' ha.sim hb.sim hc.sim)⟩
theorem sim_val (h : SimE K E te se) : SimT K E (tB te) (sB se) := fun σ F H δ m SX S Q r q c =>
  h σ F H δ m SX _ _ r q fun v F1 H1 sv m1 s1 M1 v1 h1 => by
    cases v1 with
    | bl b => exact ⟨b, rfl, c b F1 H1 m1 s1 M1 h1⟩
    | _ => exact (show False from h1).elim
theorem gt_val (h : GE K E X e te se) (he : ∀ whole, isTrue e X.env whole = (do let v ← whole; standAt e.pos; holding [v] (truthy v)) := by intro _; rfl) : GT K E X e (tB te) (sB se) := ⟨pt_val h.pe he, sim_val h.sim⟩
theorem sim_and (ha : SimT K E t st) (hb : SimT K E u su) : SimT K E (tAnd t u) (sAnd st su) := fun σ F H δ m SX S Q r q c =>
  ha σ F H δ m SX _ _ r q fun b F1 H1 m1 s1 M1 h1 => by
    rw [Br_eq] at h1
    split
    · next e => rw [if_pos e] at h1; exact hb σ F1 H1 δ m1 SX S Q (r.go s1 M1) h1 (c.go s1)
    · next e => rw [if_neg e] at h1; exact c false F1 H1 m1 s1 M1 h1
theorem sim_or (ha : SimT K E t st) (hb : SimT K E u su) : SimT K E (tOr t u) (sOr st su) := fun σ F H δ m SX S Q r q c =>
  ha σ F H δ m SX _ _ r q fun b F1 H1 m1 s1 M1 h1 => by
    rw [Br_eq] at h1
    split
    · next e => rw [if_pos e] at h1; exact c true F1 H1 m1 s1 M1 h1
    · next e => rw [if_neg e] at h1; exact hb σ F1 H1 δ m1 SX S Q (r.go s1 M1) h1 (c.go s1)
theorem gw_pt (h : GW K E X e t st) : GT K E X e t st := ⟨h.pe.pt, h.sim⟩
theorem gw_and1 (h : GT K E X a t st) : GW K E X (.BoolOp .And [a] pos) t st := ⟨pw_and1 h.pe, h.sim⟩
theorem gw_or1 (h : GT K E X a t st) : GW K E X (.BoolOp .Or [a] pos) t st := ⟨pw_or1 h.pe, h.sim⟩
theorem gw_and (ha : GT K E X a t st) (hb : GW K E X (.BoolOp .And (b :: es) pos) u su) : GW K E X (.BoolOp .And (a :: b :: es) pos) (tAnd t u) (sAnd st su) := ⟨pw_and ha.pe hb.pe, sim_and ha.sim hb.sim⟩
theorem gw_or (ha : GT K E X a t st) (hb : GW K E X (.BoolOp .Or (b :: es) pos) u su) : GW K E X (.BoolOp .Or (a :: b :: es) pos) (tOr t u) (sOr st su) := ⟨pw_or ha.pe hb.pe, sim_or ha.sim hb.sim⟩
theorem gt_not (ha : GT K E X a t st) : GT K E X (.UnaryOp .Not a pos) (tNot t) (sNot st) := ⟨pt_not ha.pe, fun σ F H δ m SX S Q r q c => ha.sim σ F H δ m SX _ _ r q fun b F1 H1 m1 s1 M1 h1 => c _ F1 H1 m1 s1 M1 h1⟩
theorem ge_one {op} (h : GE K E X a te se) : GE K E X (.BoolOp op [a] pos) te se := ⟨pe_one h.pe, h.sim⟩
theorem ge_and (ha : GE K E X a ta sa) (hb : GE K E X (.BoolOp .And (b :: es) pos) tb sb) : GE K E X (.BoolOp .And (a :: b :: es) pos) (tAndV ta tb) (sAndV sa sb) := ⟨pe_and ha.pe hb.pe, fun σ F H δ m SX S Q r q c =>
  ha.sim σ F H δ m SX _ _ r q fun v F1 H1 sv m1 s1 M1 v1 h1 => by
    cases v1 with
    | bl k =>
      have h1 : Br k _ _ := h1
      rw [Br_eq] at h1
      refine ⟨k, rfl, ?_⟩
      split
      · next e => rw [if_pos e] at h1; exact hb.sim σ F1 H1 δ m1 SX S Q (r.go s1 M1) h1 (c.go s1)
      · next e => rw [if_neg e] at h1; exact c _ F1 H1 _ m1 s1 M1 (.bl false) h1
    | _ => exact (show False from h1).elim⟩
theorem ge_or (ha : GE K E X a ta sa) (hb : GE K E X (.BoolOp .Or (b :: es) pos) tb sb) : GE K E X (.BoolOp .Or (a :: b :: es) pos) (tOrV ta tb) (sOrV sa sb) := ⟨pe_or ha.pe hb.pe, fun σ F H δ m SX S Q r q c =>
  ha.sim σ F H δ m SX _ _ r q fun v F1 H1 sv m1 s1 M1 v1 h1 => by
    cases v1 with
    | bl k =>
      have h1 : Br k _ _ := h1
      rw [Br_eq] at h1
      refine ⟨k, rfl, ?_⟩
      split
      · next e => rw [if_pos e] at h1; exact c _ F1 H1 _ m1 s1 M1 (.bl true) h1
      · next e => rw [if_neg e] at h1; exact hb.sim σ F1 H1 δ m1 SX S Q (r.go s1 M1) h1 (c.go s1)
    | _ => exact (show False from h1).elim⟩
theorem ge_not (ha : GE K E X a ta sa) : GE K E X (.UnaryOp .Not a pos) (tNotV ta) (sNotV sa) := ⟨pe_not ha.pe, fun σ F H δ m SX S Q r q c =>
  ha.sim σ F H δ m SX _ _ r q fun v F1 H1 sv m1 s1 M1 v1 h1 => by
    cases v1 with
    | bl k => exact ⟨k, rfl, c _ F1 H1 _ m1 s1 M1 (.bl _) h1⟩
    | _ => exact (show False from h1).elim⟩
theorem ge_ifE (hc : GT K E X c t st) (ha : GE K E X a ta sa) (hb : GE K E X b tb sb) : GE K E X (.IfExp c a b pos) (tIf t ta tb) (sIfE st sa sb) := ⟨pe_ifExp hc.pe ha.pe hb.pe, fun σ F H δ m SX S Q r q c =>
  hc.sim σ F H δ m SX _ _ r q fun b F1 H1 m1 s1 M1 h1 => by
    rw [Br_eq] at h1
    split
    · next e => rw [if_pos e] at h1; exact ha.sim σ F1 H1 δ m1 SX S Q (r.go s1 M1) h1 (c.go s1)
    · next e => rw [if_neg e] at h1; exact hb.sim σ F1 H1 δ m1 SX S Q (r.go s1 M1) h1 (c.go s1)⟩
theorem ga_nil : GA K E X [] tNil sNil := ⟨pa_nil, fun σ F H δ m SX S Q r q c => c [] F H [] m (.refl F) r.mr .nil q⟩
theorem ga_cons (ha : GE K E X e te se) (hr : GA K E X es tl sl) (hs : starEach (e :: es) X.env = (false, eval e X.env) :: starEach es X.env := by rfl) : GA K E X (e :: es) (tCons te tl) (sCons se sl) := ⟨pa_cons ha.pe hr.pe hs, fun σ F H δ m SX S Q r q c =>
  ha.sim σ F H δ m SX _ _ r q fun v F1 H1 sv m1 s1 M1 v1 h1 => hr.sim σ F1 H1 δ m1 SX _ _ (r.go s1 M1) h1 fun vs F2 H2 svs m2 s2 M2 v2 h2 => c _ F2 H2 _ m2 (s1.trans s2) M2 (.cons (vr_sub s2 v1) v2) h2⟩
theorem ge_tup {x1} (h : GA K E X es tl sl) : GE K E X (.Tuple es x1 pos) (tTup tl) (sTup sl) := ⟨pe_tup h.pe, fun σ F H δ m SX S Q r q c =>
  h.sim σ F H δ m SX _ _ r q fun vs F1 H1 svs m1 s1 M1 v1 h1 => ⟨by rw [vrs_length v1]; exact h1.1, fun p hp => c (.ref p) (upd F1 p _) _ _ m1 (s1.trans (Sub.new (M1.sub.gone hp))) (M1.frz hp) (.tup (.inl (.inl upd_same)) (vrs_sub (Sub.new (M1.sub.gone hp)) v1)) h1.2⟩⟩
theorem ge_lst (h : GA K E X es tl sl) : GE K E X (.List es pos) (tLst tl) (sLst sl) := ⟨pe_lst h.pe, fun σ F H δ m SX S Q r q c =>
  h.sim σ F H δ m SX _ _ r q fun vs F1 H1 svs m1 s1 M1 v1 h1 => ⟨by rw [vrs_length v1]; exact h1.1, fun p hp => c (.ref p) F1 _ _ _ s1 (M1.newL hp v1) (.ref p) (h1.2 p (M1.gone hp))⟩⟩
theorem ge_un {op : UnaryOp} {r : V → Hp → VK → Prop} {s : SR1} (ho : UnR X (unaryOp op) r) (hr : SimU K r s) (ha : GE K E X a ta sa) : GE K E X (.UnaryOp op a pos) (tUn r ta) (sUn s sa) := ⟨pe_un ho ha.pe, fun σ F H δ m SX S Q q h c =>
  ha.sim σ F H δ m SX _ _ q h fun x F1 H1 sx m1 s1 M1 v1 h1 => hr F1 H1 m1 x sx S Q M1 v1 h1 (c.go s1)⟩
end
theorem OpR.or {X : Cx} {f : Value → Value → Sem Value} {r r' : R2} (h : OpR X f r) (h' : OpR X f r') : OpR X f (fun x y H Q => r x y H Q ∨ r' x y H Q) := by
  intro pins s σ H x y v u Q I rx ry q
  rcases q with q | q
  · exact h pins s σ H x y v u Q I rx ry q
  · exact h' pins s σ H x y v u Q I rx ry q
theorem CallR.or {X : Cx} {f : Value} {r r' : List V → Hp → VK → Prop} (h : CallR X f r) (h' : CallR X f r') : CallR X f (fun xs H Q => r xs H Q ∨ r' xs H Q) := by
  intro pins s σ H xs us Q I r q
  rcases q with q | q
  · exact h pins s σ H xs us Q I r q
  · exact h' pins s σ H xs us Q I r q
end Sy

set_option Elab.async false
set_option linter.all false
set_option maxRecDepth 100000
set_option maxHeartbeats 4000000
/-! Operators, subscripts, slices, built-ins, methods of lists over symbolic values. -/
namespace Sy
open PySem PySem.Spec PyProof.Rows L2
section
variable {K : PySem.W.Frag} {F H : Hp} {m : Mem} {x y : V} {a b : SV}
/-- a list's, a tuple's items -/
def Its (m : Mem) (x : SV) (ys : List SV) : Prop := match x with
  | .tup xs => ys = xs
  | .lst xs => ys = xs
  | .ref a => m a = some (.lst ys)
  | _ => False
theorem its_seq {ys : List SV} (M : MR K F H m) (r : VR K F x a) (h : Its m a ys) : ∃ p vs, x = .ref p ∧ (SqL K H p vs ∨ SqT K H p vs) ∧ VRs K F vs ys := by
  cases r with
  | tup h1 h2 => cases (show ys = _ from h); exact ⟨_, _, rfl, .inr (sqt_sub M.sub h1), h2⟩
  | lst h1 h2 => cases (show ys = _ from h); exact ⟨_, _, rfl, .inl (sql_sub M.sub h1), h2⟩
  | ref p =>
    obtain ⟨vs, h1, h2⟩ := M.lst_ (show m p = some (.lst ys) from h)
    exact ⟨p, vs, rfl, .inl (.inl (.inl h1)), h2⟩
  | _ => exact (show False from h).elim
def ItsL (m : Mem) (x : SV) (ys : List SV) : Prop := match x with
  | .lst xs => ys = xs
  | .ref a => m a = some (.lst ys)
  | _ => False
theorem its_lst {ys : List SV} (M : MR K F H m) (r : VR K F x a) (h : ItsL m a ys) : ∃ p vs, x = .ref p ∧ SqL K H p vs ∧ VRs K F vs ys := by
  cases r with
  | lst h1 h2 => cases (show ys = _ from h); exact ⟨_, _, rfl, sql_sub M.sub h1, h2⟩
  | ref p =>
    obtain ⟨vs, h1, h2⟩ := M.lst_ (show m p = some (.lst ys) from h)
    exact ⟨p, vs, rfl, .inl (.inl h1), h2⟩
  | _ => exact (show False from h).elim
/-! ### data that == compares at any depth -/
mutual
inductive Rd (m : Mem) : SV → PyData → Prop
  | non : Rd m .non .none
  | bl (b : Bool) : Rd m (.bl b) (.bool b)
  | int (i : Int) : Rd m (.int i) (.int i)
  | str (x : Str) : Rd m (.str x) (.str x)
  | tup {xs : List SV} {ds : List PyData} : Rds m xs ds → Rd m (.tup xs) (.tuple ds)
  | lst {xs : List SV} {ds : List PyData} : Rds m xs ds → Rd m (.lst xs) (.list ds)
  | ref {a : Addr} {xs : List SV} {ds : List PyData} : m a = some (.lst xs) → Rds m xs ds → Rd m (.ref a) (.list ds)
inductive Rds (m : Mem) : List SV → List PyData → Prop
  | nil : Rds m [] []
  | cons {x : SV} {d : PyData} {xs : List SV} {ds : List PyData} : Rd m x d → Rds m xs ds → Rds m (x :: xs) (d :: ds)
end
mutual
theorem rd_dp (M : MR K F H m) : ∀ {a : SV} {d : PyData}, Rd m a d → ∀ {x : V}, VR K F x a → Dp K H x d
  | _, _, .non, _, r => by cases r; exact .non
  | _, _, .bl b, _, r => by cases r; exact .bl b
  | _, _, .int b, _, r => by cases r; exact .int b
  | _, _, .str b, _, r => by cases r; exact .str b
  | _, _, .tup h, _, r => by
    cases r with
    | tup h1 h2 => exact .tup (sqt_sub M.sub h1) (rds_dp M h h2)
  | _, _, .lst h, _, r => by
    cases r with
    | lst h1 h2 => exact .lst (sql_sub M.sub h1) (rds_dp M h h2)
  | _, _, .ref e h, _, r => by
    cases r with
    | ref a =>
      obtain ⟨vs, h1, h2⟩ := M.lst_ e
      exact .lst (.inl (.inl h1)) (rds_dp M h h2)
theorem rds_dp (M : MR K F H m) : ∀ {as : List SV} {ds : List PyData}, Rds m as ds → ∀ {xs : List V}, VRs K F xs as → DpAll K H xs ds
  | _, _, .nil, _, r => by cases r; exact .nil
  | _, _, .cons h t, _, r => by
    cases r with
    | cons r1 r2 => exact .cons (rd_dp M h r1) (rds_dp M t r2)
end
def eqF : SV → SV → Option Bool
  | .int i, .int j => some (decide (i = j))
  | .str i, .str j => some (decide (i = j))
  | .bl i, .bl j => some (decide (i = j))
  | .non, .non => some true
  | .non, .int _ => some false
  | .non, .str _ => some false
  | .non, .bl _ => some false
  | .int _, .non => some false
  | .str _, .non => some false
  | .bl _, .non => some false
  | .int _, .str _ => some false
  | .str _, .int _ => some false
  | .bl _, .str _ => some false
  | .str _, .bl _ => some false
  | _, _ => none
theorem dec_inj {α β : Type} [DecidableEq α] [DecidableEq β] {f : α → β} (h : ∀ a b, f a = f b → a = b) (a b : α) : decide (f a = f b) = decide (a = b) := by
  by_cases e : a = b
  · rw [decide_eq_true e, decide_eq_true (congrArg f e)]
  · rw [decide_eq_false e, decide_eq_false fun z => e (h _ _ z)]
theorem eqF_ok {k : Bool} (r : VR K F x a) (q : VR K F y b) (h : eqF a b = some k) : scal x y = true ∧ decide (x = y) = k := by
  cases r <;> cases q <;> first
    | (cases (show (none : Option Bool) = some k from h); done)
    | (obtain rfl := Option.some.inj h; refine ⟨rfl, ?_⟩; first
        | exact dec_inj (fun _ _ z => V.int.inj z) _ _
        | exact dec_inj (fun _ _ z => V.str.inj z) _ _
        | exact dec_inj (fun _ _ z => V.bl.inj z) _ _
        | rfl
        | exact decide_eq_false fun z => by cases z)
end
/-! ### operators -/
def rAddG (K : PySem.W.Frag) : R2 := fun x y H Q => (rI0 fun i j => .int (i + j)) x y H Q ∨ (∃ i j, x = .str i ∧ y = .str j ∧ i.length + j.length ≤ sizeLine ∧ Q (.str (i ++ j)) H) ∨ rCatA K x y H Q ∨ rCat x y H Q
theorem op_addG {X : Cx} (K : PySem.W.Frag) (hK : X.K = K := by rfl) : OpR X (binaryOp .Add) (rAddG K) := by
  subst hK
  exact .or op_add (.or op_add_str (.or op_catA op_cat))
def sAdd : SR2 := fun x y m S => match x, y with
  | .int i, .int j => S (.int (i + j)) m
  | .str i, .str j => i.length + j.length ≤ sizeLine ∧ S (.str (i ++ j)) m
  | .tup xs, .tup ys => xs.length + ys.length ≤ sizeLine ∧ S (.tup (xs ++ ys)) m
  | .ref a, .ref b => ∃ xs ys, m a = some (.lst xs) ∧ m b = some (.lst ys) ∧ xs.length + ys.length ≤ sizeLine ∧ ∀ p, m p = none → S (.ref p) (up m p (.lst (xs ++ ys)))
  | _, _ => False
theorem vrs_nil {K : PySem.W.Frag} {F : Hp} {xs : List SV} (h : VRs K F [] xs) : xs = [] := by cases h; rfl
theorem sim_add {K : PySem.W.Frag} : SimR K (rAddG K) sAdd := fun F H m x y a b S Q M ra rb h c => by
  cases ra <;> cases rb <;> first
    | exact (show False from h).elim
    | exact .inl ⟨_, _, rfl, rfl, c _ F H _ m (.refl F) M (.int _) h⟩
    | exact .inr (.inl ⟨_, _, rfl, rfl, h.1, c _ F H _ m (.refl F) M (.str _) h.2⟩)
    | skip
  · obtain ⟨xs, ys, h1, h2, hl, q⟩ := (show ∃ xs ys, _ from h)
    obtain ⟨vs, e1, r1⟩ := M.lst_ h1
    obtain ⟨ws, e2, r2⟩ := M.lst_ h2
    exact .inr (.inr (.inr ⟨_, _, _, _, rfl, rfl, e1, e2, by rw [vrs_length r1, vrs_length r2]; exact hl, fun p hp => c (.ref p) F _ _ _ (.refl F) (M.newL hp (vrs_append r1 r2)) (.ref p) (q p (M.gone hp))⟩))
  · rename_i h1 r1 _ _ _ h2 r2
    obtain ⟨hl, h⟩ := (show _ ∧ _ from h)
    refine .inr (.inr (.inl ⟨_, _, _, _, rfl, rfl, sqt_sub M.sub h1, sqt_sub M.sub h2, by rw [vrs_length r1, vrs_length r2]; exact hl, fun e => ?_, fun e1 e2 => ?_, fun e1 e2 p hp => ?_⟩))
    · subst e
      obtain rfl := vrs_nil r1
      exact c _ F H _ m (.refl F) M (.tup h2 r2) h
    · subst e2
      obtain rfl := vrs_nil r2
      rw [List.append_nil] at h
      exact c _ F H _ m (.refl F) M (.tup h1 r1) h
    · exact c (.ref p) (upd F p _) _ _ m (Sub.new (M.sub.gone hp)) (M.frz hp) (.tup (.inl (.inl upd_same)) (vrs_sub (Sub.new (M.sub.gone hp)) (vrs_append r1 r2))) h
def sI2 (C : Int → Int → Prop) (g : Int → Int → SV) : SR2 := fun x y m S => match x, y with
  | .int i, .int j => C i j ∧ S (g i j) m
  | _, _ => False
def sI0 (g : Int → Int → SV) : SR2 := fun x y m S => match x, y with
  | .int i, .int j => S (g i j) m
  | _, _ => False
theorem sim_I0 {K : PySem.W.Frag} {g : Int → Int → V} {g' : Int → Int → SV} (hg : ∀ F i j, VR K F (g i j) (g' i j)) : SimR K (rI0 g) (sI0 g') := fun F H m x y a b S Q M ra rb h c => by
  cases ra <;> cases rb <;> first
    | exact (show False from h).elim
    | exact ⟨_, _, rfl, rfl, c _ F H _ m (.refl F) M (hg F _ _) h⟩
theorem sim_I {K : PySem.W.Frag} {C : Int → Int → Prop} {g : Int → Int → V} {g' : Int → Int → SV} (hg : ∀ F i j, VR K F (g i j) (g' i j)) : SimR K (rI C g) (sI2 C g') := fun F H m x y a b S Q M ra rb h c => by
  cases ra <;> cases rb <;> first
    | exact (show False from h).elim
    | exact ⟨_, _, rfl, rfl, h.1, c _ F H _ m (.refl F) M (hg F _ _) h.2⟩
abbrev sSub : SR2 := sI0 fun i j => .int (i - j)
theorem sim_sub {K : PySem.W.Frag} : SimR K (rI0 fun i j => .int (i - j)) sSub := sim_I0 fun _ _ _ => .int _
def CMulG (i j : Int) : Prop := CMul i j ∨ CMulW i j
def CDivG (i j : Int) : Prop := CDiv i j ∨ CDivW i j
theorem op_mulG {X : Cx} : OpR X (binaryOp .Mult) (rI CMulG fun i j => .int (i * j)) := by
  intro pins s σ H x y v u Q I rx ry ⟨i, j, e1, e2, hc, q⟩
  rcases hc with hc | hc
  · exact op_mul pins s σ H x y v u Q I rx ry ⟨i, j, e1, e2, hc, q⟩
  · exact op_mulW pins s σ H x y v u Q I rx ry ⟨i, j, e1, e2, hc, q⟩
theorem op_fdivG {X : Cx} : OpR X (binaryOp .FloorDiv) (rI CDivG fun i j => .int (i / j)) := by
  intro pins s σ H x y v u Q I rx ry ⟨i, j, e1, e2, hc, q⟩
  rcases hc with hc | hc
  · exact op_fdiv pins s σ H x y v u Q I rx ry ⟨i, j, e1, e2, hc, q⟩
  · exact op_fdivW pins s σ H x y v u Q I rx ry ⟨i, j, e1, e2, hc, q⟩
abbrev sMul : SR2 := sI2 CMulG fun i j => .int (i * j)
abbrev sDiv : SR2 := sI2 CDivG fun i j => .int (i / j)
abbrev sMod : SR2 := sI2 (fun _ j => 0 < j) fun i j => .int (i % j)
abbrev sPow : SR2 := sI2 CPow fun i j => .int (i ^ j.toNat)
abbrev sLt : SR2 := sI0 fun i j => .bl (decide (i < j))
abbrev sLe : SR2 := sI0 fun i j => .bl (decide (i ≤ j))
abbrev sGt : SR2 := sI0 fun i j => .bl (decide (j < i))
abbrev sGe : SR2 := sI0 fun i j => .bl (decide (j ≤ i))
section
variable {K : PySem.W.Frag}
theorem sim_mul : SimR K (rI CMulG fun i j => .int (i * j)) sMul := sim_I fun _ _ _ => .int _
theorem sim_fdiv : SimR K (rI CDivG fun i j => .int (i / j)) sDiv := sim_I fun _ _ _ => .int _
theorem sim_mod : SimR K (rI (fun _ j => 0 < j) fun i j => .int (i % j)) sMod := sim_I fun _ _ _ => .int _
theorem sim_pow : SimR K (rI CPow fun i j => .int (i ^ j.toNat)) sPow := sim_I fun _ _ _ => .int _
theorem sim_lt : SimR K (rI0 fun i j => .bl (decide (i < j))) sLt := sim_I0 fun _ _ _ => .bl _
theorem sim_le : SimR K (rI0 fun i j => .bl (decide (i ≤ j))) sLe := sim_I0 fun _ _ _ => .bl _
theorem sim_gt : SimR K (rI0 fun i j => .bl (decide (j < i))) sGt := sim_I0 fun _ _ _ => .bl _
theorem sim_ge : SimR K (rI0 fun i j => .bl (decide (j ≤ i))) sGe := sim_I0 fun _ _ _ => .bl _
end
def sNeg : SR1 := fun x m S => match x with
  | .int i => S (.int (-i)) m
  | _ => False
theorem sim_neg {K : PySem.W.Frag} : SimU K (rU fun i => .int (-i)) sNeg := fun F H m x a S Q M r h c => by
  cases r <;> first
    | exact (show False from h).elim
    | exact ⟨_, rfl, c _ F H _ m (.refl F) M (.int _) h⟩
/-- == -/
def rEqG (K : PySem.W.Frag) : R2 := fun x y H Q => rEq x y H Q ∨ rEqD K x y H Q
def rNeG (K : PySem.W.Frag) : R2 := fun x y H Q => rNe x y H Q ∨ rNeD K x y H Q
theorem op_eqG {X : Cx} (K : PySem.W.Frag) (hu : X.A.units + 64 < cLine) (hK : X.K = K := by rfl) : OpR X (compareOp .Eq) (rEqG K) := by
  subst hK
  exact .or op_eq (op_eqD hu)
theorem op_neG {X : Cx} (K : PySem.W.Frag) (hu : X.A.units + 64 < cLine) (hK : X.K = K := by rfl) : OpR X (compareOp .NotEq) (rNeG K) := by
  subst hK
  exact .or op_ne (op_neD hu)
def sEq : SR2 := fun x y m S => match eqF x y with
  | some k => S (.bl k) m
  | none => ∃ d e, Rd m x d ∧ Rd m y e ∧ SeqAt.shaped d = true ∧ SeqAt.shaped e = true ∧ S (.bl (PyData.eqv d e)) m
def sNe : SR2 := fun x y m S => match eqF x y with
  | some k => S (.bl (!k)) m
  | none => ∃ d e, Rd m x d ∧ Rd m y e ∧ SeqAt.shaped d = true ∧ SeqAt.shaped e = true ∧ S (.bl (!PyData.eqv d e)) m
theorem sim_eq {K : PySem.W.Frag} : SimR K (rEqG K) sEq := fun F H m x y a b S Q M ra rb h c => by
  unfold sEq at h
  split at h
  · next k e =>
    obtain ⟨h1, h2⟩ := eqF_ok ra rb e
    exact .inl ⟨h1, by rw [h2]; exact c _ F H _ m (.refl F) M (.bl _) h⟩
  · obtain ⟨d, e, h1, h2, h3, h4, q⟩ := h
    exact .inr ⟨d, e, rd_dp M h1 ra, rd_dp M h2 rb, h3, h4, c _ F H _ m (.refl F) M (.bl _) q⟩
theorem sim_ne {K : PySem.W.Frag} : SimR K (rNeG K) sNe := fun F H m x y a b S Q M ra rb h c => by
  unfold sNe at h
  split at h
  · next k e =>
    obtain ⟨h1, h2⟩ := eqF_ok ra rb e
    exact .inl ⟨h1, by rw [h2]; exact c _ F H _ m (.refl F) M (.bl _) h⟩
  · obtain ⟨d, e, h1, h2, h3, h4, q⟩ := h
    exact .inr ⟨d, e, rd_dp M h1 ra, rd_dp M h2 rb, h3, h4, c _ F H _ m (.refl F) M (.bl _) q⟩
/-- is None -/
def isNon : SV → Bool
  | .non => true
  | _ => false
theorem isNon_ok {K : PySem.W.Frag} {F : Hp} {x : V} {a : SV} (r : VR K F x a) : decide (x = V.non) = isNon a := by cases r <;> rfl
def sIsN : SR2 := fun x y m S => match y with
  | .non => S (.bl (isNon x)) m
  | _ => False
def sNotN : SR2 := fun x y m S => match y with
  | .non => S (.bl (!isNon x)) m
  | _ => False
abbrev rIsN : R2 := fun x y H Q => y = .non ∧ Q (.bl (decide (x = .non))) H
abbrev rNotN : R2 := fun x y H Q => y = .non ∧ Q (.bl (!decide (x = .non))) H
theorem sim_isN {K : PySem.W.Frag} : SimR K rIsN sIsN := fun F H m x y a b S Q M ra rb h c => by
  cases rb <;> first
    | exact (show False from h).elim
    | exact ⟨rfl, by rw [isNon_ok ra]; exact c _ F H _ m (.refl F) M (.bl _) h⟩
theorem sim_notN {K : PySem.W.Frag} : SimR K rNotN sNotN := fun F H m x y a b S Q M ra rb h c => by
  cases rb <;> first
    | exact (show False from h).elim
    | exact ⟨rfl, by rw [isNon_ok ra]; exact c _ F H _ m (.refl F) M (.bl _) h⟩
/-- in, not in: flat items of a list or a tuple -/
def flatS : SV → Bool
  | .non => true
  | .bl _ => true
  | .int _ => true
  | .str _ => true
  | _ => false
def eqS : SV → SV → Bool
  | .non, .non => true
  | .bl a, .bl b => a == b
  | .bl a, .int b => (if a then 1 else 0) == b
  | .int a, .bl b => a == (if b then 1 else 0)
  | .int a, .int b => a == b
  | .str a, .str b => a == b
  | _, _ => false
section
variable {K : PySem.W.Frag} {F : Hp}
theorem flat_ok {x : V} {a : SV} (r : VR K F x a) (h : flatS a = true) : flatV x = true := by
  cases r <;> first | rfl | cases h
theorem eqS_ok {x y : V} {a b : SV} (r : VR K F x a) (q : VR K F y b) (h : flatS a = true) (h2 : flatS b = true) : eqV x y = eqS a b := by
  cases r <;> cases q <;> first | rfl | cases h | cases h2
theorem flats_ok : ∀ {xs : List V} {as : List SV}, VRs K F xs as → as.all flatS = true → xs.all flatV = true
  | _, _, .nil, _ => rfl
  | _, _, .cons r t, h => by
    rw [List.all_cons, Bool.and_eq_true] at h ⊢
    exact ⟨flat_ok r h.1, flats_ok t h.2⟩
theorem any_ok {x : V} {a : SV} (r : VR K F x a) (h : flatS a = true) : ∀ {xs : List V} {as : List SV}, VRs K F xs as → as.all flatS = true → inV x xs = as.any (fun y => eqS y a)
  | _, _, .nil, _ => rfl
  | _, _, .cons (v := v) (vs := vs) q t, h2 => by
    rw [List.all_cons, Bool.and_eq_true] at h2
    have e : inV x (v :: vs) = (eqV v x || inV x vs) := rfl
    rw [e, List.any_cons, any_ok r h t h2.2, eqS_ok q r h2.1 h]
end
def inS (x : SV) (xs : List SV) : Bool := xs.any fun y => eqS y x
def sIn (neg : Bool) : SR2 := fun x y m S => ∃ xs, Its m y xs ∧ flatS x = true ∧ xs.all flatS = true ∧ S (.bl (if neg then !inS x xs else inS x xs)) m
theorem sim_in {K : PySem.W.Frag} (neg : Bool) : SimR K (rIn K neg) (sIn neg) := fun F H m x y a b S Q M ra rb h c => by
  obtain ⟨xs, h1, h2, h3, q⟩ := h
  obtain ⟨p, vs, rfl, hs, r⟩ := its_seq M rb h1
  refine ⟨p, vs, rfl, hs, flat_ok ra h2, flats_ok r h3, ?_⟩
  rw [any_ok ra h2 r h3]
  exact c _ F H _ m (.refl F) M (.bl _) q
theorem op_inG {X : Cx} (K : PySem.W.Frag) (hK : X.K = K := by rfl) : OpR X (compareOp .In) (rIn K false) := by subst hK; exact op_in_seq
theorem op_notInG {X : Cx} (K : PySem.W.Frag) (hK : X.K = K := by rfl) : OpR X (compareOp .NotIn) (rIn K true) := by subst hK; exact op_notIn_seq
/-! ### subscripts -/
def rIxG (K : PySem.W.Frag) : R2 := fun x y H Q => rIxL K x y H Q ∨ rIxT K x y H Q ∨ rIxS x y H Q
theorem ix_G {X : Cx} (K : PySem.W.Frag) (hK : X.K = K := by rfl) : IxR X (rIxG K) := by
  subst hK
  exact .or ix_list (.or ix_tup ix_str)
def sIx : SR2 := fun x y m S => match x, y with
  | .tup xs, .int i => ∃ v, atI xs i = some v ∧ S v m
  | .lst xs, .int i => ∃ v, atI xs i = some v ∧ S v m
  | .ref a, .int i => ∃ xs v, m a = some (.lst xs) ∧ atI xs i = some v ∧ S v m
  | .str z, .int i => ∃ c, z.length ≤ sizeLine ∧ atI z.cps.toList i = some c ∧ S (.str ⟨#[c]⟩) m
  | _, _ => False
theorem atI_vrs {K : PySem.W.Frag} {F : Hp} {vs : List V} {xs : List SV} {i : Int} {x : SV} (r : VRs K F vs xs) (h : atI xs i = some x) : ∃ v, atI vs i = some v ∧ VR K F v x := by
  unfold atI at h ⊢
  rw [← vrs_length r] at h
  obtain ⟨j, h1, h2⟩ := Option.bind_eq_some_iff.mp h
  obtain ⟨v, hv, dv⟩ := vrs_get r h2
  exact ⟨v, by rw [h1]; exact hv, dv⟩
theorem sim_ix {K : PySem.W.Frag} : SimR K (rIxG K) sIx := fun F H m x y a b S Q M ra rb h c => by
  cases ra <;> cases rb <;> first
    | exact (show False from h).elim
    | skip
  · obtain ⟨k, h1, h2, q⟩ := (show ∃ c, _ from h)
    exact .inr (.inr ⟨_, _, k, rfl, rfl, h1, h2, c _ F H _ m (.refl F) M (.str _) q⟩)
  · obtain ⟨xs, v, h1, h2, q⟩ := (show ∃ xs v, _ from h)
    obtain ⟨vs, e1, r1⟩ := M.lst_ h1
    obtain ⟨w, hw, rw_⟩ := atI_vrs r1 h2
    exact .inl ⟨_, _, _, w, rfl, rfl, .inl (.inl e1), hw, c _ F H _ m (.refl F) M rw_ q⟩
  · obtain ⟨v, h2, q⟩ := (show ∃ v, _ from h)
    rename_i h1 r1 _
    obtain ⟨w, hw, rw_⟩ := atI_vrs r1 h2
    exact .inr (.inl ⟨_, _, _, w, rfl, rfl, sqt_sub M.sub h1, hw, c _ F H _ m (.refl F) M rw_ q⟩)
  · obtain ⟨v, h2, q⟩ := (show ∃ v, _ from h)
    rename_i h1 r1 _
    obtain ⟨w, hw, rw_⟩ := atI_vrs r1 h2
    exact .inl ⟨_, _, _, w, rfl, rfl, sql_sub M.sub h1, hw, c _ F H _ m (.refl F) M rw_ q⟩
section
variable {K : PySem.W.Frag} {E : XK} {X : Cx} {a b c e : Expr} {ta tb tc te : TE} {sa sb sc se : SE} {pos p2 : Pos}
theorem ge_ix {r : R2} {s : SR2} (hr : IxR X r) (hs : SimR K r s) (ha : GE K E X a ta sa) (hb : GE K E X b tb sb) (hp : PlainIx b) : GE K E X (.Subscript a b pos) (tOp r ta tb) (sOp s sa sb) := ⟨pe_ix hr ha.pe hb.pe hp, sim_op hs ha.sim hb.sim⟩
end
/-! slices -/
abbrev SO := SXK → DS → Mem → (Option Int → Mem → Prop) → Prop
def SimO (K : PySem.W.Frag) (E : XK) (te : TO) (se : SO) : Prop := ∀ σ F H δ m SX S (Q : Option Int → Hp → Prop), Rl K E σ F H δ m SX → se SX δ m S → (∀ i F' H' m', Sub F F' → MR K F' H' m' → S i m' → Q i H') → te σ H Q
structure GO (K : PySem.W.Frag) (E : XK) (X : Cx) (e : Option Expr) (te : TO) (se : SO) : Prop where
  pe : PO X e te
  sim : SimO K E te se
def sNoPart : SO := fun _ _ m S => S none m
def sPart (a : SE) : SO := fun SX δ m S => a SX δ m fun x m1 => match x with
  | .int i => S (some i) m1
  | _ => False
abbrev SSl := SV → Option Int → Option Int → Mem → (SV → Mem → Prop) → Prop
def sSlice (r : SSl) (a : SE) (l h : SO) : SE := fun SX δ m S => a SX δ m fun x m1 => l SX δ m1 fun i m2 => h SX δ m2 fun j m3 => r x i j m3 S
def cutS' {α : Type} (xs : List α) (lo hi : Option Int) : List α := (xs.drop (HT.sIx xs.length 0 lo)).take (HT.sIx xs.length xs.length hi - HT.sIx xs.length 0 lo)
def sSl : SSl := fun x lo hi m S => match x with
  | .tup xs => S (.tup (cutS' xs lo hi)) m
  | .lst xs => ∀ p, m p = none → S (.ref p) (up m p (.lst (cutS' xs lo hi)))
  | .ref a => ∃ xs, m a = some (.lst xs) ∧ ∀ p, m p = none → S (.ref p) (up m p (.lst (cutS' xs lo hi)))
  | .str z => z.length ≤ sizeLine ∧ S (.str (cutS z lo hi)) m
  | _ => False
def rSlG (K : PySem.W.Frag) : V → Option Int → Option Int → Hp → VK → Prop := fun x lo hi H Q => rSlL K x lo hi H Q ∨ rSlA K x lo hi H Q ∨ rSlS x lo hi H Q
theorem sl_G {X : Cx} (K : PySem.W.Frag) (hK : X.K = K := by rfl) : SlR X (rSlG K) := by
  subst hK
  exact .or sl_list (.or sl_tupA sl_str)
section
variable {K : PySem.W.Frag} {E : XK} {X : Cx} {a b c e : Expr} {ta tb tc te : TE} {sa sb sc se : SE} {pos p2 : Pos} {lo hi : Option Expr} {tl th : TO} {sl sh : SO}
theorem go_none : GO K E X none tNoPart sNoPart := ⟨po_none, fun σ F H δ m SX S Q r h c => c none F H m (.refl F) r.mr h⟩
theorem go_some (h : GE K E X e te se) : GO K E X (some e) (tPart te) (sPart se) := ⟨po_some h.pe, fun σ F H δ m SX S Q r q c =>
  h.sim σ F H δ m SX _ _ r q fun v F1 H1 sv m1 s1 M1 v1 h1 => by
    cases v1 with
    | int i => exact ⟨i, rfl, c _ F1 H1 m1 s1 M1 h1⟩
    | _ => exact (show False from h1).elim⟩
theorem vrs_cut {F : Hp} {vs : List V} {xs : List SV} (r : VRs K F vs xs) (lo hi : Option Int) : VRs K F (cutV vs lo hi) (cutS' xs lo hi) := by
  unfold cutV cutS'
  rw [vrs_length r]
  exact vrs_take _ (vrs_drop _ r)
theorem cut_all {α : Type} (xs : List α) (lo hi : Option Int) (h : HT.sIx xs.length 0 lo = 0 ∧ HT.sIx xs.length xs.length hi = xs.length) : cutS' xs lo hi = xs := by
  unfold cutS'
  rw [h.1, h.2]
  simp
theorem ge_slice (ha : GE K E X e te se) (hl : GO K E X lo tl sl) (hh : GO K E X hi th sh) (hK : X.K = K := by rfl) : GE K E X (.Subscript e (.Slice lo hi none p2) pos) (tSl (rSlG K) te tl th) (sSlice sSl se sl sh) := ⟨pe_slice (sl_G K hK) ha.pe hl.pe hh.pe, fun σ F H δ m SX S Q r q c =>
  ha.sim σ F H δ m SX _ _ r q fun v F1 H1 sv m1 s1 M1 v1 h1 => hl.sim σ F1 H1 δ m1 SX _ _ (r.go s1 M1) h1 fun i F2 H2 m2 s2 M2 h2 => hh.sim σ F2 H2 δ m2 SX _ _ (r.go (s1.trans s2) M2) h2 fun j F3 H3 m3 s3 M3 h3 => by
    have v3 := vr_sub (s2.trans s3) v1
    have s13 := (s1.trans s2).trans s3
    cases v3 with
    | str z => exact .inr (.inr ⟨z, rfl, h3.1, c _ F3 H3 _ m3 s13 M3 (.str _) h3.2⟩)
    | ref a =>
      obtain ⟨xs, e1, q1⟩ := (show ∃ xs, _ from h3)
      obtain ⟨vs, e2, r2⟩ := M3.lst_ e1
      exact .inl ⟨a, vs, rfl, .inl (.inl e2), fun p hp => c (.ref p) F3 _ _ _ s13 (M3.newL hp (vrs_cut r2 i j)) (.ref p) (q1 p (M3.gone hp))⟩
    | tup g1 r2 =>
      refine .inr (.inl ⟨_, _, rfl, sqt_sub M3.sub g1, fun e => ?_, fun e p hp => ?_⟩)
      · rw [vrs_length r2] at e
        have h3 : S (.tup (cutS' _ i j)) m3 := h3
        rw [cut_all _ i j e] at h3
        exact c _ F3 H3 _ m3 s13 M3 (.tup g1 r2) h3
      · exact c (.ref p) (upd F3 p _) _ _ m3 (s13.trans (Sub.new (M3.sub.gone hp))) (M3.frz hp) (.tup (.inl (.inl upd_same)) (vrs_sub (Sub.new (M3.sub.gone hp)) (vrs_cut r2 i j))) h3
    | lst g1 r2 =>
      exact .inl ⟨_, _, rfl, sql_sub M3.sub g1, fun p hp => c (.ref p) F3 _ _ _ s13 (M3.newL hp (vrs_cut r2 i j)) (.ref p) (h3 p (M3.gone hp))⟩
    | _ => exact (show False from h3).elim⟩
end
/-! ### calls of built-ins, methods -/
def sCB (r : SRC) (a : SA) : SE := fun SX δ m S => a SX δ m fun xs m1 => r xs m1 S
def sBM (ck : SV → Mem → Prop) (r : SRM) (o : SE) (a : SA) : SE := fun SX δ m S => o SX δ m fun x m1 => ck x m1 ∧ a SX δ m1 fun xs m2 => r x xs m2 S
def sBM0 (ck : SV → Mem → Prop) (r : SRM) (o : SE) : SE := fun SX δ m S => o SX δ m fun x m1 => ck x m1 ∧ r x [] m1 S
def SimK (K : PySem.W.Frag) (T : String) (ck : SV → Mem → Prop) : Prop := ∀ F H m x a, MR K F H m → VR K F x a → ck a m → tyV K T x H
section
variable {K : PySem.W.Frag} {E : XK} {X : Cx} {a b c e o : Expr} {es : List Expr} {ta tb tc te to : TE} {sa sb sc se so : SE} {pos p apos cpos : Pos} {tl : TA} {sl : SA}
theorem sim_cb {r : List V → Hp → VK → Prop} {s : SRC} (hr : SimC K r s) (ha : SimA K E tl sl) : SimE K E (tCB r tl) (sCB s sl) := fun σ F H δ m SX S Q q h c =>
  ha σ F H δ m SX _ _ q h fun xs F1 H1 sx m1 s1 M1 v1 h1 => hr F1 H1 m1 xs sx S Q M1 v1 h1 (c.go s1)
theorem ge_callB {x : Str} {id : String} {r : List V → Hp → VK → Prop} {s : SRC} (hc : CallR X (.builtin id) r) (hr : SimC K r s) (hg : Gl X x) (hm : X.mg x = none) (hv : bootBuiltins x = some (.builtin id)) (ha : GA K E X (e :: es) tl sl) (hn : x ≠ "__name__" := by decide) (hdb : (x == ("__debug__" : Str)) = false := by decide)
    (he : starEach (e :: es) X.env = (false, eval e X.env) :: starEach es X.env := by rfl) (hpl : (backTo pos (starEach es X.env)).any (·.1) = false := by rfl) : GE K E X (.Call (.Name x p) (e :: es) [] pos) (tCB r tl) (sCB s sl) := ⟨pe_callB hc hg hm hv ha.pe hn hdb he hpl, sim_cb hr ha.sim⟩
theorem ge_callTy {x : Str} {T : String} {r : List V → Hp → VK → Prop} {s : SRC} (hc : CallR X (.type T) r) (hr : SimC K r s) (hg : Gl X x) (hm : X.mg x = none) (hv : bootBuiltins x = some (.type T)) (ha : GA K E X (e :: es) tl sl) (hn : x ≠ "__name__" := by decide) (hdb : (x == ("__debug__" : Str)) = false := by decide)
    (he : starEach (e :: es) X.env = (false, eval e X.env) :: starEach es X.env := by rfl) (hpl : (backTo pos (starEach es X.env)).any (·.1) = false := by rfl) : GE K E X (.Call (.Name x p) (e :: es) [] pos) (tCB r tl) (sCB s sl) := ⟨pe_callTy hc hg hm hv ha.pe hn hdb he hpl, sim_cb hr ha.sim⟩
theorem ge_bm {name : Str} {T id : String} {r : V → List V → Hp → VK → Prop} {s : SRM} {ck : SV → Mem → Prop} (pa : PlainAttrs T) (slot : Slot T name id) (hty : typeOf (.builtin id) = pure (.type "method_descriptor")) (hm : MtR X id r) (hk : SimK K T ck) (hr : SimM K r s) (ho : GE K E X o to so) (ha : GA K E X (e :: es) tl sl)
    (hK : X.K = K := by rfl) (hbase : attributeBase o name X.env (eval o X.env) = eval o X.env := by rfl)
    (hfew : ((backTo cpos (starEach (e :: es) X.env)).all (fun x => !x.1) && (backToKw cpos (keywordEach [] X.env)).all (fun x => x.1.isSome)
      && decide ((e :: es).length + ([] : List Keyword).length + (if ([] : List Keyword).isEmpty then 0 else 1) < 30)) = true := by rfl)
    (hline : (apos.endLine == cpos.line) = true := by rfl) (hs : starEach (e :: es) X.env = (false, eval e X.env) :: starEach es X.env := by rfl) (hplain : (backTo cpos (starEach es X.env)).any (·.1) = false := by rfl) :
    GE K E X (.Call (.Attribute o name apos) (e :: es) [] cpos) (tBM K T r to tl) (sBM ck s so sl) := by
  subst hK
  exact ⟨pe_bm pa slot hty hm ho.pe ha.pe hbase hfew hline hs hplain, fun σ F H δ m SX S Q q h c =>
    ho.sim σ F H δ m SX _ _ q h fun x F1 H1 sx m1 s1 M1 v1 h1 => ⟨hk F1 H1 m1 x sx M1 v1 h1.1, ha.sim σ F1 H1 δ m1 SX _ _ (q.go s1 M1) h1.2 fun xs F2 H2 sxs m2 s2 M2 v2 h2 => hr F2 H2 m2 x xs sx sxs S Q M2 (vr_sub s2 v1) v2 h2 (c.go (s1.trans s2))⟩⟩
theorem ge_bm0 {name : Str} {T id : String} {r : V → List V → Hp → VK → Prop} {s : SRM} {ck : SV → Mem → Prop} (pa : PlainAttrs T) (slot : Slot T name id) (hty : typeOf (.builtin id) = pure (.type "method_descriptor")) (hm : MtR X id r) (hk : SimK K T ck) (hr : SimM K r s) (ho : GE K E X o to so)
    (hK : X.K = K := by rfl) (hbase : attributeBase o name X.env (eval o X.env) = eval o X.env := by rfl) (hline : (apos.endLine == cpos.line) = true := by rfl) : GE K E X (.Call (.Attribute o name apos) [] [] cpos) (tBM0 K T r to) (sBM0 ck s so) := by
  subst hK
  exact ⟨pe_bm0 pa slot hty hm ho.pe hbase hline, fun σ F H δ m SX S Q q h c =>
    ho.sim σ F H δ m SX _ _ q h fun x F1 H1 sx m1 s1 M1 v1 h1 => ⟨hk F1 H1 m1 x sx M1 v1 h1.1, hr F1 H1 m1 x [] sx [] S Q M1 v1 .nil h1.2 (c.go s1)⟩⟩
end
def ckL (x : SV) (m : Mem) : Prop := match x with
  | .ref a => ∃ xs, m a = some (.lst xs)
  | .lst _ => True
  | _ => False
theorem simk_L {K : PySem.W.Frag} : SimK K "list" ckL := fun F H m x a M r h => by
  cases r with
  | ref p =>
    obtain ⟨xs, e⟩ := (show ∃ xs, _ from h)
    obtain ⟨vs, e2, _⟩ := M.lst_ e
    exact .inl ⟨rfl, vs, .inl (.inl e2)⟩
  | lst h1 _ => exact .inl ⟨rfl, _, sql_sub M.sub h1⟩
  | _ => exact (show False from h).elim
def sAppend : SRM := fun x vs m S => match x, vs with
  | .ref a, [y] => ∃ xs, m a = some (.lst xs) ∧ xs.length < sizeLine ∧ S .non (up m a (.lst (xs ++ [y])))
  | _, _ => False
theorem vrs_one {K : PySem.W.Frag} {F : Hp} {vs : List V} {y : SV} (h : VRs K F vs [y]) : ∃ v, vs = [v] ∧ VR K F v y := by
  cases h with
  | cons r t => cases t; exact ⟨_, rfl, r⟩
theorem vrs_two {K : PySem.W.Frag} {F : Hp} {vs : List V} {y z : SV} (h : VRs K F vs [y, z]) : ∃ v w, vs = [v, w] ∧ VR K F v y ∧ VR K F w z := by
  cases h with
  | cons r t =>
    obtain ⟨w, rfl, q⟩ := vrs_one t
    exact ⟨_, _, rfl, r, q⟩
section
variable {K : PySem.W.Frag}
theorem sim_append : SimM K rAppend sAppend := fun F H m x xs a as S Q M r rs h c => by
  cases r with
  | ref p =>
    unfold sAppend at h
    split at h
    · have e := SV.ref.inj (by assumption : SV.ref p = SV.ref _)
      subst e
      obtain ⟨ys, e1, hl, q⟩ := h
      obtain ⟨v, rfl, rv⟩ := vrs_one rs
      obtain ⟨vs, e2, r2⟩ := M.lst_ e1
      exact ⟨p, vs, v, rfl, rfl, e2, by rw [vrs_length r2]; exact hl, c _ F _ _ _ (.refl F) (M.setL e1 (vrs_append r2 (.cons rv .nil))) .non q⟩
    · exact h.elim
  | _ => exact (show False from by unfold sAppend at h; exact h).elim
def sExtend : SRM := fun x vs m S => match x, vs with
  | .ref a, [.ref b] => ∃ xs ys, m a = some (.lst xs) ∧ m b = some (.lst ys) ∧ xs.length + ys.length ≤ sizeLine ∧ S .non (up m a (.lst (xs ++ ys)))
  | _, _ => False
theorem sim_extend : SimM K rExtend sExtend := fun F H m x xs a as S Q M r rs h c => by
  cases r with
  | ref p =>
    unfold sExtend at h
    split at h
    · have e := SV.ref.inj (by assumption : SV.ref p = SV.ref _)
      subst e
      obtain ⟨ys, zs, e1, e3, hl, q⟩ := h
      obtain ⟨v, rfl, rv⟩ := vrs_one rs
      obtain rfl := vr_ref rv
      obtain ⟨vs, e2, r2⟩ := M.lst_ e1
      obtain ⟨ws, e4, r4⟩ := M.lst_ e3
      exact ⟨p, _, vs, ws, rfl, rfl, e2, e4, by rw [vrs_length r2, vrs_length r4]; exact hl, c _ F _ _ _ (.refl F) (M.setL e1 (vrs_append r2 r4)) .non q⟩
    · exact h.elim
  | _ => exact (show False from by unfold sExtend at h; exact h).elim
def sClear : SRM := fun x vs m S => match x, vs with
  | .ref a, [] => ∃ xs, m a = some (.lst xs) ∧ S .non (up m a (.lst []))
  | _, _ => False
theorem sim_clear : SimM K rClear sClear := fun F H m x xs a as S Q M r rs h c => by
  cases r with
  | ref p =>
    unfold sClear at h
    split at h
    · have e := SV.ref.inj (by assumption : SV.ref p = SV.ref _)
      subst e
      obtain ⟨ys, e1, q⟩ := h
      cases rs
      obtain ⟨vs, e2, r2⟩ := M.lst_ e1
      exact ⟨p, vs, rfl, rfl, e2, c _ F _ _ _ (.refl F) (M.setL e1 .nil) .non q⟩
    · exact h.elim
  | _ => exact (show False from by unfold sClear at h; exact h).elim
/-- list.index of a flat thing: the first place -/
def sIndex : SRM := fun x vs m S => match vs with
  | [y] => ∃ xs j z, ItsL m x xs ∧ flatS y = true ∧ xs.all flatS = true ∧ xs[j]? = some z ∧ eqS z y = true ∧ (∀ (i : Nat) z', i < j → xs[i]? = some z' → eqS z' y = false) ∧ S (.int (j : Nat)) m
  | _ => False
theorem sim_index : SimM K (rIndex K) sIndex := fun F H m x xs a as S Q M r rs h c => by
  unfold sIndex at h
  split at h
  · obtain ⟨ys, j, z, h1, h2, h3, h4, h5, h6, q⟩ := h
    obtain ⟨v, rfl, rv⟩ := vrs_one rs
    obtain ⟨p, vs, rfl, hs, r2⟩ := its_lst M r h1
    obtain ⟨w, hw, rw_⟩ := vrs_get r2 h4
    have fl : ∀ (i : Nat) z', ys[i]? = some z' → flatS z' = true := fun i z' e => List.all_eq_true.mp h3 z' (List.mem_of_getElem? e)
    refine ⟨p, vs, v, j, w, rfl, rfl, hs, flat_ok rv h2, flats_ok r2 h3, hw, by rw [eqS_ok rw_ rv (fl _ _ h4) h2]; exact h5, fun i z' hi e => ?_, c _ F H _ m (.refl F) M (.int _) q⟩
    obtain ⟨d, hd, rd⟩ := vrs_getV r2 e
    rw [eqS_ok rd rv (fl _ _ hd) h2]
    exact h6 i d hi hd
  · exact h.elim
/-- len -/
def sLen : SRC := fun vs m S => match vs with
  | [x] => match x with
    | .str z => z.length ≤ sizeLine ∧ S (.int z.length) m
    | x => ∃ ys, Its m x ys ∧ S (.int ys.length) m
  | _ => False
def rLenG (K : PySem.W.Frag) : List V → Hp → VK → Prop := fun xs H Q => (∃ p ys, xs = [.ref p] ∧ (SqL K H p ys ∨ SqT K H p ys) ∧ Q (.int ys.length) H) ∨ ∃ z, xs = [.str z] ∧ z.length ≤ sizeLine ∧ Q (.int z.length) H
theorem cr_len {X : Cx} (K : PySem.W.Frag) (hK : X.K = K := by rfl) : CallR X (.builtin "len") (rLenG K) := by
  subst hK
  exact .or call_len_seq call_len_str
theorem sim_len : SimC K (rLenG K) sLen := fun F H m xs as S Q M rs h c => by
  unfold sLen at h
  split at h
  · next x =>
    obtain ⟨v, rfl, rv⟩ := vrs_one rs
    have key : (∃ ys, Its m x ys ∧ S (.int ys.length) m) → rLenG K [v] H Q := fun ⟨ys, h1, q⟩ => by
      obtain ⟨p, vs, rfl, hs, r2⟩ := its_seq M rv h1
      exact .inl ⟨p, vs, rfl, hs, by rw [vrs_length r2]; exact c _ F H _ m (.refl F) M (.int _) q⟩
    cases x with
    | str z => obtain rfl := vr_str rv; exact .inr ⟨z, rfl, h.1, c _ F H _ m (.refl F) M (.int _) h.2⟩
    | _ => exact key h
  · exact h.elim
/-- isinstance of built-in classes -/
def tyS (m : Mem) (x : SV) (t : String) : Prop := match x with
  | .non => t = "NoneType"
  | .bl _ => t = "bool"
  | .int _ => t = "int"
  | .str _ => t = "str"
  | .tup _ => t = "tuple"
  | .lst _ => t = "list"
  | .ref a => t = "list" ∧ ∃ xs, m a = some (.lst xs)
  | _ => False
theorem tyx_ok {F H : Hp} {m : Mem} {x : V} {a : SV} {t : String} (M : MR K F H m) (r : VR K F x a) (h : tyS m a t) : TyX K H x (.type t) := by
  cases r with
  | non => cases (show t = _ from h); exact .base .non
  | bl b => cases (show t = _ from h); exact .base (.bl b)
  | int b => cases (show t = _ from h); exact .base (.int b)
  | str b => cases (show t = _ from h); exact .base (.str b)
  | ty n => exact (show False from h).elim
  | tup h1 _ =>
    cases (show t = _ from h)
    rcases sqt_sub M.sub h1 with (h | ⟨o, h⟩) | ⟨o, its, n, h1, h2, _⟩
    · exact .base (.tup h)
    · exact .fTuple h
    · exact .kTuple h1 h2
  | lst h1 _ =>
    cases (show t = _ from h)
    rcases sql_sub M.sub h1 with (h | ⟨o, h⟩) | ⟨o, its, n, h1, h2, _⟩
    · exact .base (.lst h)
    · exact .base (.frz h)
    · exact .kList h1 h2
  | ref a =>
    obtain ⟨rfl, xs, e⟩ := (show t = "list" ∧ ∃ xs, _ from h)
    obtain ⟨vs, e2, _⟩ := M.lst_ e
    exact .base (.lst e2)
def isB (t T : String) : Bool := t == T || (t == "bool" && T == "int")
theorem kit_tab : ∀ t ∈ ["NoneType", "bool", "int", "str", "list", "tuple", "dict"], ∀ T ∈ ["bool", "int", "str", "list", "tuple"], kitB t T = some (isB t T) := by decide +kernel
theorem tyS_mem {m : Mem} {a : SV} {t : String} (h : tyS m a t) : t ∈ ["NoneType", "bool", "int", "str", "list", "tuple", "dict"] := by
  cases a <;> first
    | exact (show False from h).elim
    | (cases (show t = _ from h); simp)
    | (obtain ⟨rfl, _⟩ := (show t = "list" ∧ _ from h); simp)
def sIsi : SRC := fun vs m S => match vs with
  | [x, .ty T] => T ∈ ["bool", "int", "str", "list", "tuple"] ∧ ∃ t, tyS m x t ∧ S (.bl (isB t T)) m
  | [x, .tup [.ty T, .ty U]] => (T ∈ ["bool", "int", "str", "list", "tuple"] ∧ U ∈ ["bool", "int", "str", "list", "tuple"]) ∧ ∃ t, tyS m x t ∧ S (.bl (isB t T || isB t U)) m
  | _ => False
def rIsiG (K : PySem.W.Frag) : List V → Hp → VK → Prop := fun xs H Q => rIsi K xs H Q ∨ rIsiT K xs H Q
theorem cr_isi {X : Cx} (K : PySem.W.Frag) (hK : X.K = K := by rfl) : CallR X (.builtin "isinstance") (rIsi K) := by
  subst hK
  exact call_isi
def sIsi1 : SRC := fun vs m S => match vs with
  | [x, .ty T] => T ∈ ["bool", "int", "str", "list", "tuple"] ∧ ∃ t, tyS m x t ∧ S (.bl (isB t T)) m
  | _ => False
theorem sim_isi : SimC K (rIsi K) sIsi1 := fun F H m xs as S Q M rs h c => by
  unfold sIsi1 at h
  split at h
  · obtain ⟨hT, t, ht, q⟩ := h
    obtain ⟨v, w, rfl, rv, rw_⟩ := vrs_two rs
    obtain rfl := vr_ty rw_
    exact ⟨v, _, _, _, _, rfl, .ty _, tyx_ok M rv ht, kit_ty (kit_tab _ (tyS_mem ht) _ hT), c _ F H _ m (.refl F) M (.bl _) q⟩
  · exact h.elim
/-- all, any, sum -/
def sAll : SRC := fun vs m S => match vs with
  | [x] => ∃ bs : List Bool, ItsL m x (bs.map .bl) ∧ S (.bl (bs.all id)) m
  | _ => False
def sAny : SRC := fun vs m S => match vs with
  | [x] => ∃ bs : List Bool, ItsL m x (bs.map .bl) ∧ S (.bl (bs.any id)) m
  | _ => False
def sSum : SRC := fun vs m S => match vs with
  | [x] => ∃ ns : List Int, ItsL m x (ns.map .int) ∧ S (.int ns.sum) m
  | _ => False
theorem cr_allG {X : Cx} (K : PySem.W.Frag) (hc : X.calm = true := by rfl) (hK : X.K = K := by rfl) : CallR X (.builtin "all") (rAll K) := by subst hK; exact cr_all hc
theorem cr_anyG {X : Cx} (K : PySem.W.Frag) (hc : X.calm = true := by rfl) (hK : X.K = K := by rfl) : CallR X (.builtin "any") (rAny K) := by subst hK; exact cr_any hc
theorem cr_sumG {X : Cx} (K : PySem.W.Frag) (hc : X.calm = true := by rfl) (hK : X.K = K := by rfl) : CallR X (.builtin "sum") (rSum K) := by subst hK; exact cr_sum hc
theorem sim_all : SimC K (rAll K) sAll := fun F H m xs as S Q M rs h c => by
  unfold sAll at h
  split at h
  · obtain ⟨bs, h1, q⟩ := h
    obtain ⟨v, rfl, rv⟩ := vrs_one rs
    obtain ⟨p, vs, rfl, hs, r2⟩ := its_lst M rv h1
    obtain rfl := vrs_bls r2
    exact ⟨p, bs, rfl, hs, c _ F H _ m (.refl F) M (.bl _) q⟩
  · exact h.elim
theorem sim_any : SimC K (rAny K) sAny := fun F H m xs as S Q M rs h c => by
  unfold sAny at h
  split at h
  · obtain ⟨bs, h1, q⟩ := h
    obtain ⟨v, rfl, rv⟩ := vrs_one rs
    obtain ⟨p, vs, rfl, hs, r2⟩ := its_lst M rv h1
    obtain rfl := vrs_bls r2
    exact ⟨p, bs, rfl, hs, c _ F H _ m (.refl F) M (.bl _) q⟩
  · exact h.elim
theorem sim_sum : SimC K (rSum K) sSum := fun F H m xs as S Q M rs h c => by
  unfold sSum at h
  split at h
  · obtain ⟨bs, h1, q⟩ := h
    obtain ⟨v, rfl, rv⟩ := vrs_one rs
    obtain ⟨p, vs, rfl, hs, r2⟩ := its_lst M rv h1
    obtain rfl := vrs_ints r2
    exact ⟨p, bs, rfl, hs, c _ F H _ m (.refl F) M (.int _) q⟩
  · exact h.elim
/-- min, max of two ints -/
abbrev rMin2' : List V → Hp → VK → Prop := fun xs H Q => ∃ i j, xs = [.int i, .int j] ∧ Q (.int (if j < i then j else i)) H
abbrev rMax2' : List V → Hp → VK → Prop := fun xs H Q => ∃ i j, xs = [.int i, .int j] ∧ Q (.int (if j > i then j else i)) H
def sMin2 : SRC := fun vs m S => match vs with
  | [.int i, .int j] => S (.int (if j < i then j else i)) m
  | _ => False
def sMax2 : SRC := fun vs m S => match vs with
  | [.int i, .int j] => S (.int (if j > i then j else i)) m
  | _ => False
theorem sim_min2 : SimC K rMin2' sMin2 := fun F H m xs as S Q M rs h c => by
  unfold sMin2 at h
  split at h
  · obtain ⟨v, w, rfl, rv, rw_⟩ := vrs_two rs
    obtain rfl := vr_int rv
    obtain rfl := vr_int rw_
    exact ⟨_, _, rfl, c _ F H _ m (.refl F) M (.int _) h⟩
  · exact h.elim
theorem sim_max2 : SimC K rMax2' sMax2 := fun F H m xs as S Q M rs h c => by
  unfold sMax2 at h
  split at h
  · obtain ⟨v, w, rfl, rv, rw_⟩ := vrs_two rs
    obtain rfl := vr_int rv
    obtain rfl := vr_int rw_
    exact ⟨_, _, rfl, c _ F H _ m (.refl F) M (.int _) h⟩
  · exact h.elim
/-- tuple(..), list(..) -/
abbrev rTupG (K : PySem.W.Frag) : List V → Hp → VK → Prop := fun xs H Q => ∃ p ys, xs = [.ref p] ∧ ((SqL K H p ys ∧ ∀ l, H l = none → Q (.ref l) (upd H l (.tup ys))) ∨ (SqT K H p ys ∧ Q (.ref p) H))
abbrev rLstG (K : PySem.W.Frag) : List V → Hp → VK → Prop := fun xs H Q => ∃ p ys, xs = [.ref p] ∧ (SqL K H p ys ∨ SqT K H p ys) ∧ ∀ l, H l = none → Q (.ref l) (upd H l (.lst ys))
theorem cr_tup {X : Cx} (K : PySem.W.Frag) (hK : X.K = K := by rfl) : CallR X (.type "tuple") (rTupG K) := by subst hK; exact call_tuple_of
theorem cr_lst {X : Cx} (K : PySem.W.Frag) (hK : X.K = K := by rfl) : CallR X (.type "list") (rLstG K) := by subst hK; exact call_list_of
def sTupOf : SRC := fun vs m S => match vs with
  | [x] => ∃ ys, Its m x ys ∧ S (.tup ys) m
  | _ => False
def sLstOf : SRC := fun vs m S => match vs with
  | [x] => ∃ ys, Its m x ys ∧ ∀ p, m p = none → S (.ref p) (up m p (.lst ys))
  | _ => False
theorem sim_tupOf : SimC K (rTupG K) sTupOf := fun F H m xs as S Q M rs h c => by
  unfold sTupOf at h
  split at h
  · obtain ⟨ys, h1, q⟩ := h
    obtain ⟨v, rfl, rv⟩ := vrs_one rs
    have key : ∀ p vs, v = .ref p → SqL K H p vs → VRs K F vs ys → rTupG K [v] H Q := fun p vs e hs r2 => by
      subst e
      exact ⟨p, vs, rfl, .inl ⟨hs, fun l hl => c (.ref l) (upd F l _) _ _ m (Sub.new (M.sub.gone hl)) (M.frz hl) (.tup (.inl (.inl upd_same)) (vrs_sub (Sub.new (M.sub.gone hl)) r2)) q⟩⟩
    cases rv with
    | tup g1 r2 =>
      cases (show ys = _ from h1)
      exact ⟨_, _, rfl, .inr ⟨sqt_sub M.sub g1, c _ F H _ m (.refl F) M (.tup g1 r2) q⟩⟩
    | lst g1 r2 => cases (show ys = _ from h1); exact key _ _ rfl (sql_sub M.sub g1) r2
    | ref p =>
      obtain ⟨vs, e, r2⟩ := M.lst_ (show m p = some (.lst ys) from h1)
      exact key _ _ rfl (.inl (.inl e)) r2
    | _ => exact (show False from h1).elim
  · exact h.elim
theorem sim_lstOf : SimC K (rLstG K) sLstOf := fun F H m xs as S Q M rs h c => by
  unfold sLstOf at h
  split at h
  · obtain ⟨ys, h1, q⟩ := h
    obtain ⟨v, rfl, rv⟩ := vrs_one rs
    obtain ⟨p, vs, rfl, hs, r2⟩ := its_seq M rv h1
    exact ⟨p, vs, rfl, hs, fun l hl => c (.ref l) F _ _ _ (.refl F) (M.newL hl r2) (.ref l) (q l (M.gone hl))⟩
  · exact h.elim
/-- int(..) of an int, a bool -/
abbrev rInt1 : List V → Hp → VK → Prop := fun xs H Q => (∃ i, xs = [.int i] ∧ Q (.int i) H) ∨ ∃ k, xs = [.bl k] ∧ Q (.int (if k then 1 else 0)) H
def sInt1 : SRC := fun vs m S => match vs with
  | [.int i] => S (.int i) m
  | [.bl k] => S (.int (if k then 1 else 0)) m
  | _ => False
theorem sim_int1 : SimC K rInt1 sInt1 := fun F H m xs as S Q M rs h c => by
  unfold sInt1 at h
  split at h
  · obtain ⟨v, rfl, rv⟩ := vrs_one rs
    obtain rfl := vr_int rv
    exact .inl ⟨_, rfl, c _ F H _ m (.refl F) M (.int _) h⟩
  · obtain ⟨v, rfl, rv⟩ := vrs_one rs
    obtain rfl := vr_bl rv
    exact .inr ⟨_, rfl, c _ F H _ m (.refl F) M (.int _) h⟩
  · exact h.elim
/-- str(n) -/
abbrev rStrI : List V → Hp → VK → Prop := fun xs H Q => ∃ i, xs = [.int i] ∧ i.natAbs.log2 < 1920 ∧ Q (.str (toString i)) H
def sStrI : SRC := fun vs m S => match vs with
  | [.int i] => i.natAbs.log2 < 1920 ∧ S (.str (toString i)) m
  | _ => False
theorem sim_strI : SimC K rStrI sStrI := fun F H m xs as S Q M rs h c => by
  unfold sStrI at h
  split at h
  · obtain ⟨v, rfl, rv⟩ := vrs_one rs
    obtain rfl := vr_int rv
    exact ⟨_, rfl, h.1, c _ F H _ m (.refl F) M (.str _) h.2⟩
  · exact h.elim
end
end Sy

set_option Elab.async false
set_option linter.all false
set_option maxRecDepth 100000
set_option maxHeartbeats 4000000
/-! Statements, loops, comprehensions, defs over symbolic values. -/
namespace Sy
open PySem PySem.Spec PyProof.Rows L2
structure SEnds where
  nx : DS → Mem → Prop
  rt : SV → Mem → Prop
  bk : DS → Mem → Prop := fun _ _ => False
  ct : DS → Mem → Prop := fun _ _ => False
abbrev SS := SXK → SEnds → DS → Mem → Prop
def CnS (K : PySem.W.Frag) (F : Hp) (S : DS → Mem → Prop) (Q : L2.St → Hp → Prop) : Prop := ∀ σ δ F' H' m', Sub F F' → SR K F' σ δ → MR K F' H' m' → S δ m' → Q σ H'
theorem CnS.go {K : PySem.W.Frag} {F F' : Hp} {S : DS → Mem → Prop} {Q : L2.St → Hp → Prop} (c : CnS K F S Q) (s : Sub F F') : CnS K F' S Q := fun v F2 H2 sv m2 s2 => c v F2 H2 sv m2 (s.trans s2)
structure EndOk (K : PySem.W.Frag) (F : Hp) (E : Ends) (D : SEnds) : Prop where
  nx : CnS K F D.nx E.nx
  rt : Cn K F D.rt E.rt
  bk : CnS K F D.bk E.bk
  ct : CnS K F D.ct E.ct
theorem EndOk.go {K : PySem.W.Frag} {F F' : Hp} {E : Ends} {D : SEnds} (c : EndOk K F E D) (s : Sub F F') : EndOk K F' E D := ⟨c.nx.go s, c.rt.go s, c.bk.go s, c.ct.go s⟩
def SimS (K : PySem.W.Frag) (E : XK) (ts : TS) (ss : SS) : Prop := ∀ σ F H δ m SX D Es, Rl K E σ F H δ m SX → ss SX D δ m → EndOk K F Es D → ts Es σ H
structure GS (K : PySem.W.Frag) (E : XK) (X : Cx) (st : Stmt) (ts : TS) (ss : SS) : Prop where
  pe : PS X st ts
  sim : SimS K E ts ss
structure GSs (K : PySem.W.Frag) (E : XK) (X : Cx) (st : List Stmt) (ts : TS) (ss : SS) : Prop where
  pe : PSs X st ts
  sim : SimS K E ts ss
/-! targets -/
abbrev SG := SXK → SV → DS → Mem → (DS → Mem → Prop) → Prop
abbrev SGs := SXK → List SV → DS → Mem → (DS → Mem → Prop) → Prop
def SimG (K : PySem.W.Frag) (E : XK) (g : TG) (s : SG) : Prop := ∀ σ F H δ m SX v sv S Q, Rl K E σ F H δ m SX → VR K F v sv → s SX sv δ m S → CnS K F S Q → g v σ H Q
def SimGs (K : PySem.W.Frag) (E : XK) (g : TGs) (s : SGs) : Prop := ∀ σ F H δ m SX v sv S Q, Rl K E σ F H δ m SX → VRs K F v sv → s SX sv δ m S → CnS K F S Q → g v σ H Q
structure GG (K : PySem.W.Frag) (E : XK) (X : Cx) (e : Expr) (g : TG) (s : SG) : Prop where
  pe : PG X e g
  sim : SimG K E g s
structure GGs (K : PySem.W.Frag) (E : XK) (X : Cx) (e : List Expr) (g : TGs) (s : SGs) : Prop where
  pe : PGs X e g
  sim : SimGs K E g s
def hName (i : Nat) : SG := fun _ v δ m S => S (δ.set i (some v)) m
def hNil : SGs := fun _ vs δ m S => match vs with
  | [] => S δ m
  | _ => False
def hCons (g : SG) (r : SGs) : SGs := fun SX vs δ m S => match vs with
  | v :: ws => g SX v δ m fun δ1 m1 => r SX ws δ1 m1 S
  | [] => False
def hTup (n : Nat) (r : SGs) : SG := fun SX v δ m S => match v with
  | .tup xs => xs.length = n ∧ r SX xs δ m S
  | _ => False
section
variable {K : PySem.W.Frag} {E : XK} {X : Cx} {a b c e : Expr} {es : List Expr} {ta tb tc te : TE} {sa sb sc se : SE} {pos pos' : Pos} {g : TG} {gs : TGs} {sg : SG} {sgs : SGs}
theorem gg_name {i : Nat} {x : Str} (hN : X.N.Nodup) (hi : X.N[i]? = some x) (hx : Loc X.env.scope x) (hf : X.fn x = true ∨ X.env.scope.names.lookup x = some .local := by first | exact .inl rfl | exact .inr rfl | assumption) : GG K E X (.Name x pos) (gName i) (hName i) :=
  ⟨pg_name hN hi hx hf, fun σ F H δ m SX v sv S Q r rv h c => c _ _ F H m (.refl F) (r.sr.set rv) r.mr h⟩
theorem ggs_nil : GGs K E X [] gNil hNil := ⟨pgs_nil, fun σ F H δ m SX v sv S Q r rv h c => by
  cases rv with
  | nil => exact ⟨rfl, c _ _ F H m (.refl F) r.sr r.mr h⟩
  | cons _ _ => exact (show False from h).elim⟩
theorem ggs_cons (h1 : GG K E X e g sg) (h2 : GGs K E X es gs sgs) (hs : (assignEach (e :: es) X.env).map (·.2) = assign e X.env :: (assignEach es X.env).map (·.2) := by rfl) : GGs K E X (e :: es) (gCons g gs) (hCons sg sgs) := ⟨pgs_cons h1.pe h2.pe hs, fun σ F H δ m SX v sv S Q r rv h c => by
  cases rv with
  | nil => exact (show False from h).elim
  | cons r1 r2 =>
    exact ⟨_, _, rfl, h1.sim σ F H δ m SX _ _ _ _ r r1 h fun σ1 δ1 F1 H1 m1 s1 sr1 M1 q1 => h2.sim σ1 F1 H1 δ1 m1 SX _ _ S Q ⟨sr1, M1, r.ex.go s1⟩ (vrs_sub s1 r2) q1 (c.go s1)⟩⟩
theorem gg_tup (n : Nat) {k : Nat} (hc : X.calm = true) (h : GGs K E X es gs sgs) (hn : (assignEach es X.env).length = n := by rfl) (hst : (assignEach es X.env).findIdx? (·.1) = none := by rfl) (hK : X.K = K := by rfl) : GG K E X (.Tuple es k pos) (gTup K n gs) (hTup n sgs) := by
  subst hK
  exact ⟨pg_tup hc h.pe hn hst, fun σ F H δ m SX v sv S Q r rv hh c => by
    cases rv with
    | tup h1 h2 => exact ⟨_, _, rfl, sqt_sub r.mr.sub h1, by rw [vrs_length h2]; exact hh.1, h.sim σ F H δ m SX _ _ S Q r h2 hh.2 c⟩
    | _ => exact (show False from hh).elim⟩
/-- o[i] = v of a list -/
def hSubL (o i : SE) : SG := fun SX v δ m S => o SX δ m fun x m1 => i SX δ m1 fun y m2 => match x, y with
  | .ref a, .int k => ∃ xs j, m2 a = some (.lst xs) ∧ ixN xs.length k = some j ∧ S δ (up m2 a (.lst (xs.set j v)))
  | _, _ => False
theorem gg_subL (ho : GE K E X a ta sa) (hi : GE K E X b tb sb) (ha : ∀ v, assign (.Subscript a b pos) X.env v = (do
      let ov ← holding [v] (eval a X.env)
      let iv ← holding [v, ov] (eval b X.env)
      standAt pos
      holding [v, ov, iv] (setItem ov iv v)
      release [v, ov, iv] []) := by intro _; rfl) : GG K E X (.Subscript a b pos) (gSub ta tb rSetL) (hSubL sa sb) := ⟨pg_sub ho.pe hi.pe set_list ha, fun σ F H δ m SX v sv S Q r rv h c =>
  ho.sim σ F H δ m SX _ _ r h fun x F1 H1 sx m1 s1 M1 v1 h1 => hi.sim σ F1 H1 δ m1 SX _ _ (r.go s1 M1) h1 fun y F2 H2 sy m2 s2 M2 v2 h2 => by
    have v1 := vr_sub s2 v1
    cases v1 <;> cases v2 <;> first
      | exact (show False from h2).elim
      | skip
    obtain ⟨xs, j, e1, e2, q⟩ := (show ∃ xs j, _ from h2)
    obtain ⟨vs, e3, r3⟩ := M2.lst_ e1
    have s12 := s1.trans s2
    exact ⟨_, vs, _, j, rfl, rfl, e3, by rw [vrs_length r3]; exact e2, c _ δ F2 _ _ s12 (r.sr.sub s12) (M2.setL e1 (vrs_set j r3 (vr_sub s12 rv))) q⟩⟩
end
/-! small statements -/
def sNext : SS := fun _ D δ m => D.nx δ m
def sSeq (t u : SS) : SS := fun SX D δ m => t SX { D with nx := fun δ1 m1 => u SX D δ1 m1 } δ m
def sAsg (a : SE) (g : SG) : SS := fun SX D δ m => a SX δ m fun x m1 => g SX x δ m1 D.nx
def sDrop (a : SE) : SS := fun SX D δ m => a SX δ m fun _ m1 => D.nx δ m1
def sRet (a : SE) : SS := fun SX D δ m => a SX δ m D.rt
def sRetN : SS := fun _ D _ m => D.rt .non m
def sIfS (c : STt) (t u : SS) : SS := fun SX D δ m => c SX δ m fun b m1 => Br b (t SX D δ m1) (u SX D δ m1)
def sBreak : SS := fun _ D δ m => D.bk δ m
def sCont : SS := fun _ D δ m => D.ct δ m
def sNever : SS := fun _ _ _ _ => False
section
variable {K : PySem.W.Frag} {E : XK} {X : Cx} {a b c e : Expr} {es : List Expr} {ta tb tc te : TE} {sa sb sc se : SE} {pos pos' : Pos} {g : TG} {gs : TGs} {sg : SG} {sgs : SGs} {st : Stmt} {sts rest : List Stmt} {t u : TS} {zt zu : SS} {ct : TT} {cs : STt}
theorem gss_nil : GSs K E X [] tNext sNext := ⟨pss_nil, fun σ F H δ m SX D Es r h q => q.nx σ δ F H m (.refl F) r.sr r.mr h⟩
theorem gss_one (h : GS K E X st t zt) : GSs K E X [st] t zt := ⟨pss_one h.pe, h.sim⟩
theorem gss_cons (h1 : GS K E X st t zt) (h2 : GSs K E X rest u zu) : GSs K E X (st :: rest) (tSeq t u) (sSeq zt zu) := ⟨pss_cons h1.pe h2.pe, fun σ F H δ m SX D Es r h q =>
  h1.sim σ F H δ m SX _ _ r h ⟨fun σ1 δ1 F1 H1 m1 s1 sr1 M1 q1 => h2.sim σ1 F1 H1 δ1 m1 SX D Es ⟨sr1, M1, r.ex.go s1⟩ q1 (q.go s1), q.rt, q.bk, q.ct⟩⟩
theorem gs_pass : GS K E X (.Pass pos) tNext sNext := ⟨ps_pass, fun σ F H δ m SX D Es r h q => q.nx σ δ F H m (.refl F) r.sr r.mr h⟩
theorem gs_break : GS K E X (.Break pos) tBreak sBreak := ⟨ps_break, fun σ F H δ m SX D Es r h q => q.bk σ δ F H m (.refl F) r.sr r.mr h⟩
theorem gs_cont : GS K E X (.Continue pos) tCont sCont := ⟨ps_continue, fun σ F H δ m SX D Es r h q => q.ct σ δ F H m (.refl F) r.sr r.mr h⟩
theorem gs_doc {x j} : GS K E X (.Expr (.Constant (.str x) j pos) pos') tNext sNext := ⟨ps_doc, fun σ F H δ m SX D Es r h q => q.nx σ δ F H m (.refl F) r.sr r.mr h⟩
theorem gs_never : GS K E X st tNever sNever := ⟨ps_never, fun σ F H δ m SX D Es r h q => h.elim⟩
theorem gs_expr (he : GE K E X e te se) (hs : swapsWith e none pos.line X.env = pure false := by rfl) : GS K E X (.Expr e pos) (tDrop te) (sDrop se) := ⟨ps_expr he.pe hs, fun σ F H δ m SX D Es r h q =>
  he.sim σ F H δ m SX _ _ r h fun v F1 H1 sv m1 s1 M1 v1 h1 => q.nx σ δ F1 H1 m1 s1 (r.sr.sub s1) M1 h1⟩
theorem gs_ret (he : GE K E X e te se) : GS K E X (.Return (some e) pos) (tRet te) (sRet se) := ⟨ps_ret he.pe, fun σ F H δ m SX D Es r h q => he.sim σ F H δ m SX _ _ r h q.rt⟩
theorem gs_retN : GS K E X (.Return none pos) tRetN sRetN := ⟨ps_retN, fun σ F H δ m SX D Es r h q => q.rt _ F H _ m (.refl F) r.mr .non h⟩
theorem sim_asg (he : SimE K E te se) (hg : SimG K E g sg) : SimS K E (tAsg te g) (sAsg se sg) := fun σ F H δ m SX D Es r h q =>
  he σ F H δ m SX _ _ r h fun v F1 H1 sv m1 s1 M1 v1 h1 => hg σ F1 H1 δ m1 SX v sv _ _ (r.go s1 M1) v1 h1 (q.nx.go s1)
theorem gs_asg (he : GE K E X e te se) (hg : GG K E X a g sg) (hs : swapsWithSole [a] e pos.line X.env = pure false := by rfl) (hw : swappedStores [a] e X.env = pure none := by rfl)
    (h1 : (assignEach [a] X.env).map (·.2) = [assign a X.env] := by rfl) : GS K E X (.Assign [a] e pos) (tAsg te g) (sAsg se sg) := ⟨ps_asg he.pe hg.pe hs hw h1, sim_asg he.sim hg.sim⟩
theorem gs_set {i : Nat} {x : Str} (hN : X.N.Nodup) (hi : X.N[i]? = some x) (hx : Loc X.env.scope x) (he : GE K E X e te se) (hs : swapsWith e (some (.Name x pos')) pos.line X.env = pure false := by rfl) (hf : X.fn x = true ∨ X.env.scope.names.lookup x = some .local := by first | exact .inl rfl | exact .inr rfl | assumption) : GS K E X (.Assign [.Name x pos'] e pos) (tAsg te (gName i)) (sAsg se (hName i)) :=
  ⟨ps_set hN hi hx he.pe hs hf, sim_asg he.sim fun σ F H δ m SX v sv S Q r rv h c => c _ _ F H m (.refl F) (r.sr.set rv) r.mr h⟩
theorem gs_if {s1 s2 : List Stmt} (hc : GT K E X c ct cs) (h1 : GSs K E X s1 t zt) (h2 : GSs K E X s2 u zu) : GS K E X (.If c s1 s2 pos) (tIfS ct t u) (sIfS cs zt zu) := ⟨ps_if hc.pe h1.pe h2.pe, fun σ F H δ m SX D Es r h q =>
  hc.sim σ F H δ m SX _ _ r h fun b F1 H1 m1 s1 M1 h1' => by
    rw [Br_eq] at h1'
    cases b with
    | true => exact h1.sim σ F1 H1 δ m1 SX D Es (r.go s1 M1) (by simpa using h1') (q.go s1)
    | false => exact h2.sim σ F1 H1 δ m1 SX D Es (r.go s1 M1) (by simpa using h1') (q.go s1)⟩
end
/-! ### while -/
@[irreducible] def WhileGo (c : STt) (b : SS) (SX : SXK) (D : SEnds) (δ : DS) (m : Mem) : Prop := ∃ W : Nat → DS → Mem → Prop, (∃ n, W n δ m) ∧ ∀ n δ m, W n δ m →
  c SX δ m fun t m1 => Br t (b SX { D with nx := fun δ' m' => ∃ n', n' < n ∧ Fg (W n' δ') m', ct := fun δ' m' => ∃ n', n' < n ∧ Fg (W n' δ') m', bk := D.nx } δ m1) (D.nx δ m1)
def sWhile (c : STt) (b : SS) : SS := fun SX D δ m => WhileGo c b SX D δ m
section
variable {K : PySem.W.Frag} {E : XK} {X : Cx} {c : Expr} {pos : Pos} {body : List Stmt} {t : TS} {zt : SS} {ct : TT} {cs : STt}
theorem gs_while (hp : PassesOwn (model X.prog X.w) X.A X.env X.xe) (hc : GT K E X c ct cs) (hb : GSs K E X body t zt) : GS K E X (.While c body [] pos) (tWhile ct t) (sWhile cs zt) := ⟨ps_while hp hc.pe hb.pe, fun σ F H δ m SX D Es r h q => by
  have h : WhileGo cs zt SX D δ m := h
  unfold WhileGo at h
  obtain ⟨W, ⟨n0, w0⟩, turn⟩ := h
  refine ⟨fun n σ1 H1 => ∃ F1 δ1 m1, Sub F F1 ∧ SR K F1 σ1 δ1 ∧ MR K F1 H1 m1 ∧ W n δ1 m1, ⟨n0, F, δ, m, .refl F, r.sr, r.mr, w0⟩, ?_⟩
  rintro n σ1 H1 ⟨F1, δ1, m1, s1, sr1, M1, w1⟩
  refine hc.sim σ1 F1 H1 δ1 m1 SX _ _ ⟨sr1, M1, r.ex.go s1⟩ (turn n δ1 m1 w1) fun b F2 H2 m2 s2 M2 h2 => ?_
  rw [Br_eq] at h2
  split
  · next e =>
    rw [if_pos e] at h2
    refine ⟨fun σ' H' => ∃ m', m' < n ∧ ∃ F1 δ1 m1, Sub F F1 ∧ SR K F1 σ' δ1 ∧ MR K F1 H' m1 ∧ W m' δ1 m1, fun _ _ z => z, ?_⟩
    have s12 := s1.trans s2
    have cn : CnS K F2 (fun δ' m' => ∃ n', n' < n ∧ Fg (W n' δ') m') (fun σ' H' => ∃ m', m' < n ∧ ∃ F1 δ1 m1, Sub F F1 ∧ SR K F1 σ' δ1 ∧ MR K F1 H' m1 ∧ W m' δ1 m1) := fun σ3 δ3 F3 H3 m3 s3 sr3 M3 ⟨n', hn, m4, l4, w3⟩ => ⟨n', hn, F3, δ3, m4, s12.trans s3, sr3, M3.drop l4, w3⟩
    exact hb.sim σ1 F2 H2 δ1 m2 SX _ _ ⟨sr1.sub s2, M2, r.ex.go s12⟩ h2 ⟨cn, q.rt.go s12, q.nx.go s12, cn⟩
  · next e =>
    rw [if_neg e] at h2
    exact q.nx σ1 δ1 F2 H2 m2 (s1.trans s2) (sr1.sub s2) M2 h2⟩
end
/-! ### what is walked -/
abbrev SI := SXK → DS → Mem → (List SV → (Mem → Prop) → Mem → Prop) → Prop
structure ItOk (K : PySem.W.Frag) (F : Hp) (J : It) (items : List SV) (keep : Mem → Prop) : Prop where
  go : ∀ i F' H' m' x, Sub F F' → MR K F' H' m' → keep m' → items[i]? = some x → J.go i H' ∧ ∀ v H'', J.yld i H' v H'' → ∃ F'', Sub F' F'' ∧ MR K F'' H'' m' ∧ VR K F'' v x
  stop : ∀ F' H' m', Sub F F' → MR K F' H' m' → keep m' → J.stop items.length H'
def SimI (K : PySem.W.Frag) (E : XK) (ti : TI) (si : SI) : Prop := ∀ σ F H δ m SX R R', Rl K E σ F H δ m SX → si SX δ m R → (∀ J items keep F' H' m', Sub F F' → MR K F' H' m' → ItOk K F' J items keep → R items keep m' → R' J H') → ti σ H R'
structure GI (K : PySem.W.Frag) (E : XK) (X : Cx) (tg e : Expr) (ti : TI) (si : SI) : Prop where
  pe : PI X tg e ti
  sim : SimI K E ti si
def iSeq (K : PySem.W.Frag) (tl : TE) : TI := fun σ H R => tl σ H fun x H1 => ∃ a, x = .ref a ∧ (((∃ xs, SqL K H1 a xs) ∧ R (Itl K a) H1) ∨ ((∃ xs, SqT K H1 a xs) ∧ R (Itt K a) H1))
theorem pi_seq {X : Cx} {tg l : Expr} {tl : TE} (hl : PE X l tl) : PI X tg l (iSeq X.K tl) := by
  refine ⟨fun pins s σ H R I h => ?_⟩
  refine thn (hl.run pins s σ H _ I h) fun v s1 ⟨x, H1, I1, r1, q1⟩ => ?_
  obtain ⟨a, e, q⟩ := q1
  subst e
  cases r1
  rcases q with ⟨⟨xs, hq⟩, q⟩ | ⟨⟨xs, hq⟩, q⟩
  · obtain ⟨its, rv, p, hz⟩ := I1.list hq
    refine wpAny_pyIter_list p.isList ?_
    refine ⟨s1.heap.objs.size, [s1.heap.objs.size], _, _, H1, rfl, I1.kept (t' := s1.toks) fun b o e => Heap.get?_push_of_some _ e, turn_list a _, ⟨_, Heap.get?_push_size _ rfl, rfl, rfl⟩, fun b hb => ?_, q⟩
    have e : b = s1.heap.objs.size := by simpa using hb
    subst e
    exact I1.fpOk (Nat.le_refl _) (I1.hok.fresh (Nat.le_refl _))
  · obtain ⟨its, rv, p, hz⟩ := I1.tuple hq
    refine wpAny_pyIter_tuple (show s1.heap.IsTuple a its.toArray from p) ?_
    refine ⟨s1.heap.objs.size, [s1.heap.objs.size], _, _, H1, rfl, I1.kept (t' := s1.toks) fun b o e => Heap.get?_push_of_some _ e, turn_tuple a _, ⟨_, Heap.get?_push_size _ rfl, rfl, rfl⟩, fun b hb => ?_, q⟩
    have e : b = s1.heap.objs.size := by simpa using hb
    subst e
    exact I1.fpOk (Nat.le_refl _) (I1.hok.fresh (Nat.le_refl _))
def keepOf (x : SV) (xs : List SV) (m : Mem) : Prop := match x with
  | .ref a => m a = some (.lst xs)
  | _ => True
def sSeqI (a : SE) : SI := fun SX δ m R => a SX δ m fun x m1 => ∃ xs, Its m1 x xs ∧ R xs (keepOf x xs) m1
section
variable {K : PySem.W.Frag} {F : Hp}
theorem it_l {a : Addr} {items : List SV} {keep : Mem → Prop} (h : ∀ F' H' m', Sub F F' → MR K F' H' m' → keep m' → ∃ vs, SqL K H' a vs ∧ VRs K F' vs items) : ItOk K F (Itl K a) items keep where
  go := fun i F' H' m' x s M k e => by
    obtain ⟨vs, h1, h2⟩ := h F' H' m' s M k
    obtain ⟨v, hv, rv⟩ := vrs_get h2 e
    refine ⟨⟨vs, v, h1, hv⟩, fun w H'' hy => ?_⟩
    obtain ⟨rfl, hy⟩ := hy
    have z := hy vs h1
    rw [hv] at z
    cases z
    exact ⟨F', .refl F', M, rv⟩
  stop := fun F' H' m' s M k => by
    obtain ⟨vs, h1, h2⟩ := h F' H' m' s M k
    exact ⟨vs, h1, by rw [vrs_length h2]; exact Nat.le_refl _⟩
theorem it_t {a : Addr} {items : List SV} {keep : Mem → Prop} (h : ∀ F' H' m', Sub F F' → MR K F' H' m' → keep m' → ∃ vs, SqT K H' a vs ∧ VRs K F' vs items) : ItOk K F (Itt K a) items keep where
  go := fun i F' H' m' x s M k e => by
    obtain ⟨vs, h1, h2⟩ := h F' H' m' s M k
    obtain ⟨v, hv, rv⟩ := vrs_get h2 e
    refine ⟨⟨vs, v, h1, hv⟩, fun w H'' hy => ?_⟩
    obtain ⟨rfl, hy⟩ := hy
    have z := hy vs h1
    rw [hv] at z
    cases z
    exact ⟨F', .refl F', M, rv⟩
  stop := fun F' H' m' s M k => by
    obtain ⟨vs, h1, h2⟩ := h F' H' m' s M k
    exact ⟨vs, h1, by rw [vrs_length h2]; exact Nat.le_refl _⟩
/-- lo, lo + 1, .. -/
def rngS : Int → Nat → List SV
  | _, 0 => []
  | lo, n + 1 => .int lo :: rngS (lo + 1) n
theorem rngS_length : ∀ (n : Nat) (lo : Int), (rngS lo n).length = n
  | 0, _ => rfl
  | n + 1, lo => by rw [rngS, List.length_cons, rngS_length n]
theorem rngS_get : ∀ (n : Nat) (lo : Int) (i : Nat) (x : SV), (rngS lo n)[i]? = some x → i < n ∧ x = .int (lo + (i : Nat))
  | 0, _, _, _, e => by simp [rngS] at e
  | n + 1, lo, 0, x, e => by
    simp [rngS] at e
    exact ⟨Nat.succ_pos _, by rw [← e]; simp⟩
  | n + 1, lo, i + 1, x, e => by
    obtain ⟨h1, h2⟩ := rngS_get n (lo + 1) i x (by simpa [rngS] using e)
    exact ⟨Nat.succ_lt_succ h1, by rw [h2]; congr 1; push_cast; omega⟩
theorem it_r {lo : Int} {n : Nat} : ItOk K F (Itr lo n) (rngS lo n) (fun _ => True) where
  go := fun i F' H' m' x s M k e => by
    obtain ⟨h1, rfl⟩ := rngS_get n lo i x e
    refine ⟨h1, fun w H'' hy => ?_⟩
    obtain ⟨rfl, rfl⟩ := hy
    exact ⟨F', .refl F', M, .int _⟩
  stop := fun F' H' m' s M k => by rw [rngS_length]; exact Nat.le_refl _
end
def sRng1 (a : SA) : SI := fun SX δ m R => a SX δ m fun xs m1 => match xs with
  | [.int j] => (-(2 ^ 62) ≤ j ∧ j < 2 ^ 62) ∧ R (rngS 0 j.toNat) (fun _ => True) m1
  | _ => False
def sRng2 (a : SA) : SI := fun SX δ m R => a SX δ m fun xs m1 => match xs with
  | [.int i, .int j] => (-(2 ^ 62) ≤ i ∧ i < 2 ^ 62 ∧ -(2 ^ 62) ≤ j ∧ j < 2 ^ 62) ∧ R (rngS i (j - i).toNat) (fun _ => True) m1
  | _ => False
theorem one_int {xs : List SV} {P : Int → Prop} (h : match xs with | [.int j] => P j | _ => False) : ∃ j, xs = [.int j] ∧ P j := by
  split at h
  · exact ⟨_, rfl, h⟩
  · exact h.elim
theorem two_int {xs : List SV} {P : Int → Int → Prop} (h : match xs with | [.int i, .int j] => P i j | _ => False) : ∃ i j, xs = [.int i, .int j] ∧ P i j := by
  split at h
  · exact ⟨_, _, rfl, h⟩
  · exact h.elim
section
variable {K : PySem.W.Frag} {E : XK} {X : Cx} {tg a b l e : Expr} {ta tl : TE} {sa sl : SE} {pos p : Pos} {t : TA} {s : SA}
theorem gi_seq (h : GE K E X l tl sl) (hK : X.K = K := by rfl) : GI K E X tg l (iSeq K tl) (sSeqI sl) := by
  subst hK
  exact ⟨pi_seq h.pe, fun σ F H δ m SX R R' r hh c => h.sim σ F H δ m SX _ _ r hh fun v F1 H1 sv m1 s1 M1 v1 h1 => by
    obtain ⟨xs, hi, q⟩ := h1
    cases v1 with
    | tup g1 g2 =>
      cases (show xs = _ from hi)
      exact ⟨_, rfl, .inr ⟨⟨_, sqt_sub M1.sub g1⟩, c _ _ _ F1 H1 m1 s1 M1 (it_t fun F2 H2 m2 s2 M2 _ => ⟨_, sqt_sub (s2.trans M2.sub) g1, vrs_sub s2 g2⟩) q⟩⟩
    | lst g1 g2 =>
      cases (show xs = _ from hi)
      exact ⟨_, rfl, .inl ⟨⟨_, sql_sub M1.sub g1⟩, c _ _ _ F1 H1 m1 s1 M1 (it_l fun F2 H2 m2 s2 M2 _ => ⟨_, sql_sub (s2.trans M2.sub) g1, vrs_sub s2 g2⟩) q⟩⟩
    | ref p =>
      obtain ⟨vs, e1, _⟩ := M1.lst_ (show m1 p = some (.lst xs) from hi)
      exact ⟨_, rfl, .inl ⟨⟨_, .inl (.inl e1)⟩, c _ _ _ F1 H1 m1 s1 M1 (it_l fun F2 H2 m2 s2 M2 k => by
        obtain ⟨ws, e2, r2⟩ := M2.lst_ (show m2 p = some (.lst xs) from k)
        exact ⟨ws, .inl (.inl e2), r2⟩) q⟩⟩
    | _ => exact (show False from hi).elim⟩
theorem gi_range1 (hg : Gl X "range") (hm : X.mg "range" = none) (ha : GA K E X [a] t s) (hs : starEach [a] X.env = [(false, eval a X.env)] := by rfl) : GI K E X tg (.Call (.Name "range" p) [a] [] pos) (iRng1 t) (sRng1 s) := ⟨pi_range1 hg hm ha.pe hs, fun σ F H δ m SX R R' r hh c => ha.sim σ F H δ m SX _ _ r hh fun v F1 H1 sv m1 s1 M1 v1 h1 => by
  obtain ⟨j, rfl, h1⟩ := one_int h1
  obtain ⟨w, rfl, rw_⟩ := vrs_one v1
  obtain rfl := vr_int rw_
  exact ⟨_, rfl, h1.1.1, h1.1.2, c _ _ _ F1 H1 m1 s1 M1 it_r h1.2⟩⟩
theorem gi_range2 (hg : Gl X "range") (hm : X.mg "range" = none) (ha : GA K E X [a, b] t s) (hs : starEach [a, b] X.env = [(false, eval a X.env), (false, eval b X.env)] := by rfl) (hs2 : starEach [b] X.env = [(false, eval b X.env)] := by rfl) : GI K E X tg (.Call (.Name "range" p) [a, b] [] pos) (iRng2 t) (sRng2 s) := ⟨pi_range2 hg hm ha.pe hs hs2, fun σ F H δ m SX R R' r hh c => ha.sim σ F H δ m SX _ _ r hh fun v F1 H1 sv m1 s1 M1 v1 h1 => by
  obtain ⟨i, j, rfl, h1⟩ := two_int h1
  obtain ⟨w, u, rfl, rw_, ru⟩ := vrs_two v1
  obtain rfl := vr_int rw_
  obtain rfl := vr_int ru
  exact ⟨_, _, rfl, h1.1, c _ _ _ F1 H1 m1 s1 M1 it_r h1.2⟩⟩
end
/-! ### for -/
/-- I: what holds with the items that are left -/
@[irreducible] def ForGo (keep : Mem → Prop) (g : SG) (b : SS) (SX : SXK) (D : SEnds) (items : List SV) (δ : DS) (m : Mem) : Prop := ∃ I : List SV → DS → Mem → Prop, I items δ m ∧
  (∀ x r δ m, I (x :: r) δ m → keep m ∧ g SX x δ m fun δ1 m1 => b SX { D with nx := fun δ' => Fg (I r δ'), ct := fun δ' => Fg (I r δ'), bk := D.nx } δ1 m1) ∧ ∀ δ m, I [] δ m → keep m ∧ D.nx δ m
def sFor (si : SI) (g : SG) (b : SS) : SS := fun SX D δ m => si SX δ m fun items keep m1 => ForGo keep g b SX D items δ m1
theorem drop_cons {α : Type} {xs : List α} {i : Nat} {x : α} {r : List α} (h : xs.drop i = x :: r) : xs[i]? = some x ∧ xs.drop (i + 1) = r := by
  have h1 : i < xs.length := by
    by_cases q : i < xs.length
    · exact q
    · rw [List.drop_eq_nil_of_le (by omega)] at h; cases h
  rw [List.drop_eq_getElem_cons h1] at h
  injection h with h2 h3
  exact ⟨by rw [List.getElem?_eq_getElem h1, h2], h3⟩
section
variable {K : PySem.W.Frag} {E : XK} {X : Cx} {tg iter : Expr} {pos : Pos} {body : List Stmt} {t : TS} {zt : SS} {ti : TI} {si : SI} {g : TG} {sg : SG}
theorem gs_for (hp : PassesOwn (model X.prog X.w) X.A X.env X.xe) (hc : X.calm = true) (hi : GI K E X tg iter ti si) (hg : GG K E X tg g sg) (hb : GSs K E X body t zt) (hs : ∀ x, foldedSetIterable iter X.env x = pure x := by intro _; rfl) :
    GS K E X (.For tg iter body [] pos) (tFor ti g t) (sFor si sg zt) := ⟨ps_for hp hc hi.pe hg.pe hb.pe hs, fun σ F H δ m SX D Es r h q => hi.sim σ F H δ m SX _ _ r h fun J items keep F1 H1 m1 s1 M1 iok h1 => by
  unfold ForGo at h1
  obtain ⟨I, i0, step, done⟩ := h1
  refine ⟨fun i n σ' H' => ∃ F' δ' m' rest, Sub F1 F' ∧ SR K F' σ' δ' ∧ MR K F' H' m' ∧ items.drop i = rest ∧ n = rest.length ∧ i ≤ items.length ∧ I rest δ' m', ⟨_, F1, δ, m1, items, .refl F1, r.sr.sub s1, M1, rfl, rfl, Nat.zero_le _, i0⟩, ?_⟩
  rintro i n σ' H' ⟨F', δ', m', rest, s', sr', M', hd, rfl, hle, hI⟩
  cases rest with
  | nil =>
    obtain ⟨k, hn⟩ := done δ' m' hI
    have hl : items.length ≤ i := by simpa using hd
    obtain rfl : i = items.length := by omega
    exact .inl ⟨iok.stop F' H' m' s' M' k, q.nx σ' δ' F' H' m' (s1.trans s') sr' M' hn⟩
  | cons x rest =>
    obtain ⟨hx, hd2⟩ := drop_cons hd
    obtain ⟨k, hs⟩ := step x rest δ' m' hI
    obtain ⟨g1, g2⟩ := iok.go i F' H' m' x s' M' k hx
    refine .inr ⟨g1, fun σ2 H2 => ∃ F2 δ2 m2, Sub F1 F2 ∧ SR K F2 σ2 δ2 ∧ MR K F2 H2 m2 ∧ I rest δ2 m2, fun σ2 H2 ⟨F2, δ2, m2, a1, a2, a3, a4⟩ => ⟨rest.length, by simp, F2, δ2, m2, rest, a1, a2, a3, hd2, rfl, (List.getElem?_eq_some_iff.mp hx).1, a4⟩, fun v H'' hy => ?_⟩
    obtain ⟨F3, s3, M3, v3⟩ := g2 v H'' hy
    have s13 := s1.trans (s'.trans s3)
    refine hg.sim σ' F3 H'' δ' m' SX v x _ _ ⟨sr'.sub s3, M3, r.ex.go s13⟩ v3 hs fun σ4 δ4 F4 H4 m4 s4 sr4 M4 h4 => ?_
    have cn : CnS K F4 (fun δ' => Fg (I rest δ')) (fun σ2 H2 => ∃ F2 δ2 m2, Sub F1 F2 ∧ SR K F2 σ2 δ2 ∧ MR K F2 H2 m2 ∧ I rest δ2 m2) := fun σ5 δ5 F5 H5 m5 s5 sr5 M5 ⟨m6, l6, h5⟩ => ⟨F5, δ5, m6, (s'.trans s3).trans (s4.trans s5), sr5, M5.drop l6, h5⟩
    exact hb.sim σ4 F4 H4 δ4 m4 SX _ _ ⟨sr4, M4, r.ex.go (s13.trans s4)⟩ h4 ⟨cn, q.rt.go (s13.trans s4), q.nx.go (s13.trans s4), cn⟩⟩
end
/-! ### comprehensions -/
theorem wipe_set {σ : L2.St} {x : Option V} : ∀ {vs : List Nat} {v : Nat}, v ∈ vs → wipe (σ.set v x) vs = wipe σ vs
  | [], _, h => by cases h
  | w :: vs, v, h => by
    show (wipe (σ.set v x) vs).set w none = (wipe σ vs).set w none
    by_cases hv : v ∈ vs
    · rw [wipe_set hv]
    · have e : v = w := (List.mem_cons.mp h).resolve_right hv
      subst e
      have com : ∀ (us : List Nat), v ∉ us → wipe (σ.set v x) us = (wipe σ us).set v x := by
        intro us
        induction us with
        | nil => intro _; rfl
        | cons a us ih =>
          intro hn
          show (wipe (σ.set v x) us).set a none = ((wipe σ us).set a none).set v x
          rw [ih (fun z => hn (List.mem_cons_of_mem _ z)), List.set_comm]
          exact fun z => hn (by rw [z]; exact List.mem_cons_self)
      rw [com vs hv, List.set_set]
theorem wipe_wipe {σ2 σ : L2.St} {vs : List Nat} (h : wipe σ2 vs = wipe (wipe σ vs) vs) : wipe σ2 vs = wipe σ vs := by
  have key : ∀ us : List Nat, wipe (wipe σ us) us = wipe σ us := by
    intro us
    have step : ∀ (us ws : List Nat) (τ : L2.St), (∀ u ∈ us, u ∈ ws) → wipe (wipe τ us) ws = wipe τ ws := by
      intro us
      induction us with
      | nil => intro ws τ _; rfl
      | cons a us ih =>
        intro ws τ hs
        show wipe ((wipe τ us).set a none) ws = wipe τ ws
        rw [wipe_set (hs a List.mem_cons_self)]
        exact ih ws τ fun u hu => hs u (List.mem_cons_of_mem _ hu)
    exact step us us σ fun _ z => z
  rw [h, key]

/-- the target only writes to vs -/
def WpG (g : TG) (vs : List Nat) : Prop := ∀ v σ H (Q Q' : L2.St → Hp → Prop), g v σ H Q → (∀ σ' H', Q σ' H' → wipe σ' vs = wipe σ vs → Q' σ' H') → g v σ H Q'
def WpGs (g : TGs) (vs : List Nat) : Prop := ∀ v σ H (Q Q' : L2.St → Hp → Prop), g v σ H Q → (∀ σ' H', Q σ' H' → wipe σ' vs = wipe σ vs → Q' σ' H') → g v σ H Q'
theorem wp_name {i : Nat} {vs : List Nat} (h : i ∈ vs) : WpG (gName i) vs := fun v σ H Q Q' q k => k _ _ q (wipe_set h)
theorem wps_nil {vs : List Nat} : WpGs gNil vs := fun v σ H Q Q' q k => ⟨q.1, k _ _ q.2 rfl⟩
theorem wps_cons {g : TG} {gs : TGs} {vs : List Nat} (h1 : WpG g vs) (h2 : WpGs gs vs) : WpGs (gCons g gs) vs := fun v σ H Q Q' q k => by
  obtain ⟨x, r, e, q⟩ := q
  exact ⟨x, r, e, h1 x σ H _ _ q fun σ1 H1 q1 w1 => h2 r σ1 H1 Q Q' q1 fun σ2 H2 q2 w2 => k σ2 H2 q2 (w2.trans w1)⟩
theorem wp_tup {K : PySem.W.Frag} {n : Nat} {gs : TGs} {vs : List Nat} (h : WpGs gs vs) : WpG (gTup K n gs) vs := fun v σ H Q Q' q k => by
  obtain ⟨a, xs, e, h1, h2, q⟩ := q
  exact ⟨a, xs, e, h1, h2, h xs σ H Q Q' q k⟩
def sYes : STt := fun _ _ m S => S true m
structure GTs (K : PySem.W.Frag) (E : XK) (X : Cx) (e : List Expr) (te : TT) (se : STt) : Prop where
  pe : PTs X e te
  sim : SimT K E te se
/-- D: the new list's place; I: the items that are left, what is made so far -/
@[irreducible] def LcGo (p : Addr) (keep : Mem → Prop) (g : SG) (tt : STt) (te : SE) (vs : List Nat) (SX : SXK) (δ : DS) (items : List SV) (m : Mem) (S : SV → Mem → Prop) : Prop := ∃ I : List SV → List SV → Mem → Prop, I items [] (up m p (.lst [])) ∧
  (∀ x r acc m, I (x :: r) acc m → keep m ∧ g SX x (wipeD δ vs) m fun δ1 m1 => tt SX δ1 m1 fun b m2 => Br b (te SX δ1 m2 fun y m3 => m3 p = some (.lst acc) ∧ Fg (I r (acc ++ [y])) (up m3 p (.lst (acc ++ [y])))) (Fg (I r acc) m2)) ∧
  ∀ acc m, I [] acc m → keep m ∧ S (.ref p) m
def sLc (si : SI) (g : SG) (tt : STt) (te : SE) (vs : List Nat) : SE := fun SX δ m S => si SX δ m fun items keep m1 => items.length ≤ sizeLine ∧ ∀ p, m1 p = none → LcGo p keep g tt te vs SX δ items m1 S
section
variable {K : PySem.W.Frag} {E : XK} {X : Cx} {pos spos py : Pos} {ti : TI} {si : SI} {g : TG} {sg : SG} {elt tg iter c : Expr} {ifs : List Expr} {scope : Scope} {own : List (Str × Nat)} {tt : TT} {st : STt} {te : TE} {se : SE}
theorem gts_nil : GTs K E X [] tYes sYes := ⟨pts_nil, fun σ F H δ m SX S Q r h q => q true F H m (.refl F) r.mr h⟩
theorem gts_one (h : GT K E X c tt st) : GTs K E X [c] tt st := ⟨pts_one h.pe, h.sim⟩
theorem sim_lc {vs : List Nat} (hi : SimI K E ti si) (hg : SimG K E g sg) (hw : WpG g vs) (ht : SimT K E tt st) (he : SimE K E te se) : SimE K E (tLc ti g tt te vs) (sLc si sg st se vs) := fun σ F H δ m SX S Q r h q => hi σ F H δ m SX _ _ r h fun J items keep F1 H1 m1 s1 M1 iok h1 => by
  obtain ⟨hlen, h1⟩ := h1
  intro D hD
  have h1 := h1 D (M1.gone hD)
  unfold LcGo at h1
  obtain ⟨I, i0, step, done⟩ := h1
  refine ⟨fun i n H' => ∃ F' m' rest acc, Sub F1 F' ∧ MR K F' H' m' ∧ items.drop i = rest ∧ n = rest.length ∧ i ≤ items.length ∧ acc.length ≤ i ∧ I rest acc m', ⟨_, F1, _, items, [], .refl F1, M1.newL hD .nil, rfl, rfl, Nat.zero_le _, Nat.zero_le _, i0⟩, ?_⟩
  rintro i n H' ⟨F', m', rest, acc, s', M', hd, rfl, hle, hacc, hI⟩
  cases rest with
  | nil =>
    obtain ⟨k, hn⟩ := done acc m' hI
    have hl : items.length ≤ i := by simpa using hd
    obtain rfl : i = items.length := by omega
    exact .inl ⟨iok.stop F' H' m' s' M' k, q (.ref D) F' H' _ m' (s1.trans s') M' (.ref D) hn⟩
  | cons x rest =>
    obtain ⟨hx, hd2⟩ := drop_cons hd
    have hi1 := (List.getElem?_eq_some_iff.mp hx).1
    obtain ⟨k, hs⟩ := step x rest acc m' hI
    obtain ⟨g1, g2⟩ := iok.go i F' H' m' x s' M' k hx
    refine .inr ⟨g1, fun H2 => ∃ F2 m2 acc2, Sub F1 F2 ∧ MR K F2 H2 m2 ∧ acc2.length ≤ i + 1 ∧ I rest acc2 m2, fun H2 ⟨F2, m2, acc2, a1, a2, a3, a4⟩ => ⟨rest.length, by simp, F2, m2, rest, acc2, a1, a2, hd2, rfl, hi1, a3, a4⟩, fun v H'' hy => ?_⟩
    obtain ⟨F3, s3, M3, v3⟩ := g2 v H'' hy
    have s13 := s1.trans (s'.trans s3)
    refine hw v _ H'' _ _ (hg (wipe σ vs) F3 H'' (wipeD δ vs) m' SX v x _ (fun σ2 H2 => tt σ2 H2 fun b H3 =>
      if b = true then te σ2 H3 fun y H4 => ∃ acc, H4 D = some (.lst acc) ∧ acc.length < sizeLine ∧ ∃ F2 m2 acc2, Sub F1 F2 ∧ MR K F2 (upd H4 D (.lst (acc ++ [y]))) m2 ∧ acc2.length ≤ i + 1 ∧ I rest acc2 m2 else ∃ F2 m2 acc2, Sub F1 F2 ∧ MR K F2 H3 m2 ∧ acc2.length ≤ i + 1 ∧ I rest acc2 m2) ⟨(r.sr.sub s13).wipe vs, M3, r.ex.go s13⟩ v3 hs fun σ4 δ4 F4 H4 m4 s4 sr4 M4 h4 => ?_) (fun σ2 H2 q2 w2 => ⟨wipe_wipe w2, q2⟩)
    refine ht σ4 F4 H4 δ4 m4 SX _ _ ⟨sr4, M4, r.ex.go (s13.trans s4)⟩ h4 fun b F5 H5 m5 s5 M5 h5 => ?_
    rw [Br_eq] at h5
    have s15 := (s13.trans s4).trans s5
    have t15 := ((s'.trans s3).trans s4).trans s5
    split
    · next e =>
      rw [if_pos e] at h5
      refine he σ4 F5 H5 δ4 m5 SX _ _ ⟨sr4.sub s5, M5, r.ex.go s15⟩ h5 fun y F6 H6 sy m6 s6 M6 v6 h6 => ?_
      obtain ⟨e1, m7, l7, h6⟩ := h6
      obtain ⟨vs', e2, r2⟩ := M6.lst_ e1
      exact ⟨vs', e2, by rw [vrs_length r2]; omega, F6, _, _, t15.trans s6, (M6.setL e1 (vrs_append r2 (.cons v6 .nil))).drop l7, by rw [List.length_append]; simp; omega, h6⟩
    · next e =>
      rw [if_neg e] at h5
      obtain ⟨m7, l7, h5⟩ := h5
      exact ⟨F5, m7, acc, t15, M5.drop l7, by omega, h5⟩
theorem ge_lc (hc : X.calm = true) (hN : X.N.Nodup) (hi : GI K E X tg iter ti si) (ok : BlkOk X.N X.env.scope scope own)
    (hg : ∀ (s : Shared) (H : Hp) (C : Addr) (cl : List (Str × Addr)) (fp : List Addr), GG K E (X.blk s H scope (compEnvC scope cl C X.env) fp) tg g sg) (hw : WpG g (own.map (·.2))) (ht : ∀ (s : Shared) (H : Hp) (C : Addr) (cl : List (Str × Addr)) (fp : List Addr), GTs K E (X.blk s H scope (compEnvC scope cl C X.env) fp) ifs tt st)
    (he : ∀ (s : Shared) (H : Hp) (C : Addr) (cl : List (Str × Addr)) (fp : List Addr), GE K E (X.blk s H scope (compEnvC scope cl C X.env) fp) elt te se) (hs : ∀ x, foldedSetIterable iter X.env x = pure x := by intro _; rfl) :
    GE K E X (.ListComp elt [⟨tg, iter, ifs, 0⟩] scope pos) (tLc ti g tt te (own.map (·.2))) (sLc si sg st se (own.map (·.2))) :=
  ⟨pe_lc hc hN hi.pe ok (fun s H C cl fp => (hg s H C cl fp).pe) (fun s H C cl fp => (ht s H C cl fp).pe) (fun s H C cl fp => (he s H C cl fp).pe) hs,
    sim_lc hi.sim (hg X.s_0 X.H_0 0 [] []).sim hw (ht X.s_0 X.H_0 0 [] []).sim (he X.s_0 X.H_0 0 [] []).sim⟩
theorem gs_setLc {i : Nat} {y : Str} (hc : X.calm = true) (hN : X.N.Nodup) (hy : X.N[i]? = some y) (hyl : X.env.scope.names.lookup y = some .local)
    (hsw : swapsWith (.ListComp elt [⟨tg, iter, ifs, 0⟩] scope pos) (some (.Name y py)) spos.line X.env = pure true) (hi : GI K E X tg iter ti si) (ok : BlkOk X.N X.env.scope scope own)
    (hg : ∀ (s : Shared) (H : Hp) (C : Addr) (cl : List (Str × Addr)) (fp : List Addr), GG K E (X.blk s H scope (compEnvC scope cl C X.env) fp) tg g sg) (hw : WpG g (own.map (·.2))) (ht : ∀ (s : Shared) (H : Hp) (C : Addr) (cl : List (Str × Addr)) (fp : List Addr), GTs K E (X.blk s H scope (compEnvC scope cl C X.env) fp) ifs tt st)
    (he : ∀ (s : Shared) (H : Hp) (C : Addr) (cl : List (Str × Addr)) (fp : List Addr), GE K E (X.blk s H scope (compEnvC scope cl C X.env) fp) elt te se) (hs : ∀ x, foldedSetIterable iter X.env x = pure x := by intro _; rfl) :
    GS K E X (.Assign [.Name y py] (.ListComp elt [⟨tg, iter, ifs, 0⟩] scope pos) spos) (tAsg (tLc ti g tt te (own.map (·.2))) (gName i)) (sAsg (sLc si sg st se (own.map (·.2))) (hName i)) :=
  ⟨ps_setLc hc hN hy hyl hsw hi.pe ok (fun s H C cl fp => (hg s H C cl fp).pe) (fun s H C cl fp => (ht s H C cl fp).pe) (fun s H C cl fp => (he s H C cl fp).pe) hs,
    sim_asg (sim_lc hi.sim (hg X.s_0 X.H_0 0 [] []).sim hw (ht X.s_0 X.H_0 0 [] []).sim (he X.s_0 X.H_0 0 [] []).sim) fun σ F H δ m SX v sv S Q r rv h c => c _ _ F H m (.refl F) (r.sr.set rv) r.mr h⟩
end
/-! ### defs -/
abbrev SpS := List SV → Mem → SXK → (SV → Mem → Prop) → Prop
def lift (K : PySem.W.Frag) (sp : SpS) : Sp := fun vs H Q E => ∃ F svs m SX S, MR K F H m ∧ VRs K F vs svs ∧ sp svs m SX S ∧ ExOk K F E SX ∧ Cn K F S Q
def sCall (sp : SpS) (dvs : List SV) (a : SA) : SE := fun SX δ m S => a SX δ m fun vs m1 => sp (vs ++ dvs) m1 SX S
abbrev FnP (K : PySem.W.Frag) (x : Str) (st : Stmt) (f : Addr) (fd : FuncData) : Prop := FunD K x x (defArgs st) (defBody st) (defScope st) [] [] f fd
section
variable {K : PySem.W.Frag} {E : XK} {X : Cx} {CX : CXT} {k : Nat} {f C : Addr} {fd : FuncData} {ps : List Str} {sp : SpS} {dvs : List V} {svs : List SV} {ds : List Value} {x : Str} {p pos : Pos} {e : Expr} {es : List Expr} {t : TA} {s : SA}
theorem sim_call (hd : ∀ F, VRs K F dvs svs) (ha : SimA K E t s) : SimE K E (tCall (lift K sp) dvs E t) (sCall sp svs s) := fun σ F H δ m SX S Q r h c =>
  ha σ F H δ m SX _ _ r h fun vs F1 H1 sv m1 s1 M1 v1 h1 => ⟨F1, sv ++ svs, m1, SX, S, M1, vrs_append v1 (hd F1), h1, r.ex.go s1, c.go s1⟩
theorem ge_call (F : FnOk X.prog X.w X.K X.mg X.base CX k f fd ps (lift K sp)) (hr : Room k X.A) (hg : Gl X x) (hm : X.mg x = some (.ref f)) (hk : PySem.W.keepIn X.K (.ref f) = true) (hb : Binds X.K fd ps ds) (hd : Vals dvs ds) (hds : ∀ F, VRs K F dvs svs) (hx : Passes CX X E)
    (ha : GA K E X (e :: es) t s) (hdb : (x == ("__debug__" : Str)) = false := by decide) (he : starEach (e :: es) X.env = (false, eval e X.env) :: starEach es X.env := by rfl) (hpl : (backTo pos (starEach es X.env)).any (·.1) = false := by rfl) :
    GE K E X (.Call (.Name x p) (e :: es) [] pos) (tCall (lift K sp) dvs E t) (sCall sp svs s) := ⟨pe_call F hr hg hm hk hb hd hx ha.pe hdb he hpl, sim_call hds ha.sim⟩
end
section
variable {P : Program} {w : World} {K : PySem.W.Frag} {mg : Str → Option Value} {base : Heap}
theorem fn_sy {x : Str} {st : Stmt} {f : Addr} {fd : FuncData} {N ps : List Str} {k : Nat} {sp : SpS} {dvs : List V} {kws : List (Str × V)} (Fn : FunD K x x (defArgs st) (defBody st) (defScope st) dvs kws f fd) (S : FnScope N ps (defScope st)) (hl : ∀ svs m SX Sv, sp svs m SX Sv → svs.length = ps.length)
    (hev : ∀ (cdv : Value) (A : Around) (outer : List Env) (s : Shared) (H : Hp) (E : XK), Room k (A.deeper (envOfC x (defScope st) s.heap.objs.size f cdv)) → ∃ ts ss, GSs K E (cxOf CX0 P w K mg base N x (defScope st) f cdv A outer s H E).nox (defBody st) ts ss ∧
      ∀ svs m SX Sv, sp svs m SX Sv → ss (fun x => Fg (SX x)) { nx := fun _ m' => Fg (Sv .non) m', rt := fun v => Fg (Sv v) } (startD N.length svs) m) : FnOk P w K mg base CX0 (k + 1) f fd ps (lift K sp) := by
  refine FunD.ok Fn S (fun vs H Q E h => by
    obtain ⟨F, svs, m, SX, Sv, _, h2, h3, _⟩ := h
    rw [vrs_length h2]; exact hl _ _ _ _ h3) (fun cdv A outer s H vs Q E hr h => ?_)
  obtain ⟨F, svs, m, SX, Sv, M, r, hsp, hx, c⟩ := h
  obtain ⟨ts, ss, hder, hev⟩ := hev cdv A outer s H E hr
  refine ⟨ts, PSs.nox hder.pe, ?_⟩
  exact hder.sim _ F H _ m (fun x => Fg (SX x)) { nx := fun _ m' => Fg (Sv .non) m', rt := fun v => Fg (Sv v) } _ ⟨SR.start r, M, hx.fg⟩ (hev svs m SX Sv hsp) ⟨fun σ' δ' F' H' m' s' _ M' ⟨m2, l2, q⟩ => c .non F' H' .non m2 s' (M'.drop l2) .non q, fun v F' H' sv m' s' M' rv ⟨m2, l2, q⟩ => c v F' H' sv m2 s' (M'.drop l2) rv q, fun _ _ _ _ _ _ _ _ q => q.elim, fun _ _ _ _ _ _ _ _ q => q.elim⟩
theorem fn_syX {x : Str} {st : Stmt} {f : Addr} {fd : FuncData} {N ps : List Str} {k : Nat} {sp : SpS} {dvs : List V} {kws : List (Str × V)} (Fn : FunD K x x (defArgs st) (defBody st) (defScope st) dvs kws f fd) (S : FnScope N ps (defScope st)) (hl : ∀ svs m SX Sv, sp svs m SX Sv → svs.length = ps.length)
    (hev : ∀ (cdv : Value) (A : Around) (outer : List Env) (s : Shared) (H : Hp) (E : XK), Room k (A.deeper (envOfC x (defScope st) s.heap.objs.size f cdv)) → ∃ ts ss, GSs K E (cxOf (L2.CX P w) P w K mg base N x (defScope st) f cdv A outer s H E) (defBody st) ts ss ∧
      ∀ svs m SX Sv, sp svs m SX Sv → ss (fun x => Fg (SX x)) { nx := fun _ m' => Fg (Sv .non) m', rt := fun v => Fg (Sv v) } (startD N.length svs) m) : FnOk P w K mg base (L2.CX P w) (k + 1) f fd ps (lift K sp) := by
  refine FunD.ok Fn S (fun vs H Q E h => by
    obtain ⟨F, svs, m, SX, Sv, _, h2, h3, _⟩ := h
    rw [vrs_length h2]; exact hl _ _ _ _ h3) (fun cdv A outer s H vs Q E hr h => ?_)
  obtain ⟨F, svs, m, SX, Sv, M, r, hsp, hx, c⟩ := h
  obtain ⟨ts, ss, hder, hev⟩ := hev cdv A outer s H E hr
  refine ⟨ts, hder.pe, ?_⟩
  exact hder.sim _ F H _ m (fun x => Fg (SX x)) { nx := fun _ m' => Fg (Sv .non) m', rt := fun v => Fg (Sv v) } _ ⟨SR.start r, M, hx.fg⟩ (hev svs m SX Sv hsp) ⟨fun σ' δ' F' H' m' s' _ M' ⟨m2, l2, q⟩ => c .non F' H' .non m2 s' (M'.drop l2) .non q, fun v F' H' sv m' s' M' rv ⟨m2, l2, q⟩ => c v F' H' sv m2 s' (M'.drop l2) rv q, fun _ _ _ _ _ _ _ _ q => q.elim, fun _ _ _ _ _ _ _ _ q => q.elim⟩
theorem passE {N : List Str} {x : Str} {sc : Scope} {f : Addr} {cdv : Value} {A : Around} {outer : List Env} {s : Shared} {H : Hp} {E : XK} : Passes (L2.CX P w) (cxOf (L2.CX P w) P w K mg base N x sc f cdv A outer s H E) E :=
  passes_call (X := cxOf (L2.CX P w) P w K mg base N x sc f cdv A outer s H E) (takes_of rfl rfl rfl rfl) fun _ _ _ _ h => h
end
/-- raise of an own class without an __init__ -/
def sRaise (C : Addr) : SS := fun SX _ _ m => SX ⟨C, none⟩ m
theorem sim_raise {K : PySem.W.Frag} {E : XK} {C : Addr} : SimS K E (fun _ _ H => E (.ref C) none H) (sRaise C) := fun σ F H δ m SX D Es r h q => r.ex ⟨C, none⟩ none F H m (.refl F) r.mr rfl h
end Sy

set_option Elab.async false
set_option linter.all false
set_option maxRecDepth 100000
set_option maxHeartbeats 4000000
namespace Sy
open PySem PySem.Spec PyProof.Rows L2
section
variable {K : PySem.W.Frag} {E : XK} {X : Cx}
theorem gv (i : Nat) {x : Str} {pos : Pos} (hN : X.N[i]? = some x := by rfl) (hv : Vis X.env.scope x := by first | exact Or.inl rfl | exact Or.inr (Or.inl rfl) | exact Or.inr (Or.inr rfl)) (hd : (x == ("__debug__" : Str)) = false := by decide)
    (hcd : (x == ("__classdict__" : Str)) = false := by decide) : GE K E X (.Name x pos) (tVar i) (sVar i) := ge_var hN hv hd hcd
theorem gs_raise {C : Addr} {st : Stmt} (h : PS X st (fun _ _ H => E (.ref C) none H)) : GS K E X st (fun _ _ H => E (.ref C) none H) (sRaise C) := ⟨h, sim_raise⟩
end
theorem mt_indexG {X : Cx} (K : PySem.W.Frag) (hK : X.K = K := by rfl) : MtR X "list.index" (rIndex K) := by subst hK; exact mt_index
def sPopAt : SRM := fun x vs m S => match x, vs with
  | .ref a, [.int i] => ∃ xs k y, m a = some (.lst xs) ∧ -(2 ^ 63) ≤ i ∧ i < 2 ^ 63 ∧ seqIndex? i xs.length = some k ∧ xs[k]? = some y ∧ S y (up m a (.lst (xs.eraseIdx k)))
  | _, _ => False
theorem sim_popAt {K : PySem.W.Frag} : SimM K rPopAt sPopAt := fun F H m x xs a as S Q M r rs h c => by
  cases r with
  | ref p =>
    unfold sPopAt at h
    split at h
    · have e := SV.ref.inj (by assumption : SV.ref p = SV.ref _)
      subst e
      obtain ⟨ys, k, y, e1, h1, h2, h3, h4, q⟩ := h
      obtain ⟨v, rfl, rv⟩ := vrs_one rs
      obtain rfl := vr_int rv
      obtain ⟨vs, e2, r2⟩ := M.lst_ e1
      obtain ⟨w, hw, rw_⟩ := vrs_get r2 h4
      exact ⟨p, vs, _, k, w, rfl, rfl, e2, h1, h2, by rw [vrs_length r2]; exact h3, hw, c _ F _ _ _ (.refl F) (M.setL e1 (vrs_erase k r2)) rw_ q⟩
    · exact h.elim
  | _ => exact (show False from by unfold sPopAt at h; exact h).elim
/-- a cut behind a statement: J is what is known there -/
@[irreducible] def CutGo (z : SS) (SX : SXK) (D : SEnds) (δ : DS) (m : Mem) : Prop := ∃ J : DS → Mem → Prop, z SX { D with nx := fun δ' => Fg (J δ') } δ m ∧ ∀ δ' m', J δ' m' → D.nx δ' m'
def sCut (z : SS) : SS := fun SX D δ m => CutGo z SX D δ m
theorem cut_by {z : SS} {SX : SXK} {D : SEnds} {δ : DS} {m : Mem} (J : DS → Mem → Prop) (h1 : z SX { D with nx := fun δ' => Fg (J δ') } δ m) (h2 : ∀ δ' m', J δ' m' → D.nx δ' m') : CutGo z SX D δ m := by
  unfold CutGo
  exact ⟨J, h1, h2⟩
theorem gs_cut {K : PySem.W.Frag} {E : XK} {X : Cx} {st : Stmt} {t : TS} {z : SS} (h : GS K E X st t z) : GS K E X st t (sCut z) := ⟨h.pe, fun σ F H δ m SX D Es r hh q => by
  have hh : CutGo z SX D δ m := hh
  unfold CutGo at hh
  obtain ⟨J, h1, h2⟩ := hh
  exact h.sim σ F H δ m SX _ Es r h1 ⟨fun σ1 δ1 F1 H1 m1 s1 sr1 M1 ⟨m2, l2, j⟩ => q.nx σ1 δ1 F1 H1 m2 s1 sr1 (M1.drop l2) (h2 δ1 m2 j), q.rt, q.bk, q.ct⟩⟩
/-- a value of a kind that isinstance tells -/
def Dat (m : Mem) (x : SV) : Prop := ∃ t, tyS m x t
def isInt : SV → Bool
  | .int _ => true
  | _ => false
theorem tyS_int {m : Mem} {x : SV} {t : String} (h : tyS m x t) : (isB t "int" && !isB t "bool") = isInt x := by
  cases x <;> first
    | exact (show False from h).elim
    | (cases (show t = _ from h); rfl)
    | (obtain ⟨rfl, _⟩ := (show t = "list" ∧ _ from h); rfl)
mutual
inductive DD (m : Mem) : SV → Prop
  | non : DD m .non
  | bl (b : Bool) : DD m (.bl b)
  | int (i : Int) : DD m (.int i)
  | str (x : Str) : DD m (.str x)
  | tup {xs : List SV} : DDs m xs → DD m (.tup xs)
  | lst {xs : List SV} : DD m (.lst xs)
  | ref {a : Addr} {xs : List SV} : m a = some (.lst xs) → DD m (.ref a)
inductive DDs (m : Mem) : List SV → Prop
  | nil : DDs m []
  | cons {x : SV} {xs : List SV} : DD m x → DDs m xs → DDs m (x :: xs)
end
theorem DD.dat {m : Mem} {x : SV} (h : DD m x) : Dat m x := by
  cases h with
  | non => exact ⟨_, rfl⟩
  | bl => exact ⟨_, rfl⟩
  | int => exact ⟨_, rfl⟩
  | str => exact ⟨_, rfl⟩
  | tup => exact ⟨_, rfl⟩
  | lst => exact ⟨_, rfl⟩
  | ref e => exact ⟨_, rfl, _, e⟩
theorem DDs.mem {m : Mem} : ∀ {xs : List SV} {x : SV}, DDs m xs → x ∈ xs → DD m x
  | _, _, .cons a b, h => by
    rcases List.mem_cons.mp h with rfl | h
    · exact a
    · exact b.mem h
theorem DDs.of {m : Mem} : ∀ {xs : List SV}, (∀ x ∈ xs, DD m x) → DDs m xs
  | [], _ => .nil
  | _ :: _, h => .cons (h _ List.mem_cons_self) (.of fun x hx => h x (List.mem_cons_of_mem _ hx))
theorem Br_true {A B : Prop} : Br true A B = A := by rw [Br_eq]; simp
theorem Br_false {A B : Prop} : Br false A B = B := by rw [Br_eq]; simp
section
variable {keep : Mem → Prop} {g : SG} {b : SS} {SX : SXK} {D : SEnds} {items : List SV} {δ : DS} {m : Mem} {p : Addr} {tt : STt} {te : SE} {vs : List Nat} {S : SV → Mem → Prop} {c : STt}
theorem for_inv (I : List SV → DS → Mem → Prop) (h0 : I items δ m) (step : ∀ x r δ m, I (x :: r) δ m → keep m ∧ g SX x δ m fun δ1 m1 => b SX { D with nx := fun δ' => Fg (I r δ'), ct := fun δ' => Fg (I r δ'), bk := D.nx } δ1 m1) (done : ∀ δ m, I [] δ m → keep m ∧ D.nx δ m) : ForGo keep g b SX D items δ m := by
  unfold ForGo
  exact ⟨I, h0, step, done⟩
/-- a loop turn by turn -/
def forRun (keep : Mem → Prop) (g : SG) (b : SS) (SX : SXK) (D : SEnds) : List SV → DS → Mem → Prop
  | [], δ, m => keep m ∧ D.nx δ m
  | x :: r, δ, m => keep m ∧ g SX x δ m fun δ1 m1 => b SX { D with nx := fun δ' => Fg (forRun keep g b SX D r δ'), ct := fun δ' => Fg (forRun keep g b SX D r δ'), bk := D.nx } δ1 m1
theorem for_run (h : forRun keep g b SX D items δ m) : ForGo keep g b SX D items δ m :=
  for_inv (forRun keep g b SX D) h (fun x r δ m h => h) fun δ m h => h
theorem while_inv (W : Nat → DS → Mem → Prop) (n : Nat) (h0 : W n δ m) (step : ∀ n δ m, W n δ m → c SX δ m fun t m1 => Br t (b SX { D with nx := fun δ' m' => ∃ n', n' < n ∧ Fg (W n' δ') m', ct := fun δ' m' => ∃ n', n' < n ∧ Fg (W n' δ') m', bk := D.nx } δ m1) (D.nx δ m1)) : WhileGo c b SX D δ m := by
  unfold WhileGo
  exact ⟨W, ⟨n, h0⟩, step⟩
theorem lc_inv (I : List SV → List SV → Mem → Prop) (h0 : I items [] (up m p (.lst []))) (step : ∀ x r acc m, I (x :: r) acc m → keep m ∧ g SX x (wipeD δ vs) m fun δ1 m1 => tt SX δ1 m1 fun b m2 => Br b (te SX δ1 m2 fun y m3 => m3 p = some (.lst acc) ∧ Fg (I r (acc ++ [y])) (up m3 p (.lst (acc ++ [y])))) (Fg (I r acc) m2))
    (done : ∀ acc m, I [] acc m → keep m ∧ S (.ref p) m) : LcGo p keep g tt te vs SX δ items m S := by
  unfold LcGo
  exact ⟨I, h0, step, done⟩
/-- the memory stays (but for what is made and forgotten), the items by a test and a function -/
theorem lc_filt (pr : SV → Bool) (f : SV → SV) (hk : ∀ acc, keep (up m p (.lst acc)))
    (step : ∀ x ∈ items, ∀ acc (K1 : SV → Mem → Prop) (K0 : Mem → Prop), (∀ m', Le (up m p (.lst acc)) m' → pr x = true → K1 (f x) m') → (∀ m', Le (up m p (.lst acc)) m' → pr x = false → K0 m') → g SX x (wipeD δ vs) (up m p (.lst acc)) fun δ1 m1 => tt SX δ1 m1 fun b m2 => Br b (te SX δ1 m2 K1) (K0 m2))
    (done : S (.ref p) (up m p (.lst ((items.filter pr).map f)))) : LcGo p keep g tt te vs SX δ items m S := by
  refine lc_inv (fun r acc m' => m' = up m p (.lst acc) ∧ ∃ pre, pre ++ r = items ∧ acc = (pre.filter pr).map f) ⟨rfl, [], rfl, rfl⟩ (fun x r acc m' h => ?_) (fun acc m' h => ?_)
  · obtain ⟨rfl, pre, e, ha⟩ := h
    refine ⟨hk _, step x (by rw [← e]; simp) acc _ _ (fun m' l q => ⟨l _ _ up_same, _, (by rw [← up_up (m := m)]; exact Le.put l), rfl, pre ++ [x], by rw [← e]; simp, by rw [ha, List.filter_append, List.map_append]; simp [q]⟩) (fun m' l q => ⟨_, l, rfl, pre ++ [x], by rw [← e]; simp, by rw [ha, List.filter_append, List.map_append]; simp [q]⟩)⟩
  · obtain ⟨rfl, pre, e, ha⟩ := h
    rw [List.append_nil] at e
    subst e
    exact ⟨hk _, by rw [ha]; exact done⟩
theorem filter_yes {α : Type} (xs : List α) : xs.filter (fun _ => true) = xs := by simp
theorem lc_map (f : SV → SV) (hk : ∀ acc, keep (up m p (.lst acc)))
    (step : ∀ x ∈ items, ∀ acc (K1 : SV → Mem → Prop), (∀ m', Le (up m p (.lst acc)) m' → K1 (f x) m') → g SX x (wipeD δ vs) (up m p (.lst acc)) fun δ1 m1 => te SX δ1 m1 K1)
    (done : S (.ref p) (up m p (.lst (items.map f)))) : LcGo p keep g sYes te vs SX δ items m S := by
  refine lc_filt (fun _ => true) f hk (fun x hx acc K1 K0 h1 _ => ?_) (by rw [filter_yes]; exact done)
  have e : (fun δ1 m1 => sYes SX δ1 m1 fun b m2 => Br b (te SX δ1 m2 K1) (K0 m2)) = fun δ1 m1 => te SX δ1 m1 K1 := by
    funext δ1 m1
    exact Br_true
  rw [e]
  exact step x hx acc K1 fun m' l => h1 m' l rfl
theorem DDs.le {a m : Mem} (l : Le a m) : ∀ {xs : List SV}, DDs a xs → DDs m xs := by
  intro xs
  exact fun h => DDs.rec (motive_1 := fun x _ => DD m x) (motive_2 := fun xs _ => DDs m xs) .non .bl .int .str (fun _ ih => .tup ih) .lst (fun e => .ref (l _ _ e)) .nil (fun _ _ a b => .cons a b) h
theorem DD.le {a m : Mem} (l : Le a m) {x : SV} (h : DD a x) : DD m x := by
  cases h with
  | non => exact .non
  | bl b => exact .bl b
  | int i => exact .int i
  | str z => exact .str z
  | tup h => exact .tup (h.le l)
  | lst => exact .lst
  | ref e => exact .ref (l _ _ e)
end
end Sy

set_option Elab.async false
set_option linter.all false
set_option maxRecDepth 100000
set_option maxHeartbeats 4000000
/-! Lambdas kept in lists, called two defs further down; the error that such a call lets out. -/
namespace Sy
open PySem PySem.Spec PyProof.Rows L2 LamX NdefX Lm
/-- lambda: made -/
def sLam (P : Addr) (nm : Nat → Nat → Str) (mk : Addr → NF) (e : Expr) (d : Option Int) : SE := fun _ _ m S => m P = some (.tab nm) ∧ ∀ f, m f = none → S (.ref f) (up m f (.lam mk e d))
section
variable {K : PySem.W.Frag} {E : XK} {X : Cx}
theorem sim_lam0 {P : Addr} {nm : Nat → Nat → Str} {mk : Addr → NF} {e : Expr} (hc : ∀ c, (mk c).c = c) : SimE K E (tLam0 P nm mk e) (sLam P nm mk e none) := fun σ F H δ m SX S Q r h c => by
  obtain ⟨hP, h⟩ := h
  have M := r.mr
  refine ⟨(M.at_ P _ hP).2, fun f c' H1 k0 k1 T1 f0 f1 c1 nw => ?_⟩
  have M1 := M.table hP k0 T1
  have n1 : MOR K F H1 (up m f (.lam mk e none)) f (.lam mk e none) := ⟨c', _, f1, by rw [hc c']; exact c1, hc c', rfl⟩
  exact c (.ref f) F H1 (.ref f) _ (.refl F) (M1.adopt (M.gone f0) (M.sub.gone f0) (fun x z => by rw [f1] at z; cases z) n1) (.ref f) (h f (M.gone f0))
theorem sim_lam1 {P : Addr} {nm : Nat → Nat → Str} {mk : Addr → NF} {e : Expr} {i : Int} (hc : ∀ c, (mk c).c = c) : SimE K E (tLam1 P nm mk e i) (sLam P nm mk e (some i)) := fun σ F H δ m SX S Q r h c => by
  obtain ⟨hP, h⟩ := h
  have M := r.mr
  refine ⟨(M.at_ P _ hP).2, fun f c' T H1 k0 k1 T1 f0 T0 T2 f1 c1 nw => ?_⟩
  have M1 := M.table hP k0 T1
  have n1 : MOR K F H1 (up m f (.lam mk e (some i))) f (.lam mk e (some i)) := ⟨c', _, f1, by rw [hc c']; exact c1, hc c', T, rfl, T2⟩
  exact c (.ref f) F H1 (.ref f) _ (.refl F) (M1.adopt (M.gone f0) (M.sub.gone f0) (fun x z => by rw [f1] at z; cases z) n1) (.ref f) (h f (M.gone f0))
theorem ge_lam0 {nm : Nat → Nat → Str} {c P : Addr} {params : Arguments} {body : Expr} {scope : Scope} {pos : Pos} (TB : TabB X.base X.mg c P) (hcode : X.env.code = .ref c) (hn : nm pos.line pos.col = X.env.qual ++ "<lambda>")
    (hfree : ∀ y ∈ scope.names, y.2 = .free → X.env.scope.names.lookup y.1 = some .cell ∨ X.env.scope.names.lookup y.1 = some .free) (hdef : defaultsOf params X.env = ([], [])) : GE K E X (.Lambda params body scope pos) (tLam0 P nm (NF.lam X params scope) body) (sLam P nm (NF.lam X params scope) body none) :=
  ⟨pe_lam0 TB hcode hn hfree hdef, sim_lam0 fun _ => rfl⟩
theorem ge_lam1 {nm : Nat → Nat → Str} {c P : Addr} {params : Arguments} {body : Expr} {scope : Scope} {pos p1 : Pos} {i : Int} {j : Nat} (TB : TabB X.base X.mg c P) (hcode : X.env.code = .ref c) (hn : nm pos.line pos.col = X.env.qual ++ "<lambda>")
    (hfree : ∀ y ∈ scope.names, y.2 = .free → X.env.scope.names.lookup y.1 = some .cell ∨ X.env.scope.names.lookup y.1 = some .free) (hd : params.defaults = [.Constant (.int i) j p1]) (hk : params.kw_defaults = []) : GE K E X (.Lambda params body scope pos) (tLam1 P nm (NF.lam X params scope) body i) (sLam P nm (NF.lam X params scope) body (some i)) :=
  ⟨pe_lam1 TB hcode hn hfree hd hk, sim_lam1 fun _ => rfl⟩
end
/-! ### cells under the ground for the time of a call -/
structure CellsB (base : Heap) (cl : List (Str × Addr)) (fr : List Str) (ws : List (Option V)) : Prop where
  len : ws.length = fr.length
  all : ∀ y c, cl.lookup y = some c → ∃ v, base.IsCell c v
  inj : ∀ x y c, cl.lookup x = some c → cl.lookup y = some c → x = y
  has : ∀ (i : Nat) (y : Str), fr[i]? = some y → ∃ c, cl.lookup y = some c ∧ ∀ v, ws[i]? = some (some v) → ∃ u, L2.RelV v u ∧ base.IsCell c (some u)
theorem CellsB.at {base : Heap} {cl : List (Str × Addr)} {fr : List Str} {ws : List (Option V)} (C : CellsB base cl fr ws) {h : Heap} {H : Hp} (bs : ∀ b o, base.get? b = some o → h.get? b = some o ∧ H b = none) : CellsAt cl fr ws h H := by
  have up : ∀ {c : Addr} {v : Option Value}, base.IsCell c v → h.IsCell c v ∧ H c = none := fun ⟨o, e, d⟩ => ⟨⟨o, (bs _ _ e).1, d⟩, (bs _ _ e).2⟩
  refine ⟨C.len, fun y c e => ?_, C.inj, fun i y e => ?_⟩
  · obtain ⟨v, z⟩ := C.all y c e
    exact ⟨(up z).2, v, (up z).1⟩
  · obtain ⟨c, hc, hv⟩ := C.has i y e
    refine ⟨c, hc, fun v hw => ?_⟩
    obtain ⟨u, r, z⟩ := hv v hw
    exact ⟨u, r, (up z).1⟩
/-- some objects of a heap, no other -/
theorem part (h : Heap) (p : Addr → Bool) : ∃ G : Heap, (∀ b o, h.get? b = some o → p b = true → G.get? b = some o) ∧ (∀ b o, G.get? b = some o → h.get? b = some o ∧ p b = true) ∧ G.objs.size = h.objs.size := by
  have hm : ∀ b, b ∈ (List.range h.objs.size).filter (fun b => !p b) ↔ b < h.objs.size ∧ p b = false := fun b => by
    rw [List.mem_filter, List.mem_range]
    simp
  refine ⟨PySem.W.hideAll h ((List.range h.objs.size).filter fun b => !p b), fun b o e hp => PySem.W.hideAll_get _ e fun z => ?_, fun b o e => ?_, PySem.W.hideAll_size _ _⟩
  · have q := ((hm b).mp z).2
    rw [hp] at q
    cases q
  · have e2 := PySem.W.of_hideAll _ e
    refine ⟨e2, ?_⟩
    cases q : p b with
    | true => rfl
    | false =>
      have n := PySem.W.hideAll_none (h := h) _ ((hm b).mpr ⟨Heap.lt_size e2, q⟩)
      rw [e] at n
      cases n
theorem frames_up {h base base' : Heap} : ∀ {l : List Env}, h.FunFrames base l → (∀ L ∈ frs l, base'.get? L = none) → h.FunFrames base' l
  | [], _, _ => trivial
  | env :: r, ⟨hk, ⟨L, o, hf, _, ho, hd⟩, hr⟩, q => by
    have hm : L ∈ frs (env :: r) := List.mem_filterMap.mpr ⟨env, List.mem_cons_self, hf⟩
    refine ⟨hk, ⟨L, o, hf, q L hm, ho, hd⟩, frames_up hr fun L2 h2 => q L2 ?_⟩
    obtain ⟨e2, m2, f2⟩ := List.mem_filterMap.mp h2
    exact List.mem_filterMap.mpr ⟨e2, List.mem_cons_of_mem _ m2, f2⟩
section
variable {X : Cx} {pins : List (Addr × Obj)} {σ : L2.St} {H : Hp} {s : Shared}
theorem base_up (I : Inv X pins σ H s) (hfn : ∀ x, X.fn x = true) (hst : X.stack = X.env :: X.outer) (hfr : X.env.frame = some X.env.locals) :
    ∃ base', Env0 X.prog X.w X.K X.mg base' X.A X.stack s H ∧ ∀ cl fr js, Caps X cl fr js → CellsB base' cl fr (js.map (slotAt σ)) := by
  obtain ⟨G, g1, g2, g3⟩ := part s.heap fun b => (X.base.get? b).isSome || X.env.cells.any fun q => decide (X.env.cells.lookup q.1 = some b)
  have up : ∀ b o, X.base.get? b = some o → G.get? b = some o := fun b o e => g1 b o (I.bk b o e) (by rw [e]; rfl)
  have cellHere : ∀ (y : Str) (c : Addr), X.env.cells.lookup y = some c → ∀ v, s.heap.IsCell c v → G.IsCell c v := fun y c e v ⟨o, ho, hd⟩ => ⟨o, g1 c o ho (by
    rw [Bool.or_eq_true]
    exact .inr (List.any_eq_true.mpr ⟨(y, c), PySem.mem_of_lookup e, decide_eq_true e⟩)), hd⟩
  have known : ∀ b o, G.get? b = some o → (∃ o', X.base.get? b = some o') ∨ ∃ y, X.env.cells.lookup y = some b := fun b o e => by
    have hp := (g2 b o e).2
    rw [Bool.or_eq_true] at hp
    rcases hp with hp | hp
    · exact .inl (Option.isSome_iff_exists.mp hp)
    · obtain ⟨q, _, hq⟩ := List.any_eq_true.mp hp
      exact .inr ⟨q.1, of_decide_eq_true hq⟩
  have M := I.mod
  obtain ⟨mb, hb1, hb2⟩ := M.blt
  refine ⟨G, ⟨I.ok.frames, ⟨M.kin.keeps up, M.glob.keeps up, ⟨mb, hb1.keeps up, hb2⟩, M.nolimit.keeps up⟩, fun b o e => ⟨(g2 b o e).1, ?_⟩, by rw [g3]; exact Nat.le_refl _, frames_up I.stack (fun L hL => ?_), I.stkFree, I.hok, I.bare⟩, fun cl fr js cp => ?_⟩
  · rcases known b o e with ⟨o', e'⟩ | ⟨y, e'⟩
    · exact (I.bs b o' e').2
    · exact I.freeC y b e'
  · cases q : G.get? L with
    | none => rfl
    | some o =>
      exfalso
      rcases known L o q with ⟨o', e'⟩ | ⟨y, e'⟩
      · have z := (I.stack.mem hL).1
        rw [e'] at z
        cases z
      · rw [hst] at hL
        obtain ⟨env, hm, hf⟩ := List.mem_filterMap.mp hL
        rcases List.mem_cons.mp hm with rfl | hm
        · rw [hfr] at hf
          cases hf
          obtain ⟨v, o1, h1, d1⟩ := I.cell y _ e'
          obtain ⟨m, ⟨o2, es, ep, h2, d2, _⟩, _⟩ := I.loc
          rw [h1] at h2
          cases h2
          rw [d1] at d2
          cases d2
        · have hL2 : L ∈ frs X.outer := List.mem_filterMap.mpr ⟨env, hm, hf⟩
          obtain ⟨_, o3, h3, _⟩ := I.ok.funs.mem hL2
          exact absurd (I.ok.cab y L (hfn y) e') (Nat.not_le.mpr (Heap.lt_size h3))
  · have C := cells_of I cp
    refine ⟨C.len, fun y c e => ?_, C.inj, fun i y e => ?_⟩
    · obtain ⟨_, v, z⟩ := C.all y c e
      exact ⟨v, cellHere y c (cp.sub y c e) v z⟩
    · obtain ⟨c, hc, hv⟩ := C.has i y e
      refine ⟨c, hc, fun v hw => ?_⟩
      obtain ⟨u, r, z⟩ := hv v hw
      exact ⟨u, r, cellHere y c (cp.sub y c hc) _ z⟩
/-- f(..), what is called may rest on the frame's cells -/
def tCallB (X : Cx) (sp : Heap → Sp) (t : TA) : TE := fun σ H Q => t σ H fun vs H1 => ∀ base', X.Ok → (∀ cl fr js, Caps X cl fr js → CellsB base' cl fr (js.map (slotAt σ))) → sp base' vs H1 Q E0
theorem pe_callBase {x : Str} {f : Addr} {fd : FuncData} {ps : List Str} {k : Nat} {sp : Heap → Sp} {e : Expr} {es : List Expr} {t : TA} {p pos : Pos} (F : ∀ base', FnOk X.prog X.w X.K X.mg base' CX0 k f fd ps (sp base')) (hr : Room k X.A) (hg : Gl X x) (hm : X.mg x = some (.ref f)) (hk : PySem.W.keepIn X.K (.ref f) = true) (hb : Binds X.K fd ps [])
    (ha : PA X (e :: es) t) (hfn : ∀ x, X.fn x = true) (hst : X.stack = X.env :: X.outer) (hfr : X.env.frame = some X.env.locals) (hdb : (x == ("__debug__" : Str)) = false := by decide) (he : starEach (e :: es) X.env = (false, eval e X.env) :: starEach es X.env := by rfl) (hpl : (backTo pos (starEach es X.env)).any (·.1) = false := by rfl) :
    PE X (.Call (.Name x p) (e :: es) [] pos) (tCallB X sp t) := by
  refine ⟨fun pins s σ H Q I h => ?_⟩
  refine wpAny_Call_Name_kw (ld_glob I hg hm ?_ hdb)
  refine PySem.W.callWith_K (h₀ := X.base) I.ok.mod.kin hk (thn (ha.run pos pins s σ H _ I h) fun us s1 ⟨vs, H1, I1, r, q⟩ => ⟨I1.kIn, ?_⟩) he hpl
  obtain ⟨G, e0, hC⟩ := base_up I1 hfn hst hfr
  have hsp := q G I1.ok hC
  have hl : us.length = ps.length := by rw [← r.length]; exact (F G).len _ _ _ _ hsp
  have hbd : BindsTo s1 fd ⟨us, []⟩ (ps.zip us) := by
    have z := hb s1 us I1.kIn (by rw [List.append_nil]; exact hl)
    rw [List.append_nil] at z
    exact z
  show wpAny _ _ (call (.ref f) us) _ _ _
  refine wpAny_call (codeAny_mono ((F G).run X.A X.stack s1 H1 ⟨us, []⟩ us vs Q E0 hr e0 hbd r hsp) fun r s' hq => ?_)
  cases r with
  | error e => exact (show False from hq).elim
  | ok fl =>
    cases fl with
    | ret u => exact I1.after hq
    | next => exact False.elim hq
    | brk => exact False.elim hq
    | cont => exact False.elim hq
end

/-- a callable at f, called without arguments: what is asked is φ -/
abbrev Phi := Mem → SXK → (SV → Mem → Prop) → Prop
def ActC (P : Program) (w : World) (K : PySem.W.Frag) (mg : Str → Option Value) (base : Heap) (k : Nat) (f : Addr) (φ : Phi) : Hp → Hp → Prop := fun F H => (∃ N e dV, H f = some (LamO f N e dV)) ∧
  ∀ (A : Around) (outer : List Env) (s : Shared) (m : Mem) (Q : VK) (E : XK) (SX : SXK) (S : SV → Mem → Prop), Room k A → Env0 P w K mg base A outer s H → MR K F H m → φ m SX S → ExOk K F E SX → Cn K F S Q →
    codeAny (model P w) A (.call (.ref f) ⟨[], []⟩) (CR (L2.CX P w) outer P w H s Q E) s
/-- the reading of work() -/
def tWork (P : Program) (w : World) (K : PySem.W.Frag) (mg : Str → Option Value) (base : Heap) (k i : Nat) (W : WX) : TE := fun σ H Q => ∃ (F : Hp) (f : Addr) (φ : Phi) (m : Mem) (SX : SXK) (S : SV → Mem → Prop), σ[i]? = some (some (.ref f)) ∧ MR K F H m ∧ m f = some (.pred (ActC P w K mg base k f φ)) ∧ φ m SX S ∧ ExOk K F (fun cls d H' => W cls d σ H') SX ∧ Cn K F S Q
section
variable {X : Cx}
theorem pe_work {k j i : Nat} {a : Str} {W : WX} {p1 p2 : Pos} (tk : Takes X W) (hr : Room j X.A) (hk : k ≤ j) (hN : X.N[i]? = some a) (hv : Vis X.env.scope a)
    (hd : (a == ("__debug__" : Str)) = false := by decide) (hcd : (a == ("__classdict__" : Str)) = false := by decide) : PE X (.Call (.Name a p1) [] [] p2) (tWork X.prog X.w X.K X.mg X.base k i W) := by
  refine ⟨fun pins s σ H Q I h => ?_⟩
  obtain ⟨F, f, φ, m, SX, S, hs, M, hm, hφ, hE, cQ⟩ := h
  refine wpAny_Call_Name_kw (thn ((pe_var (pos := p1) (i := i) hN hv hd hcd).run pins s σ H (fun v H1 => v = .ref f ∧ H1 = H) I ⟨.ref f, hs, rfl, rfl⟩) fun u s1 ⟨v, H1, I1, r1, q1⟩ => ?_)
  obtain ⟨ev, eH⟩ := q1
  subst ev
  rw [eH] at I1
  obtain rfl : u = Value.ref f := r1
  obtain ⟨fn, act⟩ := (M.at_ f _ hm).2.2 F H (.refl F) fun b u e _ => e
  have fa : PySem.W.FnAt f s1.heap := by
    obtain ⟨N, e, dV, hf⟩ := fn
    obtain ⟨od, sl, doc, pm, ctv, ho⟩ := lamO_at I1.hok hf
    exact ⟨_, od, _, sl, ho⟩
  refine PySem.W.callWith_F0 (first := []) fa ?_
  show wpAny _ _ (call (.ref f) []) _ _ _
  refine wpAny_call (codeAny_mono (act X.A X.stack s1 m Q (fun cls d H' => W cls d σ H') SX S (hr.mono hk) I1.env0 M hφ hE cQ) fun r s' hq => ?_)
  cases r with
  | error e => exact tk e s' (XE.of_call I1 (fun cls d H' z => z) hq)
  | ok fl =>
    cases fl with
    | ret u => exact I1.after hq
    | next => exact False.elim hq
    | brk => exact False.elim hq
    | cont => exact False.elim hq
end
/-! ### what a lambda does -/
def startFD (n : Nat) (vs : List SV) (ws : List (Option SV)) : DS := vs.map some ++ (ws ++ List.replicate (n - vs.length - ws.length) none)
/-- the cells' values -/
def WR (K : PySem.W.Frag) (F : Hp) (ws : List (Option V)) (ds : List (Option SV)) : Prop := ws.length = ds.length ∧ ∀ (i : Nat) d, ds[i]? = some (some d) → ∃ v, ws[i]? = some (some v) ∧ VR K F v d
theorem sr_startF {K : PySem.W.Frag} {F : Hp} {N : List Str} {vs : List V} {svs : List SV} {ws : List (Option V)} {ds : List (Option SV)} (h : VRs K F vs svs) (hw : WR K F ws ds) : SR K F (startF N vs ws) (startFD N.length svs ds) := by
  have l1 := vrs_length h
  have l2 := hw.1
  unfold startF startFD
  refine ⟨by simp [l1, l2], fun i d e => ?_⟩
  by_cases h1 : i < svs.length
  · rw [List.getElem?_append_left (by rw [List.length_map]; exact h1), List.getElem?_map] at e
    obtain ⟨d', h3, h4⟩ := Option.map_eq_some_iff.mp e
    cases h4
    obtain ⟨v, h5, h6⟩ := vrs_get h h3
    exact ⟨v, by rw [List.getElem?_append_left (by rw [List.length_map, l1]; exact h1), List.getElem?_map, h5]; rfl, h6⟩
  · rw [List.getElem?_append_right (by rw [List.length_map]; omega), List.length_map] at e
    rw [List.getElem?_append_right (by rw [List.length_map]; omega), List.length_map, l1]
    by_cases h2 : i - svs.length < ds.length
    · rw [List.getElem?_append_left h2] at e
      obtain ⟨v, h5, h6⟩ := hw.2 _ d e
      exact ⟨v, by rw [List.getElem?_append_left (by omega)]; exact h5, h6⟩
    · rw [List.getElem?_append_right (by omega), List.getElem?_replicate] at e
      split at e <;> cases e
section
variable {P : Program} {w : World} {K : PySem.W.Frag} {mg : Str → Option Value} {base : Heap} {k : Nat} {f c : Addr} {mk : Addr → NF} {e : Expr} {N ps fr : List Str} {φ : Phi} {ds : List (Option SV)} {ws : List (Option V)} {F H : Hp}
theorem act_core {dV : Value} {vs : List V} {svs : List SV} {F0 : NF} (S : NScope N ps fr F0.scope) (hlen : vs.length = ps.length) (hvs : ∀ F, VRs K F vs svs) (Z : Hp → Prop)
    (hb : ∀ (doc pm ctv : Value) (s : Shared) (H : Hp), HOk P w H s.heap → Z H → ∃ us, Vals vs us ∧ BindsTo s (lfd F0 e dV doc pm ctv) ⟨[], []⟩ (ps.zip us)) (CB : CellsB base F0.cl fr ws) (hw : WR K F ws ds)
    (hf : H f = some (LamO f F0 e dV)) (hc : H F0.c = some (CodeO F0.c F0.qual)) (hZ : Z H)
    (hbody : ∀ (A : Around) (outer : List Env) (s : Shared) (H : Hp) (E : XK), Room k (A.deeper (envF F0 f s.heap.objs.size)) → ∃ tb sb, GE K E (ncx (L2.CX P w) P w K mg base N F0 f A outer s H E) e tb sb ∧ ∀ m SX Sv, φ m SX Sv → sb (fun x => Fg (SX x)) (startFD N.length svs ds) m (fun v => Fg (Sv v))) :
    ActC P w K mg base (k + 1) f φ F H := by
  refine ⟨⟨_, _, _, hf⟩, fun A outer s m Q E SX Sv hr e0 M hφ hE cQ => ?_⟩
  refine lok_of (CX := L2.CX P w) (k := k) (vs := vs) (ws := ws) (Z := Z) (sp := fun H' Q' E' => H' = H ∧ Q' = Q ∧ E' = E) S hlen hb (fun A outer s H' Q' E' hr ⟨e1, e2, e3⟩ => ?_) A outer s H Q E hr e0 hf hc hZ (CB.at e0.bs) ⟨rfl, rfl, rfl⟩
  subst e1 e2 e3
  obtain ⟨tb, sb, hder, hq⟩ := hbody A outer s _ _ hr
  refine ⟨tb, hder.pe, ?_⟩
  exact hder.sim _ F _ _ m (fun x => Fg (SX x)) (fun v => Fg (Sv v)) _ ⟨sr_startF (hvs F) hw, M, hE.fg⟩ (hq m SX Sv hφ) fun v F' H' sv m' s' M' rv ⟨m2, l2, q⟩ => cQ v F' H' sv m2 s' (M'.drop l2) rv q
end
/-! ### a call while the frame's cells lie under the ground -/
section
variable {X : Cx}
/-- what the new ground knows -/
def Grd (X : Cx) (base' : Heap) (σ : L2.St) : Prop := X.Ok ∧ ∀ cl fr js, Caps X cl fr js → CellsB base' cl fr (js.map (slotAt σ))
/-- a lambda of this frame does φ -/
def Beh (P : Program) (w : World) (K : PySem.W.Frag) (mg : Str → Option Value) (X : Cx) (k : Nat) (base' : Heap) (δ : DS) (mk : Addr → NF) (e : Expr) (d : Option Int) (φ : Phi) : Prop :=
  ∀ (σ : L2.St) (F H : Hp) (f c : Addr) (dV : Value), SR K F σ δ → Grd X base' σ → H f = some (LamO f (mk c) e dV) → H c = some (CodeO (mk c).c (mk c).qual) → (mk c).c = c → (match d with | none => dV = .none | some i => ∃ T, dV = .ref T ∧ H T = some (.tup [.int i])) → ActC P w K mg base' k f φ F H
inductive Conv (P : Program) (w : World) (K : PySem.W.Frag) (mg : Str → Option Value) (X : Cx) (k : Nat) (base' : Heap) (δ : DS) : Mem → Mem → Prop
  | refl (m : Mem) : Conv P w K mg X k base' δ m m
  | step {m m' : Mem} {f : Addr} {mk : Addr → NF} {e : Expr} {d : Option Int} (φ : Phi) : m f = some (.lam mk e d) → Beh P w K mg X k base' δ mk e d φ → Conv P w K mg X k base' δ (up m f (.pred (ActC P w K mg base' k f φ))) m' → Conv P w K mg X k base' δ m m'
theorem conv_ok {P : Program} {w : World} {K : PySem.W.Frag} {mg : Str → Option Value} {k : Nat} {base' : Heap} {δ : DS} {m m' : Mem} {σ : L2.St} {F H : Hp} (h : Conv P w K mg X k base' δ m m') (g : Grd X base' σ) (sr : SR K F σ δ) (M : MR K F H m) : MR K F H m' := by
  induction h with
  | refl => exact M
  | step φ hm hb _ ih =>
    refine ih ?_
    obtain ⟨c, dV, h1, h2, h3, h4⟩ := (M.at_ _ _ hm).2
    rename_i m0 m1 f mk e d _
    have hfF : F f = none := (M.at_ f _ hm).1
    have n1 : MOR K F H (up m0 f (.pred (ActC P w K mg base' k f φ))) f (.pred (ActC P w K mg base' k f φ)) := by
      refine ⟨⟨_, h1, trivial⟩, fun F' H' sF kH => hb σ F' H' f c dV (sr.sub sF) g (kH _ _ h1 trivial) (kH _ _ h2 trivial) h3 ?_⟩
      cases d with
      | none => exact h4
      | some i =>
        obtain ⟨T, e1, e2⟩ := h4
        exact ⟨T, e1, kH _ _ e2 trivial⟩
    refine ⟨M.sub, fun b u hbu => ?_⟩
    by_cases e : b = f
    · subst e
      rw [up_same] at hbu; cases hbu
      exact ⟨hfF, n1⟩
    · rw [up_ne e] at hbu
      obtain ⟨z1, z2⟩ := M.at_ b u hbu
      refine ⟨z1, ?_⟩
      cases u with
      | ins C fs =>
        obtain ⟨dx, us, q1, q2, q3, q4, q5⟩ := z2
        exact ⟨dx, us, q1, q2, q3, by rw [up_ne (fun q => by rw [q, hm] at q4; cases q4)]; exact q4, q5⟩
      | _ => exact z2
def sCallB (P : Program) (w : World) (K : PySem.W.Frag) (mg : Str → Option Value) (X : Cx) (k : Nat) (sp : Heap → SpS) (a : SA) : SE := fun SX δ m S => a SX δ m fun vs m1 => ∀ base', ∃ m2, Conv P w K mg X k base' δ m1 m2 ∧ sp base' vs m2 (fun _ _ => False) S
theorem ge_callBase {K : PySem.W.Frag} {E : XK} {x : Str} {f : Addr} {fd : FuncData} {ps : List Str} {k k2 : Nat} {sp : Heap → SpS} {e : Expr} {es : List Expr} {t : TA} {sa : SA} {p pos : Pos} (F : ∀ base', FnOk X.prog X.w X.K X.mg base' CX0 k f fd ps (lift K (sp base'))) (hr : Room k X.A) (hg : Gl X x) (hm : X.mg x = some (.ref f)) (hk : PySem.W.keepIn X.K (.ref f) = true) (hb : Binds X.K fd ps [])
    (ha : GA K E X (e :: es) t sa) (hfn : ∀ x, X.fn x = true) (hst : X.stack = X.env :: X.outer) (hfr : X.env.frame = some X.env.locals) (hdb : (x == ("__debug__" : Str)) = false := by decide) (he : starEach (e :: es) X.env = (false, eval e X.env) :: starEach es X.env := by rfl) (hpl : (backTo pos (starEach es X.env)).any (·.1) = false := by rfl) (hK : X.K = K := by rfl) :
    GE K E X (.Call (.Name x p) (e :: es) [] pos) (tCallB X (fun b => lift K (sp b)) t) (sCallB X.prog X.w K X.mg X k2 sp sa) :=
  ⟨pe_callBase F hr hg hm hk hb ha.pe hfn hst hfr hdb he hpl, fun σ F0 H δ m SX S Q r h c => ha.sim σ F0 H δ m SX _ _ r h fun vs F1 H1 svs m1 s1 M1 v1 h1 => fun base' hok hC => by
    obtain ⟨m2, cv, q⟩ := h1 base'
    exact ⟨F1, svs, m2, fun _ _ => False, S, conv_ok cv ⟨hok, hC⟩ (r.sr.sub s1) M1, v1, q, fun x d F' H' m' _ _ _ z => z.elim, c.go s1⟩⟩
end
/-! ### how often, isinstance of a caught error -/
section
variable {X : Cx}
/-! ### how often a flat value stands in a list of flat ones -/
def rCntF (K : PySem.W.Frag) : V → List V → Hp → VK → Prop := fun x xs H Q => ∃ (a : Addr) (ys : List V) (y : V), x = V.ref a ∧ xs = [y] ∧ SqL K H a ys ∧ flatV y = true ∧ ys.all flatV = true ∧ Q (.int ((ys.countP fun z => eqV z y) : Nat)) H
theorem countU {y : V} : ∀ {ys : List V} {us : List Value}, Vals ys us → ys.all flatV = true → us.countP (eqU y) = ys.countP fun z => eqV z y
  | _, _, .nil, _ => rfl
  | z :: _, u :: _, .cons r rs, f => by
    have f2 : (flatV z && _) = true := f
    obtain ⟨f3, f4⟩ := Bool.and_eq_true_iff.mp f2
    have ih := countU (y := y) rs f4
    rw [List.countP_cons, List.countP_cons, ih, eqU_of r f3]
theorem mt_countF : MtR X "list.count" (rCntF X.K) := by
  intro pins s σ H x xs v us Q I rx rxs h
  obtain ⟨a, ys, y, rfl, rfl, hs, fy, fys, q⟩ := h
  cases rx
  obtain ⟨uy, rfl, ry⟩ := rxs.one
  obtain ⟨its, rv, ⟨⟨cls, dd, data, sl⟩, n, ho, hc, hdn, hd⟩, hlen⟩ := I.list hs
  simp only at hc hd
  subst hc hd
  refine call_meets PySem.F.slot_list_count ⟨_, ho, rfl⟩ PySem.F.entry_list_count (PySem.F.args_list_count_2 _ _)
    (SeqAt.list_countAt a its.toArray n dd sl uy (eqU y)) ⟨ho, fun u' hu' => mem_eqAt ry fy rv fys u' (by simpa using hu'), ?_⟩
  have ec : its.toArray.toList.countP (eqU y) = ys.countP fun z => eqV z y := countU rv fys
  refine ⟨.int ((ys.countP fun z => eqV z y) : Nat), H, I.tok _, ⟨s.toks, ?_⟩, q⟩
  show Value.int ((its.toArray.toList.countP (eqU y) : Nat) : Int) s.toks = Value.int (((ys.countP fun z => eqV z y) : Nat) : Int) s.toks
  rw [ec]
end

def sCount : SRM := fun x vs m S => match vs with
  | [y] => ∃ xs, ItsL m x xs ∧ flatS y = true ∧ xs.all flatS = true ∧ S (.int ((xs.countP fun z => eqS z y : Nat))) m
  | _ => False
section
variable {K : PySem.W.Frag}
theorem countV_ok {F : Hp} {y : V} {b : SV} (ry : VR K F y b) (fb : flatS b = true) : ∀ {xs : List V} {as : List SV}, VRs K F xs as → as.all flatS = true → (xs.countP fun z => eqV z y) = as.countP fun z => eqS z b
  | _, _, .nil, _ => rfl
  | _, _, .cons r t, h => by
    rw [List.all_cons, Bool.and_eq_true] at h
    rw [List.countP_cons, List.countP_cons, countV_ok ry fb t h.2, eqS_ok r ry h.1 fb]
theorem sim_count : SimM K (rCntF K) sCount := fun F H m x xs a as S Q M r rs h c => by
  unfold sCount at h
  split at h
  · obtain ⟨ys, h1, h2, h3, q⟩ := h
    obtain ⟨v, rfl, rv⟩ := vrs_one rs
    obtain ⟨p, vs, rfl, hs, r2⟩ := its_lst M r h1
    refine ⟨p, vs, v, rfl, rfl, hs, flat_ok rv h2, flats_ok r2 h3, ?_⟩
    rw [countV_ok rv h2 r2 h3]
    exact c _ F H _ m (.refl F) M (.int _) q
  · exact h.elim
theorem mt_countG {X : Cx} (K : PySem.W.Frag) (hK : X.K = K := by rfl) : MtR X "list.count" (rCntF K) := by subst hK; exact mt_countF
def sIsE (K : PySem.W.Frag) (D a : Addr) : SRC := fun vs m S => match vs with
  | [.ref b, .ref C] => b = a ∧ ∃ k, PySem.W.kitOne K (.ref D) (.ref C) = some k ∧ S (.bl k) m
  | [.ref b, .ty n] => b = a ∧ ∃ k, PySem.W.kitOne K (.ref D) (.type n) = some k ∧ S (.bl k) m
  | _ => False
theorem sim_isE {D a : Addr} : SimC K (rIsE K D a) (sIsE K D a) := fun F H m xs as S Q M rs h c => by
  unfold sIsE at h
  split at h
  · obtain ⟨rfl, k, hk, q⟩ := h
    obtain ⟨v, w, rfl, rv, rw_⟩ := vrs_two rs
    obtain rfl := vr_ref rv
    obtain rfl := vr_ref rw_
    exact ⟨.ref _, .ref _, k, rfl, fun u e => e, hk, c _ F H _ m (.refl F) M (.bl _) q⟩
  · obtain ⟨rfl, k, hk, q⟩ := h
    obtain ⟨v, w, rfl, rv, rw_⟩ := vrs_two rs
    obtain rfl := vr_ref rv
    obtain rfl := vr_ty rw_
    exact ⟨.ty _, .type _, k, rfl, fun u e => e, hk, c _ F H _ m (.refl F) M (.bl _) q⟩
  · exact h.elim
theorem ge_never {E : XK} {X : Cx} {e : Expr} : GE K E X e (fun _ _ _ => False) (fun _ _ _ _ => False) := ⟨⟨fun _ _ _ _ _ _ h => h.elim⟩, fun _ _ _ _ _ _ _ _ _ h _ => h.elim⟩
end
/-! ### a def whose code object is known (it makes lambdas) -/
section
variable {P : Program} {w : World} {K : PySem.W.Frag} {mg : Str → Option Value} {base : Heap}
theorem fn_syT {CX : CXT} {k : Nat} {f : Addr} {name qual : Str} {params : Arguments} {body : List Stmt} {scope : Scope} {dV kV doc pm cdv ct oc : Value} {an od : Option Addr} {osl : Array (Option Value)} {N ps : List Str} {sp : SpS}
    (lk : K.lookup f = some ⟨oc, od, .func (PySem.W.fnOf name qual params body scope dV kV doc pm an cdv ct), osl⟩) (hcd : PySem.W.codeIn K cdv qual = true) (S : FnScope N ps scope) (hl : ∀ svs m SX Sv, sp svs m SX Sv → svs.length = ps.length)
    (hev : ∀ (A : Around) (outer : List Env) (s : Shared) (H : Hp) (E : XK), Room k (A.deeper (envOfC qual scope s.heap.objs.size f cdv)) → ∃ ts ss, GSs K E (cxOf CX P w K mg base N qual scope f cdv A outer s H E) body ts ss ∧
      ∀ svs m SX Sv, sp svs m SX Sv → ss (fun x => Fg (SX x)) { nx := fun _ m' => Fg (Sv .non) m', rt := fun v => Fg (Sv v) } (startD N.length svs) m) : FnOk P w K mg base CX (k + 1) f (PySem.W.fnOf name qual params body scope dV kV doc pm an cdv ct) ps (lift K sp) := by
  refine fn_of lk hcd S (fun vs H Q E h => by
    obtain ⟨F, svs, m, SX, Sv, _, h2, h3, _⟩ := h
    rw [vrs_length h2]; exact hl _ _ _ _ h3) (fun A outer s H vs Q E hr h => ?_)
  obtain ⟨F, svs, m, SX, Sv, M, r, hsp, hx, c⟩ := h
  obtain ⟨ts, ss, hder, hev⟩ := hev A outer s H E hr
  refine ⟨ts, hder.pe, ?_⟩
  exact hder.sim _ F H _ m (fun x => Fg (SX x)) { nx := fun _ m' => Fg (Sv .non) m', rt := fun v => Fg (Sv v) } _ ⟨SR.start r, M, hx.fg⟩ (hev svs m SX Sv hsp) ⟨fun σ' δ' F' H' m' s' _ M' ⟨m2, l2, q⟩ => c .non F' H' .non m2 s' (M'.drop l2) .non q, fun v F' H' sv m' s' M' rv ⟨m2, l2, q⟩ => c v F' H' sv m2 s' (M'.drop l2) rv q, fun _ _ _ _ _ _ _ _ q => q.elim, fun _ _ _ _ _ _ _ _ q => q.elim⟩
end
end Sy

set_option Elab.async false
set_option linter.all false
set_option maxRecDepth 100000
set_option maxHeartbeats 4000000
/-! sum of a list of truths -/
namespace Sy
open PySem PySem.Spec PyProof.Rows L2
def cntB (bs : List Bool) : Int := (bs.map b2i).sum
def rSumB (K : PySem.W.Frag) : List V → Hp → VK → Prop := fun vs H Q => ∃ (a : Addr) (bs : List Bool), vs = [V.ref a] ∧ SqL K H a (bs.map V.bl) ∧ Q (.int (cntB bs)) H
theorem cr_sumB {X : Cx} (hc : X.calm = true) : CallR X (.builtin "sum") (rSumB X.K) := by
  intro pins s σ H vs us Q I r h
  obtain ⟨a, bs, rfl, hs, q⟩ := h
  obtain ⟨its, rv, hl, _⟩ := I.list hs
  rw [Vals.ref1 r]
  have hb := rv.bls
  subst hb
  have hlA := hl.isList
  have hlt : a < s.heap.objs.size := by obtain ⟨_, e, _⟩ := hlA; exact Heap.lt_size e
  have hsz : (bs.map Value.bool).toArray.size = bs.length := by simp
  refine call_sum_walkAnyB (iter_any hlA fun s₂ e2 st hne => ?_)
  subst e2
  have W := (Walks.list (prog := X.prog) (w := X.w) (A := X.A.in1) (I.ok.hd hc) s.heap.objs.size a hne (bs.map Value.bool).toArray).toS
  rw [hsz] at W
  refine ⟨s.heap.objs.size, _, _, _, _, _, _, fun i => (bs.map b2i).getD i 0, rfl, W, st, fun b hb => ?_, fun i v hP => ?_, fun s' t' hm => ?_⟩
  · rcases List.mem_cons.mp hb with rfl | hb
    · exact Heap.lt_size (Heap.get?_push_size _ rfl)
    · obtain rfl := List.mem_singleton.mp hb
      exact Nat.lt_of_lt_of_le hlt (by simp [Heap.size_push])
  · have hv : (bs.map Value.bool)[i]? = some v := by simpa using hP
    rw [List.getElem?_map] at hv
    obtain ⟨b, hb, rfl⟩ := Option.map_eq_some_iff.mp hv
    refine .inr ⟨b, rfl, ?_⟩
    show (bs.map b2i).getD i 0 = _
    rw [List.getD_eq_getElem?_getD, List.getElem?_map, hb]
    cases b <;> rfl
  · obtain ⟨h', g', d', tk', os'⟩ := s'
    have e1 : g' = s.gens := hm.gens
    have e2 : d' = s.drawn := hm.drawn
    have e3 : os' = s.os := hm.os
    subst e1 e2 e3
    refine ⟨.int (cntB bs), H, I.kept fun b o e => hm.heap b o (fun hb => absurd (Heap.lt_size e) ((List.mem_singleton.mp hb) ▸ Nat.lt_irrefl _)) (Heap.get?_push_of_some _ e), ⟨t', ?_⟩, q⟩
    rw [preSum_getD, List.take_of_length_le (by simp)]
    rfl

def rSumG (K : PySem.W.Frag) : List V → Hp → VK → Prop := fun xs H Q => rSum K xs H Q ∨ rSumB K xs H Q
theorem cr_sumA {X : Cx} (K : PySem.W.Frag) (hc : X.calm = true := by rfl) (hK : X.K = K := by rfl) : CallR X (.builtin "sum") (rSumG K) := by
  subst hK
  exact .or (cr_sum hc) (cr_sumB hc)
def sSumA : SRC := fun vs m S => match vs with
  | [x] => (∃ ns : List Int, ItsL m x (ns.map .int) ∧ S (.int ns.sum) m) ∨ (∃ bs : List Bool, ItsL m x (bs.map .bl) ∧ S (.int (cntB bs)) m)
  | _ => False
theorem sim_sumA {K : PySem.W.Frag} : SimC K (rSumG K) sSumA := fun F H m xs as S Q M rs h c => by
  unfold sSumA at h
  split at h
  · rcases h with ⟨bs, h1, q⟩ | ⟨bs, h1, q⟩
    · obtain ⟨v, rfl, rv⟩ := vrs_one rs
      obtain ⟨p, vs, rfl, hs, r2⟩ := its_lst M rv h1
      obtain rfl := vrs_ints r2
      exact .inl ⟨p, bs, rfl, hs, c _ F H _ m (.refl F) M (.int _) q⟩
    · obtain ⟨v, rfl, rv⟩ := vrs_one rs
      obtain ⟨p, vs, rfl, hs, r2⟩ := its_lst M rv h1
      obtain rfl := vrs_bls r2
      exact .inr ⟨p, bs, rfl, hs, c _ F H _ m (.refl F) M (.int _) q⟩
  · exact h.elim
end Sy
namespace Sy
open PySem PySem.Spec PyProof.Rows L2
def slotD (δ : DS) (j : Nat) : Option SV := match δ[j]? with
  | some o => o
  | none => none
theorem wr_of {K : PySem.W.Frag} {F : Hp} {σ : L2.St} {δ : DS} (sr : SR K F σ δ) (js : List Nat) : WR K F (js.map (NdefX.slotAt σ)) (js.map (slotD δ)) := by
  refine ⟨by simp, fun i d e => ?_⟩
  rw [List.getElem?_map] at e
  obtain ⟨j, h1, h2⟩ := Option.map_eq_some_iff.mp e
  have h3 : δ[j]? = some (some d) := by
    unfold slotD at h2
    split at h2
    · next o q => rw [q, h2]
    · cases h2
  obtain ⟨v, h4, h5⟩ := sr.at_ j d h3
  exact ⟨v, by rw [List.getElem?_map, h1]; show some (NdefX.slotAt σ j) = _; rw [NdefX.slotAt_of h4], h5⟩
end Sy
namespace Sy
open PySem PySem.Spec PyProof.Rows L2
section
variable {P : Program} {w : World} {K : PySem.W.Frag} {mg : Str → Option Value} {base : Heap}
theorem fn_syT0 {k : Nat} {f : Addr} {name qual : Str} {params : Arguments} {body : List Stmt} {scope : Scope} {dV kV doc pm cdv ct oc : Value} {an od : Option Addr} {osl : Array (Option Value)} {N ps : List Str} {sp : SpS}
    (lk : K.lookup f = some ⟨oc, od, .func (PySem.W.fnOf name qual params body scope dV kV doc pm an cdv ct), osl⟩) (hcd : PySem.W.codeIn K cdv qual = true) (S : FnScope N ps scope) (hl : ∀ svs m SX Sv, sp svs m SX Sv → svs.length = ps.length)
    (hev : ∀ (A : Around) (outer : List Env) (s : Shared) (H : Hp) (E : XK), Room k (A.deeper (envOfC qual scope s.heap.objs.size f cdv)) → ∃ ts ss, GSs K E (cxOf CX0 P w K mg base N qual scope f cdv A outer s H E).nox body ts ss ∧
      ∀ svs m SX Sv, sp svs m SX Sv → ss (fun x => Fg (SX x)) { nx := fun _ m' => Fg (Sv .non) m', rt := fun v => Fg (Sv v) } (startD N.length svs) m) : FnOk P w K mg base CX0 (k + 1) f (PySem.W.fnOf name qual params body scope dV kV doc pm an cdv ct) ps (lift K sp) := by
  refine fn_of lk hcd S (fun vs H Q E h => by
    obtain ⟨F, svs, m, SX, Sv, _, h2, h3, _⟩ := h
    rw [vrs_length h2]; exact hl _ _ _ _ h3) (fun A outer s H vs Q E hr h => ?_)
  obtain ⟨F, svs, m, SX, Sv, M, r, hsp, hx, c⟩ := h
  obtain ⟨ts, ss, hder, hev⟩ := hev A outer s H E hr
  refine ⟨ts, PSs.nox hder.pe, ?_⟩
  exact hder.sim _ F H _ m (fun x => Fg (SX x)) { nx := fun _ m' => Fg (Sv .non) m', rt := fun v => Fg (Sv v) } _ ⟨SR.start r, M, hx.fg⟩ (hev svs m SX Sv hsp) ⟨fun σ' δ' F' H' m' s' _ M' ⟨m2, l2, q⟩ => c .non F' H' .non m2 s' (M'.drop l2) .non q, fun v F' H' sv m' s' M' rv ⟨m2, l2, q⟩ => c v F' H' sv m2 s' (M'.drop l2) rv q, fun _ _ _ _ _ _ _ _ q => q.elim, fun _ _ _ _ _ _ _ _ q => q.elim⟩
end
end Sy

set_option Elab.async false
set_option linter.all false
set_option maxRecDepth 100000
set_option maxHeartbeats 4000000
namespace Hn
open PySem PySem.Spec PyProof.Rows L2 Sy
def top (i : Nat) : Stmt := PySem.Challenge.pw_hushnotice_k02_hours.main.body.getD i (.Pass ⟨0, 0, 0, 0⟩)
abbrev s_is_number : Stmt := top 24
abbrev s_is_whole : Stmt := top 25
abbrev s_is_tuple_of : Stmt := top 26
abbrev s_is_tuple_up_to : Stmt := top 27
abbrev s_is_stretch : Stmt := top 28
abbrev s_can_be_hushed : Stmt := top 29
abbrev s_can_be_gather : Stmt := top 30
abbrev s_first_bad_part : Stmt := top 31
abbrev s_refuse_bad_rules : Stmt := top 32
abbrev s_refuse_bad_person : Stmt := top 33
abbrev s_refuse_bad_moment : Stmt := top 34
abbrev s_is_in_stretch : Stmt := top 37
abbrev s_hushed_hours : Stmt := top 38
abbrev s_judged_hours : Stmt := top 39
abbrev s_first_free : Stmt := top 40
abbrev s_hushed_ahead_of : Stmt := top 41
abbrev s_is_hushed : Stmt := top 42
abbrev s_free_from : Stmt := top 43
abbrev s_hushed_between : Stmt := top 44
abbrev s_law_begun : Stmt := top 46
abbrev s_law_take : Stmt := top 47
abbrev s_law_alike : Stmt := top 48
abbrev s_law_told : Stmt := top 49
abbrev s_law_all : Stmt := top 50
abbrev s_law_stretches : Stmt := top 51
abbrev s_law_rule : Stmt := top 52
abbrev s_law_rules : Stmt := top 53
abbrev s_law_hush : Stmt := top 54
abbrev s_law_is_refused : Stmt := top 55
abbrev s_law : Stmt := top 56
theorem sc_is_number : FnScope ["x"] ["x"] (defScope s_is_number) := ⟨rfl, rfl, rfl, by decide +kernel, rfl, by decide +kernel, by decide +kernel⟩
theorem sc_is_whole : FnScope ["x", "low", "high"] ["x", "low", "high"] (defScope s_is_whole) := ⟨rfl, rfl, rfl, by decide +kernel, rfl, by decide +kernel, by decide +kernel⟩
theorem sc_is_tuple_of : FnScope ["x", "many"] ["x", "many"] (defScope s_is_tuple_of) := ⟨rfl, rfl, rfl, by decide +kernel, rfl, by decide +kernel, by decide +kernel⟩
theorem sc_is_tuple_up_to : FnScope ["x", "most"] ["x", "most"] (defScope s_is_tuple_up_to) := ⟨rfl, rfl, rfl, by decide +kernel, rfl, by decide +kernel, by decide +kernel⟩
theorem sc_is_stretch : FnScope ["x", "begin", "end"] ["x"] (defScope s_is_stretch) := ⟨rfl, rfl, rfl, by decide +kernel, rfl, by decide +kernel, by decide +kernel⟩
theorem sc_can_be_hushed : FnScope ["hushed", "x"] ["hushed"] (defScope s_can_be_hushed) := ⟨rfl, rfl, rfl, by decide +kernel, rfl, by decide +kernel, by decide +kernel⟩
theorem sc_can_be_gather : FnScope ["gather", "lowest", "pair", "kind", "span"] ["gather"] (defScope s_can_be_gather) := ⟨rfl, rfl, rfl, by decide +kernel, rfl, by decide +kernel, by decide +kernel⟩
theorem sc_first_bad_part : FnScope ["row", "many", "hushed", "least", "gather", "wait", "further", "fits"] ["row", "many"] (defScope s_first_bad_part) := ⟨rfl, rfl, rfl, by decide +kernel, rfl, by decide +kernel, by decide +kernel⟩
theorem sc_refuse_bad_rules : FnScope ["rules", "many", "person", "part"] ["rules"] (defScope s_refuse_bad_rules) := ⟨rfl, rfl, rfl, by decide +kernel, rfl, by decide +kernel, by decide +kernel⟩
theorem sc_refuse_bad_person : FnScope ["rules", "person"] ["rules", "person"] (defScope s_refuse_bad_person) := ⟨rfl, rfl, rfl, by decide +kernel, rfl, by decide +kernel, by decide +kernel⟩
theorem sc_refuse_bad_moment : FnScope ["moment", "last"] ["moment", "last"] (defScope s_refuse_bad_moment) := ⟨rfl, rfl, rfl, by decide +kernel, rfl, by decide +kernel, by decide +kernel⟩
theorem sc_is_in_stretch : FnScope ["hour", "begin", "end"] ["hour", "begin", "end"] (defScope s_is_in_stretch) := ⟨rfl, rfl, rfl, by decide +kernel, rfl, by decide +kernel, by decide +kernel⟩
theorem sc_hushed_hours : FnScope ["hushed", "begin", "end", "hour"] ["hushed"] (defScope s_hushed_hours) := ⟨rfl, rfl, rfl, by decide +kernel, rfl, by decide +kernel, by decide +kernel⟩
theorem sc_judged_hours : FnScope ["rules", "person"] ["rules", "person"] (defScope s_judged_hours) := ⟨rfl, rfl, rfl, by decide +kernel, rfl, by decide +kernel, by decide +kernel⟩
theorem sc_first_free : FnScope ["hours", "moment", "later"] ["hours", "moment"] (defScope s_first_free) := ⟨rfl, rfl, rfl, by decide +kernel, rfl, by decide +kernel, by decide +kernel⟩
theorem sc_hushed_ahead_of : FnScope ["hours", "moment"] ["hours", "moment"] (defScope s_hushed_ahead_of) := ⟨rfl, rfl, rfl, by decide +kernel, rfl, by decide +kernel, by decide +kernel⟩
theorem sc_is_hushed : FnScope ["rules", "person", "moment", "hours"] ["rules", "person", "moment"] (defScope s_is_hushed) := ⟨rfl, rfl, rfl, by decide +kernel, rfl, by decide +kernel, by decide +kernel⟩
theorem sc_free_from : FnScope ["rules", "person", "moment", "hours"] ["rules", "person", "moment"] (defScope s_free_from) := ⟨rfl, rfl, rfl, by decide +kernel, rfl, by decide +kernel, by decide +kernel⟩
theorem sc_hushed_between : FnScope ["rules", "person", "begin", "end", "hours"] ["rules", "person", "begin", "end"] (defScope s_hushed_between) := ⟨rfl, rfl, rfl, by decide +kernel, rfl, by decide +kernel, by decide +kernel⟩
theorem sc_law_begun : FnScope ["_law_script", "_law_stirred", "_law_cell"] ["_law_script"] (defScope s_law_begun) := ⟨rfl, rfl, rfl, by decide +kernel, rfl, by decide +kernel, by decide +kernel⟩
theorem sc_law_take : FnScope ["_law_box", "_law_many", "_law_number"] ["_law_box", "_law_many"] (defScope s_law_take) := ⟨rfl, rfl, rfl, by decide +kernel, rfl, by decide +kernel, by decide +kernel⟩
theorem sc_law_alike : FnScope ["_law_found", "_law_due", "_law_k"] ["_law_found", "_law_due"] (defScope s_law_alike) := ⟨rfl, rfl, rfl, by decide +kernel, rfl, by decide +kernel, by decide +kernel⟩
theorem sc_law_told : FnScope ["_law_work", "e", "_law_kinds", "_law_words", "_law_word"] ["_law_work"] (defScope s_law_told) := ⟨rfl, rfl, rfl, by decide +kernel, rfl, by decide +kernel, by decide +kernel⟩
theorem sc_law_all : FnScope ["_law_works", "_law_due", "_law_work"] ["_law_works", "_law_due"] (defScope s_law_all) := ⟨rfl, rfl, rfl, by decide +kernel, rfl, by decide +kernel, by decide +kernel⟩
theorem sc_law_stretches : FnScope ["_law_box", "_law_found", "_law_turn", "_law_begin"] ["_law_box"] (defScope s_law_stretches) := ⟨rfl, rfl, rfl, by decide +kernel, rfl, by decide +kernel, by decide +kernel⟩
theorem sc_law_rule : FnScope ["_law_box", "_law_many", "_law_gather", "_law_kind", "_law_wait", "_law_further"] ["_law_box", "_law_many"] (defScope s_law_rule) := ⟨rfl, rfl, rfl, by decide +kernel, rfl, by decide +kernel, by decide +kernel⟩
theorem sc_law_rules : FnScope ["_law_box", "_law_many", "_law_person"] ["_law_box"] (defScope s_law_rules) := ⟨rfl, rfl, rfl, by decide +kernel, rfl, by decide +kernel, by decide +kernel⟩
theorem sc_law_hush : FnScope ["_law_rule_here", "_law_moment", "_law_hour", "_law_some", "_law_begin", "_law_end"] ["_law_rule_here", "_law_moment"] (defScope s_law_hush) := ⟨rfl, rfl, rfl, by decide +kernel, rfl, by decide +kernel, by decide +kernel⟩
theorem sc_law_is_refused : FnScope ["_law_box", "_law_rules_here", "_law_moment", "_law_far", "_law_out", "_law_ago", "_law_works"] ["_law_box", "_law_rules_here", "_law_moment"] (defScope s_law_is_refused) := ⟨rfl, rfl, rfl, by decide +kernel, rfl, by decide +kernel, by decide +kernel⟩
theorem sc_law : FnScope ["_law_script", "_law_box", "_law_turn", "_law_rules_here", "_law_person", "_law_begin", "_law_end", "_law_day", "_law_hour", "_law_free", "_law_many", "_law_moment", "_law_again", "_law_found"] ["_law_script"] (defScope s_law) := ⟨rfl, rfl, rfl, by decide +kernel, rfl, by decide +kernel, by decide +kernel⟩
open He in
structure Tx (K : PySem.W.Frag) (mg : Str → Option Value) where
  fd_is_number : FuncData
  F_is_number : FnP K "is_number" s_is_number (ga K "is_number") fd_is_number
  fd_is_whole : FuncData
  F_is_whole : FnP K "is_whole" s_is_whole (ga K "is_whole") fd_is_whole
  fd_is_tuple_of : FuncData
  F_is_tuple_of : FnP K "is_tuple_of" s_is_tuple_of (ga K "is_tuple_of") fd_is_tuple_of
  fd_is_tuple_up_to : FuncData
  F_is_tuple_up_to : FnP K "is_tuple_up_to" s_is_tuple_up_to (ga K "is_tuple_up_to") fd_is_tuple_up_to
  fd_is_stretch : FuncData
  F_is_stretch : FnP K "is_stretch" s_is_stretch (ga K "is_stretch") fd_is_stretch
  fd_can_be_hushed : FuncData
  F_can_be_hushed : FnP K "can_be_hushed" s_can_be_hushed (ga K "can_be_hushed") fd_can_be_hushed
  fd_can_be_gather : FuncData
  F_can_be_gather : FnP K "can_be_gather" s_can_be_gather (ga K "can_be_gather") fd_can_be_gather
  fd_first_bad_part : FuncData
  F_first_bad_part : FnP K "first_bad_part" s_first_bad_part (ga K "first_bad_part") fd_first_bad_part
  fd_refuse_bad_rules : FuncData
  F_refuse_bad_rules : FnP K "refuse_bad_rules" s_refuse_bad_rules (ga K "refuse_bad_rules") fd_refuse_bad_rules
  fd_refuse_bad_person : FuncData
  F_refuse_bad_person : FnP K "refuse_bad_person" s_refuse_bad_person (ga K "refuse_bad_person") fd_refuse_bad_person
  fd_refuse_bad_moment : FuncData
  F_refuse_bad_moment : FunD K "refuse_bad_moment" "refuse_bad_moment" (defArgs s_refuse_bad_moment) (defBody s_refuse_bad_moment) (defScope s_refuse_bad_moment) [V.int (1000000)] [] (ga K "refuse_bad_moment") fd_refuse_bad_moment
  fd_is_in_stretch : FuncData
  F_is_in_stretch : FnP K "is_in_stretch" s_is_in_stretch (ga K "is_in_stretch") fd_is_in_stretch
  fd_hushed_hours : FuncData
  F_hushed_hours : FnP K "hushed_hours" s_hushed_hours (ga K "hushed_hours") fd_hushed_hours
  fd_judged_hours : FuncData
  F_judged_hours : FnP K "judged_hours" s_judged_hours (ga K "judged_hours") fd_judged_hours
  fd_first_free : FuncData
  F_first_free : FnP K "first_free" s_first_free (ga K "first_free") fd_first_free
  fd_hushed_ahead_of : FuncData
  F_hushed_ahead_of : FnP K "hushed_ahead_of" s_hushed_ahead_of (ga K "hushed_ahead_of") fd_hushed_ahead_of
  fd_is_hushed : FuncData
  F_is_hushed : FnP K "is_hushed" s_is_hushed (ga K "is_hushed") fd_is_hushed
  fd_free_from : FuncData
  F_free_from : FnP K "free_from" s_free_from (ga K "free_from") fd_free_from
  fd_hushed_between : FuncData
  F_hushed_between : FnP K "hushed_between" s_hushed_between (ga K "hushed_between") fd_hushed_between
  fd__law_begun : FuncData
  F__law_begun : FnP K "_law_begun" s_law_begun (ga K "_law_begun") fd__law_begun
  fd__law_take : FuncData
  F__law_take : FnP K "_law_take" s_law_take (ga K "_law_take") fd__law_take
  fd__law_alike : FuncData
  F__law_alike : FnP K "_law_alike" s_law_alike (ga K "_law_alike") fd__law_alike
  fd__law_told : FuncData
  F__law_told : FnP K "_law_told" s_law_told (ga K "_law_told") fd__law_told
  fd__law_all : FuncData
  F__law_all : FnP K "_law_all" s_law_all (ga K "_law_all") fd__law_all
  fd__law_stretches : FuncData
  F__law_stretches : FnP K "_law_stretches" s_law_stretches (ga K "_law_stretches") fd__law_stretches
  fd__law_rule : FuncData
  F__law_rule : FnP K "_law_rule" s_law_rule (ga K "_law_rule") fd__law_rule
  fd__law_rules : FuncData
  F__law_rules : FnP K "_law_rules" s_law_rules (ga K "_law_rules") fd__law_rules
  fd__law_hush : FuncData
  F__law_hush : FnP K "_law_hush" s_law_hush (ga K "_law_hush") fd__law_hush
  fd__law_is_refused : FuncData
  F__law_is_refused : FnP K "_law_is_refused" s_law_is_refused (ga K "_law_is_refused") fd__law_is_refused
  fd_law : FuncData
  F_law : FnP K "law" s_law (ga K "law") fd_law
  g_is_number : mg "is_number" = some (.ref (ga K "is_number"))
  k_is_number : PySem.W.keepIn K (.ref (ga K "is_number")) = true
  g_is_whole : mg "is_whole" = some (.ref (ga K "is_whole"))
  k_is_whole : PySem.W.keepIn K (.ref (ga K "is_whole")) = true
  g_is_tuple_of : mg "is_tuple_of" = some (.ref (ga K "is_tuple_of"))
  k_is_tuple_of : PySem.W.keepIn K (.ref (ga K "is_tuple_of")) = true
  g_is_tuple_up_to : mg "is_tuple_up_to" = some (.ref (ga K "is_tuple_up_to"))
  k_is_tuple_up_to : PySem.W.keepIn K (.ref (ga K "is_tuple_up_to")) = true
  g_is_stretch : mg "is_stretch" = some (.ref (ga K "is_stretch"))
  k_is_stretch : PySem.W.keepIn K (.ref (ga K "is_stretch")) = true
  g_can_be_hushed : mg "can_be_hushed" = some (.ref (ga K "can_be_hushed"))
  k_can_be_hushed : PySem.W.keepIn K (.ref (ga K "can_be_hushed")) = true
  g_can_be_gather : mg "can_be_gather" = some (.ref (ga K "can_be_gather"))
  k_can_be_gather : PySem.W.keepIn K (.ref (ga K "can_be_gather")) = true
  g_first_bad_part : mg "first_bad_part" = some (.ref (ga K "first_bad_part"))
  k_first_bad_part : PySem.W.keepIn K (.ref (ga K "first_bad_part")) = true
  g_refuse_bad_rules : mg "refuse_bad_rules" = some (.ref (ga K "refuse_bad_rules"))
  k_refuse_bad_rules : PySem.W.keepIn K (.ref (ga K "refuse_bad_rules")) = true
  g_refuse_bad_person : mg "refuse_bad_person" = some (.ref (ga K "refuse_bad_person"))
  k_refuse_bad_person : PySem.W.keepIn K (.ref (ga K "refuse_bad_person")) = true
  g_refuse_bad_moment : mg "refuse_bad_moment" = some (.ref (ga K "refuse_bad_moment"))
  k_refuse_bad_moment : PySem.W.keepIn K (.ref (ga K "refuse_bad_moment")) = true
  g_is_in_stretch : mg "is_in_stretch" = some (.ref (ga K "is_in_stretch"))
  k_is_in_stretch : PySem.W.keepIn K (.ref (ga K "is_in_stretch")) = true
  g_hushed_hours : mg "hushed_hours" = some (.ref (ga K "hushed_hours"))
  k_hushed_hours : PySem.W.keepIn K (.ref (ga K "hushed_hours")) = true
  g_judged_hours : mg "judged_hours" = some (.ref (ga K "judged_hours"))
  k_judged_hours : PySem.W.keepIn K (.ref (ga K "judged_hours")) = true
  g_first_free : mg "first_free" = some (.ref (ga K "first_free"))
  k_first_free : PySem.W.keepIn K (.ref (ga K "first_free")) = true
  g_hushed_ahead_of : mg "hushed_ahead_of" = some (.ref (ga K "hushed_ahead_of"))
  k_hushed_ahead_of : PySem.W.keepIn K (.ref (ga K "hushed_ahead_of")) = true
  g_is_hushed : mg "is_hushed" = some (.ref (ga K "is_hushed"))
  k_is_hushed : PySem.W.keepIn K (.ref (ga K "is_hushed")) = true
  g_free_from : mg "free_from" = some (.ref (ga K "free_from"))
  k_free_from : PySem.W.keepIn K (.ref (ga K "free_from")) = true
  g_hushed_between : mg "hushed_between" = some (.ref (ga K "hushed_between"))
  k_hushed_between : PySem.W.keepIn K (.ref (ga K "hushed_between")) = true
  g__law_begun : mg "_law_begun" = some (.ref (ga K "_law_begun"))
  k__law_begun : PySem.W.keepIn K (.ref (ga K "_law_begun")) = true
  g__law_take : mg "_law_take" = some (.ref (ga K "_law_take"))
  k__law_take : PySem.W.keepIn K (.ref (ga K "_law_take")) = true
  g__law_alike : mg "_law_alike" = some (.ref (ga K "_law_alike"))
  k__law_alike : PySem.W.keepIn K (.ref (ga K "_law_alike")) = true
  g__law_told : mg "_law_told" = some (.ref (ga K "_law_told"))
  k__law_told : PySem.W.keepIn K (.ref (ga K "_law_told")) = true
  g__law_all : mg "_law_all" = some (.ref (ga K "_law_all"))
  k__law_all : PySem.W.keepIn K (.ref (ga K "_law_all")) = true
  g__law_stretches : mg "_law_stretches" = some (.ref (ga K "_law_stretches"))
  k__law_stretches : PySem.W.keepIn K (.ref (ga K "_law_stretches")) = true
  g__law_rule : mg "_law_rule" = some (.ref (ga K "_law_rule"))
  k__law_rule : PySem.W.keepIn K (.ref (ga K "_law_rule")) = true
  g__law_rules : mg "_law_rules" = some (.ref (ga K "_law_rules"))
  k__law_rules : PySem.W.keepIn K (.ref (ga K "_law_rules")) = true
  g__law_hush : mg "_law_hush" = some (.ref (ga K "_law_hush"))
  k__law_hush : PySem.W.keepIn K (.ref (ga K "_law_hush")) = true
  g__law_is_refused : mg "_law_is_refused" = some (.ref (ga K "_law_is_refused"))
  k__law_is_refused : PySem.W.keepIn K (.ref (ga K "_law_is_refused")) = true
  g_law : mg "law" = some (.ref (ga K "law"))
  k_law : PySem.W.keepIn K (.ref (ga K "law")) = true
  g_NoticeError : mg "NoticeError" = some (.ref (ga K "NoticeError"))
  k_NoticeError : PySem.W.keepIn K (.ref (ga K "NoticeError")) = true
  g_BadRules : mg "BadRules" = some (.ref (ga K "BadRules"))
  k_BadRules : PySem.W.keepIn K (.ref (ga K "BadRules")) = true
  g_BadPerson : mg "BadPerson" = some (.ref (ga K "BadPerson"))
  k_BadPerson : PySem.W.keepIn K (.ref (ga K "BadPerson")) = true
  g_BadMoment : mg "BadMoment" = some (.ref (ga K "BadMoment"))
  k_BadMoment : PySem.W.keepIn K (.ref (ga K "BadMoment")) = true
  g_BadNotices : mg "BadNotices" = some (.ref (ga K "BadNotices"))
  k_BadNotices : PySem.W.keepIn K (.ref (ga K "BadNotices")) = true
  g_BadHears : mg "BadHears" = some (.ref (ga K "BadHears"))
  k_BadHears : PySem.W.keepIn K (.ref (ga K "BadHears")) = true
  g_BadDevice : mg "BadDevice" = some (.ref (ga K "BadDevice"))
  k_BadDevice : PySem.W.keepIn K (.ref (ga K "BadDevice")) = true
  g_BadBell : mg "BadBell" = some (.ref (ga K "BadBell"))
  k_BadBell : PySem.W.keepIn K (.ref (ga K "BadBell")) = true
  g_NotRinging : mg "NotRinging" = some (.ref (ga K "NotRinging"))
  k_NotRinging : PySem.W.keepIn K (.ref (ga K "NotRinging")) = true
  g_IsOff : mg "IsOff" = some (.ref (ga K "IsOff"))
  k_IsOff : PySem.W.keepIn K (.ref (ga K "IsOff")) = true
  g_BadText : mg "BadText" = some (.ref (ga K "BadText"))
  k_BadText : PySem.W.keepIn K (.ref (ga K "BadText")) = true
  x_NoticeError : PySem.W.excIn K (ga K "NoticeError") veBase "ValueError.__new__" = true
  e_NoticeError : PySem.W.subIn K (.ref (ga K "NoticeError")) (.type "BaseException") = some true
  t_NoticeError : PySem.W.typeIn K (.ref (ga K "NoticeError")) = some (.type "type")
  x_BadPerson : PySem.W.excIn K (ga K "BadPerson") veBase "ValueError.__new__" = true
  e_BadPerson : PySem.W.subIn K (.ref (ga K "BadPerson")) (.type "BaseException") = some true
  t_BadPerson : PySem.W.typeIn K (.ref (ga K "BadPerson")) = some (.type "type")
  x_BadMoment : PySem.W.excIn K (ga K "BadMoment") veBase "ValueError.__new__" = true
  e_BadMoment : PySem.W.subIn K (.ref (ga K "BadMoment")) (.type "BaseException") = some true
  t_BadMoment : PySem.W.typeIn K (.ref (ga K "BadMoment")) = some (.type "type")
  x_BadDevice : PySem.W.excIn K (ga K "BadDevice") veBase "ValueError.__new__" = true
  e_BadDevice : PySem.W.subIn K (.ref (ga K "BadDevice")) (.type "BaseException") = some true
  t_BadDevice : PySem.W.typeIn K (.ref (ga K "BadDevice")) = some (.type "type")
  x_BadBell : PySem.W.excIn K (ga K "BadBell") veBase "ValueError.__new__" = true
  e_BadBell : PySem.W.subIn K (.ref (ga K "BadBell")) (.type "BaseException") = some true
  t_BadBell : PySem.W.typeIn K (.ref (ga K "BadBell")) = some (.type "type")
  x_NotRinging : PySem.W.excIn K (ga K "NotRinging") veBase "ValueError.__new__" = true
  e_NotRinging : PySem.W.subIn K (.ref (ga K "NotRinging")) (.type "BaseException") = some true
  t_NotRinging : PySem.W.typeIn K (.ref (ga K "NotRinging")) = some (.type "type")
  x_IsOff : PySem.W.excIn K (ga K "IsOff") veBase "ValueError.__new__" = true
  e_IsOff : PySem.W.subIn K (.ref (ga K "IsOff")) (.type "BaseException") = some true
  t_IsOff : PySem.W.typeIn K (.ref (ga K "IsOff")) = some (.type "type")
  i_MOST_PERSONS : ∃ t, mg "MOST_PERSONS" = some (.int (6) t)
  i_MANY_PARTS : ∃ t, mg "MANY_PARTS" = some (.int (5) t)
  i_MOST_STRETCHES : ∃ t, mg "MOST_STRETCHES" = some (.int (3) t)
  i_LAST_HOUR : ∃ t, mg "LAST_HOUR" = some (.int (23) t)
  i_MOST_LEAST : ∃ t, mg "MOST_LEAST" = some (.int (4) t)
  i_MOST_GATHERED : ∃ t, mg "MOST_GATHERED" = some (.int (4) t)
  i_LAST_KIND : ∃ t, mg "LAST_KIND" = some (.int (7) t)
  i_MOST_SPAN : ∃ t, mg "MOST_SPAN" = some (.int (12) t)
  i_MOST_WAIT : ∃ t, mg "MOST_WAIT" = some (.int (24) t)
  i_LAST_MOMENT : ∃ t, mg "LAST_MOMENT" = some (.int (1000000) t)
  i_NO_PART : ∃ t, mg "NO_PART" = some (.int (-1) t)
  i_DAY : ∃ t, mg "DAY" = some (.int (24) t)
  z_isinstance : mg "isinstance" = none
  z_bool : mg "bool" = none
  z_int : mg "int" = none
  z_tuple : mg "tuple" = none
  z_list : mg "list" = none
  z_len : mg "len" = none
  z_all : mg "all" = none
  z_any : mg "any" = none
  z_range : mg "range" = none
  z_min : mg "min" = none
  z_max : mg "max" = none
  z_sum : mg "sum" = none
  z_str : mg "str" = none
  z_sorted : mg "sorted" = none
  z_enumerate : mg "enumerate" = none
  z_zip : mg "zip" = none
  z_dict : mg "dict" = none
  z_set : mg "set" = none
  z_ValueError : mg "ValueError" = none
section
variable {K : PySem.W.Frag} {mg : Str → Option Value}
theorem b_is_number (T : Tx K mg) : Binds K T.fd_is_number ["x"] [] := FunD.bindsN T.F_is_number fun _ _ _ _ _ _ us hl => match us, hl with | [_], _ => rfl
theorem b_is_whole (T : Tx K mg) : Binds K T.fd_is_whole ["x", "low", "high"] [] := FunD.bindsN T.F_is_whole fun _ _ _ _ _ _ us hl => match us, hl with | [_, _, _], _ => rfl
theorem b_is_tuple_of (T : Tx K mg) : Binds K T.fd_is_tuple_of ["x", "many"] [] := FunD.bindsN T.F_is_tuple_of fun _ _ _ _ _ _ us hl => match us, hl with | [_, _], _ => rfl
theorem b_is_tuple_up_to (T : Tx K mg) : Binds K T.fd_is_tuple_up_to ["x", "most"] [] := FunD.bindsN T.F_is_tuple_up_to fun _ _ _ _ _ _ us hl => match us, hl with | [_, _], _ => rfl
theorem b_is_stretch (T : Tx K mg) : Binds K T.fd_is_stretch ["x"] [] := FunD.bindsN T.F_is_stretch fun _ _ _ _ _ _ us hl => match us, hl with | [_], _ => rfl
theorem b_can_be_hushed (T : Tx K mg) : Binds K T.fd_can_be_hushed ["hushed"] [] := FunD.bindsN T.F_can_be_hushed fun _ _ _ _ _ _ us hl => match us, hl with | [_], _ => rfl
theorem b_can_be_gather (T : Tx K mg) : Binds K T.fd_can_be_gather ["gather"] [] := FunD.bindsN T.F_can_be_gather fun _ _ _ _ _ _ us hl => match us, hl with | [_], _ => rfl
theorem b_first_bad_part (T : Tx K mg) : Binds K T.fd_first_bad_part ["row", "many"] [] := FunD.bindsN T.F_first_bad_part fun _ _ _ _ _ _ us hl => match us, hl with | [_, _], _ => rfl
theorem b_refuse_bad_rules (T : Tx K mg) : Binds K T.fd_refuse_bad_rules ["rules"] [] := FunD.bindsN T.F_refuse_bad_rules fun _ _ _ _ _ _ us hl => match us, hl with | [_], _ => rfl
theorem b_refuse_bad_person (T : Tx K mg) : Binds K T.fd_refuse_bad_person ["rules", "person"] [] := FunD.bindsN T.F_refuse_bad_person fun _ _ _ _ _ _ us hl => match us, hl with | [_, _], _ => rfl
theorem bd_refuse_bad_moment_1 (T : Tx K mg) : ∃ ds, Vals [V.int (1000000)] ds ∧ Binds K T.fd_refuse_bad_moment ["moment", "last"] ds := FunD.binds1 T.F_refuse_bad_moment (ps := ["moment", "last"]) 1 0 (by simp) rfl fun T0 kV doc pm an cdv ct us its h1 h2 => match us, its, h1, h2 with | [_], [_], _, _ => ⟨_, rfl, rfl⟩
theorem bd_refuse_bad_moment_2 (T : Tx K mg) : ∃ ds, Vals [] ds ∧ Binds K T.fd_refuse_bad_moment ["moment", "last"] ds := FunD.binds1 T.F_refuse_bad_moment (ps := ["moment", "last"]) 2 1 (by simp) rfl fun T0 kV doc pm an cdv ct us its h1 h2 => match us, its, h1, h2 with | [_, _], [_], _, _ => ⟨_, rfl, rfl⟩
theorem b_is_in_stretch (T : Tx K mg) : Binds K T.fd_is_in_stretch ["hour", "begin", "end"] [] := FunD.bindsN T.F_is_in_stretch fun _ _ _ _ _ _ us hl => match us, hl with | [_, _, _], _ => rfl
theorem b_hushed_hours (T : Tx K mg) : Binds K T.fd_hushed_hours ["hushed"] [] := FunD.bindsN T.F_hushed_hours fun _ _ _ _ _ _ us hl => match us, hl with | [_], _ => rfl
theorem b_judged_hours (T : Tx K mg) : Binds K T.fd_judged_hours ["rules", "person"] [] := FunD.bindsN T.F_judged_hours fun _ _ _ _ _ _ us hl => match us, hl with | [_, _], _ => rfl
theorem b_first_free (T : Tx K mg) : Binds K T.fd_first_free ["hours", "moment"] [] := FunD.bindsN T.F_first_free fun _ _ _ _ _ _ us hl => match us, hl with | [_, _], _ => rfl
theorem b_hushed_ahead_of (T : Tx K mg) : Binds K T.fd_hushed_ahead_of ["hours", "moment"] [] := FunD.bindsN T.F_hushed_ahead_of fun _ _ _ _ _ _ us hl => match us, hl with | [_, _], _ => rfl
theorem b_is_hushed (T : Tx K mg) : Binds K T.fd_is_hushed ["rules", "person", "moment"] [] := FunD.bindsN T.F_is_hushed fun _ _ _ _ _ _ us hl => match us, hl with | [_, _, _], _ => rfl
theorem b_free_from (T : Tx K mg) : Binds K T.fd_free_from ["rules", "person", "moment"] [] := FunD.bindsN T.F_free_from fun _ _ _ _ _ _ us hl => match us, hl with | [_, _, _], _ => rfl
theorem b_hushed_between (T : Tx K mg) : Binds K T.fd_hushed_between ["rules", "person", "begin", "end"] [] := FunD.bindsN T.F_hushed_between fun _ _ _ _ _ _ us hl => match us, hl with | [_, _, _, _], _ => rfl
theorem b_law_begun (T : Tx K mg) : Binds K T.fd__law_begun ["_law_script"] [] := FunD.bindsN T.F__law_begun fun _ _ _ _ _ _ us hl => match us, hl with | [_], _ => rfl
theorem b_law_take (T : Tx K mg) : Binds K T.fd__law_take ["_law_box", "_law_many"] [] := FunD.bindsN T.F__law_take fun _ _ _ _ _ _ us hl => match us, hl with | [_, _], _ => rfl
theorem b_law_alike (T : Tx K mg) : Binds K T.fd__law_alike ["_law_found", "_law_due"] [] := FunD.bindsN T.F__law_alike fun _ _ _ _ _ _ us hl => match us, hl with | [_, _], _ => rfl
theorem b_law_told (T : Tx K mg) : Binds K T.fd__law_told ["_law_work"] [] := FunD.bindsN T.F__law_told fun _ _ _ _ _ _ us hl => match us, hl with | [_], _ => rfl
theorem b_law_all (T : Tx K mg) : Binds K T.fd__law_all ["_law_works", "_law_due"] [] := FunD.bindsN T.F__law_all fun _ _ _ _ _ _ us hl => match us, hl with | [_, _], _ => rfl
theorem b_law_stretches (T : Tx K mg) : Binds K T.fd__law_stretches ["_law_box"] [] := FunD.bindsN T.F__law_stretches fun _ _ _ _ _ _ us hl => match us, hl with | [_], _ => rfl
theorem b_law_rule (T : Tx K mg) : Binds K T.fd__law_rule ["_law_box", "_law_many"] [] := FunD.bindsN T.F__law_rule fun _ _ _ _ _ _ us hl => match us, hl with | [_, _], _ => rfl
theorem b_law_rules (T : Tx K mg) : Binds K T.fd__law_rules ["_law_box"] [] := FunD.bindsN T.F__law_rules fun _ _ _ _ _ _ us hl => match us, hl with | [_], _ => rfl
theorem b_law_hush (T : Tx K mg) : Binds K T.fd__law_hush ["_law_rule_here", "_law_moment"] [] := FunD.bindsN T.F__law_hush fun _ _ _ _ _ _ us hl => match us, hl with | [_, _], _ => rfl
theorem b_law_is_refused (T : Tx K mg) : Binds K T.fd__law_is_refused ["_law_box", "_law_rules_here", "_law_moment"] [] := FunD.bindsN T.F__law_is_refused fun _ _ _ _ _ _ us hl => match us, hl with | [_, _, _], _ => rfl
theorem b_law (T : Tx K mg) : Binds K T.fd_law ["_law_script"] [] := FunD.bindsN T.F_law fun _ _ _ _ _ _ us hl => match us, hl with | [_], _ => rfl
end
end Hn

set_option Elab.async false
set_option linter.all false
set_option maxRecDepth 100000
set_option maxHeartbeats 8000000
namespace Hn
open PySem PySem.Spec PyProof.Rows L2 Sy Lm
section
variable {P : Program} {w : World} {K : PySem.W.Frag} {mg : Str → Option Value} {base : Heap}
local macro_rules | `(tactic| walk_at "r") => `(tactic| (conv => whnf))
local macro_rules | `(tactic| walk_at "sp") => `(tactic| (first | rfl | contradiction | exact (False.elim ‹_›)))
local macro_rules | `(tactic| walk_at "len") => `(tactic| (exact Nat.le_trans (show _ ≤ 100000 by simp) (by decide)))
local macro_rules | `(tactic| walk_at "f") => `(tactic| (refine Br_i (fun hb => Bool.noConfusion (show false = true from hb)) (fun _ => ?_)))
local macro_rules | `(tactic| walk_at "t") => `(tactic| (refine Br_i (fun _ => ?_) (fun hb => Bool.noConfusion (show true = false from hb))))
local macro_rules | `(tactic| walk_at "le") => `(tactic| first | exact Le.refl _ | (refine Le.put ?_; walk_at "le") | (refine Le.new ?_ (by assumption); walk_at "le"))
def spNum : SpS := fun vs m _ S => match vs with
  | [x] => Dat m x ∧ S (.bl (isInt x)) m
  | _ => False
def isWh (x : SV) (lo hi : Int) : Bool := match x with
  | .int i => decide (lo ≤ i) && decide (i ≤ hi)
  | _ => false
def spWhole : SpS := fun vs m _ S => match vs with
  | [x, .int lo, .int hi] => Dat m x ∧ S (.bl (isWh x lo hi)) m
  | _ => False
def isTupN (x : SV) (n : Int) : Bool := match x with
  | .tup xs => decide ((xs.length : Int) = n)
  | _ => false
def isTupU (x : SV) (n : Int) : Bool := match x with
  | .tup xs => decide ((xs.length : Int) ≤ n)
  | _ => false
def spTupN : SpS := fun vs m _ S => match vs with
  | [x, .int n] => Dat m x ∧ S (.bl (isTupN x n)) m
  | _ => False
def spTupU : SpS := fun vs m _ S => match vs with
  | [x, .int n] => Dat m x ∧ S (.bl (isTupU x n)) m
  | _ => False
theorem ok_is_number (T : Tx K mg) : FnOk P w K mg base CX0 1 (He.ga K "is_number") T.fd_is_number ["x"] (lift K spNum) := by
  refine fn_sy T.F_is_number sc_is_number (fun svs m SX Sv h => ?_) (fun cdv A outer s H E hr => ⟨_, _, (gss_one (gs_ret (ge_and (ge_callB (cr_isi K) sim_isi (by rfl) T.z_isinstance (by decide +kernel) (ga_cons (gv 0) (ga_cons (ge_ty (n := "int") (by rfl) T.z_int (by decide +kernel)) ga_nil))) (ge_one (ge_not (ge_callB (cr_isi K) sim_isi (by rfl) T.z_isinstance (by decide +kernel) (ga_cons (gv 0) (ga_cons (ge_ty (n := "bool") (by rfl) T.z_bool (by decide +kernel)) ga_nil)))))))), fun svs m SX Sv h => ?_⟩)
  · unfold spNum at h
    split at h <;> first | rfl | exact h.elim
  · unfold spNum at h
    split at h
    · obtain ⟨⟨t, ht⟩, q⟩ := h
      have e := tyS_int ht
      walk_at "r"
      refine ⟨by decide, t, ht, ?_⟩
      walk_at "r"
      refine Br_i (fun h1 => ?_) (fun h1 => ?_)
      · walk_at "r"
        refine ⟨by decide, t, ht, ?_⟩
        walk_at "r"
        rw [← e, h1, Bool.true_and] at q
        exact .of q
      · rw [← e, h1, Bool.false_and] at q
        exact .of q
    · exact h.elim
theorem ok_is_whole (T : Tx K mg) : FnOk P w K mg base CX0 2 (He.ga K "is_whole") T.fd_is_whole ["x", "low", "high"] (lift K spWhole) := by
  have G_is_number := ok_is_number (P := P) (w := w) (base := base) T
  have b_is_number := b_is_number T
  refine fn_sy T.F_is_whole sc_is_whole (fun svs m SX Sv h => ?_) (fun cdv A outer s H E hr => ⟨_, _, (gss_one (gs_ret (ge_and (ge_call G_is_number (hr) (by rfl) T.g_is_number T.k_is_number b_is_number .nil (fun _ => .nil) pass0 (ga_cons (gv 0) ga_nil)) (ge_one (ge_chain op_le op_le sim_le sim_le (gv 1) (gv 0) (gv 2)))))), fun svs m SX Sv h => ?_⟩)
  · unfold spWhole at h
    split at h <;> first | rfl | exact h.elim
  · unfold spWhole at h
    split at h
    · obtain ⟨ht, q⟩ := h
      walk_at "r"
      refine ⟨ht, ?_⟩
      walk_at "r"
      refine Br_i (fun h1 => ?_) (fun h1 => ?_)
      · rename_i x _ _
        cases x <;> first | (cases h1; done) | skip
        walk_at "r"
        refine Br_i (fun h2 => ?_) (fun h2 => ?_)
        · walk_at "r"
          unfold isWh at q
          simp only at q
          rw [h2, Bool.true_and] at q
          exact .of q
        · unfold isWh at q
          simp only at q
          rw [h2, Bool.false_and] at q
          exact .of q
      · rename_i x _ _
        cases x <;> first | exact .of q | (cases h1; done)
    · exact h.elim
theorem ok_is_tuple_of (T : Tx K mg) : FnOk P w K mg base CX0 1 (He.ga K "is_tuple_of") T.fd_is_tuple_of ["x", "many"] (lift K spTupN) := by
  refine fn_sy T.F_is_tuple_of sc_is_tuple_of (fun svs m SX Sv h => ?_) (fun cdv A outer s H E hr => ⟨_, _, (gss_one (gs_ret (ge_and (ge_callB (cr_isi K) sim_isi (by rfl) T.z_isinstance (by decide +kernel) (ga_cons (gv 0) (ga_cons (ge_ty (n := "tuple") (by rfl) T.z_tuple (by decide +kernel)) ga_nil))) (ge_one (ge_cmp (op_eqG K hr.units) sim_eq (ge_callB (cr_len K) sim_len (by rfl) T.z_len (by decide +kernel) (ga_cons (gv 0) ga_nil)) (gv 1) (nomark _)))))), fun svs m SX Sv h => ?_⟩)
  · unfold spTupN at h
    split at h <;> first | rfl | exact h.elim
  · unfold spTupN at h
    split at h
    · obtain ⟨⟨t, ht⟩, q⟩ := h
      walk_at "r"
      refine ⟨by decide, t, ht, ?_⟩
      walk_at "r"
      refine Br_i (fun h1 => ?_) (fun h1 => ?_)
      · rename_i x n
        cases x <;> first
          | (exact (show False from ht).elim)
          | (cases (show t = _ from ht); first | (cases h1; done) | skip)
          | (obtain ⟨rfl, _⟩ := (show t = "list" ∧ _ from ht); cases h1; done)
        walk_at "r"
        refine ⟨_, rfl, ?_⟩
        walk_at "r"
        exact .of q
      · rename_i x n
        cases x <;> first
          | exact .of q
          | (cases (show t = _ from ht); cases h1; done)
    · exact h.elim
theorem ok_is_tuple_up_to (T : Tx K mg) : FnOk P w K mg base CX0 1 (He.ga K "is_tuple_up_to") T.fd_is_tuple_up_to ["x", "most"] (lift K spTupU) := by
  refine fn_sy T.F_is_tuple_up_to sc_is_tuple_up_to (fun svs m SX Sv h => ?_) (fun cdv A outer s H E hr => ⟨_, _, (gss_one (gs_ret (ge_and (ge_callB (cr_isi K) sim_isi (by rfl) T.z_isinstance (by decide +kernel) (ga_cons (gv 0) (ga_cons (ge_ty (n := "tuple") (by rfl) T.z_tuple (by decide +kernel)) ga_nil))) (ge_one (ge_cmp op_le sim_le (ge_callB (cr_len K) sim_len (by rfl) T.z_len (by decide +kernel) (ga_cons (gv 0) ga_nil)) (gv 1) (nomark _)))))), fun svs m SX Sv h => ?_⟩)
  · unfold spTupU at h
    split at h <;> first | rfl | exact h.elim
  · unfold spTupU at h
    split at h
    · obtain ⟨⟨t, ht⟩, q⟩ := h
      walk_at "r"
      refine ⟨by decide, t, ht, ?_⟩
      walk_at "r"
      refine Br_i (fun h1 => ?_) (fun h1 => ?_)
      · rename_i x n
        cases x <;> first
          | (exact (show False from ht).elim)
          | (cases (show t = _ from ht); first | (cases h1; done) | skip)
          | (obtain ⟨rfl, _⟩ := (show t = "list" ∧ _ from ht); cases h1; done)
        walk_at "r"
        refine ⟨_, rfl, ?_⟩
        walk_at "r"
        exact .of q
      · rename_i x n
        cases x <;> first
          | exact .of q
          | (cases (show t = _ from ht); cases h1; done)
    · exact h.elim
end
end Hn

set_option Elab.async false
set_option linter.all false
set_option maxRecDepth 100000
set_option maxHeartbeats 8000000
namespace Hn
open PySem PySem.Spec PyProof.Rows L2 Sy Lm
section
variable {P : Program} {w : World} {K : PySem.W.Frag} {mg : Str → Option Value} {base : Heap}
local macro_rules | `(tactic| walk_at "r") => `(tactic| (conv => whnf))
local macro_rules | `(tactic| walk_at "sp") => `(tactic| (first | rfl | contradiction | exact (False.elim ‹_›)))
local macro_rules | `(tactic| walk_at "len") => `(tactic| (exact Nat.le_trans (show _ ≤ 100000 by simp) (by decide)))
local macro_rules | `(tactic| walk_at "f") => `(tactic| (refine Br_i (fun hb => Bool.noConfusion (show false = true from hb)) (fun _ => ?_)))
local macro_rules | `(tactic| walk_at "t") => `(tactic| (refine Br_i (fun _ => ?_) (fun hb => Bool.noConfusion (show true = false from hb))))
local macro_rules | `(tactic| walk_at "le") => `(tactic| first | exact Le.refl _ | (refine Le.put ?_; walk_at "le") | (refine Le.new ?_ (by assumption); walk_at "le"))
def neI : SV → SV → Bool
  | .int a, .int b => !decide (a = b)
  | _, _ => false
def isStr : SV → Bool
  | .tup [x, y] => isWh x 0 23 && (isWh y 0 23 && neI x y)
  | _ => false
theorem wh_int {d : SV} {lo hi : Int} (h : isWh d lo hi = true) : ∃ i, d = .int i ∧ lo ≤ i ∧ i ≤ hi := by
  cases d with
  | int i =>
    simp [isWh] at h
    exact ⟨i, rfl, h.1, h.2⟩
  | _ => cases h
theorem tup2 {x : SV} (h : isTupN x 2 = true) : ∃ a b, x = .tup [a, b] := by
  cases x with
  | tup xs => rcases xs with _ | ⟨a, _ | ⟨b, _ | ⟨c, r⟩⟩⟩ <;> first | exact ⟨_, _, rfl⟩ | (simp [isTupN] at h; done) | (simp [isTupN] at h; omega)
  | _ => cases h
theorem not_tup2 {x : SV} (h : isTupN x 2 = false) : isStr x = false := by
  cases x with
  | tup xs => rcases xs with _ | ⟨a, _ | ⟨b, _ | ⟨c, r⟩⟩⟩ <;> first | rfl | (simp [isTupN] at h; done)
  | _ => rfl
def spStr : SpS := fun vs m _ S => match vs with
  | [x] => DD m x ∧ S (.bl (isStr x)) m
  | _ => False
def canHush : SV → Bool
  | .tup xs => decide ((xs.length : Int) ≤ 3) && xs.all isStr
  | _ => false
def spHush : SpS := fun vs m _ S => match vs with
  | [x] => DD m x ∧ S (.bl (canHush x)) m
  | _ => False
def gath : Int → List SV → Bool
  | _, [] => true
  | lo, .tup [.int k, s] :: r => isWh (.int k) lo 7 && isWh s 1 12 && gath (k + 1) r
  | _, _ :: _ => false
def canGath : SV → Bool
  | .tup ds => decide ((ds.length : Int) ≤ 4) && gath 0 ds
  | _ => false
def spGath : SpS := fun vs m _ S => match vs with
  | [x] => DD m x ∧ S (.bl (canGath x)) m
  | _ => False
theorem line_le {n : Nat} (h : n ≤ 100000) : n ≤ sizeLine := Nat.le_trans h (by decide)
theorem ok_is_stretch (T : Tx K mg) : FnOk P w K mg base CX0 3 (He.ga K "is_stretch") T.fd_is_stretch ["x"] (lift K spStr) := by
  have G_is_tuple_of := ok_is_tuple_of (P := P) (w := w) (base := base) T
  have b_is_tuple_of := b_is_tuple_of T
  have G_is_whole := ok_is_whole (P := P) (w := w) (base := base) T
  have b_is_whole := b_is_whole T
  refine fn_sy T.F_is_stretch sc_is_stretch (fun svs m SX Sv h => ?_) (fun cdv A outer s H E hr => ⟨_, _, (gss_cons (gs_if (gt_not (gt_val (ge_call G_is_tuple_of (hr.mono (by decide)) (by rfl) T.g_is_tuple_of T.k_is_tuple_of b_is_tuple_of .nil (fun _ => .nil) pass0 (ga_cons (gv 0) (ga_cons ge_int ga_nil))))) (gss_one (gs_ret ge_bl)) gss_nil)
      (gss_cons (gs_asg (gv 0) (gg_tup 2 (by rfl) (ggs_cons (gg_name (i := 1) sc_is_stretch.nd rfl (.inl rfl)) (ggs_cons (gg_name (i := 2) sc_is_stretch.nd rfl (.inl rfl)) ggs_nil))))
      (gss_one (gs_ret (ge_and (ge_call G_is_whole (hr) (by rfl) T.g_is_whole T.k_is_whole b_is_whole .nil (fun _ => .nil) pass0 (ga_cons (gv 1) (ga_cons ge_int (ga_cons (ge_gi (by rfl) T.i_LAST_HOUR) ga_nil)))) (ge_and (ge_call G_is_whole (hr) (by rfl) T.g_is_whole T.k_is_whole b_is_whole .nil (fun _ => .nil) pass0 (ga_cons (gv 2) (ga_cons ge_int (ga_cons (ge_gi (by rfl) T.i_LAST_HOUR) ga_nil)))) (ge_one (ge_cmp (op_neG K hr.units) sim_ne (gv 1) (gv 2) (nomark _))))))))), fun svs m SX Sv h => ?_⟩)
  · unfold spStr at h
    split at h <;> first | rfl | exact h.elim
  · unfold spStr at h
    split at h
    · rename_i x
      obtain ⟨hd, q⟩ := h
      walk_at "r"
      refine ⟨hd.dat, ?_⟩
      walk_at "r"
      refine Br_i (fun h1 => ?_) (fun h1 => ?_)
      · walk_at "r"
        rw [not_tup2 (by simpa using h1)] at q
        exact .of q
      · obtain ⟨a, b, rfl⟩ := tup2 (by simpa using h1)
        cases hd with
        | tup hd =>
          walk_at "r"
          refine ⟨rfl, ?_⟩
          walk_at "r"
          refine ⟨(hd.mem (by simp)).dat, ?_⟩
          walk_at "r"
          refine Br_i (fun h2 => ?_) (fun h2 => ?_)
          · walk_at "r"
            refine ⟨(hd.mem (by simp)).dat, ?_⟩
            walk_at "r"
            refine Br_i (fun h3 => ?_) (fun h3 => ?_)
            · obtain ⟨i, rfl, _⟩ := wh_int h2
              obtain ⟨j, rfl, _⟩ := wh_int h3
              walk_at "r"
              rw [show isStr (.tup [.int i, .int j]) = !decide (i = j) by simp only [isStr, h2, h3, Bool.true_and, neI]] at q
              exact .of q
            · rw [show isStr (.tup [a, b]) = false by simp only [isStr, h2, h3, Bool.true_and, Bool.false_and]] at q
              exact .of q
          · rw [show isStr (.tup [a, b]) = false by simp only [isStr, h2, Bool.false_and]] at q
            exact .of q
    · exact h.elim
theorem ok_can_be_hushed (T : Tx K mg) : FnOk P w K mg base CX0 4 (He.ga K "can_be_hushed") T.fd_can_be_hushed ["hushed"] (lift K spHush) := by
  have G_is_stretch := ok_is_stretch (P := P) (w := w) (base := base) T
  have b_is_stretch := b_is_stretch T
  have G_is_tuple_up_to := ok_is_tuple_up_to (P := P) (w := w) (base := base) T
  have b_is_tuple_up_to := b_is_tuple_up_to T
  refine fn_sy T.F_can_be_hushed sc_can_be_hushed (fun svs m SX Sv h => ?_) (fun cdv A outer s H E hr => ⟨_, _, (gss_one (gs_ret (ge_and (ge_call G_is_tuple_up_to (hr.mono (by decide)) (by rfl) T.g_is_tuple_up_to T.k_is_tuple_up_to b_is_tuple_up_to .nil (fun _ => .nil) pass0 (ga_cons (gv 0) (ga_cons (ge_gi (by rfl) T.i_MOST_STRETCHES) ga_nil))) (ge_one (ge_callB (cr_allG K) sim_all (by rfl) T.z_all (by decide +kernel) (ga_cons (ge_lc (own := [("x", 1)]) (by rfl) sc_can_be_hushed.nd (gi_seq (gv 0)) (blkOk_by (own := [("x", 1)]) (N := ["hushed", "x"]) (sc := (defScope s_can_be_hushed)) (by decide +kernel)) (fun _ _ _ _ _ => (gg_name (i := 1) sc_can_be_hushed.nd rfl (.inl rfl))) (wp_name (by decide)) (fun _ _ _ _ _ => gts_nil) (fun _ _ _ _ _ => (ge_call G_is_stretch (hr) (by rfl) T.g_is_stretch T.k_is_stretch b_is_stretch .nil (fun _ => .nil) pass0 (ga_cons (gv 1) ga_nil)))) ga_nil)))))), fun svs m SX Sv h => ?_⟩)
  · unfold spHush at h
    split at h <;> first | rfl | exact h.elim
  · unfold spHush at h
    split at h
    · rename_i x
      obtain ⟨hd, q⟩ := h
      walk_at "r"
      refine ⟨hd.dat, ?_⟩
      walk_at "r"
      refine Br_i (fun h1 => ?_) (fun h1 => ?_)
      · cases x with
        | tup xs =>
          have hl : xs.length ≤ 3 := by simp [isTupU] at h1; omega
          cases hd with
          | tup hd =>
            walk_at "r"
            refine ⟨xs, rfl, line_le (by omega), fun p hp => ?_⟩
            refine lc_map (fun x => .bl (isStr x)) (fun _ => trivial) (fun x hx acc K1 k => ?_) ?_
            · walk_at "r"
              exact ⟨(hd.mem hx).le (Le.new (.refl m) hp), k _ (.refl _)⟩
            · walk_at "r"
              refine ⟨xs.map isStr, ?_, ?_⟩
              · walk_at "r"
                rw [up_same, List.map_map]
                rfl
              · refine ⟨m, Le.new (.refl m) hp, ?_⟩
                rw [show canHush (.tup xs) = (xs.map isStr).all id by
                  show (decide ((xs.length : Int) ≤ 3) && xs.all isStr) = _
                  rw [decide_eq_true (by omega), Bool.true_and, List.all_map]
                  rfl] at q
                exact q
        | _ => cases h1
      · rw [show canHush x = false by
          cases x <;> first | rfl | (show (decide _ && _) = false; rw [show decide _ = false from h1, Bool.false_and])] at q
        exact .of q
    · exact h.elim
end
end Hn

set_option Elab.async false
set_option linter.all false
set_option maxRecDepth 100000
set_option maxHeartbeats 8000000
namespace Hn
open PySem PySem.Spec PyProof.Rows L2 Sy Lm
section
variable {P : Program} {w : World} {K : PySem.W.Frag} {mg : Str → Option Value} {base : Heap}
local macro_rules | `(tactic| walk_at "r") => `(tactic| (conv => whnf))
local macro_rules | `(tactic| walk_at "sp") => `(tactic| (first | rfl | contradiction | exact (False.elim ‹_›)))
local macro_rules | `(tactic| walk_at "len") => `(tactic| (exact Nat.le_trans (show _ ≤ 100000 by simp) (by decide)))
local macro_rules | `(tactic| walk_at "f") => `(tactic| (refine Br_i (fun hb => Bool.noConfusion (show false = true from hb)) (fun _ => ?_)))
local macro_rules | `(tactic| walk_at "t") => `(tactic| (refine Br_i (fun _ => ?_) (fun hb => Bool.noConfusion (show true = false from hb))))
local macro_rules | `(tactic| walk_at "le") => `(tactic| first | exact Le.refl _ | (refine Le.put ?_; walk_at "le") | (refine Le.new ?_ (by assumption); walk_at "le"))
theorem gath_tup {lo : Int} {x : SV} {r : List SV} (h : isTupN x 2 = false) : gath lo (x :: r) = false := by
  cases x with
  | tup xs => rcases xs with _ | ⟨a, _ | ⟨b, _ | ⟨c, q⟩⟩⟩ <;> first | rfl | (simp [isTupN] at h; done) | (cases a <;> rfl)
  | _ => rfl
theorem ok_can_be_gather (T : Tx K mg) : FnOk P w K mg base CX0 3 (He.ga K "can_be_gather") T.fd_can_be_gather ["gather"] (lift K spGath) := by
  have G_is_tuple_of := ok_is_tuple_of (P := P) (w := w) (base := base) T
  have b_is_tuple_of := b_is_tuple_of T
  have G_is_tuple_up_to := ok_is_tuple_up_to (P := P) (w := w) (base := base) T
  have b_is_tuple_up_to := b_is_tuple_up_to T
  have G_is_whole := ok_is_whole (P := P) (w := w) (base := base) T
  have b_is_whole := b_is_whole T
  refine fn_sy T.F_can_be_gather sc_can_be_gather (fun svs m SX Sv h => ?_) (fun cdv A outer s H E hr => ⟨_, _, (gss_cons (gs_if (gt_not (gt_val (ge_call G_is_tuple_up_to (hr.mono (by decide)) (by rfl) T.g_is_tuple_up_to T.k_is_tuple_up_to b_is_tuple_up_to .nil (fun _ => .nil) pass0 (ga_cons (gv 0) (ga_cons (ge_gi (by rfl) T.i_MOST_GATHERED) ga_nil))))) (gss_one (gs_ret ge_bl)) gss_nil)
      (gss_cons (gs_set (i := 1) sc_can_be_gather.nd rfl (.inl rfl) ge_int)
      (gss_cons (gs_for PassesOwn.never rfl (gi_seq (gv 0)) (gg_name (i := 2) sc_can_be_gather.nd rfl (.inl rfl))
      (gss_cons (gs_if (gt_not (gt_val (ge_call G_is_tuple_of (hr.mono (by decide)) (by rfl) T.g_is_tuple_of T.k_is_tuple_of b_is_tuple_of .nil (fun _ => .nil) pass0 (ga_cons (gv 2) (ga_cons ge_int ga_nil))))) (gss_one (gs_ret ge_bl)) gss_nil)
      (gss_cons (gs_asg (gv 2) (gg_tup 2 (by rfl) (ggs_cons (gg_name (i := 3) sc_can_be_gather.nd rfl (.inl rfl)) (ggs_cons (gg_name (i := 4) sc_can_be_gather.nd rfl (.inl rfl)) ggs_nil))))
      (gss_cons (gs_if (gw_pt (gw_or (gt_not (gt_val (ge_call G_is_whole (hr) (by rfl) T.g_is_whole T.k_is_whole b_is_whole .nil (fun _ => .nil) pass0 (ga_cons (gv 3) (ga_cons (gv 1) (ga_cons (ge_gi (by rfl) T.i_LAST_KIND) ga_nil)))))) (gw_or1 (gt_not (gt_val (ge_call G_is_whole (hr) (by rfl) T.g_is_whole T.k_is_whole b_is_whole .nil (fun _ => .nil) pass0 (ga_cons (gv 4) (ga_cons ge_int (ga_cons (ge_gi (by rfl) T.i_MOST_SPAN) ga_nil))))))))) (gss_one (gs_ret ge_bl)) gss_nil)
      (gss_one (gs_set (i := 1) sc_can_be_gather.nd rfl (.inl rfl) (ge_op (op_addG K) sim_add (gv 3) ge_int)))))))
      (gss_one (gs_ret ge_bl))))), fun svs m SX Sv h => ?_⟩)
  · unfold spGath at h
    split at h <;> first | rfl | exact h.elim
  · unfold spGath at h
    split at h
    · rename_i x
      obtain ⟨hd, q⟩ := h
      walk_at "r"
      refine ⟨hd.dat, ?_⟩
      walk_at "r"
      refine Br_i (fun h1 => ?_) (fun h1 => ?_)
      · walk_at "r"
        rw [show canGath x = false by
          cases x <;> first | rfl | (show (decide _ && _) = false; rw [show decide _ = false by simpa [isTupU] using h1, Bool.false_and])] at q
        exact .of q
      · obtain ⟨xs, rfl⟩ : ∃ xs, x = .tup xs := by cases x <;> first | exact ⟨_, rfl⟩ | (cases h1; done)
        have hl : xs.length ≤ 4 := by simp [isTupU] at h1; omega
        have hg : canGath (.tup xs) = gath 0 xs := by
          show (decide ((xs.length : Int) ≤ 4) && gath 0 xs) = _
          rw [decide_eq_true (by omega), Bool.true_and]
        cases hd with
        | tup hd =>
          walk_at "r"
          refine ⟨xs, rfl, ?_⟩
          walk_at "r"
          refine for_inv (fun r δ m' => m' = m ∧ ∃ lo a b c, δ = [some (.tup xs), some (.int lo), a, b, c] ∧ gath lo r = gath 0 xs ∧ DDs m r) ⟨rfl, 0, none, none, none, rfl, rfl, hd⟩ (fun x r δ m' h => ?_) (fun δ m' h => ?_)
          · obtain ⟨rfl, lo, a, b, c, rfl, hr, hdr⟩ := h
            refine ⟨trivial, ?_⟩
            cases hdr with
            | cons hdx hdr =>
              walk_at "r"
              refine ⟨hdx.dat, ?_⟩
              walk_at "r"
              refine Br_i (fun h2 => ?_) (fun h2 => ?_)
              · walk_at "r"
                rw [hg, ← hr, gath_tup (by simpa using h2)] at q
                exact .of q
              · obtain ⟨k, s, rfl⟩ := tup2 (by simpa using h2)
                cases hdx with
                | tup hks =>
                  walk_at "r"
                  refine ⟨rfl, ?_⟩
                  walk_at "r"
                  refine ⟨(hks.mem (by simp)).dat, ?_⟩
                  have stop : (isWh k lo 7 && isWh s 1 12) = false → Fg (Sv (.bl false)) m' := fun e => by
                    rw [hg, ← hr, show gath lo (.tup [k, s] :: r) = false by
                      cases k <;> first | rfl | (show (isWh _ lo 7 && isWh s 1 12 && _) = false; rw [e, Bool.false_and])] at q
                    exact .of q
                  walk_at "r"
                  refine Br_i (fun h3 => ?_) (fun h3 => ?_)
                  · walk_at "r"
                    exact Br_t (by walk_at "r"; exact stop (by rw [show isWh k lo 7 = false by simpa using h3, Bool.false_and]))
                  · walk_at "r"
                    refine ⟨(hks.mem (by simp)).dat, ?_⟩
                    walk_at "r"
                    refine Br_i (fun h4 => ?_) (fun h4 => ?_)
                    · walk_at "r"
                      exact stop (by rw [show isWh s 1 12 = false by simpa using h4, Bool.and_false])
                    · have h3 : isWh k lo 7 = true := by simpa using h3
                      have h4 : isWh s 1 12 = true := by simpa using h4
                      obtain ⟨i, rfl, _⟩ := wh_int h3
                      walk_at "r"
                      refine .of ⟨rfl, i + 1, _, _, _, rfl, ?_, hdr⟩
                      rw [← hr]
                      show _ = (isWh (.int i) lo 7 && isWh s 1 12 && gath (i + 1) r)
                      rw [h3, h4]
                      rfl
          · obtain ⟨rfl, lo, a, b, c, rfl, hr, hdr⟩ := h
            refine ⟨trivial, ?_⟩
            walk_at "r"
            rw [hg, ← hr] at q
            exact .of q
    · exact h.elim
end
end Hn

set_option Elab.async false
set_option linter.all false
set_option maxRecDepth 100000
set_option maxHeartbeats 8000000
namespace Hn
open PySem PySem.Spec PyProof.Rows L2 Sy Lm
section
variable {P : Program} {w : World} {K : PySem.W.Frag} {mg : Str → Option Value} {base : Heap}
local macro_rules | `(tactic| walk_at "r") => `(tactic| (conv => whnf))
local macro_rules | `(tactic| walk_at "sp") => `(tactic| (first | rfl | contradiction | exact (False.elim ‹_›)))
local macro_rules | `(tactic| walk_at "len") => `(tactic| (exact Nat.le_trans (show _ ≤ 100000 by simp) (by decide)))
local macro_rules | `(tactic| walk_at "f") => `(tactic| (refine Br_i (fun hb => Bool.noConfusion (show false = true from hb)) (fun _ => ?_)))
local macro_rules | `(tactic| walk_at "t") => `(tactic| (refine Br_i (fun _ => ?_) (fun hb => Bool.noConfusion (show true = false from hb))))
local macro_rules | `(tactic| walk_at "le") => `(tactic| first | exact Le.refl _ | (refine Le.put ?_; walk_at "le") | (refine Le.new ?_ (by assumption); walk_at "le"))
def firstF : List Bool → Option Nat
  | [] => none
  | false :: _ => some 0
  | true :: r => (firstF r).map (· + 1)
theorem firstF_none : ∀ {bs : List Bool}, firstF bs = none ↔ bs.all id = true
  | [] => by simp [firstF]
  | false :: r => by simp [firstF]
  | true :: r => by simp [firstF, firstF_none (bs := r)]
theorem firstF_some : ∀ {bs : List Bool} {j : Nat}, firstF bs = some j → bs[j]? = some false ∧ ∀ i, i < j → bs[i]? = some true
  | [], _, h => by simp [firstF] at h
  | false :: r, j, h => by
    simp [firstF] at h
    subst h
    exact ⟨rfl, fun i hi => absurd hi (Nat.not_lt_zero _)⟩
  | true :: r, j, h => by
    simp only [firstF, Option.map_eq_some_iff] at h
    obtain ⟨k, h1, rfl⟩ := h
    obtain ⟨h2, h3⟩ := firstF_some h1
    refine ⟨by simpa using h2, fun i hi => ?_⟩
    cases i with
    | zero => rfl
    | succ i => simpa using h3 i (by omega)
def optV : Option Int → SV
  | none => .non
  | some i => .int i
def fitsOf (h l g w f : SV) (many : Int) : List Bool := [canHush h, isWh l 0 4, canGath g, isNon w || isWh w 1 24, isNon f || isWh f 0 (many - 1)]
def firstB (x : SV) (many : Int) : Option Int := match x with
  | .tup [h, l, g, w, f] => (firstF (fitsOf h l g w f many)).map fun (j : Nat) => (j : Int)
  | _ => some (-1)
def spFirst : SpS := fun vs m _ S => match vs with
  | [x, .int many] => DD m x ∧ S (optV (firstB x many)) m
  | _ => False
theorem tup5 {x : SV} (h : isTupN x 5 = true) : ∃ a b c d e, x = .tup [a, b, c, d, e] := by
  cases x with
  | tup xs => rcases xs with _ | ⟨a, _ | ⟨b, _ | ⟨c, _ | ⟨d, _ | ⟨e, _ | ⟨f, r⟩⟩⟩⟩⟩⟩ <;> first | exact ⟨_, _, _, _, _, rfl⟩ | (simp [isTupN] at h; done) | (simp [isTupN] at h; omega)
  | _ => cases h
theorem not_tup5 {x : SV} {many : Int} (h : isTupN x 5 = false) : firstB x many = some (-1) := by
  cases x with
  | tup xs => rcases xs with _ | ⟨a, _ | ⟨b, _ | ⟨c, _ | ⟨d, _ | ⟨e, _ | ⟨f, r⟩⟩⟩⟩⟩⟩ <;> first | rfl | (simp [isTupN] at h; done)
  | _ => rfl
theorem eqS_false {b : Bool} : eqS (.bl b) (.bl false) = !b := by cases b <;> rfl
theorem flat_bls : ∀ bs : List Bool, (bs.map SV.bl).all flatS = true
  | [] => rfl
  | _ :: r => by rw [List.map_cons, List.all_cons, flat_bls r]; rfl
theorem ok_first_bad_part (T : Tx K mg) : FnOk P w K mg base CX0 5 (He.ga K "first_bad_part") T.fd_first_bad_part ["row", "many"] (lift K spFirst) := by
  have G_can_be_gather := ok_can_be_gather (P := P) (w := w) (base := base) T
  have b_can_be_gather := b_can_be_gather T
  have G_can_be_hushed := ok_can_be_hushed (P := P) (w := w) (base := base) T
  have b_can_be_hushed := b_can_be_hushed T
  have G_is_tuple_of := ok_is_tuple_of (P := P) (w := w) (base := base) T
  have b_is_tuple_of := b_is_tuple_of T
  have G_is_whole := ok_is_whole (P := P) (w := w) (base := base) T
  have b_is_whole := b_is_whole T
  refine fn_sy T.F_first_bad_part sc_first_bad_part (fun svs m SX Sv h => ?_) (fun cdv A outer s H E hr => ⟨_, _, (gss_cons (gs_if (gt_not (gt_val (ge_call G_is_tuple_of (hr.mono (by decide)) (by rfl) T.g_is_tuple_of T.k_is_tuple_of b_is_tuple_of .nil (fun _ => .nil) pass0 (ga_cons (gv 0) (ga_cons (ge_gi (by rfl) T.i_MANY_PARTS) ga_nil))))) (gss_one (gs_ret (ge_gi (by rfl) T.i_NO_PART))) gss_nil)
      (gss_cons (gs_asg (gv 0) (gg_tup 5 (by rfl) (ggs_cons (gg_name (i := 2) sc_first_bad_part.nd rfl (.inl rfl)) (ggs_cons (gg_name (i := 3) sc_first_bad_part.nd rfl (.inl rfl)) (ggs_cons (gg_name (i := 4) sc_first_bad_part.nd rfl (.inl rfl)) (ggs_cons (gg_name (i := 5) sc_first_bad_part.nd rfl (.inl rfl)) (ggs_cons (gg_name (i := 6) sc_first_bad_part.nd rfl (.inl rfl)) ggs_nil)))))))
      (gss_cons (gs_set (i := 7) sc_first_bad_part.nd rfl (.inl rfl) (ge_lst (ga_cons (ge_call G_can_be_hushed (hr) (by rfl) T.g_can_be_hushed T.k_can_be_hushed b_can_be_hushed .nil (fun _ => .nil) pass0 (ga_cons (gv 2) ga_nil)) (ga_cons (ge_call G_is_whole (hr.mono (by decide)) (by rfl) T.g_is_whole T.k_is_whole b_is_whole .nil (fun _ => .nil) pass0 (ga_cons (gv 3) (ga_cons ge_int (ga_cons (ge_gi (by rfl) T.i_MOST_LEAST) ga_nil)))) (ga_cons (ge_call G_can_be_gather (hr.mono (by decide)) (by rfl) T.g_can_be_gather T.k_can_be_gather b_can_be_gather .nil (fun _ => .nil) pass0 (ga_cons (gv 4) ga_nil)) (ga_cons (ge_or (ge_cmp op_isN sim_isN (gv 5) ge_non (nomark _)) (ge_one (ge_call G_is_whole (hr.mono (by decide)) (by rfl) T.g_is_whole T.k_is_whole b_is_whole .nil (fun _ => .nil) pass0 (ga_cons (gv 5) (ga_cons ge_int (ga_cons (ge_gi (by rfl) T.i_MOST_WAIT) ga_nil)))))) (ga_cons (ge_or (ge_cmp op_isN sim_isN (gv 6) ge_non (nomark _)) (ge_one (ge_call G_is_whole (hr.mono (by decide)) (by rfl) T.g_is_whole T.k_is_whole b_is_whole .nil (fun _ => .nil) pass0 (ga_cons (gv 6) (ga_cons ge_int (ga_cons (ge_op op_sub sim_sub (gv 1) ge_int) ga_nil)))))) ga_nil)))))))
      (gss_cons (gs_if (gt_val (ge_callB (cr_allG K) sim_all (by rfl) T.z_all (by decide +kernel) (ga_cons (gv 7) ga_nil))) (gss_one (gs_ret ge_non)) gss_nil)
      (gss_one (gs_ret (ge_bm PySem.F.plainAttrs_list PySem.F.slot_list_index PySem.F.type_list_index (mt_indexG K) simk_L sim_index (gv 7) (ga_cons ge_bl ga_nil)))))))), fun svs m SX Sv h => ?_⟩)
  · unfold spFirst at h
    split at h <;> first | rfl | exact h.elim
  · unfold spFirst at h
    split at h
    · rename_i x many
      obtain ⟨hd, q⟩ := h
      walk_at "r"
      refine ⟨hd.dat, ?_⟩
      walk_at "r"
      refine Br_i (fun h1 => ?_) (fun h1 => ?_)
      · walk_at "r"
        rw [not_tup5 (by simpa using h1)] at q
        exact .of q
      · obtain ⟨a, b, c, d, e, rfl⟩ := tup5 (by simpa using h1)
        cases hd with
        | tup hd =>
          have da := hd.mem (x := a) (by simp)
          have db := hd.mem (x := b) (by simp)
          have dc := hd.mem (x := c) (by simp)
          have dd := hd.mem (x := d) (by simp)
          have de := hd.mem (x := e) (by simp)
          have q : Sv (optV ((firstF (fitsOf a b c d e many)).map fun (j : Nat) => (j : Int))) m := q
          walk_at "r"
          refine ⟨rfl, ?_⟩
          walk_at "r"
          refine ⟨da, ?_⟩
          walk_at "r"
          refine ⟨db.dat, ?_⟩
          walk_at "r"
          refine ⟨dc, ?_⟩
          have last : ∀ (bw bf : Bool), bw = (isNon d || isWh d 1 24) → bf = (isNon e || isWh e 0 (many - 1)) → ∀ p, m p = none → ∀ (bs : List Bool), bs = [canHush a, isWh b 0 4, canGath c, bw, bf] → (bs.all id = true → Fg (Sv .non) (up m p (.lst (bs.map .bl)))) ∧ (bs.all id = false → ∃ j : Nat, bs[j]? = some false ∧ (∀ i, i < j → bs[i]? = some true) ∧ Fg (Sv (.int j)) (up m p (.lst (bs.map .bl)))) := by
            intro bw bf e1 e2 p hp bs e3
            have e4 : fitsOf a b c d e many = bs := by rw [e3, e1, e2]; rfl
            rw [e4] at q
            refine ⟨fun ha => ?_, fun ha => ?_⟩
            · rw [firstF_none.mpr ha] at q
              exact ⟨m, .new (.refl m) hp, q⟩
            · cases hj : firstF bs with
              | none => rw [firstF_none.mp hj] at ha; cases ha
              | some j =>
                obtain ⟨h2, h3⟩ := firstF_some hj
                rw [hj] at q
                exact ⟨j, h2, h3, m, .new (.refl m) hp, q⟩
          refine Br_i (fun h2 => ?_) (fun h2 => ?_)
          · walk_at "r"
            refine Br_i (fun h3 => ?_) (fun h3 => ?_)
            · walk_at "r"
              refine ⟨by walk_at "len", fun p hp => ?_⟩
              obtain ⟨l1, l2⟩ := last (true) (true) (by rw [h2]; rfl) (by rw [h3]; rfl) p hp _ rfl
              walk_at "r"
              refine ⟨[canHush a, isWh b 0 4, canGath c, true, true], ?_, ?_⟩
              · walk_at "r"
                rw [up_same]
                rfl
              walk_at "r"
              refine Br_i (fun h4 => ?_) (fun h4 => ?_)
              · walk_at "r"
                exact l1 h4
              · obtain ⟨j, h5, h6, h7⟩ := l2 h4
                walk_at "r"
                refine ⟨⟨_, up_same⟩, ?_⟩
                walk_at "r"
                refine ⟨_, j, .bl false, up_same, rfl, flat_bls [canHush a, isWh b 0 4, canGath c, true, true], ?_, rfl, fun i z hi hz => ?_, ?_⟩
                · show ([canHush a, isWh b 0 4, canGath c, true, true].map SV.bl)[j]? = _
                  rw [List.getElem?_map, h5]
                  rfl
                · have hz : ([canHush a, isWh b 0 4, canGath c, true, true].map SV.bl)[i]? = some z := hz
                  rw [List.getElem?_map, h6 i hi] at hz
                  cases hz
                  rfl
                · walk_at "r"
                  exact h7
            · walk_at "r"
              refine ⟨de.dat, ?_⟩
              walk_at "r"
              refine ⟨by walk_at "len", fun p hp => ?_⟩
              obtain ⟨l1, l2⟩ := last (true) (isWh e 0 (many - 1)) (by rw [h2]; rfl) (by rw [h3]; rfl) p hp _ rfl
              walk_at "r"
              refine ⟨[canHush a, isWh b 0 4, canGath c, true, isWh e 0 (many - 1)], ?_, ?_⟩
              · walk_at "r"
                rw [up_same]
                rfl
              walk_at "r"
              refine Br_i (fun h4 => ?_) (fun h4 => ?_)
              · walk_at "r"
                exact l1 h4
              · obtain ⟨j, h5, h6, h7⟩ := l2 h4
                walk_at "r"
                refine ⟨⟨_, up_same⟩, ?_⟩
                walk_at "r"
                refine ⟨_, j, .bl false, up_same, rfl, flat_bls [canHush a, isWh b 0 4, canGath c, true, isWh e 0 (many - 1)], ?_, rfl, fun i z hi hz => ?_, ?_⟩
                · show ([canHush a, isWh b 0 4, canGath c, true, isWh e 0 (many - 1)].map SV.bl)[j]? = _
                  rw [List.getElem?_map, h5]
                  rfl
                · have hz : ([canHush a, isWh b 0 4, canGath c, true, isWh e 0 (many - 1)].map SV.bl)[i]? = some z := hz
                  rw [List.getElem?_map, h6 i hi] at hz
                  cases hz
                  rfl
                · walk_at "r"
                  exact h7
          · walk_at "r"
            refine ⟨dd.dat, ?_⟩
            walk_at "r"
            refine Br_i (fun h3 => ?_) (fun h3 => ?_)
            · walk_at "r"
              refine ⟨by walk_at "len", fun p hp => ?_⟩
              obtain ⟨l1, l2⟩ := last (isWh d 1 24) (true) (by rw [h2]; rfl) (by rw [h3]; rfl) p hp _ rfl
              walk_at "r"
              refine ⟨[canHush a, isWh b 0 4, canGath c, isWh d 1 24, true], ?_, ?_⟩
              · walk_at "r"
                rw [up_same]
                rfl
              walk_at "r"
              refine Br_i (fun h4 => ?_) (fun h4 => ?_)
              · walk_at "r"
                exact l1 h4
              · obtain ⟨j, h5, h6, h7⟩ := l2 h4
                walk_at "r"
                refine ⟨⟨_, up_same⟩, ?_⟩
                walk_at "r"
                refine ⟨_, j, .bl false, up_same, rfl, flat_bls [canHush a, isWh b 0 4, canGath c, isWh d 1 24, true], ?_, rfl, fun i z hi hz => ?_, ?_⟩
                · show ([canHush a, isWh b 0 4, canGath c, isWh d 1 24, true].map SV.bl)[j]? = _
                  rw [List.getElem?_map, h5]
                  rfl
                · have hz : ([canHush a, isWh b 0 4, canGath c, isWh d 1 24, true].map SV.bl)[i]? = some z := hz
                  rw [List.getElem?_map, h6 i hi] at hz
                  cases hz
                  rfl
                · walk_at "r"
                  exact h7
            · walk_at "r"
              refine ⟨de.dat, ?_⟩
              walk_at "r"
              refine ⟨by walk_at "len", fun p hp => ?_⟩
              obtain ⟨l1, l2⟩ := last (isWh d 1 24) (isWh e 0 (many - 1)) (by rw [h2]; rfl) (by rw [h3]; rfl) p hp _ rfl
              walk_at "r"
              refine ⟨[canHush a, isWh b 0 4, canGath c, isWh d 1 24, isWh e 0 (many - 1)], ?_, ?_⟩
              · walk_at "r"
                rw [up_same]
                rfl
              walk_at "r"
              refine Br_i (fun h4 => ?_) (fun h4 => ?_)
              · walk_at "r"
                exact l1 h4
              · obtain ⟨j, h5, h6, h7⟩ := l2 h4
                walk_at "r"
                refine ⟨⟨_, up_same⟩, ?_⟩
                walk_at "r"
                refine ⟨_, j, .bl false, up_same, rfl, flat_bls [canHush a, isWh b 0 4, canGath c, isWh d 1 24, isWh e 0 (many - 1)], ?_, rfl, fun i z hi hz => ?_, ?_⟩
                · show ([canHush a, isWh b 0 4, canGath c, isWh d 1 24, isWh e 0 (many - 1)].map SV.bl)[j]? = _
                  rw [List.getElem?_map, h5]
                  rfl
                · have hz : ([canHush a, isWh b 0 4, canGath c, isWh d 1 24, isWh e 0 (many - 1)].map SV.bl)[i]? = some z := hz
                  rw [List.getElem?_map, h6 i hi] at hz
                  cases hz
                  rfl
                · walk_at "r"
                  exact h7
    · exact h.elim
end
end Hn

set_option Elab.async false
set_option linter.all false
set_option maxRecDepth 100000
set_option maxHeartbeats 8000000
namespace Hn
open PySem PySem.Spec PyProof.Rows L2 Sy Lm
section
variable {P : Program} {w : World} {K : PySem.W.Frag} {mg : Str → Option Value} {base : Heap}
local macro_rules | `(tactic| walk_at "r") => `(tactic| (conv => whnf))
local macro_rules | `(tactic| walk_at "sp") => `(tactic| (first | rfl | contradiction | exact (False.elim ‹_›)))
local macro_rules | `(tactic| walk_at "len") => `(tactic| (exact Nat.le_trans (show _ ≤ 100000 by simp) (by decide)))
local macro_rules | `(tactic| walk_at "f") => `(tactic| (refine Br_i (fun hb => Bool.noConfusion (show false = true from hb)) (fun _ => ?_)))
local macro_rules | `(tactic| walk_at "t") => `(tactic| (refine Br_i (fun _ => ?_) (fun hb => Bool.noConfusion (show true = false from hb))))
local macro_rules | `(tactic| walk_at "le") => `(tactic| first | exact Le.refl _ | (refine Le.put ?_; walk_at "le") | (refine Le.new ?_ (by assumption); walk_at "le"))
structure PR where
  hs : List (Int × Int)
  least : Int
  gs : List (Int × Int)
  wait : Option Int
  fur : Option Int
def pairV (p : Int × Int) : SV := .tup [.int p.1, .int p.2]
def PR.sv (r : PR) : SV := .tup [.tup (r.hs.map pairV), .int r.least, .tup (r.gs.map pairV), optV r.wait, optV r.fur]
def gOk : Int → List (Int × Int) → Prop
  | _, [] => True
  | lo, p :: r => lo ≤ p.1 ∧ p.1 ≤ 7 ∧ 1 ≤ p.2 ∧ p.2 ≤ 12 ∧ gOk (p.1 + 1) r
structure PR.Ok (many : Nat) (r : PR) : Prop where
  hl : r.hs.length ≤ 3
  hs : ∀ p ∈ r.hs, (0 ≤ p.1 ∧ p.1 ≤ 23) ∧ (0 ≤ p.2 ∧ p.2 ≤ 23) ∧ p.1 ≠ p.2
  le : 0 ≤ r.least ∧ r.least ≤ 4
  gl : r.gs.length ≤ 4
  gs : gOk 0 r.gs
  wt : ∀ i, r.wait = some i → 1 ≤ i ∧ i ≤ 24
  fu : ∀ i, r.fur = some i → 0 ≤ i ∧ i < many
def RV (R : List PR) : SV := .tup (R.map PR.sv)
structure RulesOk (R : List PR) : Prop where
  one : 1 ≤ R.length
  six : R.length ≤ 6
  all : ∀ r ∈ R, r.Ok R.length
theorem wh_of {i lo hi : Int} (h1 : lo ≤ i) (h2 : i ≤ hi) : isWh (.int i) lo hi = true := by
  show (decide (lo ≤ i) && decide (i ≤ hi)) = true
  rw [decide_eq_true h1, decide_eq_true h2]
  rfl
theorem gath_of : ∀ (gs : List (Int × Int)) (lo : Int), gOk lo gs → gath lo (gs.map pairV) = true
  | [], _, _ => rfl
  | p :: r, lo, h => by
    obtain ⟨h1, h2, h3, h4, h5⟩ := h
    show (isWh (.int p.1) lo 7 && isWh (.int p.2) 1 12 && gath (p.1 + 1) (r.map pairV)) = true
    rw [wh_of h1 h2, wh_of h3 h4, gath_of r _ h5]
    rfl
theorem PR.Ok.good {many : Nat} {r : PR} (h : r.Ok many) : firstB r.sv (many : Int) = none := by
  have h1 : canHush (.tup (r.hs.map pairV)) = true := by
    have hl := h.hl
    show (decide (((r.hs.map pairV).length : Int) ≤ 3) && (r.hs.map pairV).all isStr) = true
    rw [decide_eq_true (by rw [List.length_map]; omega), Bool.true_and, List.all_map, List.all_eq_true]
    intro p hp
    obtain ⟨a, b, c⟩ := h.hs p hp
    show (isWh (.int p.1) 0 23 && (isWh (.int p.2) 0 23 && !decide (p.1 = p.2))) = true
    rw [wh_of a.1 a.2, wh_of b.1 b.2, decide_eq_false c]
    rfl
  have h2 : canGath (.tup (r.gs.map pairV)) = true := by
    have hl := h.gl
    show (decide (((r.gs.map pairV).length : Int) ≤ 4) && gath 0 (r.gs.map pairV)) = true
    rw [decide_eq_true (by rw [List.length_map]; omega), Bool.true_and]
    exact gath_of _ _ h.gs
  have h3 : isWh (.int r.least) 0 4 = true := wh_of h.le.1 h.le.2
  have h4 : (isNon (optV r.wait) || isWh (optV r.wait) 1 24) = true := by
    cases e : r.wait with
    | none => rfl
    | some i =>
      obtain ⟨a, b⟩ := h.wt i e
      show (false || isWh (.int i) 1 24) = true
      rw [wh_of a b]
      rfl
  have h5 : (isNon (optV r.fur) || isWh (optV r.fur) 0 ((many : Int) - 1)) = true := by
    cases e : r.fur with
    | none => rfl
    | some i =>
      obtain ⟨a, b⟩ := h.fu i e
      show (false || isWh (.int i) 0 ((many : Int) - 1)) = true
      rw [wh_of a (by omega)]
      rfl
  show ((firstF (fitsOf _ _ _ _ _ _)).map fun (j : Nat) => (j : Int)) = none
  rw [firstF_none.mpr]
  · rfl
  · unfold fitsOf
    rw [h1, h2, h3, h4, h5]
    rfl
theorem dd_opt {m : Mem} (o : Option Int) : DD m (optV o) := by cases o <;> constructor
theorem dd_pairs {m : Mem} (ps : List (Int × Int)) : DD m (.tup (ps.map pairV)) := .tup (.of fun x hx => by
  obtain ⟨p, _, rfl⟩ := List.mem_map.mp hx
  exact .tup (.cons (.int _) (.cons (.int _) .nil)))
theorem PR.dd {m : Mem} (r : PR) : DD m r.sv := .tup (.cons (dd_pairs _) (.cons (.int _) (.cons (dd_pairs _) (.cons (dd_opt _) (.cons (dd_opt _) .nil)))))
def spRules : SpS := fun vs m _ S => ∃ R, vs = [RV R] ∧ RulesOk R ∧ S .non m
theorem rv_get {R : List PR} {i : Nat} (h : i < R.length) : atI (R.map PR.sv) (i : Int) = some (R[i]).sv := atI_nat (by rw [List.getElem?_map, List.getElem?_eq_getElem h]; rfl)
theorem ok_refuse_bad_rules (T : Tx K mg) : FnOk P w K mg base CX0 6 (He.ga K "refuse_bad_rules") T.fd_refuse_bad_rules ["rules"] (lift K spRules) := by
  have G_first_bad_part := ok_first_bad_part (P := P) (w := w) (base := base) T
  have b_first_bad_part := b_first_bad_part T
  refine fn_sy T.F_refuse_bad_rules sc_refuse_bad_rules (fun svs m SX Sv h => ?_) (fun cdv A outer s H E hr => ⟨_, _, (gss_cons (gs_if (gw_pt (gw_or (gt_not (gt_val (ge_callB (cr_isi K) sim_isi (by rfl) T.z_isinstance (by decide +kernel) (ga_cons (gv 0) (ga_cons (ge_ty (n := "tuple") (by rfl) T.z_tuple (by decide +kernel)) ga_nil))))) (gw_or1 (gt_cmp (op_eqG K hr.units) sim_eq (ge_callB (cr_len K) sim_len (by rfl) T.z_len (by decide +kernel) (ga_cons (gv 0) ga_nil)) ge_int (nomark _))))) (gss_one gs_never) gss_nil)
      (gss_cons (gs_set (i := 1) sc_refuse_bad_rules.nd rfl (.inl rfl) (ge_callB (call_min2 rfl) sim_min2 (by rfl) T.z_min (by decide +kernel) (ga_cons (ge_callB (cr_len K) sim_len (by rfl) T.z_len (by decide +kernel) (ga_cons (gv 0) ga_nil)) (ga_cons (ge_gi (by rfl) T.i_MOST_PERSONS) ga_nil))))
      (gss_cons (gs_for PassesOwn.never rfl (gi_range1 (by rfl) T.z_range (ga_cons (gv 1) ga_nil)) (gg_name (i := 2) sc_refuse_bad_rules.nd rfl (.inl rfl))
      (gss_cons (gs_set (i := 3) sc_refuse_bad_rules.nd rfl (.inl rfl) (ge_call G_first_bad_part (hr) (by rfl) T.g_first_bad_part T.k_first_bad_part b_first_bad_part .nil (fun _ => .nil) pass0 (ga_cons (ge_ix (ix_G K) sim_ix (gv 0) (gv 2) (fun _ _ => rfl)) (ga_cons (gv 1) ga_nil))))
      (gss_one (gs_if (gt_cmp op_notN sim_notN (gv 3) ge_non (nomark _)) (gss_one gs_never) gss_nil))))
      (gss_one (gs_if (gt_cmp op_gt sim_gt (ge_callB (cr_len K) sim_len (by rfl) T.z_len (by decide +kernel) (ga_cons (gv 0) ga_nil)) (ge_gi (by rfl) T.i_MOST_PERSONS) (nomark _)) (gss_one gs_never) gss_nil))))), fun svs m SX Sv h => ?_⟩)
  · obtain ⟨R, rfl, _⟩ := h
    rfl
  · obtain ⟨R, rfl, ok, q⟩ := h
    have h1 := ok.one
    have h6 := ok.six
    walk_at "r"
    refine ⟨by decide, _, rfl, ?_⟩
    walk_at "r"
    walk_at "f"
    walk_at "r"
    refine ⟨_, rfl, ?_⟩
    walk_at "r"
    refine Br_i (fun h2 => ?_) (fun h2 => ?_)
    · have := of_decide_eq_true h2
      rw [List.length_map] at this
      omega
    walk_at "r"
    refine ⟨_, rfl, ?_⟩
    walk_at "r"
    rw [List.length_map, if_neg (by omega)]
    refine ⟨⟨by omega, by omega⟩, ?_⟩
    walk_at "r"
    refine for_inv (fun r δ m' => m' = m ∧ ∃ a b, δ = [some (RV R), some (.int R.length), a, b] ∧ ∀ x ∈ r, ∃ i : Nat, x = .int i ∧ i < R.length) ⟨rfl, none, none, rfl, fun x hx => ?_⟩ (fun x r δ m' h => ?_) (fun δ m' h => ?_)
    · obtain ⟨i, hi⟩ := List.getElem?_of_mem hx
      obtain ⟨h3, h4⟩ := rngS_get _ _ _ _ hi
      exact ⟨i, by rw [h4]; simp, by omega⟩
    · obtain ⟨rfl, a, b, rfl, hr⟩ := h
      obtain ⟨i, rfl, hi⟩ := hr x List.mem_cons_self
      refine ⟨trivial, ?_⟩
      walk_at "r"
      refine ⟨_, rv_get hi, ?_⟩
      walk_at "r"
      refine ⟨PR.dd _, ?_⟩
      rw [(ok.all _ (List.getElem_mem hi)).good]
      walk_at "r"
      refine Br_f ?_
      walk_at "r"
      exact .of ⟨rfl, _, _, rfl, fun x hx => hr x (List.mem_cons_of_mem _ hx)⟩
    · obtain ⟨rfl, a, b, rfl, _⟩ := h
      refine ⟨trivial, ?_⟩
      walk_at "r"
      refine ⟨_, rfl, ?_⟩
      walk_at "r"
      refine Br_i (fun h2 => ?_) (fun h2 => ?_)
      · have := of_decide_eq_true h2
        rw [List.length_map] at this
        omega
      · exact .of q
/-- a person of so many, or BadPerson -/
def spPerson (C : Addr) : SpS := fun vs m SX S => match vs with
  | [.tup xs, x] => Dat m x ∧ ((isWh x 0 (xs.length - 1) = true → S .non m) ∧ (isWh x 0 (xs.length - 1) = false → SX ⟨C, none⟩ m))
  | _ => False
theorem ok_refuse_bad_person (T : Tx K mg) : FnOk P w K mg base (L2.CX P w) 3 (He.ga K "refuse_bad_person") T.fd_refuse_bad_person ["rules", "person"] (lift K (spPerson (He.ga K "BadPerson"))) := by
  have G_is_whole := ok_is_whole (P := P) (w := w) (base := base) T
  have b_is_whole := b_is_whole T
  refine fn_syX T.F_refuse_bad_person sc_refuse_bad_person (fun svs m SX Sv h => ?_) (fun cdv A outer s H E hr => ⟨_, _, (gss_one (gs_if (gt_not (gt_val (ge_call G_is_whole (hr) (by rfl) T.g_is_whole T.k_is_whole b_is_whole .nil (fun _ => .nil) pass0 (ga_cons (gv 1) (ga_cons ge_int (ga_cons (ge_op op_sub sim_sub (ge_callB (cr_len K) sim_len (by rfl) T.z_len (by decide +kernel) (ga_cons (gv 0) ga_nil)) ge_int) ga_nil)))))) (gss_one (gs_raise (ps_raise rfl (takes_of rfl rfl rfl rfl) (pmk_own PySem.F.excBase_ValueError T.x_BadPerson T.g_BadPerson T.k_BadPerson (raises_own T.e_BadPerson T.t_BadPerson) (by exact rfl))))) gss_nil)), fun svs m SX Sv h => ?_⟩)
  · unfold spPerson at h
    split at h <;> first | rfl | exact h.elim
  · unfold spPerson at h
    split at h
    · obtain ⟨hd, q1, q2⟩ := h
      walk_at "r"
      refine ⟨_, rfl, ?_⟩
      walk_at "r"
      refine ⟨hd, ?_⟩
      walk_at "r"
      refine Br_i (fun h2 => ?_) (fun h2 => ?_)
      · walk_at "r"
        exact .of (q2 (by simpa using h2))
      · exact .of (q1 (by simpa using h2))
    · exact h.elim
end
end Hn

set_option Elab.async false
set_option linter.all false
set_option maxRecDepth 100000
set_option maxHeartbeats 8000000
namespace Hn
open PySem PySem.Spec PyProof.Rows L2 Sy Lm
section
variable {P : Program} {w : World} {K : PySem.W.Frag} {mg : Str → Option Value} {base : Heap}
local macro_rules | `(tactic| walk_at "r") => `(tactic| (conv => whnf))
local macro_rules | `(tactic| walk_at "sp") => `(tactic| (first | rfl | contradiction | exact (False.elim ‹_›)))
local macro_rules | `(tactic| walk_at "len") => `(tactic| (exact Nat.le_trans (show _ ≤ 100000 by simp) (by decide)))
local macro_rules | `(tactic| walk_at "f") => `(tactic| (refine Br_i (fun hb => Bool.noConfusion (show false = true from hb)) (fun _ => ?_)))
local macro_rules | `(tactic| walk_at "t") => `(tactic| (refine Br_i (fun _ => ?_) (fun hb => Bool.noConfusion (show true = false from hb))))
local macro_rules | `(tactic| walk_at "le") => `(tactic| first | exact Le.refl _ | (refine Le.put ?_; walk_at "le") | (refine Le.new ?_ (by assumption); walk_at "le"))
theorem lay_ints : ∀ ns : List Int, PyData.canLayAll0 (ns.map PyData.int) = true ∧ PyData.depthAll (ns.map PyData.int) ≤ 1
  | [] => ⟨by simp [PyData.canLayAll0], by simp [PyData.depthAll]⟩
  | n :: r => by
    have h := lay_ints r
    have h2 := h.2
    refine ⟨by simp [PyData.canLayAll0, PyData.canLay0, h.1], ?_⟩
    simp only [List.map_cons, PyData.depthAll, PyData.depth]
    omega
theorem shaped_ints : ∀ ns : List Int, SeqAt.shaped (.list (ns.map PyData.int)) = true := fun ns => by
  have h := lay_ints ns
  have h2 := h.2
  unfold SeqAt.shaped
  have h3 : (1 + PyData.depthAll (ns.map PyData.int)) ≤ 64 := by omega
  simp only [PyData.canLay0, PyData.depth, h.1, Bool.true_and]
  exact decide_eq_true (by first | exact h3 | (rw [Nat.add_comm]; exact h3))
theorem rds_ints {m : Mem} : ∀ ns : List Int, Rds m (ns.map SV.int) (ns.map PyData.int)
  | [] => .nil
  | _ :: r => .cons (.int _) (rds_ints r)
def spTakeO : SpS := fun vs m _ S => ∃ b c sv ns k, vs = [.ref b, .int k] ∧ m b = some (.lst [.ref c, .int sv]) ∧ m c = some (.lst (List.map SV.int ns)) ∧ ns.length ≤ 63 ∧ 0 < k ∧ k.natAbs < 2 ^ 8000 ∧
  ∀ (n : Int) (ns' : List Int) (sv' : Int), 0 ≤ n → n < k → ns'.length ≤ 63 → S (.int n) (up (up m c (.lst (ns'.map .int))) b (.lst [.ref c, .int sv']))
def IsBox (m : Mem) (b : Addr) : Prop := ∃ c, m b = some (.box c) ∧ m c = some .bxi
def spTake : SpS := fun vs m _ S => match vs with
  | [.ref b, .int k] => IsBox m b ∧ (0 < k ∧ k.natAbs < 2 ^ 8000) ∧ ∀ n : Int, 0 ≤ n → n < k → S (.int n) m
  | _ => False
theorem take_imp {vs : List V} {H : Hp} {Q : VK} {E : XK} (h : lift K spTake vs H Q E) : lift K spTakeO vs H Q E := by
  obtain ⟨F, svs, m, SX, S, M, r, h, hx, c⟩ := h
  unfold spTake at h
  split at h
  · rename_i b k
    obtain ⟨⟨c0, hb, hc⟩, ⟨k0, k1⟩, q⟩ := h
    have ne : c0 ≠ b := fun e => by rw [e, hb] at hc; cases hc
    obtain ⟨sv, eb⟩ := (M.at_ b _ hb).2
    obtain ⟨ns, ec, hl⟩ := (M.at_ c0 _ hc).2
    have M1 : MR K F H (up m c0 (.lst (ns.map .int))) := M.reab hc (fun u e x => by rw [ec] at e; cases e; exact x) ⟨_, ec, vrs_of_ints ns⟩
    have M2 : MR K F H (up (up m c0 (.lst (ns.map .int))) b (.lst [.ref c0, .int sv])) := M1.reab (by rw [up_ne (Ne.symm ne)]; exact hb) (fun u e x => by rw [eb] at e; cases e; exact x) ⟨_, eb, .cons (.ref _) (.cons (.int _) .nil)⟩
    refine ⟨F, _, _, SX, fun v m' => ∃ (n : Int) (ns' : List Int) (sv' : Int), v = .int n ∧ ns'.length ≤ 63 ∧ 0 ≤ n ∧ n < k ∧ m' = up (up m c0 (.lst (ns'.map .int))) b (.lst [.ref c0, .int sv']), M2, r, ⟨b, c0, sv, ns, k, rfl, up_same, by rw [up_ne ne]; exact up_same, hl, k0, k1, fun n ns' sv' n0 n1 hl' => ⟨n, ns', sv', rfl, hl', n0, n1, ?_⟩⟩, hx, fun v F' H' sv2 m2 s2 M3 v3 h3 => ?_⟩
    · rw [up_comm (a := b) (b := c0) (Ne.symm ne), up_up, up_up]
    · obtain ⟨n, ns', sv', rfl, hl', n0, n1, rfl⟩ := h3
      refine c v F' H' (.int n) m s2 ?_ v3 (q n n0 n1)
      obtain ⟨ws, e1, r1⟩ := M3.lst_ up_same
      obtain ⟨us, e2, r2⟩ := M3.lst_ (show (up (up m c0 (.lst (ns'.map .int))) b (.lst [.ref c0, .int sv'])) c0 = _ by rw [up_ne ne]; exact up_same)
      obtain rfl := vrs_ints r2
      obtain ⟨w1, w2, rfl, r3, r4⟩ := vrs_two r1
      obtain rfl := vr_ref r3
      obtain rfl := vr_int r4
      have M4 := M3.reab (o := .box c0) up_same (fun u e x => by rw [e1] at e; cases e; exact x) ⟨sv', e1⟩
      have M5 := M4.reab (a := c0) (o := .bxi) (o0 := .lst (ns'.map .int)) (by rw [up_ne ne, up_ne ne, up_same]) (fun u e x => by rw [e2] at e; cases e; exact x) ⟨ns', e2, hl'⟩
      rw [up_up, up_comm (Ne.symm ne), up_up] at M5
      rwa [up_id hc, up_id hb] at M5
  · exact h.elim
theorem okO_law_take (T : Tx K mg) : FnOk P w K mg base CX0 1 (He.ga K "_law_take") T.fd__law_take ["_law_box", "_law_many"] (lift K spTakeO) := by
  refine fn_sy T.F__law_take sc_law_take (fun svs m SX Sv h => ?_) (fun cdv A outer s H E hr => ⟨_, _, (gss_cons (gs_if (gt_cmp (op_eqG K hr.units) sim_eq (ge_ix (ix_G K) sim_ix (gv 0) ge_int (fun _ _ => rfl)) (ge_lst ga_nil) (nomark _)) (gss_cons (gs_asg (ge_op op_mod sim_mod (ge_op op_mulG sim_mul (ge_ix (ix_G K) sim_ix (gv 0) ge_int (fun _ _ => rfl)) ge_int) ge_int) (gg_subL (gv 0) ge_int))
      (gss_one (gs_ret (ge_op op_mod sim_mod (ge_op op_fdivG sim_fdiv (ge_ix (ix_G K) sim_ix (gv 0) ge_int (fun _ _ => rfl)) ge_int) (gv 1))))) gss_nil)
      (gss_cons (gs_set (i := 2) sc_law_take.nd rfl (.inl rfl) (ge_ix (ix_G K) sim_ix (ge_ix (ix_G K) sim_ix (gv 0) ge_int (fun _ _ => rfl)) ge_int (fun _ _ => rfl)))
      (gss_cons (gs_asg (ge_op op_fdivG sim_fdiv (gv 2) (gv 1)) (gg_subL (ge_ix (ix_G K) sim_ix (gv 0) ge_int (fun _ _ => rfl)) ge_int))
      (gss_cons (gs_if (gw_pt (gw_or (gt_cmp (op_eqG K hr.units) sim_eq (ge_ix (ix_G K) sim_ix (ge_ix (ix_G K) sim_ix (gv 0) ge_int (fun _ _ => rfl)) ge_int (fun _ _ => rfl)) ge_int (nomark _)) (gw_or1 (gt_cmp (op_eqG K hr.units) sim_eq (ge_ix (ix_G K) sim_ix (ge_ix (ix_G K) sim_ix (gv 0) ge_int (fun _ _ => rfl)) ge_int (fun _ _ => rfl)) (ge_un un_neg sim_neg ge_int) (nomark _))))) (gss_one (gs_expr (ge_bm PySem.F.plainAttrs_list PySem.F.slot_list_pop PySem.F.type_list_pop mt_popAt simk_L sim_popAt (ge_ix (ix_G K) sim_ix (gv 0) ge_int (fun _ _ => rfl)) (ga_cons ge_int ga_nil)))) gss_nil)
      (gss_one (gs_ret (ge_op op_mod sim_mod (gv 2) (gv 1)))))))), fun svs m SX Sv h => ?_⟩)
  · obtain ⟨b, c, sv, ns, k, rfl, _⟩ := h
    rfl
  · obtain ⟨b, c, sv, ns, k, rfl, hb, hc, hl, k0, k1, q⟩ := h
    have ne : c ≠ b := fun e => by
      rw [e, hb] at hc
      cases ns with
      | nil => cases hc
      | cons a r => injection (Option.some.inj hc) with z; injection z with z _; cases z
    walk_at "r"
    refine ⟨_, _, hb, rfl, ?_⟩
    walk_at "r"
    refine ⟨by walk_at "len", fun p hp => ?_⟩
    have hbp : up m p (.lst []) b = some (.lst [.ref c, .int sv]) := by rw [up_ne (mne hb hp)]; exact hb
    have hcp : up m p (.lst []) c = some (.lst (List.map SV.int ns)) := by rw [up_ne (mne hc hp)]; exact hc
    walk_at "r"
    refine ⟨_, _, .ref hcp (rds_ints ns), .ref up_same .nil, shaped_ints ns, rfl, ?_⟩
    have fin : ∀ (n : Int) (ns' : List Int) (sv' : Int) (m' : Mem), 0 ≤ n → n < k → ns'.length ≤ 63 → Le (up (up m c (.lst (ns'.map .int))) b (.lst [.ref c, .int sv'])) m' → Fg (Sv (.int n)) m' := fun n ns' sv' m' n0 n1 hl' le => ⟨_, le, q n ns' sv' n0 n1 hl'⟩
    have le0 : ∀ (X : List SV) (Y : List SV), Le (up (up m c (.lst X)) b (.lst Y)) (up (up (up m p (.lst [])) c (.lst X)) b (.lst Y)) := fun X Y => Le.put (Le.put (Le.new (.refl m) hp))
    cases ns with
    | nil =>
      refine Br_i (fun _ => ?_) (fun hb => by cases hb)
      walk_at "r"
      refine ⟨_, _, hbp, rfl, ?_⟩
      walk_at "r"
      refine ⟨.inl (.inr ⟨by decide, by decide⟩), ?_⟩
      walk_at "r"
      refine ⟨(by decide : (0 : Int) < 2147483647), ?_⟩
      walk_at "r"
      refine ⟨_, 1, hbp, rfl, ?_⟩
      walk_at "r"
      refine ⟨_, _, up_same, rfl, ?_⟩
      walk_at "r"
      refine ⟨.inl ⟨by decide, by decide⟩, ?_⟩
      walk_at "r"
      refine ⟨k0, ?_⟩
      refine fin _ [] _ _ (Int.emod_nonneg _ (by omega)) (Int.emod_lt_of_pos _ k0) (by simp) (Le.put ?_)
      rw [up_id (by exact hc)]
      exact Le.new (.refl m) hp
    | cons n r =>
      refine Br_i (fun hb => by cases hb) (fun _ => ?_)
      have ix0 : ∀ m : Nat, ixN (m + 1) 0 = some 0 := fun m => by
        unfold ixN
        rw [if_pos (by decide), if_pos (by omega)]
        rfl
      have at0 : ∀ (x : SV) (xs : List SV), atI (x :: xs) 0 = some x := fun x xs => atI_nat (j := 0) rfl
      walk_at "r"
      refine ⟨_, _, hbp, rfl, ?_⟩
      walk_at "r"
      refine ⟨_, _, hcp, at0 _ _, ?_⟩
      walk_at "r"
      refine ⟨.inr (wide_div k0 k1 (by decide) (by decide)), ?_⟩
      walk_at "r"
      refine ⟨_, _, hbp, rfl, ?_⟩
      walk_at "r"
      refine ⟨_, 0, hcp, ix0 _, ?_⟩
      have hbq : ∀ o, up (up m p (.lst [])) c o b = some (.lst [.ref c, .int sv]) := fun o => by rw [up_ne (Ne.symm ne)]; exact hbp
      walk_at "r"
      refine ⟨_, _, hbq _, rfl, ?_⟩
      walk_at "r"
      refine ⟨_, _, up_same, at0 _ _, ?_⟩
      have leb : ∀ X : List SV, Le (up (up m c (.lst X)) b (.lst [.ref c, .int sv])) (up (up m p (.lst [])) c (.lst X)) := fun X => by
        rw [up_id (by rw [up_ne (Ne.symm ne)]; exact hb)]
        exact Le.put (Le.new (.refl m) hp)
      have pop : ∀ SX' : SXK, sSeq (sDrop (sBM ckL sPopAt (sOp sIx (sVar 0) (sC (.int 0))) (sCons (sC (.int 0)) sNil))) (sRet (sOp sMod (sVar 2) (sVar 1))) SX' { nx := fun x m' => Fg (Sv .non) m', rt := fun v => Fg (Sv v) } [some (.ref b), some (.int k), some (.int n)] (up (up m p (.lst [])) c (.lst (List.set (List.map SV.int (n :: r)) 0 (.int (n / k))))) := fun SX' => by
        walk_at "r"
        refine ⟨_, _, hbq _, rfl, ?_⟩
        walk_at "r"
        refine ⟨⟨_, up_same⟩, ?_⟩
        walk_at "r"
        refine ⟨_, 0, _, up_same, by decide, by decide, (ixN_seq (ix0 _)).1, rfl, ?_⟩
        walk_at "r"
        refine ⟨k0, ?_⟩
        rw [up_up]
        exact fin _ r sv _ (Int.emod_nonneg _ (by omega)) (Int.emod_lt_of_pos _ k0) (by rw [List.length_cons] at hl; omega) (leb _)
      walk_at "r"
      refine Br_i (fun _ => Br_t (pop _)) (fun _ => ?_)
      walk_at "r"
      refine ⟨_, _, hbq _, rfl, ?_⟩
      walk_at "r"
      refine ⟨_, _, up_same, at0 _ _, ?_⟩
      walk_at "r"
      refine Br_i (fun _ => pop _) (fun _ => ?_)
      walk_at "r"
      refine ⟨k0, ?_⟩
      exact fin _ (n / k :: r) sv _ (Int.emod_nonneg _ (by omega)) (Int.emod_lt_of_pos _ k0) (by rw [List.length_cons] at hl ⊢; omega) (leb _)
theorem ok_law_take (T : Tx K mg) : FnOk P w K mg base CX0 1 (He.ga K "_law_take") T.fd__law_take ["_law_box", "_law_many"] (lift K spTake) := (okO_law_take T).imp fun _ _ _ _ h => take_imp h
end
end Hn

set_option Elab.async false
set_option linter.all false
set_option maxRecDepth 100000
set_option maxHeartbeats 8000000
namespace Hn
open PySem PySem.Spec PyProof.Rows L2 Sy Lm
section
variable {P : Program} {w : World} {K : PySem.W.Frag} {mg : Str → Option Value} {base : Heap}
local macro_rules | `(tactic| walk_at "r") => `(tactic| (conv => whnf))
local macro_rules | `(tactic| walk_at "sp") => `(tactic| (first | rfl | contradiction | exact (False.elim ‹_›)))
local macro_rules | `(tactic| walk_at "len") => `(tactic| (exact Nat.le_trans (show _ ≤ 100000 by simp) (by decide)))
local macro_rules | `(tactic| walk_at "f") => `(tactic| (refine Br_i (fun hb => Bool.noConfusion (show false = true from hb)) (fun _ => ?_)))
local macro_rules | `(tactic| walk_at "t") => `(tactic| (refine Br_i (fun _ => ?_) (fun hb => Bool.noConfusion (show true = false from hb))))
local macro_rules | `(tactic| walk_at "le") => `(tactic| first | exact Le.refl _ | (refine Le.put ?_; walk_at "le") | (refine Le.new ?_ (by assumption); walk_at "le"))
def spBegunO : SpS := fun vs m _ S => ∃ ns : List Int, vs = [.lst (ns.map .int)] ∧ ns.length ≤ 63 ∧ ∀ (b c : Addr) (sv : Int), m c = none → m b = none → b ≠ c → S (.ref b) (up (up m c (.lst (ns.map .int))) b (.lst [.ref c, .int sv]))
def spBegun : SpS := fun vs m _ S => ∃ ns : List Int, vs = [.lst (ns.map .int)] ∧ ns.length ≤ 63 ∧ ∀ (b c : Addr), m c = none → m b = none → b ≠ c → S (.ref b) (up (up m c .bxi) b (.box c))
theorem begun_imp {vs : List V} {H : Hp} {Q : VK} {E : XK} (h : lift K spBegun vs H Q E) : lift K spBegunO vs H Q E := by
  obtain ⟨F, svs, m, SX, S, M, r, ⟨ns, rfl, hl, q⟩, hx, c⟩ := h
  refine ⟨F, _, m, SX, fun v m' => ∃ (b c : Addr) (sv : Int), v = .ref b ∧ m c = none ∧ m b = none ∧ b ≠ c ∧ m' = up (up m c (.lst (ns.map .int))) b (.lst [.ref c, .int sv]), M, r, ⟨ns, rfl, hl, fun b c sv h1 h2 h3 => ⟨b, c, sv, rfl, h1, h2, h3, rfl⟩⟩, hx, fun v F' H' sv2 m2 s2 M3 v3 h3 => ?_⟩
  obtain ⟨b, c0, sv', rfl, h1, h2, ne, rfl⟩ := h3
  refine c v F' H' (.ref b) _ s2 ?_ v3 (q b c0 h1 h2 ne)
  obtain ⟨ws, e1, r1⟩ := M3.lst_ up_same
  obtain ⟨us, e2, r2⟩ := M3.lst_ (show (up (up m c0 (.lst (ns.map .int))) b (.lst [.ref c0, .int sv'])) c0 = _ by rw [up_ne (Ne.symm ne)]; exact up_same)
  obtain rfl := vrs_ints r2
  obtain ⟨w1, w2, rfl, r3, r4⟩ := vrs_two r1
  obtain rfl := vr_ref r3
  obtain rfl := vr_int r4
  have M4 := M3.reab (o := .box c0) up_same (fun u e x => by rw [e1] at e; cases e; exact x) ⟨sv', e1⟩
  have M5 := M4.reab (a := c0) (o := .bxi) (o0 := .lst (ns.map .int)) (by rw [up_ne (Ne.symm ne), up_ne (Ne.symm ne), up_same]) (fun u e x => by rw [e2] at e; cases e; exact x) ⟨ns, e2, hl⟩
  rw [up_up, up_comm ne, up_up] at M5
  exact M5
theorem okO_law_begun (T : Tx K mg) : FnOk P w K mg base CX0 1 (He.ga K "_law_begun") T.fd__law_begun ["_law_script"] (lift K spBegunO) := by
  refine fn_sy T.F__law_begun sc_law_begun (fun svs m SX Sv h => ?_) (fun cdv A outer s H E hr => ⟨_, _, (gss_cons (gs_set (i := 1) sc_law_begun.nd rfl (.inl rfl) ge_int)
      (gss_cons (gs_for PassesOwn.never rfl (gi_seq (gv 0)) (gg_name (i := 2) sc_law_begun.nd rfl (.inl rfl))
      (gss_one (gs_set (i := 1) sc_law_begun.nd rfl (.inl rfl) (ge_op op_mod sim_mod (ge_op (op_addG K) sim_add (ge_op (op_addG K) sim_add (ge_op op_mulG sim_mul (gv 1) ge_int) (ge_op op_mulG sim_mul (gv 2) ge_int)) ge_int) ge_int))))
      (gss_one (gs_ret (ge_lst (ga_cons (ge_callTy (cr_lst K) sim_lstOf (by rfl) T.z_list (by decide +kernel) (ga_cons (gv 0) ga_nil)) (ga_cons (ge_op op_mulG sim_mul (gv 1) (ge_callTy call_int1 sim_int1 (by rfl) T.z_int (by decide +kernel) (ga_cons (ge_cmp op_gt sim_gt (ge_callB (cr_len K) sim_len (by rfl) T.z_len (by decide +kernel) (ga_cons (gv 0) ga_nil)) ge_int (nomark _)) ga_nil))) ga_nil))))))), fun svs m SX Sv h => ?_⟩)
  · obtain ⟨ns, rfl, _⟩ := h
    rfl
  · obtain ⟨ns, rfl, hl, q⟩ := h
    walk_at "r"
    refine ⟨_, rfl, ?_⟩
    refine for_inv (fun r δ m' => m' = m ∧ ∃ (st : Int) (a : Option SV), δ = [some (.lst (ns.map .int)), some (.int st), a] ∧ ∀ x ∈ r, ∃ i : Int, x = .int i) ⟨rfl, 0, none, rfl, fun x hx => by
      obtain ⟨i, _, e⟩ := List.mem_map.mp hx
      exact ⟨i, e.symm⟩⟩ (fun x r δ m' h => ?_) (fun δ m' h => ?_)
    · obtain ⟨rfl, st, a, rfl, hr⟩ := h
      obtain ⟨i, rfl⟩ := hr x List.mem_cons_self
      refine ⟨trivial, ?_⟩
      walk_at "r"
      refine ⟨.inl (.inr ⟨by decide, by decide⟩), ?_⟩
      walk_at "r"
      refine ⟨.inl (.inr ⟨by decide, by decide⟩), ?_⟩
      walk_at "r"
      refine ⟨(by decide : (0 : Int) < 2147483647), ?_⟩
      walk_at "r"
      exact .of ⟨rfl, _, _, rfl, fun x hx => hr x (List.mem_cons_of_mem _ hx)⟩
    · obtain ⟨rfl, st, a, rfl, _⟩ := h
      refine ⟨trivial, ?_⟩
      walk_at "r"
      refine ⟨_, rfl, fun c hc => ?_⟩
      walk_at "r"
      refine ⟨_, rfl, ?_⟩
      walk_at "r"
      refine ⟨.inl (.inr ?_), ?_⟩
      · split
        · exact ⟨by decide, by decide⟩
        · exact ⟨by decide, by decide⟩
      walk_at "r"
      refine ⟨by walk_at "len", fun b hb => ?_⟩
      have ne : c ≠ b := mne up_same hb
      rw [up_ne (Ne.symm ne)] at hb
      exact .of (q b c _ hc hb (Ne.symm ne))
theorem ok_law_begun (T : Tx K mg) : FnOk P w K mg base CX0 1 (He.ga K "_law_begun") T.fd__law_begun ["_law_script"] (lift K spBegun) := (okO_law_begun T).imp fun _ _ _ _ h => begun_imp h
end
end Hn

set_option Elab.async false
set_option linter.all false
set_option maxRecDepth 100000
set_option maxHeartbeats 8000000
namespace Hn
open PySem PySem.Spec PyProof.Rows L2 Sy Lm
section
variable {P : Program} {w : World} {K : PySem.W.Frag} {mg : Str → Option Value} {base : Heap}
local macro_rules | `(tactic| walk_at "r") => `(tactic| (conv => whnf))
local macro_rules | `(tactic| walk_at "sp") => `(tactic| (first | rfl | contradiction | exact (False.elim ‹_›)))
local macro_rules | `(tactic| walk_at "len") => `(tactic| (exact Nat.le_trans (show _ ≤ 100000 by simp) (by decide)))
local macro_rules | `(tactic| walk_at "f") => `(tactic| (refine Br_i (fun hb => Bool.noConfusion (show false = true from hb)) (fun _ => ?_)))
local macro_rules | `(tactic| walk_at "t") => `(tactic| (refine Br_i (fun _ => ?_) (fun hb => Bool.noConfusion (show true = false from hb))))
local macro_rules | `(tactic| walk_at "le") => `(tactic| first | exact Le.refl _ | (refine Le.put ?_; walk_at "le") | (refine Le.new ?_ (by assumption); walk_at "le"))
theorem IsBox.le {a m : Mem} {b : Addr} (h : IsBox a b) (l : Le a m) : IsBox m b := by
  obtain ⟨c, h1, h2⟩ := h
  exact ⟨c, l _ _ h1, l _ _ h2⟩
theorem IsBox.new {m : Mem} {b p : Addr} {o : MO} (h : IsBox m b) (hp : m p = none) : IsBox (up m p o) b := h.le (Le.new (.refl m) hp)
theorem IsBox.ne {m : Mem} {b p : Addr} (h : IsBox m b) (hp : m p = none) : b ≠ p := by
  obtain ⟨c, h1, h2⟩ := h
  exact mne h1 hp
theorem _root_.Sy.Le.over {a m : Mem} {f : Addr} {o : MO} (h : Le a m) (n : a f = none) : Le a (up m f o) := fun x u e => by rw [up_ne (mne e n)]; exact h x u e
theorem kp {m : Mem} {a p : Addr} {o u : MO} (h : m a = some o) (n : m p = none) : up m p u a = some o := by rw [up_ne (mne h n)]; exact h
theorem pick2 {a b : SV} {n : Int} (h0 : 0 ≤ n) (h1 : n < 2) : atI [a, b] n = some (if n = 0 then a else b) := by
  rcases (by omega : n = 0 ∨ n = 1) with rfl | rfl
  · exact atI_nat (j := 0) rfl
  · exact atI_nat (j := 1) rfl
theorem pick3 {a b c : SV} {n : Int} (h0 : 0 ≤ n) (h1 : n < 3) : atI [a, b, c] n = some (if n = 0 then a else if n = 1 then b else c) := by
  rcases (by omega : n = 0 ∨ n = 1 ∨ n = 2) with rfl | rfl | rfl
  · exact atI_nat (j := 0) rfl
  · exact atI_nat (j := 1) rfl
  · exact atI_nat (j := 2) rfl
theorem ite_int {c : Prop} [Decidable c] {a b : Int} : (if c then SV.int a else .int b) = .int (if c then a else b) := by split <;> rfl
theorem small {k : Int} (h0 : 0 < k) (h : k ≤ 10 ^ 30) : 0 < k ∧ k.natAbs < 2 ^ 8000 := ⟨h0, Nat.lt_of_le_of_lt (m := 10 ^ 30) (by omega) (by decide +kernel)⟩
def stOk (p : Int × Int) : Prop := (0 ≤ p.1 ∧ p.1 ≤ 23) ∧ (0 ≤ p.2 ∧ p.2 ≤ 23) ∧ p.1 ≠ p.2
def spStretches : SpS := fun vs m _ S => match vs with
  | [.ref b] => IsBox m b ∧ ∀ hs : List (Int × Int), hs.length ≤ 3 → (∀ p ∈ hs, stOk p) → S (.tup (hs.map pairV)) m
  | _ => False
theorem ok_law_stretches (T : Tx K mg) : FnOk P w K mg base CX0 2 (He.ga K "_law_stretches") T.fd__law_stretches ["_law_box"] (lift K spStretches) := by
  have G_law_take := ok_law_take (P := P) (w := w) (base := base) T
  have b_law_take := b_law_take T
  refine fn_sy T.F__law_stretches sc_law_stretches (fun svs m SX Sv h => ?_) (fun cdv A outer s H E hr => ⟨_, _, (gss_cons (gs_set (i := 1) sc_law_stretches.nd rfl (.inl rfl) (ge_lst ga_nil))
      (gss_cons (gs_for PassesOwn.never rfl (gi_range1 (by rfl) T.z_range (ga_cons (ge_call G_law_take (hr) (by rfl) T.g__law_take T.k__law_take b_law_take .nil (fun _ => .nil) pass0 (ga_cons (gv 0) (ga_cons ge_int ga_nil))) ga_nil)) (gg_name (i := 2) sc_law_stretches.nd rfl (.inl rfl))
      (gss_cons (gs_set (i := 3) sc_law_stretches.nd rfl (.inl rfl) (ge_call G_law_take (hr) (by rfl) T.g__law_take T.k__law_take b_law_take .nil (fun _ => .nil) pass0 (ga_cons (gv 0) (ga_cons ge_int ga_nil))))
      (gss_one (gs_expr (ge_bm PySem.F.plainAttrs_list PySem.F.slot_list_append PySem.F.type_list_append mt_append simk_L sim_append (gv 1) (ga_cons (ge_tup (ga_cons (gv 3) (ga_cons (ge_op op_mod sim_mod (ge_op (op_addG K) sim_add (ge_op (op_addG K) sim_add (gv 3) ge_int) (ge_call G_law_take (hr) (by rfl) T.g__law_take T.k__law_take b_law_take .nil (fun _ => .nil) pass0 (ga_cons (gv 0) (ga_cons (ge_ix (ix_G K) sim_ix (ge_lst (ga_cons ge_int (ga_cons ge_int ga_nil))) (ge_call G_law_take (hr) (by rfl) T.g__law_take T.k__law_take b_law_take .nil (fun _ => .nil) pass0 (ga_cons (gv 0) (ga_cons ge_int ga_nil))) (fun _ _ => rfl)) ga_nil)))) ge_int) ga_nil))) ga_nil))))))
      (gss_one (gs_ret (ge_callTy (cr_tup K) sim_tupOf (by rfl) T.z_tuple (by decide +kernel) (ga_cons (gv 1) ga_nil)))))), fun svs m SX Sv h => ?_⟩)
  · unfold spStretches at h
    split at h <;> first | rfl | exact h.elim
  · unfold spStretches at h
    split at h
    · rename_i b
      obtain ⟨hb, q⟩ := h
      walk_at "r"
      refine ⟨by walk_at "len", fun p hp => ?_⟩
      walk_at "r"
      refine ⟨hb.new hp, small (by decide) (by decide), fun n n0 n1 => ?_⟩
      walk_at "r"
      refine ⟨⟨by omega, by omega⟩, ?_⟩
      refine for_inv (fun r δ m' => ∃ (hs : List (Int × Int)) (a c : Option SV), m' = up m p (.lst (hs.map pairV)) ∧ δ = [some (.ref b), some (.ref p), a, c] ∧ hs.length + r.length ≤ 3 ∧ ∀ p ∈ hs, stOk p) ⟨[], none, none, rfl, rfl, by rw [rngS_length]; simp; omega, fun p h => by cases h⟩ (fun x r δ m' h => ?_) (fun δ m' h => ?_)
      · obtain ⟨hs, a, c, rfl, rfl, hl, ok⟩ := h
        refine ⟨trivial, ?_⟩
        walk_at "r"
        refine ⟨hb.new hp, small (by decide) (by decide), fun g g0 g1 => ?_⟩
        walk_at "r"
        refine ⟨⟨_, up_same⟩, ?_⟩
        walk_at "r"
        refine ⟨by walk_at "len", fun p2 hp2 => ?_⟩
        have bx : IsBox (up (up m p (.lst (hs.map pairV))) p2 (.lst [.int 23, .int 9])) b := (hb.new hp).new hp2
        walk_at "r"
        refine ⟨bx, small (by decide) (by decide), fun i i0 i1 => ?_⟩
        walk_at "r"
        refine ⟨_, _, up_same, pick2 i0 i1, ?_⟩
        rw [ite_int]
        walk_at "r"
        refine ⟨bx, small (by split <;> decide) (by split <;> decide), fun e e0 e1 => ?_⟩
        have e2 : e < 23 := by split at e1 <;> omega
        walk_at "r"
        refine ⟨(by decide : (0 : Int) < 24), ?_⟩
        walk_at "r"
        refine ⟨by walk_at "len", ?_⟩
        walk_at "r"
        refine ⟨_, by rw [up_ne (mne up_same hp2), up_same], line_le (by simp at hl ⊢; omega), ?_⟩
        walk_at "r"
        refine ⟨up m p (.lst ((hs ++ [(g, (g + 1 + e) % 24)]).map pairV)), by rw [List.map_append]; walk_at "le", hs ++ [(g, (g + 1 + e) % 24)], _, _, rfl, rfl, by rw [List.length_append]; simp at hl ⊢; omega, fun y hy => ?_⟩
        rcases List.mem_append.mp hy with hy | hy
        · exact ok y hy
        · obtain rfl := List.mem_singleton.mp hy
          refine ⟨⟨g0, by show g ≤ 23; omega⟩, ⟨?_, ?_⟩, ?_⟩
          · show 0 ≤ (g + 1 + e) % 24; omega
          · show (g + 1 + e) % 24 ≤ 23; omega
          · show g ≠ (g + 1 + e) % 24; omega
      · obtain ⟨hs, a, c, rfl, rfl, hl, ok⟩ := h
        refine ⟨trivial, ?_⟩
        walk_at "r"
        refine ⟨_, up_same, ?_⟩
        walk_at "r"
        exact ⟨m, by walk_at "le", q hs (by simpa using hl) ok⟩
    · exact h.elim
theorem gOk_snoc {k s : Int} (hk : k ≤ 7) (h1 : 1 ≤ s) (h2 : s ≤ 12) : ∀ {gs : List (Int × Int)} {lo : Int}, gOk lo gs → (∀ p ∈ gs, p.1 < k) → lo ≤ k → gOk lo (gs ++ [(k, s)])
  | [], lo, _, _, h => ⟨h, hk, h1, h2, trivial⟩
  | p :: r, lo, ⟨a, b, c, d, e⟩, hp, h => ⟨a, b, c, d, gOk_snoc hk h1 h2 e (fun q hq => hp q (List.mem_cons_of_mem _ hq)) (by have := hp p List.mem_cons_self; omega)⟩
def spRule : SpS := fun vs m _ S => match vs with
  | [.ref b, .int many] => IsBox m b ∧ (1 ≤ many ∧ many ≤ 6) ∧ ∀ r : PR, r.Ok many.toNat → S r.sv m
  | _ => False
theorem ok_law_rule (T : Tx K mg) : FnOk P w K mg base CX0 3 (He.ga K "_law_rule") T.fd__law_rule ["_law_box", "_law_many"] (lift K spRule) := by
  have G_law_stretches := ok_law_stretches (P := P) (w := w) (base := base) T
  have b_law_stretches := b_law_stretches T
  have G_law_take := ok_law_take (P := P) (w := w) (base := base) T
  have b_law_take := b_law_take T
  refine fn_sy T.F__law_rule sc_law_rule (fun svs m SX Sv h => ?_) (fun cdv A outer s H E hr => ⟨_, _, (gss_cons (gs_set (i := 2) sc_law_rule.nd rfl (.inl rfl) (ge_lst ga_nil))
      (gss_cons (gs_for PassesOwn.never rfl (gi_range1 (by rfl) T.z_range (ga_cons ge_int ga_nil)) (gg_name (i := 3) sc_law_rule.nd rfl (.inl rfl))
      (gss_one (gs_if (gw_pt (gw_and (gt_cmp op_lt sim_lt (ge_callB (cr_len K) sim_len (by rfl) T.z_len (by decide +kernel) (ga_cons (gv 2) ga_nil)) ge_int (nomark _)) (gw_and1 (gt_cmp (op_eqG K hr.units) sim_eq (ge_call G_law_take (hr.mono (by decide)) (by rfl) T.g__law_take T.k__law_take b_law_take .nil (fun _ => .nil) pass0 (ga_cons (gv 0) (ga_cons ge_int ga_nil))) ge_int (nomark _))))) (gss_one (gs_expr (ge_bm PySem.F.plainAttrs_list PySem.F.slot_list_append PySem.F.type_list_append mt_append simk_L sim_append (gv 2) (ga_cons (ge_tup (ga_cons (gv 3) (ga_cons (ge_op (op_addG K) sim_add ge_int (ge_call G_law_take (hr.mono (by decide)) (by rfl) T.g__law_take T.k__law_take b_law_take .nil (fun _ => .nil) pass0 (ga_cons (gv 0) (ga_cons (ge_ix (ix_G K) sim_ix (ge_lst (ga_cons ge_int (ga_cons ge_int ga_nil))) (ge_call G_law_take (hr.mono (by decide)) (by rfl) T.g__law_take T.k__law_take b_law_take .nil (fun _ => .nil) pass0 (ga_cons (gv 0) (ga_cons ge_int ga_nil))) (fun _ _ => rfl)) ga_nil)))) ga_nil))) ga_nil)))) gss_nil)))
      (gss_cons (gs_set (i := 4) sc_law_rule.nd rfl (.inl rfl) (ge_ix (ix_G K) sim_ix (ge_lst (ga_cons ge_non (ga_cons (ge_op (op_addG K) sim_add ge_int (ge_call G_law_take (hr.mono (by decide)) (by rfl) T.g__law_take T.k__law_take b_law_take .nil (fun _ => .nil) pass0 (ga_cons (gv 0) (ga_cons (ge_ix (ix_G K) sim_ix (ge_lst (ga_cons ge_int (ga_cons ge_int ga_nil))) (ge_call G_law_take (hr.mono (by decide)) (by rfl) T.g__law_take T.k__law_take b_law_take .nil (fun _ => .nil) pass0 (ga_cons (gv 0) (ga_cons ge_int ga_nil))) (fun _ _ => rfl)) ga_nil)))) (ga_cons ge_int ga_nil)))) (ge_call G_law_take (hr.mono (by decide)) (by rfl) T.g__law_take T.k__law_take b_law_take .nil (fun _ => .nil) pass0 (ga_cons (gv 0) (ga_cons ge_int ga_nil))) (fun _ _ => rfl)))
      (gss_cons (gs_set (i := 5) sc_law_rule.nd rfl (.inl rfl) (ge_ix (ix_G K) sim_ix (ge_lst (ga_cons ge_non (ga_cons (ge_call G_law_take (hr.mono (by decide)) (by rfl) T.g__law_take T.k__law_take b_law_take .nil (fun _ => .nil) pass0 (ga_cons (gv 0) (ga_cons (gv 1) ga_nil))) (ga_cons (ge_call G_law_take (hr.mono (by decide)) (by rfl) T.g__law_take T.k__law_take b_law_take .nil (fun _ => .nil) pass0 (ga_cons (gv 0) (ga_cons (gv 1) ga_nil))) ga_nil)))) (ge_call G_law_take (hr.mono (by decide)) (by rfl) T.g__law_take T.k__law_take b_law_take .nil (fun _ => .nil) pass0 (ga_cons (gv 0) (ga_cons ge_int ga_nil))) (fun _ _ => rfl)))
      (gss_one (gs_ret (ge_tup (ga_cons (ge_call G_law_stretches (hr) (by rfl) T.g__law_stretches T.k__law_stretches b_law_stretches .nil (fun _ => .nil) pass0 (ga_cons (gv 0) ga_nil)) (ga_cons (ge_call G_law_take (hr.mono (by decide)) (by rfl) T.g__law_take T.k__law_take b_law_take .nil (fun _ => .nil) pass0 (ga_cons (gv 0) (ga_cons ge_int ga_nil))) (ga_cons (ge_callTy (cr_tup K) sim_tupOf (by rfl) T.z_tuple (by decide +kernel) (ga_cons (gv 2) ga_nil)) (ga_cons (gv 4) (ga_cons (gv 5) ga_nil)))))))))))), fun svs m SX Sv h => ?_⟩)
  · unfold spRule at h
    split at h <;> first | rfl | exact h.elim
  · unfold spRule at h
    split at h
    · rename_i b many
      obtain ⟨hb, ⟨m1, m6⟩, q⟩ := h
      walk_at "r"
      refine ⟨by walk_at "len", fun p hp => ?_⟩
      walk_at "r"
      refine ⟨⟨by decide, by decide⟩, ?_⟩
      refine for_inv (fun r δ m' => ∃ (gs : List (Int × Int)) (k : Nat) (a : Option SV), m' = up m p (.lst (gs.map pairV)) ∧ δ = [some (.ref b), some (.int many), some (.ref p), a, none, none] ∧ r = rngS k (8 - k) ∧ k ≤ 8 ∧ gs.length ≤ 4 ∧ gOk 0 gs ∧ ∀ p ∈ gs, p.1 < k) ⟨[], 0, none, rfl, rfl, rfl, by omega, by simp, trivial, fun p h => by cases h⟩ (fun x r δ m' h => ?_) (fun δ m' h => ?_)
      · obtain ⟨gs, k, a, rfl, rfl, hr, hk, hl, hg, hlt⟩ := h
        have hk8 : k < 8 := by
          by_cases e : k < 8
          · exact e
          · rw [show 8 - k = 0 by omega] at hr; cases hr
        rw [show 8 - k = (8 - (k + 1)) + 1 by omega] at hr
        obtain ⟨rfl, rfl⟩ := List.cons.inj hr
        refine ⟨trivial, ?_⟩
        have stay : Fg (fun m' => ∃ (gs : List (Int × Int)) (k' : Nat) (a : Option SV), m' = up m p (.lst (gs.map pairV)) ∧ [some (.ref b), some (.int many), some (.ref p), some (.int k), none, none] = [some (SV.ref b), some (.int many), some (.ref p), a, none, none] ∧ rngS ((k : Int) + 1) (8 - (k + 1)) = rngS k' (8 - k') ∧ k' ≤ 8 ∧ gs.length ≤ 4 ∧ gOk 0 gs ∧ ∀ p ∈ gs, p.1 < k') (up m p (.lst (gs.map pairV))) :=
          .of ⟨gs, k + 1, _, rfl, rfl, rfl, by omega, hl, hg, fun y hy => by have := hlt y hy; push_cast; omega⟩
        walk_at "r"
        refine ⟨_, up_same, ?_⟩
        walk_at "r"
        refine Br_i (fun h2 => ?_) (fun h2 => ?_)
        · have hl4 : gs.length < 4 := by
            have := of_decide_eq_true h2
            rw [List.length_map] at this
            omega
          walk_at "r"
          refine ⟨hb.new hp, small (by decide) (by decide), fun g g0 g1 => ?_⟩
          walk_at "r"
          refine Br_i (fun h3 => ?_) (fun h3 => ?_)
          · walk_at "r"
            refine ⟨⟨_, up_same⟩, ?_⟩
            walk_at "r"
            refine ⟨by walk_at "len", fun p2 hp2 => ?_⟩
            have bx : IsBox (up (up m p (.lst (gs.map pairV))) p2 (.lst [.int 3, .int 12])) b := (hb.new hp).new hp2
            walk_at "r"
            refine ⟨bx, small (by decide) (by decide), fun i i0 i1 => ?_⟩
            walk_at "r"
            refine ⟨_, _, up_same, pick2 i0 i1, ?_⟩
            rw [ite_int]
            walk_at "r"
            refine ⟨bx, small (by split <;> decide) (by split <;> decide), fun e e0 e1 => ?_⟩
            have e2 : e < 12 := by split at e1 <;> omega
            walk_at "r"
            refine ⟨by walk_at "len", ?_⟩
            walk_at "r"
            refine ⟨_, by rw [up_ne (mne up_same hp2), up_same], line_le (by simp; omega), ?_⟩
            walk_at "r"
            refine ⟨up m p (.lst ((gs ++ [((k : Int), 1 + e)]).map pairV)), by rw [List.map_append]; walk_at "le", gs ++ [((k : Int), 1 + e)], k + 1, _, rfl, rfl, rfl, by omega, by rw [List.length_append]; simp; omega, gOk_snoc (by omega) (by omega) (by omega) hg hlt (by omega), fun y hy => ?_⟩
            rcases List.mem_append.mp hy with hy | hy
            · have := hlt y hy; push_cast; omega
            · obtain rfl := List.mem_singleton.mp hy
              show (k : Int) < _
              push_cast
              omega
          · exact stay
        · walk_at "f"
          exact stay
      · obtain ⟨gs, k, a, rfl, rfl, hr, hk, hl, hg, hlt⟩ := h
        refine ⟨trivial, ?_⟩
        walk_at "r"
        refine ⟨by walk_at "len", fun p2 hp2 => ?_⟩
        have bx := (hb.new (o := .lst (gs.map pairV)) hp).new (o := .lst [.int 6, .int 24]) hp2
        walk_at "r"
        refine ⟨bx, small (by decide) (by decide), fun i i0 i1 => ?_⟩
        walk_at "r"
        refine ⟨_, _, up_same, pick2 i0 i1, ?_⟩
        rw [ite_int]
        walk_at "r"
        refine ⟨bx, small (by split <;> decide) (by split <;> decide), fun e e0 e1 => ?_⟩
        have e2 : e < 24 := by split at e1 <;> omega
        walk_at "r"
        refine ⟨by walk_at "len", fun p3 hp3 => ?_⟩
        have bx3 := bx.new (o := .lst [.non, .int (1 + e), .int 2]) hp3
        walk_at "r"
        refine ⟨bx3, small (by decide) (by decide), fun j j0 j1 => ?_⟩
        walk_at "r"
        refine ⟨_, _, up_same, pick3 j0 j1, ?_⟩
        obtain ⟨wt, hw, hwt⟩ : ∃ wt : Option Int, (if j = 0 then SV.non else if j = 1 then .int (1 + e) else .int 2) = optV wt ∧ ∀ i, wt = some i → 1 ≤ i ∧ i ≤ 24 := by
          split
          · exact ⟨none, rfl, fun i h => by cases h⟩
          · split
            · exact ⟨some (1 + e), rfl, fun i h => by cases h; omega⟩
            · exact ⟨some 2, rfl, fun i h => by cases h; omega⟩
        rw [hw]
        walk_at "r"
        refine ⟨bx3, small (by omega) (by omega), fun f1 f10 f11 => ?_⟩
        walk_at "r"
        refine ⟨bx3, small (by omega) (by omega), fun f2 f20 f21 => ?_⟩
        walk_at "r"
        refine ⟨by walk_at "len", fun p4 hp4 => ?_⟩
        have bx4 := bx3.new (o := .lst [.non, .int f1, .int f2]) hp4
        walk_at "r"
        refine ⟨bx4, small (by decide) (by decide), fun j' j0' j1' => ?_⟩
        walk_at "r"
        refine ⟨_, _, up_same, pick3 j0' j1', ?_⟩
        obtain ⟨fu, hf, hfu⟩ : ∃ fu : Option Int, (if j' = 0 then SV.non else if j' = 1 then .int f1 else .int f2) = optV fu ∧ ∀ i, fu = some i → 0 ≤ i ∧ i < many.toNat := by
          split
          · exact ⟨none, rfl, fun i h => by cases h⟩
          · split
            · exact ⟨some f1, rfl, fun i h => by cases h; omega⟩
            · exact ⟨some f2, rfl, fun i h => by cases h; omega⟩
        rw [hf]
        walk_at "r"
        refine ⟨bx4, fun hs hsl hso => ?_⟩
        walk_at "r"
        refine ⟨bx4, small (by decide) (by decide), fun le le0 le1 => ?_⟩
        walk_at "r"
        refine ⟨_, kp (kp (kp up_same hp2) hp3) hp4, ?_⟩
        walk_at "r"
        refine ⟨by walk_at "len", ?_⟩
        exact ⟨m, by walk_at "le", q ⟨hs, le, gs, wt, fu⟩ ⟨hsl, hso, ⟨le0, by show le ≤ 4; omega⟩, hl, hg, hwt, hfu⟩⟩
    · exact h.elim
def spDrawn : SpS := fun vs m _ S => match vs with
  | [.ref b] => IsBox m b ∧ ∀ R : List PR, RulesOk R → S (RV R) m
  | _ => False
theorem ok_law_rules (T : Tx K mg) : FnOk P w K mg base CX0 4 (He.ga K "_law_rules") T.fd__law_rules ["_law_box"] (lift K spDrawn) := by
  have G_law_rule := ok_law_rule (P := P) (w := w) (base := base) T
  have b_law_rule := b_law_rule T
  have G_law_take := ok_law_take (P := P) (w := w) (base := base) T
  have b_law_take := b_law_take T
  refine fn_sy T.F__law_rules sc_law_rules (fun svs m SX Sv h => ?_) (fun cdv A outer s H E hr => ⟨_, _, (gss_cons (gs_set (i := 1) sc_law_rules.nd rfl (.inr rfl) (ge_op (op_addG K) sim_add ge_int (ge_call G_law_take (hr.mono (by decide)) (by rfl) T.g__law_take T.k__law_take b_law_take .nil (fun _ => .nil) pass0 (ga_cons (gv 0) (ga_cons ge_int ga_nil)))))
      (gss_one (gs_ret (ge_callTy (cr_tup K) sim_tupOf (by rfl) T.z_tuple (by decide +kernel) (ga_cons (ge_lc (own := [("_law_person", 2)]) (by rfl) sc_law_rules.nd (gi_range1 (by rfl) T.z_range (ga_cons (gv 1) ga_nil)) (blkOk_by (own := [("_law_person", 2)]) (N := ["_law_box", "_law_many", "_law_person"]) (sc := (defScope s_law_rules)) (by decide +kernel)) (fun _ _ _ _ _ => (gg_name (i := 2) sc_law_rules.nd rfl (.inl rfl))) (wp_name (by decide)) (fun _ _ _ _ _ => gts_nil) (fun _ _ _ _ _ => (ge_call G_law_rule (hr) (by rfl) T.g__law_rule T.k__law_rule b_law_rule .nil (fun _ => .nil) pass0 (ga_cons (gv 0) (ga_cons (gv 1) ga_nil))))) ga_nil))))), fun svs m SX Sv h => ?_⟩)
  · unfold spDrawn at h
    split at h <;> first | rfl | exact h.elim
  · unfold spDrawn at h
    split at h
    · rename_i b
      obtain ⟨hb, q⟩ := h
      walk_at "r"
      refine ⟨hb, small (by decide) (by decide), fun n n0 n1 => ?_⟩
      walk_at "r"
      refine ⟨⟨by omega, by omega⟩, by rw [rngS_length]; exact line_le (by omega), fun p hp => ?_⟩
      refine lc_inv (fun r acc m' => m' = up m p (.lst acc) ∧ ∃ R : List PR, acc = R.map PR.sv ∧ R.length + r.length = (1 + n).toNat ∧ ∀ x ∈ R, x.Ok (1 + n).toNat) ⟨rfl, [], rfl, by rw [rngS_length]; simp, fun x h => by cases h⟩ (fun x r acc m' h => ?_) (fun acc m' h => ?_)
      · obtain ⟨rfl, R, rfl, hl, ok⟩ := h
        refine ⟨trivial, ?_⟩
        walk_at "r"
        walk_at "t"
        walk_at "r"
        refine ⟨hb.new hp, ⟨by omega, by omega⟩, fun y hy => ?_⟩
        refine ⟨up_same, .of ⟨by rw [up_up], R ++ [y], by rw [List.map_append]; rfl, by rw [List.length_append]; simp at hl ⊢; omega, fun z hz => ?_⟩⟩
        rcases List.mem_append.mp hz with hz | hz
        · exact ok z hz
        · obtain rfl := List.mem_singleton.mp hz
          exact hy
      · obtain ⟨rfl, R, rfl, hl, ok⟩ := h
        have hl : R.length = (1 + n).toNat := by simpa using hl
        refine ⟨trivial, ?_⟩
        walk_at "r"
        refine ⟨_, up_same, ?_⟩
        exact ⟨m, by walk_at "le", q R ⟨by omega, by omega, fun r hr => by rw [hl]; exact ok r hr⟩⟩
    · exact h.elim
end
end Hn

set_option Elab.async false
set_option linter.all false
set_option maxRecDepth 100000
set_option maxHeartbeats 8000000
namespace Hn
open PySem PySem.Spec PyProof.Rows L2 Sy Lm
section
variable {P : Program} {w : World} {K : PySem.W.Frag} {mg : Str → Option Value} {base : Heap}
local macro_rules | `(tactic| walk_at "r") => `(tactic| (conv => whnf))
local macro_rules | `(tactic| walk_at "sp") => `(tactic| (first | rfl | contradiction | exact (False.elim ‹_›)))
local macro_rules | `(tactic| walk_at "len") => `(tactic| (exact Nat.le_trans (show _ ≤ 100000 by simp) (by decide)))
local macro_rules | `(tactic| walk_at "f") => `(tactic| (refine Br_i (fun hb => Bool.noConfusion (show false = true from hb)) (fun _ => ?_)))
local macro_rules | `(tactic| walk_at "t") => `(tactic| (refine Br_i (fun _ => ?_) (fun hb => Bool.noConfusion (show true = false from hb))))
local macro_rules | `(tactic| walk_at "le") => `(tactic| first | exact Le.refl _ | (refine Le.put ?_; walk_at "le") | (refine Le.new ?_ (by assumption); walk_at "le"))
mutual
def eqD : PyData → PyData → Bool
  | .none, .none => true
  | .bool a, .bool b => decide (a = b)
  | .int a, .int b => decide (a = b)
  | .str a, .str b => decide (a = b)
  | .list a, .list b => eqDs a b
  | .tuple a, .tuple b => eqDs a b
  | _, _ => false
def eqDs : List PyData → List PyData → Bool
  | [], [] => true
  | a :: r, b :: s => eqD a b && eqDs r s
  | _, _ => false
end
mutual
def dpt : PyData → Nat
  | .list a => 1 + dpts a
  | .tuple a => 1 + dpts a
  | _ => 0
def dpts : List PyData → Nat
  | [] => 0
  | a :: r => max (dpt a) (dpts r)
end
theorem dpts_get : ∀ {ds : List PyData} {i : Nat} {d : PyData}, ds[i]? = some d → dpt d ≤ dpts ds
  | [], _, _, h => by simp at h
  | a :: r, 0, d, h => by
    simp at h
    subst h
    simp only [dpts]
    omega
  | a :: r, i + 1, d, h => by
    have := dpts_get (ds := r) (i := i) (by simpa using h)
    simp only [dpts]
    omega
theorem eqDs_get : ∀ {a b : List PyData}, a.length = b.length → ((∀ (i : Nat) x y, a[i]? = some x → b[i]? = some y → eqD x y = true) ↔ eqDs a b = true)
  | [], [], _ => by simp [eqDs]
  | [], _ :: _, h => by cases h
  | _ :: _, [], h => by cases h
  | x :: a, y :: b, h => by
    have ih := eqDs_get (a := a) (b := b) (by simpa using h)
    simp only [eqDs, Bool.and_eq_true]
    constructor
    · intro q
      exact ⟨q 0 x y rfl rfl, ih.mp fun i u v hu hv => q (i + 1) u v (by simpa using hu) (by simpa using hv)⟩
    · rintro ⟨q1, q2⟩ i u v hu hv
      cases i with
      | zero => simp at hu hv; subst hu; subst hv; exact q1
      | succ i => exact ih.mpr q2 i u v (by simpa using hu) (by simpa using hv)
theorem eqDs_len : ∀ {a b : List PyData}, eqDs a b = true → a.length = b.length
  | [], [], _ => rfl
  | [], _ :: _, h => by simp [eqDs] at h
  | _ :: _, [], h => by simp [eqDs] at h
  | x :: a, y :: b, h => by
    simp only [eqDs, Bool.and_eq_true] at h
    simp [eqDs_len h.2]
mutual
/-- no list is too long -/
def smD : PyData → Prop
  | .list a => a.length ≤ 100000 ∧ smDs a
  | .tuple a => a.length ≤ 100000 ∧ smDs a
  | _ => True
def smDs : List PyData → Prop
  | [] => True
  | a :: r => smD a ∧ smDs r
end
theorem smDs_get : ∀ {ds : List PyData} {i : Nat} {d : PyData}, smDs ds → ds[i]? = some d → smD d
  | [], _, _, _, h => by simp at h
  | a :: r, 0, d, ⟨h1, _⟩, h => by
    simp at h
    subst h
    exact h1
  | a :: r, i + 1, d, ⟨_, h2⟩, h => smDs_get (ds := r) (i := i) h2 (by simpa using h)
def spAlike : Nat → SpS
  | n => fun vs m _ S => ∃ x y d e, vs = [x, y] ∧ Rd m x d ∧ Rd m y e ∧ dpt e < n ∧ smD e ∧ S (.bl (eqD d e)) m
theorem fn_never {k : Nat} {f : Addr} {fd : FuncData} {ps : List Str} {sp : SpS} {CX : CXT} (h : ∀ vs m SX S, ¬ sp vs m SX S) : FnOk P w K mg base CX k f fd ps (lift K sp) :=
  ⟨fun vs H Q E ⟨F, svs, m, SX, S, _, _, z, _⟩ => (h _ _ _ _ z).elim, fun A outer s H args us vs Q E _ _ _ _ ⟨F, svs, m, SX, S, _, _, z, _⟩ => (h _ _ _ _ z).elim⟩
/-- the kind of a datum -/
def tyP : PyData → String
  | .none => "NoneType"
  | .bool _ => "bool"
  | .int _ => "int"
  | .str _ => "str"
  | .list _ => "list"
  | .tuple _ => "tuple"
  | .dict _ => "dict"
theorem rd_ty {m : Mem} {x : SV} {d : PyData} (h : Rd m x d) : tyS m x (tyP d) := by
  cases h with
  | ref e _ => exact ⟨rfl, _, e⟩
  | _ => rfl
theorem rd_its {m : Mem} {x : SV} {d : PyData} {ds : List PyData} (h : Rd m x d) (e : d = .list ds ∨ d = .tuple ds) : ∃ xs, Its m x xs ∧ Rds m xs ds := by
  cases h with
  | tup r => rcases e with e | e <;> cases e; exact ⟨_, rfl, r⟩
  | lst r => rcases e with e | e <;> cases e; exact ⟨_, rfl, r⟩
  | ref e1 r => rcases e with e | e <;> cases e; exact ⟨_, e1, r⟩
  | _ => rcases e with e | e <;> cases e
theorem rds_len {m : Mem} : ∀ {xs : List SV} {ds : List PyData}, Rds m xs ds → xs.length = ds.length
  | _, _, .nil => rfl
  | _, _, .cons _ t => by rw [List.length_cons, List.length_cons, rds_len t]
theorem rds_get {m : Mem} : ∀ {xs : List SV} {ds : List PyData} {i : Nat} {d : PyData}, Rds m xs ds → ds[i]? = some d → ∃ x, xs[i]? = some x ∧ Rd m x d
  | _, _, _, _, .nil, h => by simp at h
  | _, _, 0, _, .cons a _, h => by simp at h; subst h; exact ⟨_, rfl, a⟩
  | _, _, i + 1, _, .cons _ t, h => by
    obtain ⟨x, h1, h2⟩ := rds_get (i := i) t (by simpa using h)
    exact ⟨x, by simpa using h1, h2⟩
theorem ix_its {m : Mem} {x : SV} {xs : List SV} {i : Nat} {v : SV} {S : SV → Mem → Prop} (h : Its m x xs) (hv : xs[i]? = some v) (q : S v m) : sIx x (.int (i : Int)) m S := by
  cases x with
  | tup ys => cases (show xs = ys from h); exact ⟨v, atI_nat hv, q⟩
  | lst ys => cases (show xs = ys from h); exact ⟨v, atI_nat hv, q⟩
  | ref a => exact ⟨xs, v, h, atI_nat hv, q⟩
  | _ => exact (show False from h).elim
theorem len_its {m : Mem} {x : SV} {xs : List SV} {S : SV → Mem → Prop} (h : Its m x xs) (q : S (.int xs.length) m) : sLen [x] m S := by
  cases x with
  | str => exact (show False from h).elim
  | _ => exact ⟨xs, h, q⟩
theorem ok_law_alike (T : Tx K mg) : ∀ n, FnOk P w K mg base CX0 n (He.ga K "_law_alike") T.fd__law_alike ["_law_found", "_law_due"] (lift K (spAlike n)) := by
  intro n
  induction n with
  | zero => exact fn_never fun vs m SX S ⟨_, _, _, _, _, _, _, z, _⟩ => Nat.not_lt_zero _ z
  | succ n G_law_alike =>
  have b_law_alike := b_law_alike T
  refine fn_sy T.F__law_alike sc_law_alike (fun svs m SX Sv h => ?_) (fun cdv A outer s H E hr => ⟨_, _, (gss_cons (gs_if (gt_cmp op_isN sim_isN (gv 1) ge_non (nomark _)) (gss_one (gs_ret (ge_cmp op_isN sim_isN (gv 0) ge_non (nomark _)))) gss_nil)
      (gss_cons (gs_if (gt_val (ge_callB (cr_isi K) sim_isi (by rfl) T.z_isinstance (by decide +kernel) (ga_cons (gv 1) (ga_cons (ge_ty (n := "bool") (by rfl) T.z_bool (by decide +kernel)) ga_nil)))) (gss_one (gs_ret (ge_and (ge_callB (cr_isi K) sim_isi (by rfl) T.z_isinstance (by decide +kernel) (ga_cons (gv 0) (ga_cons (ge_ty (n := "bool") (by rfl) T.z_bool (by decide +kernel)) ga_nil))) (ge_one (ge_cmp (op_eqG K hr.units) sim_eq (gv 0) (gv 1) (nomark _)))))) gss_nil)
      (gss_cons (gs_if (gt_val (ge_callB (cr_isi K) sim_isi (by rfl) T.z_isinstance (by decide +kernel) (ga_cons (gv 1) (ga_cons (ge_ty (n := "int") (by rfl) T.z_int (by decide +kernel)) ga_nil)))) (gss_one (gs_ret (ge_and (ge_callB (cr_isi K) sim_isi (by rfl) T.z_isinstance (by decide +kernel) (ga_cons (gv 0) (ga_cons (ge_ty (n := "int") (by rfl) T.z_int (by decide +kernel)) ga_nil))) (ge_and (ge_not (ge_callB (cr_isi K) sim_isi (by rfl) T.z_isinstance (by decide +kernel) (ga_cons (gv 0) (ga_cons (ge_ty (n := "bool") (by rfl) T.z_bool (by decide +kernel)) ga_nil)))) (ge_one (ge_cmp (op_eqG K hr.units) sim_eq (gv 0) (gv 1) (nomark _))))))) gss_nil)
      (gss_cons (gs_if (gt_val (ge_callB (cr_isi K) sim_isi (by rfl) T.z_isinstance (by decide +kernel) (ga_cons (gv 1) (ga_cons (ge_ty (n := "str") (by rfl) T.z_str (by decide +kernel)) ga_nil)))) (gss_one (gs_ret (ge_and (ge_callB (cr_isi K) sim_isi (by rfl) T.z_isinstance (by decide +kernel) (ga_cons (gv 0) (ga_cons (ge_ty (n := "str") (by rfl) T.z_str (by decide +kernel)) ga_nil))) (ge_one (ge_cmp (op_eqG K hr.units) sim_eq (gv 0) (gv 1) (nomark _)))))) gss_nil)
      (gss_cons (gs_if (gw_pt (gw_or (gt_cmp (op_neG K hr.units) sim_ne (ge_callB (cr_isi K) sim_isi (by rfl) T.z_isinstance (by decide +kernel) (ga_cons (gv 1) (ga_cons (ge_ty (n := "tuple") (by rfl) T.z_tuple (by decide +kernel)) ga_nil))) (ge_callB (cr_isi K) sim_isi (by rfl) T.z_isinstance (by decide +kernel) (ga_cons (gv 0) (ga_cons (ge_ty (n := "tuple") (by rfl) T.z_tuple (by decide +kernel)) ga_nil))) (nomark _)) (gw_or1 (gt_cmp (op_neG K hr.units) sim_ne (ge_callB (cr_isi K) sim_isi (by rfl) T.z_isinstance (by decide +kernel) (ga_cons (gv 1) (ga_cons (ge_ty (n := "list") (by rfl) T.z_list (by decide +kernel)) ga_nil))) (ge_callB (cr_isi K) sim_isi (by rfl) T.z_isinstance (by decide +kernel) (ga_cons (gv 0) (ga_cons (ge_ty (n := "list") (by rfl) T.z_list (by decide +kernel)) ga_nil))) (nomark _))))) (gss_one (gs_ret ge_bl)) gss_nil)
      (gss_cons (gs_if (gt_cmp (op_neG K hr.units) sim_ne (ge_callB (cr_len K) sim_len (by rfl) T.z_len (by decide +kernel) (ga_cons (gv 0) ga_nil)) (ge_callB (cr_len K) sim_len (by rfl) T.z_len (by decide +kernel) (ga_cons (gv 1) ga_nil)) (nomark _)) (gss_one (gs_ret ge_bl)) gss_nil)
      (gss_cons (gs_for PassesOwn.never rfl (gi_range1 (by rfl) T.z_range (ga_cons (ge_callB (cr_len K) sim_len (by rfl) T.z_len (by decide +kernel) (ga_cons (gv 1) ga_nil)) ga_nil)) (gg_name (i := 2) sc_law_alike.nd rfl (.inl rfl))
      (gss_one (gs_if (gt_not (gt_val (ge_call G_law_alike (hr) (by rfl) T.g__law_alike T.k__law_alike b_law_alike .nil (fun _ => .nil) pass0 (ga_cons (ge_ix (ix_G K) sim_ix (gv 0) (gv 2) (fun _ _ => rfl)) (ga_cons (ge_ix (ix_G K) sim_ix (gv 1) (gv 2) (fun _ _ => rfl)) ga_nil))))) (gss_one (gs_ret ge_bl)) gss_nil)))
      (gss_one (gs_ret ge_bl))))))))), fun svs m SX Sv h => ?_⟩)
  · obtain ⟨x, y, d, e, rfl, _⟩ := h
    rfl
  · obtain ⟨x, y, d, e, rfl, hx, hy, hlt, hsm, q⟩ := h
    have tx := rd_ty hx
    have ty := rd_ty hy
    have qf : ∀ b, eqD d e = b → Fg (Sv (.bl b)) m := fun b hb => by rw [hb] at q; exact .of q
    walk_at "r"
    cases hy with
    | non =>
      walk_at "t"
      walk_at "r"
      exact qf _ (by cases hx <;> rfl)
    | bl b =>
      walk_at "f"
      walk_at "r"
      refine ⟨by decide, _, rfl, ?_⟩
      walk_at "r"
      walk_at "t"
      walk_at "r"
      refine ⟨by decide, _, tx, ?_⟩
      walk_at "r"
      cases hx with
      | bl a =>
        walk_at "t"
        walk_at "r"
        exact qf _ rfl
      | _ =>
        walk_at "f"
        exact qf _ rfl
    | int b =>
      walk_at "f"
      walk_at "r"
      refine ⟨by decide, _, rfl, ?_⟩
      walk_at "r"
      walk_at "f"
      walk_at "r"
      refine ⟨by decide, _, rfl, ?_⟩
      walk_at "r"
      walk_at "t"
      walk_at "r"
      refine ⟨by decide, _, tx, ?_⟩
      walk_at "r"
      cases hx with
      | int a =>
        walk_at "t"
        walk_at "r"
        refine ⟨by decide, _, rfl, ?_⟩
        walk_at "r"
        walk_at "t"
        walk_at "r"
        exact qf _ rfl
      | bl a =>
        walk_at "t"
        walk_at "r"
        refine ⟨by decide, _, rfl, ?_⟩
        walk_at "r"
        walk_at "f"
        exact qf _ rfl
      | _ =>
        walk_at "f"
        exact qf _ rfl
    | str b =>
      walk_at "f"
      walk_at "r"
      refine ⟨by decide, _, rfl, ?_⟩
      walk_at "r"
      walk_at "f"
      walk_at "r"
      refine ⟨by decide, _, rfl, ?_⟩
      walk_at "r"
      walk_at "f"
      walk_at "r"
      refine ⟨by decide, _, rfl, ?_⟩
      walk_at "r"
      walk_at "t"
      walk_at "r"
      refine ⟨by decide, _, tx, ?_⟩
      walk_at "r"
      cases hx with
      | str a =>
        walk_at "t"
        walk_at "r"
        exact qf _ rfl
      | _ =>
        walk_at "f"
        exact qf _ rfl
    | @tup ys es ry =>
      walk_at "f"
      walk_at "r"
      refine ⟨by decide, _, rfl, ?_⟩
      walk_at "r"
      walk_at "f"
      walk_at "r"
      refine ⟨by decide, _, rfl, ?_⟩
      walk_at "r"
      walk_at "f"
      walk_at "r"
      refine ⟨by decide, _, rfl, ?_⟩
      walk_at "r"
      walk_at "f"
      walk_at "r"
      refine ⟨by decide, _, rfl, ?_⟩
      walk_at "r"
      refine ⟨by decide, _, tx, ?_⟩
      walk_at "r"
      cases hx with
      | @tup xs ds rx =>
        walk_at "f"
        walk_at "r"
        refine ⟨by decide, _, rfl, ?_⟩
        walk_at "r"
        refine ⟨by decide, _, rfl, ?_⟩
        walk_at "r"
        walk_at "f"
        walk_at "r"
        refine ⟨_, rfl, ?_⟩
        walk_at "r"
        refine ⟨_, rfl, ?_⟩
        walk_at "r"
        have lx := rds_len rx
        have ly := rds_len ry
        refine Br_i (fun hl => ?_) (fun hl => ?_)
        · walk_at "r"
          refine qf _ ?_
          show eqDs ds es = false
          cases hq : eqDs ds es with
          | false => rfl
          | true =>
            have := eqDs_len hq
            have hl : (!decide ((xs.length : Int) = ys.length)) = true := hl
            simp at hl
            omega
        · have hll : ds.length = es.length := by
            have hl : (!decide ((xs.length : Int) = ys.length)) = false := hl
            simp at hl
            omega
          walk_at "r"
          refine ⟨_, rfl, ?_⟩
          walk_at "r"
          have hsm : es.length ≤ 100000 ∧ smDs es := hsm
          refine ⟨⟨by omega, by omega⟩, ?_⟩
          have hlt : 1 + dpts es < n + 1 := hlt
          refine for_inv (fun r δ m' => m' = m ∧ ∃ (k : Nat) (a : Option SV), δ = [some (SV.tup xs), some (SV.tup ys), a] ∧ r = rngS k (ys.length - k) ∧ k ≤ ys.length ∧ (∀ (i : Nat) u v, i < k → ds[i]? = some u → es[i]? = some v → eqD u v = true)) ⟨rfl, 0, none, rfl, rfl, Nat.zero_le _, fun i u v h => absurd h (Nat.not_lt_zero _)⟩ (fun x r δ m' h => ?_) (fun δ m' h => ?_)
          · obtain ⟨rfl, k, a, rfl, hr, hk, hall⟩ := h
            refine ⟨trivial, ?_⟩
            have hk1 : k < ys.length := by
              by_cases e : k < ys.length
              · exact e
              · rw [show ys.length - k = 0 by omega] at hr; cases hr
            rw [show ys.length - k = (ys.length - (k + 1)) + 1 by omega] at hr
            obtain ⟨rfl, rfl⟩ := List.cons.inj hr
            obtain ⟨u, hu⟩ : ∃ u, ds[k]? = some u := ⟨_, List.getElem?_eq_getElem (by omega)⟩
            obtain ⟨v, hv⟩ : ∃ v, es[k]? = some v := ⟨_, List.getElem?_eq_getElem (by omega)⟩
            obtain ⟨su, hsu, ru⟩ := rds_get rx hu
            obtain ⟨sv, hsv, rv⟩ := rds_get ry hv
            walk_at "r"
            refine ⟨_, atI_nat hsu, ?_⟩
            walk_at "r"
            refine ⟨_, atI_nat hsv, ?_⟩
            walk_at "r"
            refine ⟨_, _, _, _, rfl, ru, rv, by have := dpts_get hv; omega, smDs_get hsm.2 hv, ?_⟩
            walk_at "r"
            refine Br_i (fun hb => ?_) (fun hb => ?_)
            · walk_at "r"
              refine qf _ ?_
              show eqDs ds es = false
              cases hq : eqDs ds es with
              | false => rfl
              | true =>
                have hb : (!eqD u v) = true := hb
                rw [(eqDs_get hll).mpr hq k u v hu hv] at hb
                cases hb
            · have hb : (!eqD u v) = false := hb
              walk_at "r"
              refine .of ⟨rfl, k + 1, _, rfl, rfl, hk1, fun i u' v' hi h1 h2 => ?_⟩
              by_cases e : i = k
              · subst e
                rw [hu] at h1
                rw [hv] at h2
                cases h1
                cases h2
                simpa using hb
              · exact hall i u' v' (by omega) h1 h2
          · obtain ⟨rfl, k, a, rfl, hr, hk, hall⟩ := h
            refine ⟨trivial, ?_⟩
            walk_at "r"
            have hk1 : k = ys.length := by
              by_cases e : k < ys.length
              · rw [show ys.length - k = (ys.length - (k + 1)) + 1 by omega] at hr; cases hr
              · omega
            refine qf _ ?_
            show eqDs ds es = true
            exact (eqDs_get hll).mp fun i u v h1 h2 => hall i u v (by have := (List.getElem?_eq_some_iff.mp h2).1; omega) h1 h2
      | _ =>
        walk_at "t"
        walk_at "r"
        walk_at "t"
        walk_at "r"
        exact qf _ rfl
    | @lst ys es ry =>
      walk_at "f"
      walk_at "r"
      refine ⟨by decide, _, rfl, ?_⟩
      walk_at "r"
      walk_at "f"
      walk_at "r"
      refine ⟨by decide, _, rfl, ?_⟩
      walk_at "r"
      walk_at "f"
      walk_at "r"
      refine ⟨by decide, _, rfl, ?_⟩
      walk_at "r"
      walk_at "f"
      walk_at "r"
      refine ⟨by decide, _, rfl, ?_⟩
      walk_at "r"
      refine ⟨by decide, _, tx, ?_⟩
      walk_at "r"
      cases hx with
      | @lst xs ds rx =>
        walk_at "f"
        walk_at "r"
        refine ⟨by decide, _, rfl, ?_⟩
        walk_at "r"
        refine ⟨by decide, _, rfl, ?_⟩
        walk_at "r"
        walk_at "f"
        walk_at "r"
        refine ⟨_, rfl, ?_⟩
        walk_at "r"
        refine ⟨_, rfl, ?_⟩
        walk_at "r"
        have lx := rds_len rx
        have ly := rds_len ry
        refine Br_i (fun hl => ?_) (fun hl => ?_)
        · walk_at "r"
          refine qf _ ?_
          show eqDs ds es = false
          cases hq : eqDs ds es with
          | false => rfl
          | true =>
            have := eqDs_len hq
            have hl : (!decide ((xs.length : Int) = ys.length)) = true := hl
            simp at hl
            omega
        · have hll : ds.length = es.length := by
            have hl : (!decide ((xs.length : Int) = ys.length)) = false := hl
            simp at hl
            omega
          walk_at "r"
          refine ⟨_, rfl, ?_⟩
          walk_at "r"
          have hsm : es.length ≤ 100000 ∧ smDs es := hsm
          refine ⟨⟨by omega, by omega⟩, ?_⟩
          have hlt : 1 + dpts es < n + 1 := hlt
          refine for_inv (fun r δ m' => m' = m ∧ ∃ (k : Nat) (a : Option SV), δ = [some (SV.lst xs), some (SV.lst ys), a] ∧ r = rngS k (ys.length - k) ∧ k ≤ ys.length ∧ (∀ (i : Nat) u v, i < k → ds[i]? = some u → es[i]? = some v → eqD u v = true)) ⟨rfl, 0, none, rfl, rfl, Nat.zero_le _, fun i u v h => absurd h (Nat.not_lt_zero _)⟩ (fun x r δ m' h => ?_) (fun δ m' h => ?_)
          · obtain ⟨rfl, k, a, rfl, hr, hk, hall⟩ := h
            refine ⟨trivial, ?_⟩
            have hk1 : k < ys.length := by
              by_cases e : k < ys.length
              · exact e
              · rw [show ys.length - k = 0 by omega] at hr; cases hr
            rw [show ys.length - k = (ys.length - (k + 1)) + 1 by omega] at hr
            obtain ⟨rfl, rfl⟩ := List.cons.inj hr
            obtain ⟨u, hu⟩ : ∃ u, ds[k]? = some u := ⟨_, List.getElem?_eq_getElem (by omega)⟩
            obtain ⟨v, hv⟩ : ∃ v, es[k]? = some v := ⟨_, List.getElem?_eq_getElem (by omega)⟩
            obtain ⟨su, hsu, ru⟩ := rds_get rx hu
            obtain ⟨sv, hsv, rv⟩ := rds_get ry hv
            walk_at "r"
            refine ⟨_, atI_nat hsu, ?_⟩
            walk_at "r"
            refine ⟨_, atI_nat hsv, ?_⟩
            walk_at "r"
            refine ⟨_, _, _, _, rfl, ru, rv, by have := dpts_get hv; omega, smDs_get hsm.2 hv, ?_⟩
            walk_at "r"
            refine Br_i (fun hb => ?_) (fun hb => ?_)
            · walk_at "r"
              refine qf _ ?_
              show eqDs ds es = false
              cases hq : eqDs ds es with
              | false => rfl
              | true =>
                have hb : (!eqD u v) = true := hb
                rw [(eqDs_get hll).mpr hq k u v hu hv] at hb
                cases hb
            · have hb : (!eqD u v) = false := hb
              walk_at "r"
              refine .of ⟨rfl, k + 1, _, rfl, rfl, hk1, fun i u' v' hi h1 h2 => ?_⟩
              by_cases e : i = k
              · subst e
                rw [hu] at h1
                rw [hv] at h2
                cases h1
                cases h2
                simpa using hb
              · exact hall i u' v' (by omega) h1 h2
          · obtain ⟨rfl, k, a, rfl, hr, hk, hall⟩ := h
            refine ⟨trivial, ?_⟩
            walk_at "r"
            have hk1 : k = ys.length := by
              by_cases e : k < ys.length
              · rw [show ys.length - k = (ys.length - (k + 1)) + 1 by omega] at hr; cases hr
              · omega
            refine qf _ ?_
            show eqDs ds es = true
            exact (eqDs_get hll).mp fun i u v h1 h2 => hall i u v (by have := (List.getElem?_eq_some_iff.mp h2).1; omega) h1 h2
      | @ref ax xs ds e2 rx =>
        walk_at "f"
        walk_at "r"
        refine ⟨by decide, _, rfl, ?_⟩
        walk_at "r"
        refine ⟨by decide, _, ⟨rfl, _, e2⟩, ?_⟩
        walk_at "r"
        walk_at "f"
        walk_at "r"
        refine ⟨_, e2, ?_⟩
        walk_at "r"
        refine ⟨_, rfl, ?_⟩
        walk_at "r"
        have lx := rds_len rx
        have ly := rds_len ry
        refine Br_i (fun hl => ?_) (fun hl => ?_)
        · walk_at "r"
          refine qf _ ?_
          show eqDs ds es = false
          cases hq : eqDs ds es with
          | false => rfl
          | true =>
            have := eqDs_len hq
            have hl : (!decide ((xs.length : Int) = ys.length)) = true := hl
            simp at hl
            omega
        · have hll : ds.length = es.length := by
            have hl : (!decide ((xs.length : Int) = ys.length)) = false := hl
            simp at hl
            omega
          walk_at "r"
          refine ⟨_, rfl, ?_⟩
          walk_at "r"
          have hsm : es.length ≤ 100000 ∧ smDs es := hsm
          refine ⟨⟨by omega, by omega⟩, ?_⟩
          have hlt : 1 + dpts es < n + 1 := hlt
          refine for_inv (fun r δ m' => m' = m ∧ ∃ (k : Nat) (a : Option SV), δ = [some (SV.ref ax), some (SV.lst ys), a] ∧ r = rngS k (ys.length - k) ∧ k ≤ ys.length ∧ (∀ (i : Nat) u v, i < k → ds[i]? = some u → es[i]? = some v → eqD u v = true)) ⟨rfl, 0, none, rfl, rfl, Nat.zero_le _, fun i u v h => absurd h (Nat.not_lt_zero _)⟩ (fun x r δ m' h => ?_) (fun δ m' h => ?_)
          · obtain ⟨rfl, k, a, rfl, hr, hk, hall⟩ := h
            refine ⟨trivial, ?_⟩
            have hk1 : k < ys.length := by
              by_cases e : k < ys.length
              · exact e
              · rw [show ys.length - k = 0 by omega] at hr; cases hr
            rw [show ys.length - k = (ys.length - (k + 1)) + 1 by omega] at hr
            obtain ⟨rfl, rfl⟩ := List.cons.inj hr
            obtain ⟨u, hu⟩ : ∃ u, ds[k]? = some u := ⟨_, List.getElem?_eq_getElem (by omega)⟩
            obtain ⟨v, hv⟩ : ∃ v, es[k]? = some v := ⟨_, List.getElem?_eq_getElem (by omega)⟩
            obtain ⟨su, hsu, ru⟩ := rds_get rx hu
            obtain ⟨sv, hsv, rv⟩ := rds_get ry hv
            walk_at "r"
            refine ⟨_, _, e2, atI_nat hsu, ?_⟩
            walk_at "r"
            refine ⟨_, atI_nat hsv, ?_⟩
            walk_at "r"
            refine ⟨_, _, _, _, rfl, ru, rv, by have := dpts_get hv; omega, smDs_get hsm.2 hv, ?_⟩
            walk_at "r"
            refine Br_i (fun hb => ?_) (fun hb => ?_)
            · walk_at "r"
              refine qf _ ?_
              show eqDs ds es = false
              cases hq : eqDs ds es with
              | false => rfl
              | true =>
                have hb : (!eqD u v) = true := hb
                rw [(eqDs_get hll).mpr hq k u v hu hv] at hb
                cases hb
            · have hb : (!eqD u v) = false := hb
              walk_at "r"
              refine .of ⟨rfl, k + 1, _, rfl, rfl, hk1, fun i u' v' hi h1 h2 => ?_⟩
              by_cases e : i = k
              · subst e
                rw [hu] at h1
                rw [hv] at h2
                cases h1
                cases h2
                simpa using hb
              · exact hall i u' v' (by omega) h1 h2
          · obtain ⟨rfl, k, a, rfl, hr, hk, hall⟩ := h
            refine ⟨trivial, ?_⟩
            walk_at "r"
            have hk1 : k = ys.length := by
              by_cases e : k < ys.length
              · rw [show ys.length - k = (ys.length - (k + 1)) + 1 by omega] at hr; cases hr
              · omega
            refine qf _ ?_
            show eqDs ds es = true
            exact (eqDs_get hll).mp fun i u v h1 h2 => hall i u v (by have := (List.getElem?_eq_some_iff.mp h2).1; omega) h1 h2
      | tup rx =>
        walk_at "t"
        walk_at "r"
        walk_at "t"
        walk_at "r"
        exact qf _ rfl
      | _ =>
        walk_at "f"
        walk_at "r"
        refine ⟨by decide, _, rfl, ?_⟩
        walk_at "r"
        refine ⟨by decide, _, rfl, ?_⟩
        walk_at "r"
        walk_at "t"
        walk_at "r"
        exact qf _ rfl
    | @ref ay ys es e1 ry =>
      walk_at "f"
      walk_at "r"
      refine ⟨by decide, _, ⟨rfl, _, e1⟩, ?_⟩
      walk_at "r"
      walk_at "f"
      walk_at "r"
      refine ⟨by decide, _, ⟨rfl, _, e1⟩, ?_⟩
      walk_at "r"
      walk_at "f"
      walk_at "r"
      refine ⟨by decide, _, ⟨rfl, _, e1⟩, ?_⟩
      walk_at "r"
      walk_at "f"
      walk_at "r"
      refine ⟨by decide, _, ⟨rfl, _, e1⟩, ?_⟩
      walk_at "r"
      refine ⟨by decide, _, tx, ?_⟩
      walk_at "r"
      cases hx with
      | @lst xs ds rx =>
        walk_at "f"
        walk_at "r"
        refine ⟨by decide, _, ⟨rfl, _, e1⟩, ?_⟩
        walk_at "r"
        refine ⟨by decide, _, rfl, ?_⟩
        walk_at "r"
        walk_at "f"
        walk_at "r"
        refine ⟨_, rfl, ?_⟩
        walk_at "r"
        refine ⟨_, e1, ?_⟩
        walk_at "r"
        have lx := rds_len rx
        have ly := rds_len ry
        refine Br_i (fun hl => ?_) (fun hl => ?_)
        · walk_at "r"
          refine qf _ ?_
          show eqDs ds es = false
          cases hq : eqDs ds es with
          | false => rfl
          | true =>
            have := eqDs_len hq
            have hl : (!decide ((xs.length : Int) = ys.length)) = true := hl
            simp at hl
            omega
        · have hll : ds.length = es.length := by
            have hl : (!decide ((xs.length : Int) = ys.length)) = false := hl
            simp at hl
            omega
          walk_at "r"
          refine ⟨_, e1, ?_⟩
          walk_at "r"
          have hsm : es.length ≤ 100000 ∧ smDs es := hsm
          refine ⟨⟨by omega, by omega⟩, ?_⟩
          have hlt : 1 + dpts es < n + 1 := hlt
          refine for_inv (fun r δ m' => m' = m ∧ ∃ (k : Nat) (a : Option SV), δ = [some (SV.lst xs), some (SV.ref ay), a] ∧ r = rngS k (ys.length - k) ∧ k ≤ ys.length ∧ (∀ (i : Nat) u v, i < k → ds[i]? = some u → es[i]? = some v → eqD u v = true)) ⟨rfl, 0, none, rfl, rfl, Nat.zero_le _, fun i u v h => absurd h (Nat.not_lt_zero _)⟩ (fun x r δ m' h => ?_) (fun δ m' h => ?_)
          · obtain ⟨rfl, k, a, rfl, hr, hk, hall⟩ := h
            refine ⟨trivial, ?_⟩
            have hk1 : k < ys.length := by
              by_cases e : k < ys.length
              · exact e
              · rw [show ys.length - k = 0 by omega] at hr; cases hr
            rw [show ys.length - k = (ys.length - (k + 1)) + 1 by omega] at hr
            obtain ⟨rfl, rfl⟩ := List.cons.inj hr
            obtain ⟨u, hu⟩ : ∃ u, ds[k]? = some u := ⟨_, List.getElem?_eq_getElem (by omega)⟩
            obtain ⟨v, hv⟩ : ∃ v, es[k]? = some v := ⟨_, List.getElem?_eq_getElem (by omega)⟩
            obtain ⟨su, hsu, ru⟩ := rds_get rx hu
            obtain ⟨sv, hsv, rv⟩ := rds_get ry hv
            walk_at "r"
            refine ⟨_, atI_nat hsu, ?_⟩
            walk_at "r"
            refine ⟨_, _, e1, atI_nat hsv, ?_⟩
            walk_at "r"
            refine ⟨_, _, _, _, rfl, ru, rv, by have := dpts_get hv; omega, smDs_get hsm.2 hv, ?_⟩
            walk_at "r"
            refine Br_i (fun hb => ?_) (fun hb => ?_)
            · walk_at "r"
              refine qf _ ?_
              show eqDs ds es = false
              cases hq : eqDs ds es with
              | false => rfl
              | true =>
                have hb : (!eqD u v) = true := hb
                rw [(eqDs_get hll).mpr hq k u v hu hv] at hb
                cases hb
            · have hb : (!eqD u v) = false := hb
              walk_at "r"
              refine .of ⟨rfl, k + 1, _, rfl, rfl, hk1, fun i u' v' hi h1 h2 => ?_⟩
              by_cases e : i = k
              · subst e
                rw [hu] at h1
                rw [hv] at h2
                cases h1
                cases h2
                simpa using hb
              · exact hall i u' v' (by omega) h1 h2
          · obtain ⟨rfl, k, a, rfl, hr, hk, hall⟩ := h
            refine ⟨trivial, ?_⟩
            walk_at "r"
            have hk1 : k = ys.length := by
              by_cases e : k < ys.length
              · rw [show ys.length - k = (ys.length - (k + 1)) + 1 by omega] at hr; cases hr
              · omega
            refine qf _ ?_
            show eqDs ds es = true
            exact (eqDs_get hll).mp fun i u v h1 h2 => hall i u v (by have := (List.getElem?_eq_some_iff.mp h2).1; omega) h1 h2
      | @ref ax xs ds e2 rx =>
        walk_at "f"
        walk_at "r"
        refine ⟨by decide, _, ⟨rfl, _, e1⟩, ?_⟩
        walk_at "r"
        refine ⟨by decide, _, ⟨rfl, _, e2⟩, ?_⟩
        walk_at "r"
        walk_at "f"
        walk_at "r"
        refine ⟨_, e2, ?_⟩
        walk_at "r"
        refine ⟨_, e1, ?_⟩
        walk_at "r"
        have lx := rds_len rx
        have ly := rds_len ry
        refine Br_i (fun hl => ?_) (fun hl => ?_)
        · walk_at "r"
          refine qf _ ?_
          show eqDs ds es = false
          cases hq : eqDs ds es with
          | false => rfl
          | true =>
            have := eqDs_len hq
            have hl : (!decide ((xs.length : Int) = ys.length)) = true := hl
            simp at hl
            omega
        · have hll : ds.length = es.length := by
            have hl : (!decide ((xs.length : Int) = ys.length)) = false := hl
            simp at hl
            omega
          walk_at "r"
          refine ⟨_, e1, ?_⟩
          walk_at "r"
          have hsm : es.length ≤ 100000 ∧ smDs es := hsm
          refine ⟨⟨by omega, by omega⟩, ?_⟩
          have hlt : 1 + dpts es < n + 1 := hlt
          refine for_inv (fun r δ m' => m' = m ∧ ∃ (k : Nat) (a : Option SV), δ = [some (SV.ref ax), some (SV.ref ay), a] ∧ r = rngS k (ys.length - k) ∧ k ≤ ys.length ∧ (∀ (i : Nat) u v, i < k → ds[i]? = some u → es[i]? = some v → eqD u v = true)) ⟨rfl, 0, none, rfl, rfl, Nat.zero_le _, fun i u v h => absurd h (Nat.not_lt_zero _)⟩ (fun x r δ m' h => ?_) (fun δ m' h => ?_)
          · obtain ⟨rfl, k, a, rfl, hr, hk, hall⟩ := h
            refine ⟨trivial, ?_⟩
            have hk1 : k < ys.length := by
              by_cases e : k < ys.length
              · exact e
              · rw [show ys.length - k = 0 by omega] at hr; cases hr
            rw [show ys.length - k = (ys.length - (k + 1)) + 1 by omega] at hr
            obtain ⟨rfl, rfl⟩ := List.cons.inj hr
            obtain ⟨u, hu⟩ : ∃ u, ds[k]? = some u := ⟨_, List.getElem?_eq_getElem (by omega)⟩
            obtain ⟨v, hv⟩ : ∃ v, es[k]? = some v := ⟨_, List.getElem?_eq_getElem (by omega)⟩
            obtain ⟨su, hsu, ru⟩ := rds_get rx hu
            obtain ⟨sv, hsv, rv⟩ := rds_get ry hv
            walk_at "r"
            refine ⟨_, _, e2, atI_nat hsu, ?_⟩
            walk_at "r"
            refine ⟨_, _, e1, atI_nat hsv, ?_⟩
            walk_at "r"
            refine ⟨_, _, _, _, rfl, ru, rv, by have := dpts_get hv; omega, smDs_get hsm.2 hv, ?_⟩
            walk_at "r"
            refine Br_i (fun hb => ?_) (fun hb => ?_)
            · walk_at "r"
              refine qf _ ?_
              show eqDs ds es = false
              cases hq : eqDs ds es with
              | false => rfl
              | true =>
                have hb : (!eqD u v) = true := hb
                rw [(eqDs_get hll).mpr hq k u v hu hv] at hb
                cases hb
            · have hb : (!eqD u v) = false := hb
              walk_at "r"
              refine .of ⟨rfl, k + 1, _, rfl, rfl, hk1, fun i u' v' hi h1 h2 => ?_⟩
              by_cases e : i = k
              · subst e
                rw [hu] at h1
                rw [hv] at h2
                cases h1
                cases h2
                simpa using hb
              · exact hall i u' v' (by omega) h1 h2
          · obtain ⟨rfl, k, a, rfl, hr, hk, hall⟩ := h
            refine ⟨trivial, ?_⟩
            walk_at "r"
            have hk1 : k = ys.length := by
              by_cases e : k < ys.length
              · rw [show ys.length - k = (ys.length - (k + 1)) + 1 by omega] at hr; cases hr
              · omega
            refine qf _ ?_
            show eqDs ds es = true
            exact (eqDs_get hll).mp fun i u v h1 h2 => hall i u v (by have := (List.getElem?_eq_some_iff.mp h2).1; omega) h1 h2
      | tup rx =>
        walk_at "t"
        walk_at "r"
        walk_at "t"
        walk_at "r"
        exact qf _ rfl
      | _ =>
        walk_at "f"
        walk_at "r"
        refine ⟨by decide, _, ⟨rfl, _, e1⟩, ?_⟩
        walk_at "r"
        refine ⟨by decide, _, rfl, ?_⟩
        walk_at "r"
        walk_at "t"
        walk_at "r"
        exact qf _ rfl
end
end Hn

set_option Elab.async false
set_option linter.all false
set_option maxRecDepth 100000
set_option maxHeartbeats 8000000
namespace Hn
open PySem PySem.Spec PyProof.Rows L2 Sy Lm
section
variable {P : Program} {w : World} {K : PySem.W.Frag} {mg : Str → Option Value} {base : Heap}
local macro_rules | `(tactic| walk_at "r") => `(tactic| (conv => whnf))
local macro_rules | `(tactic| walk_at "sp") => `(tactic| (first | rfl | contradiction | exact (False.elim ‹_›)))
local macro_rules | `(tactic| walk_at "len") => `(tactic| (exact Nat.le_trans (show _ ≤ 100000 by first | (simp; done) | (rw [rngS_length]; decide)) (by decide)))
local macro_rules | `(tactic| walk_at "f") => `(tactic| (refine Br_i (fun hb => Bool.noConfusion (show false = true from hb)) (fun _ => ?_)))
local macro_rules | `(tactic| walk_at "t") => `(tactic| (refine Br_i (fun _ => ?_) (fun hb => Bool.noConfusion (show true = false from hb))))
local macro_rules | `(tactic| walk_at "le") => `(tactic| first | exact Le.refl _ | (refine Le.put ?_; walk_at "le") | (refine Le.new ?_ (by assumption); walk_at "le"))
def inStr (b e h : Int) : Bool := if b < e then decide (b ≤ h) && decide (h < e) else decide (b ≤ h) || decide (h < e)
def spInStr : SpS := fun vs m _ S => match vs with
  | [.int h, .int b, .int e] => S (.bl (inStr b e h)) m
  | _ => False
/-- whether one of the stretches holds the hour -/
def inSome (hs : List (Int × Int)) (h : Int) : Bool := hs.any fun p => inStr p.1 p.2 h
def hoursB (hs : List (Int × Int)) : List Bool := (List.range 24).map fun i => inSome hs (i : Nat)
theorem hoursB_length (hs : List (Int × Int)) : (hoursB hs).length = 24 := by unfold hoursB; rw [List.length_map, List.length_range]
theorem hoursB_at (hs : List (Int × Int)) {h : Int} (h0 : 0 ≤ h) (h1 : h < 24) : atI ((hoursB hs).map SV.bl) h = some (.bl (inSome hs h)) := by
  obtain ⟨n, rfl⟩ : ∃ n : Nat, h = (n : Int) := ⟨h.toNat, by omega⟩
  refine atI_nat ?_
  unfold hoursB
  rw [List.getElem?_map, List.getElem?_map, List.getElem?_range (by omega)]
  rfl
def svInt (f : Int → SV) : SV → SV
  | .int i => f i
  | x => x
theorem rngS_eq : ∀ (n k : Nat), rngS (k : Int) n = (List.range' k n).map fun (i : Nat) => SV.int i
  | 0, _ => rfl
  | n + 1, k => by
    rw [rngS, List.range'_succ, List.map_cons]
    congr 1
    have := rngS_eq n (k + 1)
    rw [show (k : Int) + 1 = ((k + 1 : Nat) : Int) by push_cast; rfl]
    exact this
theorem hoursB_eq (hs : List (Int × Int)) : (rngS 0 24).map (svInt fun h => .bl (inSome hs h)) = (hoursB hs).map SV.bl := by
  have h := rngS_eq 24 0
  rw [show ((0 : Nat) : Int) = 0 from rfl] at h
  rw [h, ← List.range_eq_range']
  unfold hoursB
  rw [List.map_map, List.map_map]
  rfl
def spHours : SpS := fun vs m _ S => ∃ hs : List (Int × Int), vs = [.tup (hs.map pairV)] ∧ hs.length ≤ 1000 ∧ ∀ p, m p = none → S (.ref p) (up m p (.lst ((hoursB hs).map .bl)))
theorem ok_is_in_stretch (T : Tx K mg) : FnOk P w K mg base CX0 1 (He.ga K "is_in_stretch") T.fd_is_in_stretch ["hour", "begin", "end"] (lift K spInStr) := by
  refine fn_sy T.F_is_in_stretch sc_is_in_stretch (fun svs m SX Sv h => ?_) (fun cdv A outer s H E hr => ⟨_, _, (gss_cons (gs_if (gt_cmp op_lt sim_lt (gv 1) (gv 2) (nomark _)) (gss_one (gs_ret (ge_chain op_le op_lt sim_le sim_lt (gv 1) (gv 0) (gv 2)))) gss_nil)
      (gss_one (gs_ret (ge_or (ge_cmp op_ge sim_ge (gv 0) (gv 1) (nomark _)) (ge_one (ge_cmp op_lt sim_lt (gv 0) (gv 2) (nomark _))))))), fun svs m SX Sv h => ?_⟩)
  · unfold spInStr at h
    split at h <;> first | rfl | exact h.elim
  · unfold spInStr at h
    split at h
    · rename_i hh b e
      walk_at "r"
      unfold inStr at h
      refine Br_i (fun h1 => ?_) (fun h1 => ?_)
      · rw [if_pos (of_decide_eq_true h1)] at h
        walk_at "r"
        refine Br_i (fun h2 => ?_) (fun h2 => ?_)
        · walk_at "r"
          rw [h2, Bool.true_and] at h
          exact .of h
        · rw [h2, Bool.false_and] at h
          exact .of h
      · rw [if_neg (of_decide_eq_false h1)] at h
        walk_at "r"
        refine Br_i (fun h2 => ?_) (fun h2 => ?_)
        · rw [h2, Bool.true_or] at h
          exact .of h
        · walk_at "r"
          rw [h2, Bool.false_or] at h
          exact .of h
    · exact h.elim
theorem ok_hushed_hours (T : Tx K mg) : FnOk P w K mg base CX0 2 (He.ga K "hushed_hours") T.fd_hushed_hours ["hushed"] (lift K spHours) := by
  have G_is_in_stretch := ok_is_in_stretch (P := P) (w := w) (base := base) T
  have b_is_in_stretch := b_is_in_stretch T
  refine fn_sy T.F_hushed_hours sc_hushed_hours (fun svs m SX Sv h => ?_) (fun cdv A outer s H E hr => ⟨_, _, (gss_one (gs_ret (ge_lc (own := [("hour", 3)]) (by rfl) sc_hushed_hours.nd (gi_range1 (by rfl) T.z_range (ga_cons (ge_gi (by rfl) T.i_DAY) ga_nil)) (blkOk_by (own := [("hour", 3)]) (N := ["hushed", "begin", "end", "hour"]) (sc := (defScope s_hushed_hours)) (by decide +kernel)) (fun _ _ _ _ _ => (gg_name (i := 3) sc_hushed_hours.nd rfl (.inr rfl))) (wp_name (by decide)) (fun _ _ _ _ _ => gts_nil) (fun _ _ _ _ _ => (ge_callB (cr_anyG K) sim_any (by rfl) T.z_any (by decide +kernel) (ga_cons (ge_lc (own := [("begin", 1), ("end", 2)]) (by rfl) sc_hushed_hours.nd (gi_seq (gv 0)) (blkOk_by (by kernel_rfl)) (fun _ _ _ _ _ => (gg_tup 2 (by rfl) (ggs_cons (gg_name (i := 1) sc_hushed_hours.nd rfl (.inl rfl)) (ggs_cons (gg_name (i := 2) sc_hushed_hours.nd rfl (.inl rfl)) ggs_nil)))) (wp_tup (wps_cons (wp_name (by decide)) (wps_cons (wp_name (by decide)) wps_nil))) (fun _ _ _ _ _ => gts_nil) (fun _ _ _ _ _ => (ge_call G_is_in_stretch (hr) (by rfl) T.g_is_in_stretch T.k_is_in_stretch b_is_in_stretch .nil (fun _ => .nil) pass0 (ga_cons (gv 3) (ga_cons (gv 1) (ga_cons (gv 2) ga_nil)))))) ga_nil)))))), fun svs m SX Sv h => ?_⟩)
  · obtain ⟨hs, rfl, _⟩ := h
    rfl
  · obtain ⟨hs, rfl, hl, q⟩ := h
    walk_at "r"
    refine ⟨⟨by decide, by decide⟩, by walk_at "len", fun p hp => ?_⟩
    refine lc_map (svInt fun h => .bl (inSome hs h)) (fun _ => trivial) (fun x hx acc K1 k => ?_) ?_
    · obtain ⟨i, hi⟩ := List.getElem?_of_mem hx
      obtain ⟨_, rfl⟩ := rngS_get _ _ _ _ hi
      walk_at "r"
      refine ⟨_, rfl, by rw [List.length_map]; exact line_le (by omega), fun p2 hp2 => ?_⟩
      refine lc_inv (fun r acc2 m2 => m2 = up (up m p (.lst acc)) p2 (.lst acc2) ∧ ∃ a b : List (Int × Int), a ++ b = hs ∧ r = b.map pairV ∧ acc2 = (a.map fun q => inStr q.1 q.2 (0 + (i : Nat))).map SV.bl) ⟨rfl, [], hs, rfl, rfl, rfl⟩ (fun y r acc2 m2 h => ?_) (fun acc2 m2 h => ?_)
      · obtain ⟨rfl, a, b, e, hr, rfl⟩ := h
        cases b with
        | nil => cases hr
        | cons z b =>
          obtain ⟨rfl, rfl⟩ := List.cons.inj hr
          refine ⟨trivial, ?_⟩
          walk_at "r"
          refine ⟨rfl, ?_⟩
          walk_at "r"
          walk_at "t"
          walk_at "r"
          refine ⟨up_same, .of ⟨by rw [up_up], a ++ [z], b, by rw [List.append_assoc]; exact e, rfl, by rw [List.map_append, List.map_append]; rfl⟩⟩
      · obtain ⟨rfl, a, b, e, hr, rfl⟩ := h
        cases b with
        | cons z b => cases hr
        | nil =>
          rw [List.append_nil] at e
          subst e
          refine ⟨trivial, ?_⟩
          walk_at "r"
          refine ⟨_, up_same, ?_⟩
          have e2 : (a.map fun q => inStr q.1 q.2 (0 + (i : Nat))).any id = inSome a (0 + (i : Nat)) := by
            unfold inSome
            rw [List.any_map]
            rfl
          rw [e2]
          exact k _ (.new (.refl _) hp2)
    · have q := q p hp
      walk_at "r"
      rw [← hoursB_eq] at q
      exact .of q
def spJudged (C : Addr) : SpS := fun vs m SX S => ∃ R x, vs = [RV R, x] ∧ RulesOk R ∧ Dat m x ∧ (∀ (i : Nat) (h : i < R.length), x = .int i → ∀ p, m p = none → S (.ref p) (up m p (.lst ((hoursB R[i].hs).map .bl)))) ∧ (isWh x 0 (R.length - 1) = false → SX ⟨C, none⟩ m)
theorem wh_nat {x : SV} {n : Nat} (h : isWh x 0 ((n : Int) - 1) = true) : ∃ i : Nat, x = .int i ∧ i < n := by
  obtain ⟨i, rfl, h0, h1⟩ := wh_int h
  exact ⟨i.toNat, by congr 1; omega, by omega⟩
theorem ok_judged_hours (T : Tx K mg) : FnOk P w K mg base (L2.CX P w) 7 (He.ga K "judged_hours") T.fd_judged_hours ["rules", "person"] (lift K (spJudged (He.ga K "BadPerson"))) := by
  have G_hushed_hours := ok_hushed_hours (P := P) (w := w) (base := base) T
  have b_hushed_hours := b_hushed_hours T
  have G_refuse_bad_person := ok_refuse_bad_person (P := P) (w := w) (base := base) T
  have b_refuse_bad_person := b_refuse_bad_person T
  have G_refuse_bad_rules := ok_refuse_bad_rules (P := P) (w := w) (base := base) T
  have b_refuse_bad_rules := b_refuse_bad_rules T
  refine fn_syX T.F_judged_hours sc_judged_hours (fun svs m SX Sv h => ?_) (fun cdv A outer s H E hr => ⟨_, _, (gss_cons (gs_expr (ge_call G_refuse_bad_rules (hr) (by rfl) T.g_refuse_bad_rules T.k_refuse_bad_rules b_refuse_bad_rules .nil (fun _ => .nil) pass0 (ga_cons (gv 0) ga_nil)))
      (gss_cons (gs_expr (ge_call G_refuse_bad_person (hr.mono (by decide)) (by rfl) T.g_refuse_bad_person T.k_refuse_bad_person b_refuse_bad_person .nil (fun _ => .nil) passE (ga_cons (gv 0) (ga_cons (gv 1) ga_nil))))
      (gss_one (gs_ret (ge_call G_hushed_hours (hr.mono (by decide)) (by rfl) T.g_hushed_hours T.k_hushed_hours b_hushed_hours .nil (fun _ => .nil) pass0 (ga_cons (ge_ix (ix_G K) sim_ix (ge_ix (ix_G K) sim_ix (gv 0) (gv 1) (fun _ _ => rfl)) ge_int (fun _ _ => rfl)) ga_nil)))))), fun svs m SX Sv h => ?_⟩)
  · obtain ⟨R, x, rfl, _⟩ := h
    rfl
  · obtain ⟨R, x, rfl, ok, hd, q1, q2⟩ := h
    have h1 := ok.one
    have h6 := ok.six
    walk_at "r"
    refine ⟨R, rfl, ok, ?_⟩
    walk_at "r"
    refine ⟨hd, fun hw => ?_, fun hw => .of (q2 (by rw [List.length_map] at hw; exact hw))⟩
    rw [List.length_map] at hw
    obtain ⟨i, rfl, hi⟩ := wh_nat hw
    walk_at "r"
    refine ⟨_, rv_get hi, ?_⟩
    walk_at "r"
    refine ⟨_, rfl, ?_⟩
    walk_at "r"
    have hl := (ok.all _ (List.getElem_mem hi)).hl
    exact ⟨R[i].hs, rfl, by omega, fun p hp => .of (q1 i hi rfl p hp)⟩
def ffGo (bs : Int → Bool) : Nat → Int → Option Int
  | 0, _ => none
  | n + 1, t => if bs (t % 24) = true then ffGo bs n (t + 1) else some t
/-- the first moment from this one on that isn't hushed -/
def firstFree (hs : List (Int × Int)) (t : Int) : Option Int := ffGo (inSome hs) 24 t
def spFree : SpS := fun vs m _ S => ∃ p hs mo, vs = [.ref p, .int mo] ∧ m p = some (.lst ((hoursB hs).map .bl)) ∧ -(10 ^ 9) ≤ mo ∧ mo ≤ 10 ^ 9 ∧ S (optV (firstFree hs mo)) m
theorem ok_first_free (T : Tx K mg) : FnOk P w K mg base CX0 1 (He.ga K "first_free") T.fd_first_free ["hours", "moment"] (lift K spFree) := by
  refine fn_sy T.F_first_free sc_first_free (fun svs m SX Sv h => ?_) (fun cdv A outer s H E hr => ⟨_, _, (gss_cons (gs_for PassesOwn.never rfl (gi_range2 (by rfl) T.z_range (ga_cons (gv 1) (ga_cons (ge_op (op_addG K) sim_add (gv 1) (ge_gi (by rfl) T.i_DAY)) ga_nil))) (gg_name (i := 2) sc_first_free.nd rfl (.inl rfl))
      (gss_one (gs_if (gt_not (gt_val (ge_ix (ix_G K) sim_ix (gv 0) (ge_op op_mod sim_mod (gv 2) (ge_gi (by rfl) T.i_DAY)) (fun _ _ => rfl)))) (gss_one (gs_ret (gv 2))) gss_nil)))
      (gss_one (gs_ret ge_non))), fun svs m SX Sv h => ?_⟩)
  · obtain ⟨p, hs, mo, rfl, _⟩ := h
    rfl
  · obtain ⟨p, hs, mo, rfl, hp, b0, b1, q⟩ := h
    walk_at "r"
    refine ⟨⟨by omega, by omega, by omega, by omega⟩, ?_⟩
    refine for_inv (fun r δ m' => m' = m ∧ ∃ (k : Nat) (t : Int) (a : Option SV), r = rngS t k ∧ ffGo (inSome hs) k t = firstFree hs mo ∧ δ = [some (.ref p), some (.int mo), a]) ⟨rfl, 24, mo, none, by rw [show (mo + 24 - mo).toNat = 24 by omega], rfl, rfl⟩ (fun x r δ m' h => ?_) (fun δ m' h => ?_)
    · obtain ⟨rfl, k, t, a, hr, hf, rfl⟩ := h
      refine ⟨trivial, ?_⟩
      cases k with
      | zero => cases hr
      | succ k =>
        obtain ⟨rfl, rfl⟩ := List.cons.inj hr
        walk_at "r"
        refine ⟨(by decide : (0 : Int) < 24), ?_⟩
        walk_at "r"
        refine ⟨_, _, hp, hoursB_at hs (by omega) (by omega), ?_⟩
        walk_at "r"
        unfold ffGo at hf
        refine Br_i (fun h1 => ?_) (fun h1 => ?_)
        · have h1 : inSome hs (t % 24) = false := by simpa using h1
          rw [if_neg (by rw [h1]; exact Bool.false_ne_true)] at hf
          walk_at "r"
          rw [← hf] at q
          exact .of q
        · have h1 : inSome hs (t % 24) = true := by simpa using h1
          rw [if_pos h1] at hf
          walk_at "r"
          exact .of ⟨rfl, k, t + 1, _, rfl, hf, rfl⟩
    · obtain ⟨rfl, k, t, a, hr, hf, rfl⟩ := h
      refine ⟨trivial, ?_⟩
      cases k with
      | succ k => cases hr
      | zero =>
        walk_at "r"
        unfold ffGo at hf
        rw [← hf] at q
        exact .of q
end
end Hn

set_option Elab.async false
set_option linter.all false
set_option maxRecDepth 100000
set_option maxHeartbeats 8000000
namespace Hn
open PySem PySem.Spec PyProof.Rows L2 Sy Lm
section
variable {P : Program} {w : World} {K : PySem.W.Frag} {mg : Str → Option Value} {base : Heap}
local macro_rules | `(tactic| walk_at "r") => `(tactic| (conv => whnf))
local macro_rules | `(tactic| walk_at "sp") => `(tactic| (first | rfl | contradiction | exact (False.elim ‹_›)))
local macro_rules | `(tactic| walk_at "len") => `(tactic| (exact Nat.le_trans (show _ ≤ 100000 by first | (simp; done) | (rw [rngS_length]; decide)) (by decide)))
local macro_rules | `(tactic| walk_at "f") => `(tactic| (refine Br_i (fun hb => Bool.noConfusion (show false = true from hb)) (fun _ => ?_)))
local macro_rules | `(tactic| walk_at "t") => `(tactic| (refine Br_i (fun _ => ?_) (fun hb => Bool.noConfusion (show true = false from hb))))
local macro_rules | `(tactic| walk_at "le") => `(tactic| first | exact Le.refl _ | (refine Le.put ?_; walk_at "le") | (refine Le.new ?_ (by assumption); walk_at "le"))
def aheadB (bs : List Bool) (m : Int) : Int := m / 24 * cntB bs + cntB (bs.take (m % 24).toNat)
def spAhead : SpS := fun vs m _ S => ∃ p hs mo, vs = [.ref p, .int mo] ∧ m p = some (.lst ((hoursB hs).map .bl)) ∧ (0 ≤ mo ∧ mo ≤ 1000000) ∧ S (.int (aheadB (hoursB hs) mo)) m
def spMoment (C : Addr) : SpS := fun vs m SX S => match vs with
  | [x, .int last] => Dat m x ∧ ((isWh x 0 last = true → S .non m) ∧ (isWh x 0 last = false → SX ⟨C, none⟩ m))
  | _ => False
theorem cut_take {bs : List Bool} {i : Int} (h0 : 0 ≤ i) (h1 : i ≤ bs.length) : cutS' (bs.map SV.bl) none (some i) = (bs.take i.toNat).map SV.bl := by
  obtain ⟨n, rfl⟩ : ∃ n : Nat, i = (n : Int) := ⟨i.toNat, by omega⟩
  unfold cutS'
  rw [HT.sIx_none, HT.sIx_nat, List.length_map, List.drop_zero, Nat.sub_zero, Nat.min_eq_left (by omega), Int.toNat_natCast, List.map_take]
theorem ok_hushed_ahead_of (T : Tx K mg) : FnOk P w K mg base CX0 1 (He.ga K "hushed_ahead_of") T.fd_hushed_ahead_of ["hours", "moment"] (lift K spAhead) := by
  refine fn_sy T.F_hushed_ahead_of sc_hushed_ahead_of (fun svs m SX Sv h => ?_) (fun cdv A outer s H E hr => ⟨_, _, (gss_one (gs_ret (ge_op (op_addG K) sim_add (ge_op op_mulG sim_mul (ge_op op_fdivG sim_fdiv (gv 1) (ge_gi (by rfl) T.i_DAY)) (ge_callB (cr_sumA K) sim_sumA (by rfl) T.z_sum (by decide +kernel) (ga_cons (gv 0) ga_nil))) (ge_callB (cr_sumA K) sim_sumA (by rfl) T.z_sum (by decide +kernel) (ga_cons (ge_slice (gv 0) go_none (go_some (ge_op op_mod sim_mod (gv 1) (ge_gi (by rfl) T.i_DAY)))) ga_nil))))), fun svs m SX Sv h => ?_⟩)
  · obtain ⟨p, hs, mo, rfl, _⟩ := h
    rfl
  · obtain ⟨p, hs, mo, rfl, hp, ⟨b0, b1⟩, q⟩ := h
    walk_at "r"
    refine ⟨.inl ⟨by decide, by decide⟩, ?_⟩
    walk_at "r"
    refine .inr ⟨_, hp, ?_⟩
    walk_at "r"
    refine ⟨.inl (.inl ⟨by omega, by omega⟩), ?_⟩
    walk_at "r"
    refine ⟨(by decide : (0 : Int) < 24), ?_⟩
    walk_at "r"
    refine ⟨_, hp, fun p2 hp2 => ?_⟩
    rw [cut_take (i := mo % 24) (by omega) (by rw [hoursB_length]; omega)]
    walk_at "r"
    refine .inr ⟨_, up_same, ?_⟩
    walk_at "r"
    exact ⟨m, .new (.refl m) hp2, q⟩
theorem ok_refuse_bad_moment (T : Tx K mg) : FnOk P w K mg base (L2.CX P w) 3 (He.ga K "refuse_bad_moment") T.fd_refuse_bad_moment ["moment", "last"] (lift K (spMoment (He.ga K "BadMoment"))) := by
  have G_is_whole := ok_is_whole (P := P) (w := w) (base := base) T
  have b_is_whole := b_is_whole T
  refine fn_syX T.F_refuse_bad_moment sc_refuse_bad_moment (fun svs m SX Sv h => ?_) (fun cdv A outer s H E hr => ⟨_, _, (gss_one (gs_if (gt_not (gt_val (ge_call G_is_whole (hr) (by rfl) T.g_is_whole T.k_is_whole b_is_whole .nil (fun _ => .nil) pass0 (ga_cons (gv 0) (ga_cons ge_int (ga_cons (gv 1) ga_nil)))))) (gss_one (gs_raise (ps_raise rfl (takes_of rfl rfl rfl rfl) (pmk_own PySem.F.excBase_ValueError T.x_BadMoment T.g_BadMoment T.k_BadMoment (raises_own T.e_BadMoment T.t_BadMoment) (by exact rfl))))) gss_nil)), fun svs m SX Sv h => ?_⟩)
  · unfold spMoment at h
    split at h <;> first | rfl | exact h.elim
  · unfold spMoment at h
    split at h
    · obtain ⟨hd, q1, q2⟩ := h
      walk_at "r"
      refine ⟨hd, ?_⟩
      walk_at "r"
      refine Br_i (fun h2 => ?_) (fun h2 => ?_)
      · walk_at "r"
        exact .of (q2 (by simpa using h2))
      · exact .of (q1 (by simpa using h2))
    · exact h.elim
def isMom (x : SV) : Bool := isWh x 0 1000000
/-- person, then moment: what is told, or the first refusal -/
def spIsHushed (C D : Addr) : SpS := fun vs m SX S => ∃ R x y, vs = [RV R, x, y] ∧ RulesOk R ∧ Dat m x ∧ Dat m y ∧ (∀ (i : Nat) (t : Int) (h : i < R.length), x = .int i → y = .int t → 0 ≤ t → t ≤ 1000000 → S (.bl (inSome R[i].hs (t % 24))) m) ∧
  (isWh x 0 (R.length - 1) = false → SX ⟨C, none⟩ m) ∧ (isWh x 0 (R.length - 1) = true → isMom y = false → SX ⟨D, none⟩ m)
def spFreeFrom (C D : Addr) : SpS := fun vs m SX S => ∃ R x y, vs = [RV R, x, y] ∧ RulesOk R ∧ Dat m x ∧ Dat m y ∧ (∀ (i : Nat) (t : Int) (h : i < R.length), x = .int i → y = .int t → 0 ≤ t → t ≤ 1000000 → S (optV (firstFree R[i].hs t)) m) ∧
  (isWh x 0 (R.length - 1) = false → SX ⟨C, none⟩ m) ∧ (isWh x 0 (R.length - 1) = true → isMom y = false → SX ⟨D, none⟩ m)
def between (hs : List (Int × Int)) (b e : Int) : Int := if e ≤ b then 0 else aheadB (hoursB hs) e - aheadB (hoursB hs) b
def spBetween (C D : Addr) : SpS := fun vs m SX S => ∃ R x y z, vs = [RV R, x, y, z] ∧ RulesOk R ∧ Dat m x ∧ Dat m y ∧ Dat m z ∧ (∀ (i : Nat) (t u : Int) (h : i < R.length), x = .int i → y = .int t → z = .int u → 0 ≤ t → t ≤ 1000000 → 0 ≤ u → u ≤ 1000000 → S (.int (between R[i].hs t u)) m) ∧
  (isWh x 0 (R.length - 1) = false → SX ⟨C, none⟩ m) ∧ (isWh x 0 (R.length - 1) = true → (isMom y && isMom z) = false → SX ⟨D, none⟩ m)
theorem _root_.Sy.Dat.le {a m : Mem} {x : SV} (h : Dat a x) (l : Le a m) : Dat m x := by
  obtain ⟨t, ht⟩ := h
  cases x <;> first
    | exact ⟨t, ht⟩
    | (obtain ⟨e, xs, h⟩ := (show t = "list" ∧ ∃ xs, _ from ht); exact ⟨t, e, xs, l _ _ h⟩)
theorem ok_is_hushed (T : Tx K mg) : FnOk P w K mg base (L2.CX P w) 8 (He.ga K "is_hushed") T.fd_is_hushed ["rules", "person", "moment"] (lift K (spIsHushed (He.ga K "BadPerson") (He.ga K "BadMoment"))) := by
  have G_judged_hours := ok_judged_hours (P := P) (w := w) (base := base) T
  have b_judged_hours := b_judged_hours T
  have G_refuse_bad_moment := ok_refuse_bad_moment (P := P) (w := w) (base := base) T
  obtain ⟨ds_refuse_bad_moment_1, hv_refuse_bad_moment_1, bd_refuse_bad_moment_1⟩ := bd_refuse_bad_moment_1 T
  refine fn_syX T.F_is_hushed sc_is_hushed (fun svs m SX Sv h => ?_) (fun cdv A outer s H E hr => ⟨_, _, (gss_cons (gs_set (i := 3) sc_is_hushed.nd rfl (.inl rfl) (ge_call G_judged_hours (hr) (by rfl) T.g_judged_hours T.k_judged_hours b_judged_hours .nil (fun _ => .nil) passE (ga_cons (gv 0) (ga_cons (gv 1) ga_nil))))
      (gss_cons (gs_expr (ge_call G_refuse_bad_moment (hr.mono (by decide)) (by rfl) T.g_refuse_bad_moment T.k_refuse_bad_moment bd_refuse_bad_moment_1 hv_refuse_bad_moment_1 (fun _ => (.cons (.int _) .nil)) passE (ga_cons (gv 2) ga_nil)))
      (gss_one (gs_ret (ge_ix (ix_G K) sim_ix (gv 3) (ge_op op_mod sim_mod (gv 2) (ge_gi (by rfl) T.i_DAY)) (fun _ _ => rfl)))))), fun svs m SX Sv h => ?_⟩)
  · obtain ⟨R, x, y, rfl, _⟩ := h
    rfl
  · obtain ⟨R, x, y, rfl, ok, hx, hy, q1, q2, q3⟩ := h
    walk_at "r"
    refine ⟨R, x, rfl, ok, hx, fun i hi e p hp => ?_, fun e => .of (q2 e)⟩
    subst e
    have hw : isWh (.int i) 0 (R.length - 1) = true := wh_of (by omega) (by omega)
    have hl := Le.new (o := .lst ((hoursB R[i].hs).map .bl)) (.refl m) hp
    walk_at "r"
    refine ⟨hy.le hl, fun hm => ?_, fun hm => ⟨m, hl, q3 hw hm⟩⟩
    obtain ⟨t, rfl, t0, t1⟩ := wh_int hm
    have q := q1 i t hi rfl rfl t0 t1
    walk_at "r"
    refine ⟨(by decide : (0 : Int) < 24), ?_⟩
    walk_at "r"
    refine ⟨_, _, up_same, hoursB_at _ (by omega) (by omega), ?_⟩
    exact ⟨m, hl, q⟩
theorem ok_free_from (T : Tx K mg) : FnOk P w K mg base (L2.CX P w) 8 (He.ga K "free_from") T.fd_free_from ["rules", "person", "moment"] (lift K (spFreeFrom (He.ga K "BadPerson") (He.ga K "BadMoment"))) := by
  have G_first_free := ok_first_free (P := P) (w := w) (base := base) T
  have b_first_free := b_first_free T
  have G_judged_hours := ok_judged_hours (P := P) (w := w) (base := base) T
  have b_judged_hours := b_judged_hours T
  have G_refuse_bad_moment := ok_refuse_bad_moment (P := P) (w := w) (base := base) T
  obtain ⟨ds_refuse_bad_moment_1, hv_refuse_bad_moment_1, bd_refuse_bad_moment_1⟩ := bd_refuse_bad_moment_1 T
  refine fn_syX T.F_free_from sc_free_from (fun svs m SX Sv h => ?_) (fun cdv A outer s H E hr => ⟨_, _, (gss_cons (gs_set (i := 3) sc_free_from.nd rfl (.inl rfl) (ge_call G_judged_hours (hr) (by rfl) T.g_judged_hours T.k_judged_hours b_judged_hours .nil (fun _ => .nil) passE (ga_cons (gv 0) (ga_cons (gv 1) ga_nil))))
      (gss_cons (gs_expr (ge_call G_refuse_bad_moment (hr.mono (by decide)) (by rfl) T.g_refuse_bad_moment T.k_refuse_bad_moment bd_refuse_bad_moment_1 hv_refuse_bad_moment_1 (fun _ => (.cons (.int _) .nil)) passE (ga_cons (gv 2) ga_nil)))
      (gss_one (gs_ret (ge_call G_first_free (hr.mono (by decide)) (by rfl) T.g_first_free T.k_first_free b_first_free .nil (fun _ => .nil) pass0 (ga_cons (gv 3) (ga_cons (gv 2) ga_nil))))))), fun svs m SX Sv h => ?_⟩)
  · obtain ⟨R, x, y, rfl, _⟩ := h
    rfl
  · obtain ⟨R, x, y, rfl, ok, hx, hy, q1, q2, q3⟩ := h
    walk_at "r"
    refine ⟨R, x, rfl, ok, hx, fun i hi e p hp => ?_, fun e => .of (q2 e)⟩
    subst e
    have hw : isWh (.int i) 0 (R.length - 1) = true := wh_of (by omega) (by omega)
    have hl := Le.new (o := .lst ((hoursB R[i].hs).map .bl)) (.refl m) hp
    walk_at "r"
    refine ⟨hy.le hl, fun hm => ?_, fun hm => ⟨m, hl, q3 hw hm⟩⟩
    obtain ⟨t, rfl, t0, t1⟩ := wh_int hm
    have q := q1 i t hi rfl rfl t0 t1
    walk_at "r"
    refine ⟨p, _, t, rfl, up_same, by omega, by omega, ?_⟩
    exact ⟨m, hl, q⟩
theorem ok_hushed_between (T : Tx K mg) : FnOk P w K mg base (L2.CX P w) 8 (He.ga K "hushed_between") T.fd_hushed_between ["rules", "person", "begin", "end"] (lift K (spBetween (He.ga K "BadPerson") (He.ga K "BadMoment"))) := by
  have G_hushed_ahead_of := ok_hushed_ahead_of (P := P) (w := w) (base := base) T
  have b_hushed_ahead_of := b_hushed_ahead_of T
  have G_judged_hours := ok_judged_hours (P := P) (w := w) (base := base) T
  have b_judged_hours := b_judged_hours T
  have G_refuse_bad_moment := ok_refuse_bad_moment (P := P) (w := w) (base := base) T
  obtain ⟨ds_refuse_bad_moment_1, hv_refuse_bad_moment_1, bd_refuse_bad_moment_1⟩ := bd_refuse_bad_moment_1 T
  refine fn_syX T.F_hushed_between sc_hushed_between (fun svs m SX Sv h => ?_) (fun cdv A outer s H E hr => ⟨_, _, (gss_cons (gs_set (i := 4) sc_hushed_between.nd rfl (.inl rfl) (ge_call G_judged_hours (hr) (by rfl) T.g_judged_hours T.k_judged_hours b_judged_hours .nil (fun _ => .nil) passE (ga_cons (gv 0) (ga_cons (gv 1) ga_nil))))
      (gss_cons (gs_expr (ge_call G_refuse_bad_moment (hr.mono (by decide)) (by rfl) T.g_refuse_bad_moment T.k_refuse_bad_moment bd_refuse_bad_moment_1 hv_refuse_bad_moment_1 (fun _ => (.cons (.int _) .nil)) passE (ga_cons (gv 2) ga_nil)))
      (gss_cons (gs_expr (ge_call G_refuse_bad_moment (hr.mono (by decide)) (by rfl) T.g_refuse_bad_moment T.k_refuse_bad_moment bd_refuse_bad_moment_1 hv_refuse_bad_moment_1 (fun _ => (.cons (.int _) .nil)) passE (ga_cons (gv 3) ga_nil)))
      (gss_cons (gs_if (gt_cmp op_le sim_le (gv 3) (gv 2) (nomark _)) (gss_one (gs_ret ge_int)) gss_nil)
      (gss_one (gs_ret (ge_op op_sub sim_sub (ge_call G_hushed_ahead_of (hr.mono (by decide)) (by rfl) T.g_hushed_ahead_of T.k_hushed_ahead_of b_hushed_ahead_of .nil (fun _ => .nil) pass0 (ga_cons (gv 4) (ga_cons (gv 3) ga_nil))) (ge_call G_hushed_ahead_of (hr.mono (by decide)) (by rfl) T.g_hushed_ahead_of T.k_hushed_ahead_of b_hushed_ahead_of .nil (fun _ => .nil) pass0 (ga_cons (gv 4) (ga_cons (gv 2) ga_nil)))))))))), fun svs m SX Sv h => ?_⟩)
  · obtain ⟨R, x, y, z, rfl, _⟩ := h
    rfl
  · obtain ⟨R, x, y, z, rfl, ok, hx, hy, hz, q1, q2, q3⟩ := h
    walk_at "r"
    refine ⟨R, x, rfl, ok, hx, fun i hi e p hp => ?_, fun e => .of (q2 e)⟩
    subst e
    have hw : isWh (.int i) 0 (R.length - 1) = true := wh_of (by omega) (by omega)
    have hl := Le.new (o := .lst ((hoursB R[i].hs).map .bl)) (.refl m) hp
    walk_at "r"
    refine ⟨hy.le hl, fun hm => ?_, fun hm => ⟨m, hl, q3 hw (by rw [show isMom y = false from hm, Bool.false_and])⟩⟩
    obtain ⟨t, rfl, t0, t1⟩ := wh_int hm
    walk_at "r"
    refine ⟨hz.le hl, fun hm2 => ?_, fun hm2 => ⟨m, hl, q3 hw (by rw [show isMom z = false from hm2, Bool.and_false])⟩⟩
    obtain ⟨u, rfl, u0, u1⟩ := wh_int hm2
    have q := q1 i t u hi rfl rfl rfl t0 t1 u0 u1
    unfold between at q
    walk_at "r"
    refine Br_i (fun hb => ?_) (fun hb => ?_)
    · rw [if_pos (of_decide_eq_true hb)] at q
      walk_at "r"
      exact ⟨m, hl, q⟩
    · rw [if_neg (of_decide_eq_false hb)] at q
      walk_at "r"
      refine ⟨p, _, u, rfl, up_same, ⟨u0, u1⟩, ?_⟩
      walk_at "r"
      refine ⟨p, _, t, rfl, up_same, ⟨t0, t1⟩, ?_⟩
      exact ⟨m, hl, q⟩
end
end Hn

set_option Elab.async false
set_option linter.all false
set_option maxRecDepth 100000
set_option maxHeartbeats 8000000
namespace Hn
open PySem PySem.Spec PyProof.Rows L2 Sy Lm
section
variable {P : Program} {w : World} {K : PySem.W.Frag} {mg : Str → Option Value} {base : Heap}
local macro_rules | `(tactic| walk_at "r") => `(tactic| (conv => whnf))
local macro_rules | `(tactic| walk_at "sp") => `(tactic| (first | rfl | contradiction | exact (False.elim ‹_›)))
local macro_rules | `(tactic| walk_at "len") => `(tactic| (exact Nat.le_trans (show _ ≤ 100000 by first | (simp; done) | (rw [rngS_length]; decide)) (by decide)))
local macro_rules | `(tactic| walk_at "f") => `(tactic| (refine Br_i (fun hb => Bool.noConfusion (show false = true from hb)) (fun _ => ?_)))
local macro_rules | `(tactic| walk_at "t") => `(tactic| (refine Br_i (fun _ => ?_) (fun hb => Bool.noConfusion (show true = false from hb))))
local macro_rules | `(tactic| walk_at "le") => `(tactic| first | exact Le.refl _ | (refine Le.put ?_; walk_at "le") | (refine Le.new ?_ (by assumption); walk_at "le"))
def pairD (p : Int × Int) : PyData := .tuple [.int p.1, .int p.2]
theorem shaped_pairs : ∀ ps : List (Int × Int), PyData.canLayAll0 (ps.map pairD) = true ∧ PyData.depthAll (ps.map pairD) ≤ 3
  | [] => ⟨by simp [PyData.canLayAll0], by simp [PyData.depthAll]⟩
  | p :: r => by
    have h := shaped_pairs r
    have h2 := h.2
    refine ⟨by simp [PyData.canLayAll0, PyData.canLay0, pairD, h.1], ?_⟩
    simp only [List.map_cons, PyData.depthAll, PyData.depth, pairD]
    omega
theorem shaped_pl (ps : List (Int × Int)) : SeqAt.shaped (.list (ps.map pairD)) = true := by
  have h1 := shaped_pairs ps
  have h2 := h1.2
  unfold SeqAt.shaped
  have h3 : (1 + PyData.depthAll (ps.map pairD)) ≤ 64 := by omega
  simp only [PyData.canLay0, PyData.depth, h1.1, Bool.true_and]
  exact decide_eq_true (by first | exact h3 | (rw [Nat.add_comm]; exact h3))
theorem rds_pairs {m : Mem} : ∀ ps : List (Int × Int), Rds m (ps.map pairV) (ps.map pairD)
  | [] => .nil
  | _ :: r => .cons (.tup (.cons (.int _) (.cons (.int _) .nil))) (rds_pairs r)
/-- the law's own way to tell a hushed hour -/
def hushP (h : Int) (x : SV) : Bool := match x with
  | .tup [.int b, .int e] => decide ((h - b) % 24 < (e - b) % 24)
  | _ => false
theorem hushP_in {h : Int} {p : Int × Int} (h0 : 0 ≤ h ∧ h < 24) (ok : stOk p) : hushP h (pairV p) = inStr p.1 p.2 h := by
  obtain ⟨b, e⟩ := p
  obtain ⟨⟨b0, b1⟩, ⟨e0, e1⟩, ne⟩ := ok
  simp only at b0 b1 e0 e1 ne
  show decide ((h - b) % 24 < (e - b) % 24) = inStr b e h
  unfold inStr
  by_cases hbe : b < e
  · rw [if_pos hbe, ← Bool.decide_and]
    exact decide_eq_decide.mpr (by omega)
  · rw [if_neg hbe, ← Bool.decide_or]
    exact decide_eq_decide.mpr (by omega)
theorem hush_filter {h : Int} (h0 : 0 ≤ h ∧ h < 24) : ∀ ps : List (Int × Int), (∀ p ∈ ps, stOk p) → ∃ qs : List (Int × Int), ((ps.map pairV).filter (hushP h)).map id = qs.map pairV ∧ (!qs.isEmpty) = inSome ps h
  | [], _ => ⟨[], rfl, rfl⟩
  | p :: r, hok => by
    obtain ⟨qs, e, n⟩ := hush_filter h0 r fun q hq => hok q (List.mem_cons_of_mem _ hq)
    have hp := hushP_in h0 (hok p List.mem_cons_self)
    have es : inSome (p :: r) h = (inStr p.1 p.2 h || inSome r h) := rfl
    rw [List.map_cons, List.filter_cons, hp, es]
    cases inStr p.1 p.2 h with
    | true => exact ⟨p :: qs, by rw [if_pos rfl, List.map_cons, e]; rfl, rfl⟩
    | false => exact ⟨qs, by rw [if_neg Bool.false_ne_true, e], n⟩
def spHushQ : SpS := fun vs m _ S => ∃ (r : PR) (mo : Int) (n : Nat), vs = [r.sv, .int mo] ∧ r.Ok n ∧ S (.bl (inSome r.hs (mo % 24))) m
theorem ok_law_hush (T : Tx K mg) : FnOk P w K mg base CX0 1 (He.ga K "_law_hush") T.fd__law_hush ["_law_rule_here", "_law_moment"] (lift K spHushQ) := by
  refine fn_sy T.F__law_hush sc_law_hush (fun svs m SX Sv h => ?_) (fun cdv A outer s H E hr => ⟨_, _, (gss_cons (gs_set (i := 2) sc_law_hush.nd rfl (.inr rfl) (ge_op op_mod sim_mod (gv 1) ge_int))
      (gss_cons (gs_setLc (i := 3) (own := [("_law_begin", 4), ("_law_end", 5)]) (by rfl) sc_law_hush.nd rfl rfl (sw_true rfl rfl rfl (by decide +kernel)) (gi_seq (ge_ix (ix_G K) sim_ix (gv 0) ge_int (fun _ _ => rfl))) (blkOk_by (own := [("_law_begin", 4), ("_law_end", 5)]) (N := ["_law_rule_here", "_law_moment", "_law_hour", "_law_some", "_law_begin", "_law_end"]) (sc := (defScope s_law_hush)) (by decide +kernel)) (fun _ _ _ _ _ => (gg_tup 2 (by rfl) (ggs_cons (gg_name (i := 4) sc_law_hush.nd rfl (.inl rfl)) (ggs_cons (gg_name (i := 5) sc_law_hush.nd rfl (.inl rfl)) ggs_nil)))) (wp_tup (wps_cons (wp_name (by decide)) (wps_cons (wp_name (by decide)) wps_nil))) (fun _ _ _ _ _ => (gts_one (gt_cmp op_lt sim_lt (ge_op op_mod sim_mod (ge_op op_sub sim_sub (gv 2) (gv 4)) ge_int) (ge_op op_mod sim_mod (ge_op op_sub sim_sub (gv 5) (gv 4)) ge_int) (nomark _)))) (fun _ _ _ _ _ => (ge_tup (ga_cons (gv 4) (ga_cons (gv 5) ga_nil)))))
      (gss_one (gs_ret (ge_cmp (op_neG K hr.units) sim_ne (gv 3) (ge_lst ga_nil) (nomark _)))))), fun svs m SX Sv h => ?_⟩)
  · obtain ⟨r, mo, n, rfl, _⟩ := h
    rfl
  · obtain ⟨r, mo, n, rfl, ok, q⟩ := h
    obtain ⟨qs, e, hq⟩ := hush_filter (h := mo % 24) ⟨by omega, by omega⟩ r.hs fun p hp => ok.hs p hp
    have hl := ok.hl
    walk_at "r"
    refine ⟨(by decide : (0 : Int) < 24), ?_⟩
    walk_at "r"
    refine ⟨_, rfl, ?_⟩
    walk_at "r"
    refine ⟨_, rfl, by rw [List.length_map]; exact line_le (by omega), fun p hp => ?_⟩
    refine lc_filt (hushP (mo % 24)) id (fun _ => trivial) (fun x hx acc K1 K0 k1 k0 => ?_) ?_
    · obtain ⟨z, hz, rfl⟩ := List.mem_map.mp hx
      walk_at "r"
      refine ⟨rfl, ?_⟩
      walk_at "r"
      refine ⟨(by decide : (0 : Int) < 24), ?_⟩
      walk_at "r"
      refine ⟨(by decide : (0 : Int) < 24), ?_⟩
      walk_at "r"
      refine Br_i (fun h1 => ?_) (fun h1 => k0 _ (.refl _) h1)
      walk_at "r"
      refine ⟨by walk_at "len", ?_⟩
      exact k1 _ (.refl _) h1
    · rw [e]
      walk_at "r"
      refine ⟨by walk_at "len", fun p2 hp2 => ?_⟩
      walk_at "r"
      refine ⟨_, _, .ref (kp up_same hp2) (rds_pairs qs), .ref up_same .nil, shaped_pl qs, rfl, ?_⟩
      rw [← hq] at q
      have e2 : PyData.eqv (.list (qs.map pairD)) (.list []) = qs.isEmpty := by
        cases qs <;> simp [PyData.eqv, PyData.eqvAll]
      rw [e2]
      exact ⟨m, .new (.new (.refl m) hp) hp2, q⟩
end
end Hn

set_option Elab.async false
set_option linter.all false
set_option maxRecDepth 100000
set_option maxHeartbeats 8000000
namespace Hn
open PySem PySem.Spec PyProof.Rows L2 Sy Lm
section
variable {P : Program} {w : World} {K : PySem.W.Frag} {mg : Str → Option Value} {base : Heap}
local macro_rules | `(tactic| walk_at "r") => `(tactic| (conv => whnf))
local macro_rules | `(tactic| walk_at "sp") => `(tactic| (first | rfl | contradiction | exact (False.elim ‹_›)))
local macro_rules | `(tactic| walk_at "len") => `(tactic| (exact Nat.le_trans (show _ ≤ 100000 by first | (simp; done) | (rw [rngS_length]; decide)) (by decide)))
local macro_rules | `(tactic| walk_at "f") => `(tactic| (refine Br_i (fun hb => Bool.noConfusion (show false = true from hb)) (fun _ => ?_)))
local macro_rules | `(tactic| walk_at "t") => `(tactic| (refine Br_i (fun _ => ?_) (fun hb => Bool.noConfusion (show true = false from hb))))
local macro_rules | `(tactic| walk_at "le") => `(tactic| first | exact Le.refl _ | (refine Le.put ?_; walk_at "le") | (refine Le.new ?_ (by assumption); walk_at "le"))
/-- what K says of a class of errors without a dict of its own: it is one of the ten, a NoticeError, a ValueError -/
structure Kd_BadPerson (K : PySem.W.Frag) : Prop where
  ec : ExcC K (He.ga K "BadPerson")
  exm : PySem.W.exmOne K (.ref (He.ga K "BadPerson")) (.ref (He.ga K "NoticeError")) = some true
  ve : PySem.W.kitOne K (.ref (He.ga K "BadPerson")) (.type "ValueError") = some true
  k_BadBell : PySem.W.kitOne K (.ref (He.ga K "BadPerson")) (.ref (He.ga K "BadBell")) = some false
  k_BadDevice : PySem.W.kitOne K (.ref (He.ga K "BadPerson")) (.ref (He.ga K "BadDevice")) = some false
  k_BadHears : PySem.W.kitOne K (.ref (He.ga K "BadPerson")) (.ref (He.ga K "BadHears")) = some false
  k_BadMoment : PySem.W.kitOne K (.ref (He.ga K "BadPerson")) (.ref (He.ga K "BadMoment")) = some false
  k_BadNotices : PySem.W.kitOne K (.ref (He.ga K "BadPerson")) (.ref (He.ga K "BadNotices")) = some false
  k_BadPerson : PySem.W.kitOne K (.ref (He.ga K "BadPerson")) (.ref (He.ga K "BadPerson")) = some true
  k_BadRules : PySem.W.kitOne K (.ref (He.ga K "BadPerson")) (.ref (He.ga K "BadRules")) = some false
  k_BadText : PySem.W.kitOne K (.ref (He.ga K "BadPerson")) (.ref (He.ga K "BadText")) = some false
  k_IsOff : PySem.W.kitOne K (.ref (He.ga K "BadPerson")) (.ref (He.ga K "IsOff")) = some false
  k_NotRinging : PySem.W.kitOne K (.ref (He.ga K "BadPerson")) (.ref (He.ga K "NotRinging")) = some false
/-- what K says of a class of errors without a dict of its own: it is one of the ten, a NoticeError, a ValueError -/
structure Kd_BadMoment (K : PySem.W.Frag) : Prop where
  ec : ExcC K (He.ga K "BadMoment")
  exm : PySem.W.exmOne K (.ref (He.ga K "BadMoment")) (.ref (He.ga K "NoticeError")) = some true
  ve : PySem.W.kitOne K (.ref (He.ga K "BadMoment")) (.type "ValueError") = some true
  k_BadBell : PySem.W.kitOne K (.ref (He.ga K "BadMoment")) (.ref (He.ga K "BadBell")) = some false
  k_BadDevice : PySem.W.kitOne K (.ref (He.ga K "BadMoment")) (.ref (He.ga K "BadDevice")) = some false
  k_BadHears : PySem.W.kitOne K (.ref (He.ga K "BadMoment")) (.ref (He.ga K "BadHears")) = some false
  k_BadMoment : PySem.W.kitOne K (.ref (He.ga K "BadMoment")) (.ref (He.ga K "BadMoment")) = some true
  k_BadNotices : PySem.W.kitOne K (.ref (He.ga K "BadMoment")) (.ref (He.ga K "BadNotices")) = some false
  k_BadPerson : PySem.W.kitOne K (.ref (He.ga K "BadMoment")) (.ref (He.ga K "BadPerson")) = some false
  k_BadRules : PySem.W.kitOne K (.ref (He.ga K "BadMoment")) (.ref (He.ga K "BadRules")) = some false
  k_BadText : PySem.W.kitOne K (.ref (He.ga K "BadMoment")) (.ref (He.ga K "BadText")) = some false
  k_IsOff : PySem.W.kitOne K (.ref (He.ga K "BadMoment")) (.ref (He.ga K "IsOff")) = some false
  k_NotRinging : PySem.W.kitOne K (.ref (He.ga K "BadMoment")) (.ref (He.ga K "NotRinging")) = some false

def told_body : List Stmt := match defBody s_law_told with
  | [.Expr _ _, .Try _ [.ExceptHandler _ _ b _] _ _ _] => b
  | [.Try _ [.ExceptHandler _ _ b _] _ _ _] => b
  | _ => []
theorem told_suite_BadPerson (T : Tx K mg) (KD : Kd_BadPerson K) {x : Str} {f : Addr} {cdv : Value} {A : Around} {outer : List Env} {s : Shared} {H0 : Hp} {E E2 : XK} {k : Nat} (hr : Room k (cxOf CX0 P w K mg base ["_law_work", "e", "_law_kinds", "_law_words", "_law_word"] x (defScope s_law_told) f cdv A outer s H0 E).nox.A) :
    ∃ (ts : Addr → TS) (ss : Addr → SS), (∀ (a : Addr) (oe : Obj) (pn : List (Addr × Obj)), Zc (.ref (He.ga K "BadPerson")) none oe → (∃ vs, oe.data = .fields vs) → GSs K E2 ((cxOf CX0 P w K mg base ["_law_work", "e", "_law_kinds", "_law_words", "_law_word"] x (defScope s_law_told) f cdv A outer s H0 E).nox.suite a ((a, oe) :: pn)) told_body (ts a) (ss a)) ∧
      ∀ (a : Addr) (D : SEnds) (v : Option SV) (SX : SXK) (m : Mem), (∀ m', Le m m' → D.rt (.tup [.str "BadPerson", .int 0]) m') → ss a SX D [v, some (.ref a), none, none, none] m := by
  refine ⟨_, _, fun a oe pn hz hf => (gss_cons (gs_set (i := 2) sc_law_told.nd rfl (.inl rfl) (ge_lst (ga_cons (ge_callB (call_isE KD.ec hz hf) sim_isE (by rfl) T.z_isinstance (by decide +kernel) (ga_cons (gv 1) (ga_cons (ge_gr (by rfl) T.g_BadBell) ga_nil))) (ga_cons (ge_callB (call_isE KD.ec hz hf) sim_isE (by rfl) T.z_isinstance (by decide +kernel) (ga_cons (gv 1) (ga_cons (ge_gr (by rfl) T.g_BadDevice) ga_nil))) (ga_cons (ge_callB (call_isE KD.ec hz hf) sim_isE (by rfl) T.z_isinstance (by decide +kernel) (ga_cons (gv 1) (ga_cons (ge_gr (by rfl) T.g_BadHears) ga_nil))) (ga_cons (ge_callB (call_isE KD.ec hz hf) sim_isE (by rfl) T.z_isinstance (by decide +kernel) (ga_cons (gv 1) (ga_cons (ge_gr (by rfl) T.g_BadMoment) ga_nil))) ga_nil))))))
      (gss_cons (gs_set (i := 2) sc_law_told.nd rfl (.inl rfl) (ge_op (op_addG K) sim_add (gv 2) (ge_lst (ga_cons (ge_callB (call_isE KD.ec hz hf) sim_isE (by rfl) T.z_isinstance (by decide +kernel) (ga_cons (gv 1) (ga_cons (ge_gr (by rfl) T.g_BadNotices) ga_nil))) (ga_cons (ge_callB (call_isE KD.ec hz hf) sim_isE (by rfl) T.z_isinstance (by decide +kernel) (ga_cons (gv 1) (ga_cons (ge_gr (by rfl) T.g_BadPerson) ga_nil))) (ga_cons (ge_callB (call_isE KD.ec hz hf) sim_isE (by rfl) T.z_isinstance (by decide +kernel) (ga_cons (gv 1) (ga_cons (ge_gr (by rfl) T.g_BadRules) ga_nil))) ga_nil))))))
      (gss_cons (gs_set (i := 2) sc_law_told.nd rfl (.inl rfl) (ge_op (op_addG K) sim_add (gv 2) (ge_lst (ga_cons (ge_callB (call_isE KD.ec hz hf) sim_isE (by rfl) T.z_isinstance (by decide +kernel) (ga_cons (gv 1) (ga_cons (ge_gr (by rfl) T.g_BadText) ga_nil))) (ga_cons (ge_callB (call_isE KD.ec hz hf) sim_isE (by rfl) T.z_isinstance (by decide +kernel) (ga_cons (gv 1) (ga_cons (ge_gr (by rfl) T.g_IsOff) ga_nil))) (ga_cons (ge_callB (call_isE KD.ec hz hf) sim_isE (by rfl) T.z_isinstance (by decide +kernel) (ga_cons (gv 1) (ga_cons (ge_gr (by rfl) T.g_NotRinging) ga_nil))) ga_nil))))))
      (gss_cons (gs_if (gw_pt (gw_or (gt_cmp (op_neG K hr.units) sim_ne (ge_bm PySem.F.plainAttrs_list PySem.F.slot_list_count PySem.F.type_list_count (mt_countG K) simk_L sim_count (gv 2) (ga_cons ge_bl ga_nil)) ge_int (nomark _)) (gw_or1 (gt_not (gt_val (ge_callB (call_isE KD.ec hz hf) sim_isE (by rfl) T.z_isinstance (by decide +kernel) (ga_cons (gv 1) (ga_cons (ge_ty (n := "ValueError") (by rfl) T.z_ValueError (by decide +kernel)) ga_nil)))))))) (gss_one gs_never) gss_nil)
      (gss_cons (gs_set (i := 3) sc_law_told.nd rfl (.inl rfl) (ge_lst (ga_cons ge_str (ga_cons ge_str (ga_cons ge_str (ga_cons ge_str (ga_cons ge_str (ga_cons ge_str (ga_cons ge_str (ga_cons ge_str ga_nil))))))))))
      (gss_cons (gs_set (i := 4) sc_law_told.nd rfl (.inl rfl) (ge_ix (ix_G K) sim_ix (ge_op (op_addG K) sim_add (gv 3) (ge_lst (ga_cons ge_str (ga_cons ge_str ga_nil)))) (ge_bm PySem.F.plainAttrs_list PySem.F.slot_list_index PySem.F.type_list_index (mt_indexG K) simk_L sim_index (gv 2) (ga_cons ge_bl ga_nil)) (fun _ _ => rfl)))
      (gss_cons (gs_if (gt_cmp (op_eqG K hr.units) sim_eq (gv 4) ge_str (nomark _)) (gss_one gs_never) gss_nil)
      (gss_cons (gs_if (gt_cmp (op_eqG K hr.units) sim_eq (gv 4) ge_str (nomark _)) (gss_one gs_never) gss_nil)
      (gss_one (gs_ret (ge_tup (ga_cons (gv 4) (ga_cons (ge_ifE (gt_cmp (op_inG K) (sim_in false) (gv 4) (ge_tup (ga_cons ge_str (ga_cons ge_str ga_nil))) (by with_unfolding_all rfl)) ge_never ge_int) ga_nil))))))))))))), fun a D v SX m q => ?_⟩
  have q : ∀ m', Le m m' → D.rt (.tup [.str "BadPerson", .int 0]) m' := q
  walk_at "r"
  refine ⟨rfl, _, KD.k_BadBell, ?_⟩
  walk_at "r"
  refine ⟨rfl, _, KD.k_BadDevice, ?_⟩
  walk_at "r"
  refine ⟨rfl, _, KD.k_BadHears, ?_⟩
  walk_at "r"
  refine ⟨rfl, _, KD.k_BadMoment, ?_⟩
  walk_at "r"
  refine ⟨by walk_at "len", fun p1 h1 => ?_⟩
  walk_at "r"
  refine ⟨rfl, _, KD.k_BadNotices, ?_⟩
  walk_at "r"
  refine ⟨rfl, _, KD.k_BadPerson, ?_⟩
  walk_at "r"
  refine ⟨rfl, _, KD.k_BadRules, ?_⟩
  walk_at "r"
  refine ⟨by walk_at "len", fun p2 h2 => ?_⟩
  walk_at "r"
  refine ⟨_, _, kp up_same h2, up_same, by walk_at "len", fun p3 h3 => ?_⟩
  walk_at "r"
  refine ⟨rfl, _, KD.k_BadText, ?_⟩
  walk_at "r"
  refine ⟨rfl, _, KD.k_IsOff, ?_⟩
  walk_at "r"
  refine ⟨rfl, _, KD.k_NotRinging, ?_⟩
  walk_at "r"
  refine ⟨by walk_at "len", fun p4 h4 => ?_⟩
  walk_at "r"
  refine ⟨_, _, kp up_same h4, up_same, by walk_at "len", fun p5 h5 => ?_⟩
  have l5 : Le m (up (up (up (up (up m p1 _) p2 _) p3 _) p4 _) p5 (.lst [SV.bl false, SV.bl false, SV.bl false, SV.bl false, SV.bl false, SV.bl true, SV.bl false, SV.bl false, SV.bl false, SV.bl false])) := .new (.new (.new (.new (.new (.refl m) h1) h2) h3) h4) h5
  rw [show ([SV.bl _, .bl _, .bl _, .bl _] ++ [.bl _, .bl _, .bl _] ++ [.bl _, .bl _, .bl _] : List SV) = [SV.bl false, SV.bl false, SV.bl false, SV.bl false, SV.bl false, SV.bl true, SV.bl false, SV.bl false, SV.bl false, SV.bl false] from rfl]
  generalize hm5 : up (up (up (up (up m p1 _) p2 _) p3 _) p4 _) p5 (.lst [SV.bl false, SV.bl false, SV.bl false, SV.bl false, SV.bl false, SV.bl true, SV.bl false, SV.bl false, SV.bl false, SV.bl false]) = m5 at l5 ⊢
  have e5 : m5 p5 = some (.lst [SV.bl false, SV.bl false, SV.bl false, SV.bl false, SV.bl false, SV.bl true, SV.bl false, SV.bl false, SV.bl false, SV.bl false]) := by rw [← hm5]; exact up_same
  clear hm5 h1 h2 h3 h4 h5
  walk_at "r"
  refine ⟨⟨_, e5⟩, ?_⟩
  walk_at "r"
  refine ⟨_, e5, rfl, rfl, ?_⟩
  walk_at "r"
  walk_at "f"
  walk_at "r"
  refine ⟨rfl, _, KD.ve, ?_⟩
  walk_at "r"
  walk_at "f"
  walk_at "r"
  refine ⟨by walk_at "len", fun p6 h6 => ?_⟩
  walk_at "r"
  refine ⟨by walk_at "len", fun p7 h7 => ?_⟩
  walk_at "r"
  refine ⟨_, _, kp up_same h7, up_same, by walk_at "len", fun p8 h8 => ?_⟩
  have e8 := kp (u := .lst ([SV.str "BadBell", SV.str "BadDevice", SV.str "BadHears", SV.str "BadMoment", SV.str "BadNotices", SV.str "BadPerson", SV.str "BadRules", SV.str "BadText"] ++ [SV.str "IsOff", SV.str "NotRinging"])) (kp (kp e5 h6) h7) h8
  walk_at "r"
  refine ⟨⟨_, e8⟩, ?_⟩
  walk_at "r"
  refine ⟨_, 5, _, e8, rfl, rfl, rfl, rfl, fun i z hi hz => ?_, ?_⟩
  · have hm2 : i = 0 ∨ i = 1 ∨ i = 2 ∨ i = 3 ∨ i = 4 := by omega
    rcases hm2 with rfl | rfl | rfl | rfl | rfl <;> cases hz <;> rfl
  walk_at "r"
  refine ⟨_, _, up_same, atI_nat (j := 5) rfl, ?_⟩
  walk_at "r"
  walk_at "f"
  walk_at "r"
  walk_at "f"
  walk_at "r"
  refine ⟨by walk_at "len", ?_⟩
  walk_at "r"
  refine ⟨_, rfl, rfl, rfl, ?_⟩
  walk_at "r"
  walk_at "f"
  walk_at "r"
  refine ⟨by walk_at "len", ?_⟩
  exact q _ (.new (.new (.new l5 h6) h7) h8)
def spTold_BadPerson (P : Program) (w : World) (K : PySem.W.Frag) (mg : Str → Option Value) (base : Heap) : SpS := fun vs m _ S => ∃ f φ, vs = [.ref f] ∧ m f = some (.pred (ActC P w K mg base 9 f φ)) ∧ φ m (fun x m' => x = ⟨He.ga K "BadPerson", none⟩ ∧ ∀ m2, Le m' m2 → S (.tup [.str "BadPerson", .int 0]) m2) S
theorem ok_law_told_BadPerson (T : Tx K mg) (KD : Kd_BadPerson K) : FnOk P w K mg base CX0 (9 + 1) (He.ga K "_law_told") T.fd__law_told ["_law_work"] (lift K (spTold_BadPerson P w K mg base)) := by
  refine FunD.ok T.F__law_told sc_law_told (fun vs H Q E h => ?_) (fun cdv A outer s H vs Q E hr h => ?_)
  · obtain ⟨F, svs, m, SX, Sv, _, h2, ⟨f, φ, rfl, _⟩, _⟩ := h
    rw [vrs_length h2]; rfl
  obtain ⟨F, svs, m, SX, Sv, M, r, ⟨f, φ, rfl, hm, hφ⟩, hx, c⟩ := h
  obtain ⟨ts, ss, h1, h2⟩ := told_suite_BadPerson (P := P) (w := w) (base := base) T KD (x := "_law_told") (f := He.ga K "_law_told") (cdv := cdv) (A := A) (outer := outer) (s := s) (H0 := H) (E := E) (E2 := fun _ _ _ => True) hr
  refine ⟨_, PSs.nox (pss_one (ps_try_as (i := 1) (c := .ref (He.ga K "NoticeError")) (tb := fun W => tRet (tWork P w K mg base 9 0 W)) (ts := fun a cls d D σ H => cls = .ref (He.ga K "BadPerson") ∧ d = none ∧ ts a D σ H) rfl rfl sc_law_told.nd rfl rfl ⟨(by rfl), (by decide), .inl T.g_NoticeError⟩ LamX.takes0
    (fun W pn xe tk _ => pss_one (ps_ret (pe_work tk hr (Nat.le_refl _) rfl (.inl rfl)))) (fun a oe cls d pn hz hf => ⟨fun pins s σ H D I h => ?_⟩))), ?_⟩
  · obtain ⟨rfl, rfl, h⟩ := h
    exact (h1 a oe pn hz hf).pe.run pins s σ H D I h
  · obtain ⟨v0, rfl, rv⟩ := vrs_one r
    obtain rfl := vr_ref rv
    refine ⟨F, f, φ, m, _, Sv, rfl, M, hm, hφ, fun x d F' H' m' sF M' hx' ⟨e, q⟩ => ?_, c⟩
    subst e
    obtain rfl : d = none := hx'
    refine ⟨true, KD.exm, fun _ a ha => ⟨rfl, rfl, ?_⟩, fun z => by cases z⟩
    exact (h1 a ⟨.ref (He.ga K "BadPerson"), none, .fields #[], #[]⟩ [] ⟨rfl, rfl⟩ ⟨_, rfl⟩).sim _ F' H' [none, some (.ref a), none, none, none] m' (fun _ _ => True) { nx := fun _ _ => False, rt := Sv } _ ⟨⟨rfl, fun i d e => by
      match i with
      | 0 => cases e
      | 1 => cases e; exact ⟨_, rfl, .ref a⟩
      | n + 2 =>
        have z := List.mem_of_getElem? (show ([none, none, none] : DS)[n]? = some (some d) from e)
        simp at z⟩, M', fun x d F2 H2 m2 _ _ _ _ => trivial⟩ (h2 a _ _ _ m' q) ⟨fun _ _ _ _ _ _ _ _ z => z.elim, c.go sF, fun _ _ _ _ _ _ _ _ z => z.elim, fun _ _ _ _ _ _ _ _ z => z.elim⟩
theorem told_suite_BadMoment (T : Tx K mg) (KD : Kd_BadMoment K) {x : Str} {f : Addr} {cdv : Value} {A : Around} {outer : List Env} {s : Shared} {H0 : Hp} {E E2 : XK} {k : Nat} (hr : Room k (cxOf CX0 P w K mg base ["_law_work", "e", "_law_kinds", "_law_words", "_law_word"] x (defScope s_law_told) f cdv A outer s H0 E).nox.A) :
    ∃ (ts : Addr → TS) (ss : Addr → SS), (∀ (a : Addr) (oe : Obj) (pn : List (Addr × Obj)), Zc (.ref (He.ga K "BadMoment")) none oe → (∃ vs, oe.data = .fields vs) → GSs K E2 ((cxOf CX0 P w K mg base ["_law_work", "e", "_law_kinds", "_law_words", "_law_word"] x (defScope s_law_told) f cdv A outer s H0 E).nox.suite a ((a, oe) :: pn)) told_body (ts a) (ss a)) ∧
      ∀ (a : Addr) (D : SEnds) (v : Option SV) (SX : SXK) (m : Mem), (∀ m', Le m m' → D.rt (.tup [.str "BadMoment", .int 0]) m') → ss a SX D [v, some (.ref a), none, none, none] m := by
  refine ⟨_, _, fun a oe pn hz hf => (gss_cons (gs_set (i := 2) sc_law_told.nd rfl (.inl rfl) (ge_lst (ga_cons (ge_callB (call_isE KD.ec hz hf) sim_isE (by rfl) T.z_isinstance (by decide +kernel) (ga_cons (gv 1) (ga_cons (ge_gr (by rfl) T.g_BadBell) ga_nil))) (ga_cons (ge_callB (call_isE KD.ec hz hf) sim_isE (by rfl) T.z_isinstance (by decide +kernel) (ga_cons (gv 1) (ga_cons (ge_gr (by rfl) T.g_BadDevice) ga_nil))) (ga_cons (ge_callB (call_isE KD.ec hz hf) sim_isE (by rfl) T.z_isinstance (by decide +kernel) (ga_cons (gv 1) (ga_cons (ge_gr (by rfl) T.g_BadHears) ga_nil))) (ga_cons (ge_callB (call_isE KD.ec hz hf) sim_isE (by rfl) T.z_isinstance (by decide +kernel) (ga_cons (gv 1) (ga_cons (ge_gr (by rfl) T.g_BadMoment) ga_nil))) ga_nil))))))
      (gss_cons (gs_set (i := 2) sc_law_told.nd rfl (.inl rfl) (ge_op (op_addG K) sim_add (gv 2) (ge_lst (ga_cons (ge_callB (call_isE KD.ec hz hf) sim_isE (by rfl) T.z_isinstance (by decide +kernel) (ga_cons (gv 1) (ga_cons (ge_gr (by rfl) T.g_BadNotices) ga_nil))) (ga_cons (ge_callB (call_isE KD.ec hz hf) sim_isE (by rfl) T.z_isinstance (by decide +kernel) (ga_cons (gv 1) (ga_cons (ge_gr (by rfl) T.g_BadPerson) ga_nil))) (ga_cons (ge_callB (call_isE KD.ec hz hf) sim_isE (by rfl) T.z_isinstance (by decide +kernel) (ga_cons (gv 1) (ga_cons (ge_gr (by rfl) T.g_BadRules) ga_nil))) ga_nil))))))
      (gss_cons (gs_set (i := 2) sc_law_told.nd rfl (.inl rfl) (ge_op (op_addG K) sim_add (gv 2) (ge_lst (ga_cons (ge_callB (call_isE KD.ec hz hf) sim_isE (by rfl) T.z_isinstance (by decide +kernel) (ga_cons (gv 1) (ga_cons (ge_gr (by rfl) T.g_BadText) ga_nil))) (ga_cons (ge_callB (call_isE KD.ec hz hf) sim_isE (by rfl) T.z_isinstance (by decide +kernel) (ga_cons (gv 1) (ga_cons (ge_gr (by rfl) T.g_IsOff) ga_nil))) (ga_cons (ge_callB (call_isE KD.ec hz hf) sim_isE (by rfl) T.z_isinstance (by decide +kernel) (ga_cons (gv 1) (ga_cons (ge_gr (by rfl) T.g_NotRinging) ga_nil))) ga_nil))))))
      (gss_cons (gs_if (gw_pt (gw_or (gt_cmp (op_neG K hr.units) sim_ne (ge_bm PySem.F.plainAttrs_list PySem.F.slot_list_count PySem.F.type_list_count (mt_countG K) simk_L sim_count (gv 2) (ga_cons ge_bl ga_nil)) ge_int (nomark _)) (gw_or1 (gt_not (gt_val (ge_callB (call_isE KD.ec hz hf) sim_isE (by rfl) T.z_isinstance (by decide +kernel) (ga_cons (gv 1) (ga_cons (ge_ty (n := "ValueError") (by rfl) T.z_ValueError (by decide +kernel)) ga_nil)))))))) (gss_one gs_never) gss_nil)
      (gss_cons (gs_set (i := 3) sc_law_told.nd rfl (.inl rfl) (ge_lst (ga_cons ge_str (ga_cons ge_str (ga_cons ge_str (ga_cons ge_str (ga_cons ge_str (ga_cons ge_str (ga_cons ge_str (ga_cons ge_str ga_nil))))))))))
      (gss_cons (gs_set (i := 4) sc_law_told.nd rfl (.inl rfl) (ge_ix (ix_G K) sim_ix (ge_op (op_addG K) sim_add (gv 3) (ge_lst (ga_cons ge_str (ga_cons ge_str ga_nil)))) (ge_bm PySem.F.plainAttrs_list PySem.F.slot_list_index PySem.F.type_list_index (mt_indexG K) simk_L sim_index (gv 2) (ga_cons ge_bl ga_nil)) (fun _ _ => rfl)))
      (gss_cons (gs_if (gt_cmp (op_eqG K hr.units) sim_eq (gv 4) ge_str (nomark _)) (gss_one gs_never) gss_nil)
      (gss_cons (gs_if (gt_cmp (op_eqG K hr.units) sim_eq (gv 4) ge_str (nomark _)) (gss_one gs_never) gss_nil)
      (gss_one (gs_ret (ge_tup (ga_cons (gv 4) (ga_cons (ge_ifE (gt_cmp (op_inG K) (sim_in false) (gv 4) (ge_tup (ga_cons ge_str (ga_cons ge_str ga_nil))) (by with_unfolding_all rfl)) ge_never ge_int) ga_nil))))))))))))), fun a D v SX m q => ?_⟩
  have q : ∀ m', Le m m' → D.rt (.tup [.str "BadMoment", .int 0]) m' := q
  walk_at "r"
  refine ⟨rfl, _, KD.k_BadBell, ?_⟩
  walk_at "r"
  refine ⟨rfl, _, KD.k_BadDevice, ?_⟩
  walk_at "r"
  refine ⟨rfl, _, KD.k_BadHears, ?_⟩
  walk_at "r"
  refine ⟨rfl, _, KD.k_BadMoment, ?_⟩
  walk_at "r"
  refine ⟨by walk_at "len", fun p1 h1 => ?_⟩
  walk_at "r"
  refine ⟨rfl, _, KD.k_BadNotices, ?_⟩
  walk_at "r"
  refine ⟨rfl, _, KD.k_BadPerson, ?_⟩
  walk_at "r"
  refine ⟨rfl, _, KD.k_BadRules, ?_⟩
  walk_at "r"
  refine ⟨by walk_at "len", fun p2 h2 => ?_⟩
  walk_at "r"
  refine ⟨_, _, kp up_same h2, up_same, by walk_at "len", fun p3 h3 => ?_⟩
  walk_at "r"
  refine ⟨rfl, _, KD.k_BadText, ?_⟩
  walk_at "r"
  refine ⟨rfl, _, KD.k_IsOff, ?_⟩
  walk_at "r"
  refine ⟨rfl, _, KD.k_NotRinging, ?_⟩
  walk_at "r"
  refine ⟨by walk_at "len", fun p4 h4 => ?_⟩
  walk_at "r"
  refine ⟨_, _, kp up_same h4, up_same, by walk_at "len", fun p5 h5 => ?_⟩
  have l5 : Le m (up (up (up (up (up m p1 _) p2 _) p3 _) p4 _) p5 (.lst [SV.bl false, SV.bl false, SV.bl false, SV.bl true, SV.bl false, SV.bl false, SV.bl false, SV.bl false, SV.bl false, SV.bl false])) := .new (.new (.new (.new (.new (.refl m) h1) h2) h3) h4) h5
  rw [show ([SV.bl _, .bl _, .bl _, .bl _] ++ [.bl _, .bl _, .bl _] ++ [.bl _, .bl _, .bl _] : List SV) = [SV.bl false, SV.bl false, SV.bl false, SV.bl true, SV.bl false, SV.bl false, SV.bl false, SV.bl false, SV.bl false, SV.bl false] from rfl]
  generalize hm5 : up (up (up (up (up m p1 _) p2 _) p3 _) p4 _) p5 (.lst [SV.bl false, SV.bl false, SV.bl false, SV.bl true, SV.bl false, SV.bl false, SV.bl false, SV.bl false, SV.bl false, SV.bl false]) = m5 at l5 ⊢
  have e5 : m5 p5 = some (.lst [SV.bl false, SV.bl false, SV.bl false, SV.bl true, SV.bl false, SV.bl false, SV.bl false, SV.bl false, SV.bl false, SV.bl false]) := by rw [← hm5]; exact up_same
  clear hm5 h1 h2 h3 h4 h5
  walk_at "r"
  refine ⟨⟨_, e5⟩, ?_⟩
  walk_at "r"
  refine ⟨_, e5, rfl, rfl, ?_⟩
  walk_at "r"
  walk_at "f"
  walk_at "r"
  refine ⟨rfl, _, KD.ve, ?_⟩
  walk_at "r"
  walk_at "f"
  walk_at "r"
  refine ⟨by walk_at "len", fun p6 h6 => ?_⟩
  walk_at "r"
  refine ⟨by walk_at "len", fun p7 h7 => ?_⟩
  walk_at "r"
  refine ⟨_, _, kp up_same h7, up_same, by walk_at "len", fun p8 h8 => ?_⟩
  have e8 := kp (u := .lst ([SV.str "BadBell", SV.str "BadDevice", SV.str "BadHears", SV.str "BadMoment", SV.str "BadNotices", SV.str "BadPerson", SV.str "BadRules", SV.str "BadText"] ++ [SV.str "IsOff", SV.str "NotRinging"])) (kp (kp e5 h6) h7) h8
  walk_at "r"
  refine ⟨⟨_, e8⟩, ?_⟩
  walk_at "r"
  refine ⟨_, 3, _, e8, rfl, rfl, rfl, rfl, fun i z hi hz => ?_, ?_⟩
  · have hm2 : i = 0 ∨ i = 1 ∨ i = 2 := by omega
    rcases hm2 with rfl | rfl | rfl <;> cases hz <;> rfl
  walk_at "r"
  refine ⟨_, _, up_same, atI_nat (j := 3) rfl, ?_⟩
  walk_at "r"
  walk_at "f"
  walk_at "r"
  walk_at "f"
  walk_at "r"
  refine ⟨by walk_at "len", ?_⟩
  walk_at "r"
  refine ⟨_, rfl, rfl, rfl, ?_⟩
  walk_at "r"
  walk_at "f"
  walk_at "r"
  refine ⟨by walk_at "len", ?_⟩
  exact q _ (.new (.new (.new l5 h6) h7) h8)
def spTold_BadMoment (P : Program) (w : World) (K : PySem.W.Frag) (mg : Str → Option Value) (base : Heap) : SpS := fun vs m _ S => ∃ f φ, vs = [.ref f] ∧ m f = some (.pred (ActC P w K mg base 9 f φ)) ∧ φ m (fun x m' => x = ⟨He.ga K "BadMoment", none⟩ ∧ ∀ m2, Le m' m2 → S (.tup [.str "BadMoment", .int 0]) m2) S
theorem ok_law_told_BadMoment (T : Tx K mg) (KD : Kd_BadMoment K) : FnOk P w K mg base CX0 (9 + 1) (He.ga K "_law_told") T.fd__law_told ["_law_work"] (lift K (spTold_BadMoment P w K mg base)) := by
  refine FunD.ok T.F__law_told sc_law_told (fun vs H Q E h => ?_) (fun cdv A outer s H vs Q E hr h => ?_)
  · obtain ⟨F, svs, m, SX, Sv, _, h2, ⟨f, φ, rfl, _⟩, _⟩ := h
    rw [vrs_length h2]; rfl
  obtain ⟨F, svs, m, SX, Sv, M, r, ⟨f, φ, rfl, hm, hφ⟩, hx, c⟩ := h
  obtain ⟨ts, ss, h1, h2⟩ := told_suite_BadMoment (P := P) (w := w) (base := base) T KD (x := "_law_told") (f := He.ga K "_law_told") (cdv := cdv) (A := A) (outer := outer) (s := s) (H0 := H) (E := E) (E2 := fun _ _ _ => True) hr
  refine ⟨_, PSs.nox (pss_one (ps_try_as (i := 1) (c := .ref (He.ga K "NoticeError")) (tb := fun W => tRet (tWork P w K mg base 9 0 W)) (ts := fun a cls d D σ H => cls = .ref (He.ga K "BadMoment") ∧ d = none ∧ ts a D σ H) rfl rfl sc_law_told.nd rfl rfl ⟨(by rfl), (by decide), .inl T.g_NoticeError⟩ LamX.takes0
    (fun W pn xe tk _ => pss_one (ps_ret (pe_work tk hr (Nat.le_refl _) rfl (.inl rfl)))) (fun a oe cls d pn hz hf => ⟨fun pins s σ H D I h => ?_⟩))), ?_⟩
  · obtain ⟨rfl, rfl, h⟩ := h
    exact (h1 a oe pn hz hf).pe.run pins s σ H D I h
  · obtain ⟨v0, rfl, rv⟩ := vrs_one r
    obtain rfl := vr_ref rv
    refine ⟨F, f, φ, m, _, Sv, rfl, M, hm, hφ, fun x d F' H' m' sF M' hx' ⟨e, q⟩ => ?_, c⟩
    subst e
    obtain rfl : d = none := hx'
    refine ⟨true, KD.exm, fun _ a ha => ⟨rfl, rfl, ?_⟩, fun z => by cases z⟩
    exact (h1 a ⟨.ref (He.ga K "BadMoment"), none, .fields #[], #[]⟩ [] ⟨rfl, rfl⟩ ⟨_, rfl⟩).sim _ F' H' [none, some (.ref a), none, none, none] m' (fun _ _ => True) { nx := fun _ _ => False, rt := Sv } _ ⟨⟨rfl, fun i d e => by
      match i with
      | 0 => cases e
      | 1 => cases e; exact ⟨_, rfl, .ref a⟩
      | n + 2 =>
        have z := List.mem_of_getElem? (show ([none, none, none] : DS)[n]? = some (some d) from e)
        simp at z⟩, M', fun x d F2 H2 m2 _ _ _ _ => trivial⟩ (h2 a _ _ _ m' q) ⟨fun _ _ _ _ _ _ _ _ z => z.elim, c.go sF, fun _ _ _ _ _ _ _ _ z => z.elim, fun _ _ _ _ _ _ _ _ z => z.elim⟩
end
end Hn

set_option Elab.async false
set_option linter.all false
set_option maxRecDepth 100000
set_option maxHeartbeats 8000000
namespace Hn
open PySem PySem.Spec PyProof.Rows L2 Sy Lm
section
variable {P : Program} {w : World} {K : PySem.W.Frag} {mg : Str → Option Value} {base : Heap}
local macro_rules | `(tactic| walk_at "r") => `(tactic| (conv => whnf))
local macro_rules | `(tactic| walk_at "sp") => `(tactic| (first | rfl | contradiction | exact (False.elim ‹_›)))
local macro_rules | `(tactic| walk_at "len") => `(tactic| (exact Nat.le_trans (show _ ≤ 100000 by first | (simp; done) | (rw [rngS_length]; decide)) (by decide)))
local macro_rules | `(tactic| walk_at "f") => `(tactic| (refine Br_i (fun hb => Bool.noConfusion (show false = true from hb)) (fun _ => ?_)))
local macro_rules | `(tactic| walk_at "t") => `(tactic| (refine Br_i (fun _ => ?_) (fun hb => Bool.noConfusion (show true = false from hb))))
local macro_rules | `(tactic| walk_at "le") => `(tactic| first | exact Le.refl _ | (refine Le.put ?_; walk_at "le") | (refine Le.new ?_ (by assumption); walk_at "le"))
def spAll_BadPerson (P : Program) (w : World) (K : PySem.W.Frag) (mg : Str → Option Value) (base : Heap) : SpS := fun vs m _ S => ∃ (l : Addr) (fs : List Addr), vs = [.ref l, .tup [.str "BadPerson", .int 0]] ∧ m l = some (.lst (fs.map .ref)) ∧
  (∀ f ∈ fs, ∃ φ : Phi, m f = some (.pred (ActC P w K mg base 9 f φ)) ∧ ∀ (m' : Mem) (SX : SXK) (S' : SV → Mem → Prop), Le m m' → (∀ m2, Le m' m2 → SX ⟨He.ga K "BadPerson", none⟩ m2) → φ m' SX S') ∧ fs.length ≤ 100 ∧ S (.bl true) m
theorem ok_law_all_BadPerson (T : Tx K mg) (KD : Kd_BadPerson K) : FnOk P w K mg base CX0 (9 + 2) (He.ga K "_law_all") T.fd__law_all ["_law_works", "_law_due"] (lift K (spAll_BadPerson P w K mg base)) := by
  have G_law_alike := ok_law_alike (P := P) (w := w) (base := base) T 3
  have b_law_alike := b_law_alike T
  have G_law_told := ok_law_told_BadPerson (P := P) (w := w) (base := base) T KD
  have b_law_told := b_law_told T
  refine fn_sy T.F__law_all sc_law_all (fun svs m SX Sv h => ?_) (fun cdv A outer s H E hr => ⟨_, _, (gss_one (gs_ret (ge_cmp (op_eqG K hr.units) sim_eq (ge_lc (own := [("_law_work", 2)]) (by rfl) sc_law_all.nd (gi_seq (gv 0)) (blkOk_by (own := [("_law_work", 2)]) (N := ["_law_works", "_law_due", "_law_work"]) (sc := (defScope s_law_all)) (by decide +kernel)) (fun _ _ _ _ _ => (gg_name (i := 2) sc_law_all.nd rfl (.inl rfl))) (wp_name (by decide)) (fun _ _ _ _ _ => (gts_one (gt_not (gt_val (ge_call G_law_alike ((hr.mono (by decide))) (by rfl) T.g__law_alike T.k__law_alike b_law_alike .nil (fun _ => .nil) pass0 (ga_cons (ge_call G_law_told (hr) (by rfl) T.g__law_told T.k__law_told b_law_told .nil (fun _ => .nil) pass0 (ga_cons (gv 2) ga_nil)) (ga_cons (gv 1) ga_nil))))))) (fun _ _ _ _ _ => (gv 2))) (ge_lst ga_nil) (nomark _)))), fun svs m SX Sv h => ?_⟩)
  · obtain ⟨l, fs, rfl, _⟩ := h
    rfl
  · obtain ⟨l, fs, rfl, hl, hf, hlen, q⟩ := h
    walk_at "r"
    refine ⟨_, hl, ?_⟩
    walk_at "r"
    refine ⟨by rw [List.length_map]; exact line_le (by omega), fun p hp => ?_⟩
    refine lc_filt (fun _ => false) id (fun acc => kp hl hp) (fun x hx acc K1 K0 _ h0 => ?_) ?_
    · obtain ⟨f, hfs, rfl⟩ := List.mem_map.mp hx
      obtain ⟨φ, hm, hφ⟩ := hf f hfs
      walk_at "r"
      refine ⟨f, φ, rfl, kp hm hp, hφ _ _ _ (.new (.refl m) hp) fun m2 l2 => ⟨rfl, fun m3 l3 => ?_⟩⟩
      walk_at "r"
      refine ⟨_, _, _, _, rfl, .tup (.cons (.str _) (.cons (.int _) .nil)), .tup (.cons (.str _) (.cons (.int _) .nil)), by decide, ⟨by decide, trivial, trivial, trivial⟩, ?_⟩
      walk_at "r"
      refine Br_i (fun hb => ?_) (fun _ => h0 _ (l2.trans l3) rfl)
      exfalso
      have e : ∀ ds : List PyData, eqDs ds ds = eqDs ds ds := fun _ => rfl
      simp [eqD, eqDs] at hb
    · walk_at "r"
      refine ⟨by walk_at "len", fun p2 hp2 => ?_⟩
      have hz : ((fs.map SV.ref).filter (fun _ => false)).map id = [] := by simp
      rw [hz] at hp2 ⊢
      walk_at "r"
      refine ⟨.list [], .list [], .ref (kp up_same hp2) .nil, .ref up_same .nil, rfl, rfl, ?_⟩
      exact ⟨m, by walk_at "le", q⟩
def spAll_BadMoment (P : Program) (w : World) (K : PySem.W.Frag) (mg : Str → Option Value) (base : Heap) : SpS := fun vs m _ S => ∃ (l : Addr) (fs : List Addr), vs = [.ref l, .tup [.str "BadMoment", .int 0]] ∧ m l = some (.lst (fs.map .ref)) ∧
  (∀ f ∈ fs, ∃ φ : Phi, m f = some (.pred (ActC P w K mg base 9 f φ)) ∧ ∀ (m' : Mem) (SX : SXK) (S' : SV → Mem → Prop), Le m m' → (∀ m2, Le m' m2 → SX ⟨He.ga K "BadMoment", none⟩ m2) → φ m' SX S') ∧ fs.length ≤ 100 ∧ S (.bl true) m
theorem ok_law_all_BadMoment (T : Tx K mg) (KD : Kd_BadMoment K) : FnOk P w K mg base CX0 (9 + 2) (He.ga K "_law_all") T.fd__law_all ["_law_works", "_law_due"] (lift K (spAll_BadMoment P w K mg base)) := by
  have G_law_alike := ok_law_alike (P := P) (w := w) (base := base) T 3
  have b_law_alike := b_law_alike T
  have G_law_told := ok_law_told_BadMoment (P := P) (w := w) (base := base) T KD
  have b_law_told := b_law_told T
  refine fn_sy T.F__law_all sc_law_all (fun svs m SX Sv h => ?_) (fun cdv A outer s H E hr => ⟨_, _, (gss_one (gs_ret (ge_cmp (op_eqG K hr.units) sim_eq (ge_lc (own := [("_law_work", 2)]) (by rfl) sc_law_all.nd (gi_seq (gv 0)) (blkOk_by (own := [("_law_work", 2)]) (N := ["_law_works", "_law_due", "_law_work"]) (sc := (defScope s_law_all)) (by decide +kernel)) (fun _ _ _ _ _ => (gg_name (i := 2) sc_law_all.nd rfl (.inl rfl))) (wp_name (by decide)) (fun _ _ _ _ _ => (gts_one (gt_not (gt_val (ge_call G_law_alike ((hr.mono (by decide))) (by rfl) T.g__law_alike T.k__law_alike b_law_alike .nil (fun _ => .nil) pass0 (ga_cons (ge_call G_law_told (hr) (by rfl) T.g__law_told T.k__law_told b_law_told .nil (fun _ => .nil) pass0 (ga_cons (gv 2) ga_nil)) (ga_cons (gv 1) ga_nil))))))) (fun _ _ _ _ _ => (gv 2))) (ge_lst ga_nil) (nomark _)))), fun svs m SX Sv h => ?_⟩)
  · obtain ⟨l, fs, rfl, _⟩ := h
    rfl
  · obtain ⟨l, fs, rfl, hl, hf, hlen, q⟩ := h
    walk_at "r"
    refine ⟨_, hl, ?_⟩
    walk_at "r"
    refine ⟨by rw [List.length_map]; exact line_le (by omega), fun p hp => ?_⟩
    refine lc_filt (fun _ => false) id (fun acc => kp hl hp) (fun x hx acc K1 K0 _ h0 => ?_) ?_
    · obtain ⟨f, hfs, rfl⟩ := List.mem_map.mp hx
      obtain ⟨φ, hm, hφ⟩ := hf f hfs
      walk_at "r"
      refine ⟨f, φ, rfl, kp hm hp, hφ _ _ _ (.new (.refl m) hp) fun m2 l2 => ⟨rfl, fun m3 l3 => ?_⟩⟩
      walk_at "r"
      refine ⟨_, _, _, _, rfl, .tup (.cons (.str _) (.cons (.int _) .nil)), .tup (.cons (.str _) (.cons (.int _) .nil)), by decide, ⟨by decide, trivial, trivial, trivial⟩, ?_⟩
      walk_at "r"
      refine Br_i (fun hb => ?_) (fun _ => h0 _ (l2.trans l3) rfl)
      exfalso
      have e : ∀ ds : List PyData, eqDs ds ds = eqDs ds ds := fun _ => rfl
      simp [eqD, eqDs] at hb
    · walk_at "r"
      refine ⟨by walk_at "len", fun p2 hp2 => ?_⟩
      have hz : ((fs.map SV.ref).filter (fun _ => false)).map id = [] := by simp
      rw [hz] at hp2 ⊢
      walk_at "r"
      refine ⟨.list [], .list [], .ref (kp up_same hp2) .nil, .ref up_same .nil, rfl, rfl, ?_⟩
      exact ⟨m, by walk_at "le", q⟩
end
end Hn

set_option Elab.async false
set_option linter.all false
set_option maxRecDepth 100000
set_option maxHeartbeats 8000000
namespace Hn
open PySem PySem.Spec PyProof.Rows L2 Sy Lm
section
variable {P : Program} {w : World} {K : PySem.W.Frag} {mg : Str → Option Value} {base : Heap}
local macro_rules | `(tactic| walk_at "r") => `(tactic| (conv => whnf))
local macro_rules | `(tactic| walk_at "sp") => `(tactic| (first | rfl | contradiction | exact (False.elim ‹_›)))
local macro_rules | `(tactic| walk_at "len") => `(tactic| (exact Nat.le_trans (show _ ≤ 100000 by first | (simp; done) | (rw [rngS_length]; decide)) (by decide)))
local macro_rules | `(tactic| walk_at "f") => `(tactic| (refine Br_i (fun hb => Bool.noConfusion (show false = true from hb)) (fun _ => ?_)))
local macro_rules | `(tactic| walk_at "t") => `(tactic| (refine Br_i (fun _ => ?_) (fun hb => Bool.noConfusion (show true = false from hb))))
local macro_rules | `(tactic| walk_at "le") => `(tactic| first | exact Le.refl _ | (refine Le.put ?_; walk_at "le") | (refine Le.new ?_ (by assumption); walk_at "le"))
abbrev nm0 : Nat → Nat → Str := fun _ _ => "_law_is_refused.<locals>.<lambda>"
abbrev p0 : He.Defn := ("_law_is_refused", none)
theorem passN {N : List Str} {F : NdefX.NF} {f : Addr} {A : Around} {outer : List Env} {s : Shared} {H : Hp} {E : XK} : Passes (L2.CX P w) (NdefX.ncx (L2.CX P w) P w K mg base N F f A outer s H E) E :=
  passes_call (X := NdefX.ncx (L2.CX P w) P w K mg base N F f A outer s H E) (takes_of rfl rfl rfl rfl) fun _ _ _ _ z => z
def outOk (R : List PR) (x : SV) : Prop := (∃ t, ∀ m, tyS m x t) ∧ isWh x 0 (R.length - 1) = false
theorem out_ok {R : List PR} {a b j : Int} (ha : 0 ≤ a) (hb : 0 ≤ b) (h0 : 0 ≤ j) (h1 : j < 4) : ∃ x, atI [SV.int (R.length + a), .int (-1 - b), .non, .bl true] j = some x ∧ outOk R x := by
  rcases (by omega : j = 0 ∨ j = 1 ∨ j = 2 ∨ j = 3) with rfl | rfl | rfl | rfl
  · exact ⟨_, atI_nat (j := 0) rfl, ⟨"int", fun m => rfl⟩, by show (decide _ && decide _) = false; rw [decide_eq_false (p := (R.length : Int) + a ≤ R.length - 1) (by omega), Bool.and_false]⟩
  · exact ⟨_, atI_nat (j := 1) rfl, ⟨"int", fun m => rfl⟩, by show (decide _ && decide _) = false; rw [decide_eq_false (p := (0 : Int) ≤ -1 - b) (by omega), Bool.false_and]⟩
  · exact ⟨_, atI_nat (j := 2) rfl, ⟨"NoneType", fun m => rfl⟩, rfl⟩
  · exact ⟨_, atI_nat (j := 3) rfl, ⟨"bool", fun m => rfl⟩, rfl⟩
def agoOk (x : SV) : Prop := (∃ t, ∀ m, tyS m x t) ∧ isMom x = false
theorem ago_ok {a j : Int} (ha : 0 ≤ a) (h0 : 0 ≤ j) (h1 : j < 4) : ∃ x, atI [SV.int (-1 - a), .int (10 ^ (6 : Int).toNat + 1 + a), .non, .bl true] j = some x ∧ agoOk x := by
  rcases (by omega : j = 0 ∨ j = 1 ∨ j = 2 ∨ j = 3) with rfl | rfl | rfl | rfl
  · exact ⟨_, atI_nat (j := 0) rfl, ⟨"int", fun m => rfl⟩, by show (decide _ && decide _) = false; rw [decide_eq_false (p := (0 : Int) ≤ -1 - a) (by omega), Bool.false_and]⟩
  · exact ⟨_, atI_nat (j := 1) rfl, ⟨"int", fun m => rfl⟩, by show (decide _ && decide _) = false; rw [decide_eq_false (p := (10 ^ (6 : Int).toNat + 1 + a : Int) ≤ 1000000) (by have e : (10 ^ (6 : Int).toNat : Int) = 1000000 := rfl; rw [e]; omega), Bool.and_false]⟩
  · exact ⟨_, atI_nat (j := 2) rfl, ⟨"NoneType", fun m => rfl⟩, rfl⟩
  · exact ⟨_, atI_nat (j := 3) rfl, ⟨"bool", fun m => rfl⟩, rfl⟩
def spRef (t : Addr) (nm : Nat → Nat → Str) : SpS := fun vs m _ S => ∃ b R mo, vs = [.ref b, RV R, .int mo] ∧ IsBox m b ∧ RulesOk R ∧ (0 ≤ mo ∧ mo ≤ 1000000) ∧ m t = some (.tab nm) ∧ S (.bl true) m
theorem absM {S : SV → Mem → Prop} {v : SV} {m : Mem} (h : ∀ m', m' = m → S v m') : S v m := h m rfl
theorem nw {m m' : Mem} {p : Addr} {o : MO} (hp : m p = none) (hm : up m p o = m') : m' p = some o ∧ Le m m' := by
  subst hm
  exact ⟨up_same, .new (.refl m) hp⟩
theorem up_at {m : Mem} {p : Addr} (h : m p = none) (o : MO) : up m p o p = some o := up_same
/-- what a refusing call is asked -/
abbrev exP (C : Addr) : Phi := fun m' SX _ => ∀ m2, Le m' m2 → SX ⟨C, none⟩ m2
theorem ok_law_is_refused (T : Tx K mg) (KP : Kd_BadPerson K) (KM : Kd_BadMoment K) (TB : LamX.TabB base mg (He.cT K p0).1 (He.cT K p0).2) : FnOk P w K mg base CX0 12 (He.ga K "_law_is_refused") T.fd__law_is_refused ["_law_box", "_law_rules_here", "_law_moment"] (lift K (spRef (He.cT K p0).2 nm0)) := by
  have G_law_take := ok_law_take (P := P) (w := w) (base := base) T
  have b_law_take := b_law_take T
  have b_law_all := b_law_all T
  obtain ⟨oc, od, dV, kV, doc, pm, an, cdv, ct, osl, efd, lk, hcd, _, _⟩ := T.F__law_is_refused.ex
  obtain ⟨c, rfl⟩ := He.codeIn_ref hcd
  rw [efd] at lk ⊢
  have ec : He.codeOf K p0 = c := He.codeOf_eq lk rfl
  have TB : LamX.TabB base mg c (He.cT K p0).2 := by
    have z := TB
    rw [show (He.cT K p0).1 = c from ec] at z
    exact z
  refine fn_syT0 lk hcd sc_law_is_refused (fun svs m SX Sv h => ?_) (fun A outer s H E hr => ?_)
  · obtain ⟨b, R, mo, rfl, _⟩ := h
    rfl
  have hnm : ∀ {l k : Nat}, nm0 l k = (cxOf CX0 P w K mg base ["_law_box", "_law_rules_here", "_law_moment", "_law_far", "_law_out", "_law_ago", "_law_works"] "_law_is_refused" (defScope s_law_is_refused) (He.ga K "_law_is_refused") (.ref c) A outer s H E).nox.env.qual ++ "<lambda>" := fun {l k} => by kernel_rfl
  refine ⟨_, _, (gss_cons (gs_set (i := 3) sc_law_is_refused.nd rfl (.inl rfl) (ge_call G_law_take ((hr.mono (by decide))) (by rfl) T.g__law_take T.k__law_take b_law_take .nil (fun _ => .nil) pass0 (ga_cons (gv 0) (ga_cons (ge_ix (ix_G K) sim_ix (ge_lst (ga_cons ge_int (ga_cons (ge_op op_pow sim_pow ge_int ge_int) ga_nil))) (ge_call G_law_take ((hr.mono (by decide))) (by rfl) T.g__law_take T.k__law_take b_law_take .nil (fun _ => .nil) pass0 (ga_cons (gv 0) (ga_cons ge_int ga_nil))) (fun _ _ => rfl)) ga_nil))))
      (gss_cons (gs_set (i := 4) sc_law_is_refused.nd rfl (.inr rfl) (ge_ix (ix_G K) sim_ix (ge_lst (ga_cons (ge_op (op_addG K) sim_add (ge_callB (cr_len K) sim_len (by rfl) T.z_len (by decide +kernel) (ga_cons (gv 1) ga_nil)) (gv 3)) (ga_cons (ge_op op_sub sim_sub (ge_un un_neg sim_neg ge_int) (gv 3)) (ga_cons ge_non (ga_cons ge_bl ga_nil))))) (ge_call G_law_take ((hr.mono (by decide))) (by rfl) T.g__law_take T.k__law_take b_law_take .nil (fun _ => .nil) pass0 (ga_cons (gv 0) (ga_cons ge_int ga_nil))) (fun _ _ => rfl)))
      (gss_cons (gs_set (i := 5) sc_law_is_refused.nd rfl (.inr rfl) (ge_ix (ix_G K) sim_ix (ge_lst (ga_cons (ge_op op_sub sim_sub (ge_un un_neg sim_neg ge_int) (gv 3)) (ga_cons (ge_op (op_addG K) sim_add (ge_op (op_addG K) sim_add (ge_op op_pow sim_pow ge_int ge_int) ge_int) (gv 3)) (ga_cons ge_non (ga_cons ge_bl ga_nil))))) (ge_call G_law_take ((hr.mono (by decide))) (by rfl) T.g__law_take T.k__law_take b_law_take .nil (fun _ => .nil) pass0 (ga_cons (gv 0) (ga_cons ge_int ga_nil))) (fun _ _ => rfl)))
      (gss_cons (gs_set (i := 6) sc_law_is_refused.nd rfl (.inl rfl) (ge_lst (ga_cons (ge_lam0 TB rfl hnm (NdefX.ndef_free (sc := defScope s_law_is_refused) (fr := []) (by decide +kernel)) rfl) (ga_cons (ge_lam1 TB rfl hnm (NdefX.ndef_free (sc := defScope s_law_is_refused) (fr := []) (by decide +kernel)) rfl rfl) ga_nil))))
      (gss_cons (gs_if (gt_not (gt_val (ge_callBase (k2 := 9) (sp := fun b => spAll_BadPerson P w K mg b) (fun b => ok_law_all_BadPerson (P := P) (w := w) (base := b) T KP) hr (by rfl) T.g__law_all T.k__law_all b_law_all (ga_cons (ge_op (op_addG K) sim_add (gv 6) (ge_lst (ga_cons (ge_lam1 TB rfl hnm (NdefX.ndef_free (sc := defScope s_law_is_refused) (fr := []) (by decide +kernel)) rfl rfl) ga_nil))) (ga_cons (ge_tup (ga_cons ge_str (ga_cons ge_int ga_nil))) ga_nil)) (fun _ => rfl) rfl rfl))) (gss_one (gs_ret ge_bl)) gss_nil)
      (gss_cons (gs_set (i := 6) sc_law_is_refused.nd rfl (.inl rfl) (ge_lst (ga_cons (ge_lam0 TB rfl hnm (NdefX.ndef_free (sc := defScope s_law_is_refused) (fr := []) (by decide +kernel)) rfl) (ga_cons (ge_lam1 TB rfl hnm (NdefX.ndef_free (sc := defScope s_law_is_refused) (fr := []) (by decide +kernel)) rfl rfl) ga_nil))))
      (gss_cons (gs_set (i := 6) sc_law_is_refused.nd rfl (.inl rfl) (ge_op (op_addG K) sim_add (gv 6) (ge_lst (ga_cons (ge_lam1 TB rfl hnm (NdefX.ndef_free (sc := defScope s_law_is_refused) (fr := []) (by decide +kernel)) rfl rfl) ga_nil))))
      (gss_cons (gs_expr (ge_bm PySem.F.plainAttrs_list PySem.F.slot_list_append PySem.F.type_list_append mt_append simk_L sim_append (gv 6) (ga_cons (ge_lam1 TB rfl hnm (NdefX.ndef_free (sc := defScope s_law_is_refused) (fr := []) (by decide +kernel)) rfl rfl) ga_nil)))
      (gss_one (gs_ret (ge_callBase (k2 := 9) (sp := fun b => spAll_BadMoment P w K mg b) (fun b => ok_law_all_BadMoment (P := P) (w := w) (base := b) T KM) hr (by rfl) T.g__law_all T.k__law_all b_law_all (ga_cons (gv 6) (ga_cons (ge_tup (ga_cons ge_str (ga_cons ge_int ga_nil))) ga_nil)) (fun _ => rfl) rfl rfl))))))))))), fun svs m SX Sv h => ?_⟩
  obtain ⟨b, R, mo, rfl, bx, ok, ⟨mo0, mo1⟩, hT, q⟩ := h
  have h1 := ok.one
  have h6 := ok.six
  walk_at "r"
  refine ⟨⟨by decide, by decide, by decide⟩, ?_⟩
  walk_at "r"
  refine ⟨by walk_at "len", fun p1 hp1 => ?_⟩
  walk_at "r"
  refine ⟨bx.new hp1, small (by decide) (by decide), fun g1 g10 g11 => ?_⟩
  walk_at "r"
  refine ⟨_, _, up_same, pick2 g10 g11, ?_⟩
  rw [ite_int]
  walk_at "r"
  refine ⟨bx.new hp1, small (by split <;> decide) (by split <;> decide), fun far far0 far1 => ?_⟩
  have bx1 := bx.new (o := .lst [.int 2, .int (10 ^ (18 : Int).toNat)]) hp1
  have hT1 := kp (u := .lst [.int 2, .int (10 ^ (18 : Int).toNat)]) hT hp1
  have l1 := Le.new (o := .lst [.int 2, .int (10 ^ (18 : Int).toNat)]) (.refl m) hp1
  change IsBox _ _ at bx1
  generalize up m p1 (.lst [.int 2, .int (10 ^ (18 : Int).toNat)]) = m1 at bx1 hT1 l1
  walk_at "r"
  refine ⟨_, rfl, ?_⟩
  walk_at "r"
  refine ⟨by walk_at "len", fun p2 hp2 => ?_⟩
  walk_at "r"
  refine ⟨bx1.new hp2, small (by decide) (by decide), fun g2 g20 g21 => ?_⟩
  walk_at "r"
  rw [List.length_map]
  obtain ⟨out, hout, ho1, ho2⟩ := out_ok (R := R) far0 far0 g20 g21
  refine ⟨_, out, up_same, hout, ?_⟩
  have bx2 := bx1.new (o := .lst [.int (R.length + far), .int (-1 - far), .non, .bl true]) hp2
  have hT2 := kp (u := .lst [.int (R.length + far), .int (-1 - far), .non, .bl true]) hT1 hp2
  have l2 := Le.new (o := .lst [.int (R.length + far), .int (-1 - far), .non, .bl true]) l1 hp2
  generalize up m1 p2 (.lst [.int (R.length + far), .int (-1 - far), .non, .bl true]) = m2 at bx2 hT2 l2
  walk_at "r"
  refine ⟨⟨by decide, by decide, by decide⟩, ?_⟩
  walk_at "r"
  refine ⟨by walk_at "len", fun p3 hp3 => ?_⟩
  walk_at "r"
  refine ⟨bx2.new hp3, small (by decide) (by decide), fun g3 g30 g31 => ?_⟩
  walk_at "r"
  obtain ⟨ago, hago, ha1, ha2⟩ := ago_ok far0 g30 g31
  refine ⟨_, ago, up_same, hago, ?_⟩
  have hT3 := kp (u := .lst [.int (-1 - far), .int (10 ^ (6 : Int).toNat + 1 + far), .non, .bl true]) hT2 hp3
  have l3 := Le.new (o := .lst [.int (-1 - far), .int (10 ^ (6 : Int).toNat + 1 + far), .non, .bl true]) l2 hp3
  generalize up m2 p3 (.lst [.int (-1 - far), .int (10 ^ (6 : Int).toNat + 1 + far), .non, .bl true]) = m3 at hT3 l3
  clear bx bx1 bx2 hT hT1 hT2 l1 l2 hp1 hp2 hp3
  walk_at "r"
  refine ⟨hT3, fun f1 hf1 => ?_⟩
  walk_at "r"
  refine ⟨kp hT3 hf1, fun f2 hf2 => ?_⟩
  walk_at "r"
  refine ⟨by walk_at "len", fun q1 hq1 => ?_⟩
  walk_at "r"
  refine ⟨kp (kp (kp hT3 hf1) hf2) hq1, fun f3 hf3 => ?_⟩
  walk_at "r"
  refine ⟨by walk_at "len", fun q2 hq2 => ?_⟩
  walk_at "r"
  refine ⟨_, _, kp (kp up_same hf3) hq2, up_same, by walk_at "len", fun q3 hq3 => ?_⟩
  have n12 : f1 ≠ f2 := mne up_same hf2
  have n13 : f1 ≠ f3 := mne (kp (kp up_same hf2) hq1) hf3
  have n23 : f2 ≠ f3 := mne (kp up_same hq1) hf3
  have nT : ∀ {mm : Mem} {f : Addr} {mk : Addr → NdefX.NF} {e : Expr} {d : Option Int} {t : Addr}, mm f = some (.lam mk e d) → mm t = some (.tab nm0) → t ≠ f := fun {mm f mk e d t} e1 e2 z => by
    rw [z, e1] at e2
    cases e2
  walk_at "r"
  refine ⟨by walk_at "len", fun base' => ?_⟩
  have hT4 := kp (u := .lst ([.ref f1, .ref f2] ++ [.ref f3])) (kp (kp (kp (kp (kp hT3 hf1) hf2) hq1) hf3) hq2) hq3
  have e1 := kp (u := .lst ([.ref f1, .ref f2] ++ [.ref f3])) (kp (kp (kp (kp up_same hf2) hq1) hf3) hq2) hq3
  have e2 := kp (u := .lst ([.ref f1, .ref f2] ++ [.ref f3])) (kp (kp (kp up_same hq1) hf3) hq2) hq3
  have e3 := kp (u := .lst ([.ref f1, .ref f2] ++ [.ref f3])) (kp up_same hq2) hq3
  have el := up_at hq3 (.lst ([SV.ref f1, .ref f2] ++ [.ref f3]))
  have l4 := Le.new (o := .lst ([SV.ref f1, .ref f2] ++ [.ref f3])) (.new (.new (.new (.new (.new l3 hf1) hf2) hq1) hf3) hq2) hq3
  generalize up (up (up (up (up (up m3 f1 _) f2 _) q1 _) f3 _) q2 _) q3 (.lst ([SV.ref f1, .ref f2] ++ [.ref f3])) = m4 at hT4 e1 e2 e3 el l4
  have m_f1 : m f1 = none := l3.none hf1
  have m_f2 : m f2 = none := (Le.new l3 hf1).none hf2
  have m_f3 : m f3 = none := (Le.new (.new (.new l3 hf1) hf2) hq1).none hf3
  clear hf1 hf2 hq1 hf3 hq2 hq3 hT3 l3
  refine ⟨up (up (up m4 f1 (.pred (ActC P w K mg base' 9 f1 (exP (He.ga K "BadPerson"))))) f2 (.pred (ActC P w K mg base' 9 f2 (exP (He.ga K "BadPerson"))))) f3 (.pred (ActC P w K mg base' 9 f3 (exP (He.ga K "BadPerson")))), .step (exP (He.ga K "BadPerson")) e1 ?b1 (.step (exP (He.ga K "BadPerson")) ((up_ne (Ne.symm n12)).trans e2) ?b2 (.step (exP (He.ga K "BadPerson")) ((up_ne (Ne.symm n23)).trans ((up_ne (Ne.symm n13)).trans e3)) ?b3 (.refl _))), ?rest⟩
  case b1 =>
    intro σ F H1 f c0 dV sr grd hf1 hc1 _ hd
    obtain rfl := hd
    refine act_core (k := 8) (fr := ["_law_rules_here", "_law_out", "_law_ago"]) (N := ["_law_rules_here", "_law_out", "_law_ago"]) (ps := []) (vs := []) (svs := []) (ws := [1, 4, 5].map (NdefX.slotAt σ)) (ds := [some (RV R), some (out), some (ago)]) (Z := fun _ => True) (NdefX.nscope_by ?nm) rfl (fun _ => .nil) (fun doc pm ctv s H hok hZ => ?bd)
      (grd.2 _ _ [1, 4, 5] (NdefX.Caps.made grd.1 (NdefX.ndef_free (sc := defScope s_law_is_refused) (fr := ["_law_rules_here", "_law_out", "_law_ago"]) (by decide +kernel)) (NdefX.ndef_fr (sc := defScope s_law_is_refused) (fr := ["_law_rules_here", "_law_out", "_law_ago"]) (by decide +kernel)) rfl)) (wr_of sr [1, 4, 5]) hf1 hc1 trivial (fun A outer s H E hr => ⟨_, _, ge_call (ok_is_hushed (P := P) (w := w) (base := base') T) hr (by rfl) T.g_is_hushed T.k_is_hushed (Hn.b_is_hushed T) .nil (fun _ => .nil) passN (ga_cons (gv 0) (ga_cons (gv 1) (ga_cons (gv 2) ga_nil))), fun m SX Sv h => ?_⟩)
    case nm => kernel_rfl
    case bd => exact ⟨[], .nil, .of_eq rfl⟩
    walk_at "r"
    obtain ⟨to, hto⟩ := ho1
    obtain ⟨ta, hta⟩ := ha1
    exact ⟨R, _, _, rfl, ok, ⟨to, hto m⟩, ⟨ta, hta m⟩, fun i t hi e => (by rw [e, wh_of (by omega) (by omega)] at ho2; cases ho2), fun _ => .of (h m (.refl m)), fun e _ => (by rw [ho2] at e; cases e)⟩
  case b2 =>
    intro σ F H1 f c0 dV sr grd hf1 hc1 _ hd
    obtain ⟨T0, rfl, hT0⟩ := hd
    refine act_core (k := 8) (fr := ["_law_rules_here", "_law_out", "_law_ago"]) (N := ["_law_a", "_law_rules_here", "_law_out", "_law_ago"]) (ps := ["_law_a"]) (vs := [.int 0]) (svs := [.int 0]) (ws := [1, 4, 5].map (NdefX.slotAt σ)) (ds := [some (RV R), some (out), some (ago)]) (Z := fun H => H T0 = some (.tup [.int 0])) (NdefX.nscope_by ?nm) rfl (fun _ => .cons (.int 0) .nil) (fun doc pm ctv s H hok hZ => ?bd)
      (grd.2 _ _ [1, 4, 5] (NdefX.Caps.made grd.1 (NdefX.ndef_free (sc := defScope s_law_is_refused) (fr := ["_law_rules_here", "_law_out", "_law_ago"]) (by decide +kernel)) (NdefX.ndef_fr (sc := defScope s_law_is_refused) (fr := ["_law_rules_here", "_law_out", "_law_ago"]) (by decide +kernel)) rfl)) (wr_of sr [1, 4, 5]) hf1 hc1 hT0 (fun A outer s H E hr => ⟨_, _, ge_call (ok_free_from (P := P) (w := w) (base := base') T) hr (by rfl) T.g_free_from T.k_free_from (Hn.b_free_from T) .nil (fun _ => .nil) passN (ga_cons (gv 1) (ga_cons (gv 2) (ga_cons (gv 3) ga_nil))), fun m SX Sv h => ?_⟩)
    case nm => kernel_rfl
    case bd => 
      obtain ⟨_, its, r, o, ho, hcl, n, hdt⟩ := hok T0 _ hZ
      obtain ⟨u, rfl, ru⟩ := r.one
      exact ⟨[u], r, .of_defaults (T := T0) rfl ho hdt rfl rfl⟩
    walk_at "r"
    obtain ⟨to, hto⟩ := ho1
    obtain ⟨ta, hta⟩ := ha1
    exact ⟨R, _, _, rfl, ok, ⟨to, hto m⟩, ⟨ta, hta m⟩, fun i t hi e => (by rw [e, wh_of (by omega) (by omega)] at ho2; cases ho2), fun _ => .of (h m (.refl m)), fun e _ => (by rw [ho2] at e; cases e)⟩
  case b3 =>
    intro σ F H1 f c0 dV sr grd hf1 hc1 _ hd
    obtain ⟨T0, rfl, hT0⟩ := hd
    refine act_core (k := 8) (fr := ["_law_rules_here", "_law_out", "_law_ago"]) (N := ["_law_b", "_law_rules_here", "_law_out", "_law_ago"]) (ps := ["_law_b"]) (vs := [.int 0]) (svs := [.int 0]) (ws := [1, 4, 5].map (NdefX.slotAt σ)) (ds := [some (RV R), some (out), some (ago)]) (Z := fun H => H T0 = some (.tup [.int 0])) (NdefX.nscope_by ?nm) rfl (fun _ => .cons (.int 0) .nil) (fun doc pm ctv s H hok hZ => ?bd)
      (grd.2 _ _ [1, 4, 5] (NdefX.Caps.made grd.1 (NdefX.ndef_free (sc := defScope s_law_is_refused) (fr := ["_law_rules_here", "_law_out", "_law_ago"]) (by decide +kernel)) (NdefX.ndef_fr (sc := defScope s_law_is_refused) (fr := ["_law_rules_here", "_law_out", "_law_ago"]) (by decide +kernel)) rfl)) (wr_of sr [1, 4, 5]) hf1 hc1 hT0 (fun A outer s H E hr => ⟨_, _, ge_call (ok_hushed_between (P := P) (w := w) (base := base') T) hr (by rfl) T.g_hushed_between T.k_hushed_between (Hn.b_hushed_between T) .nil (fun _ => .nil) passN (ga_cons (gv 1) (ga_cons (gv 2) (ga_cons (gv 3) (ga_cons (gv 3) ga_nil)))), fun m SX Sv h => ?_⟩)
    case nm => kernel_rfl
    case bd => 
      obtain ⟨_, its, r, o, ho, hcl, n, hdt⟩ := hok T0 _ hZ
      obtain ⟨u, rfl, ru⟩ := r.one
      exact ⟨[u], r, .of_defaults (T := T0) rfl ho hdt rfl rfl⟩
    walk_at "r"
    obtain ⟨to, hto⟩ := ho1
    obtain ⟨ta, hta⟩ := ha1
    exact ⟨R, _, _, _, rfl, ok, ⟨to, hto m⟩, ⟨ta, hta m⟩, ⟨ta, hta m⟩, fun i t u hi e => (by rw [e, wh_of (by omega) (by omega)] at ho2; cases ho2), fun _ => .of (h m (.refl m)), fun e _ => (by rw [ho2] at e; cases e)⟩
  case rest =>
  have nl : ∀ {f : Addr} {mk : Addr → NdefX.NF} {e : Expr} {d : Option Int}, m4 f = some (.lam mk e d) → q3 ≠ f := fun {f mk e d} h z => by
    rw [z, h] at el
    cases el
  refine ⟨q3, [f1, f2, f3], rfl, (up_ne (nl e3)).trans ((up_ne (nl e2)).trans ((up_ne (nl e1)).trans el)), fun f hf => ?_, by simp, ?_⟩
  · have pr : ∀ f, f = f1 ∨ f = f2 ∨ f = f3 → ∃ φ, up (up (up m4 f1 (.pred (ActC P w K mg base' 9 f1 (exP (He.ga K "BadPerson"))))) f2 (.pred (ActC P w K mg base' 9 f2 (exP (He.ga K "BadPerson"))))) f3 (.pred (ActC P w K mg base' 9 f3 (exP (He.ga K "BadPerson")))) f = some (.pred (ActC P w K mg base' 9 f φ)) ∧ φ = exP (He.ga K "BadPerson") := fun f h => by
      rcases h with rfl | rfl | rfl
      · exact ⟨_, (up_ne n13).trans ((up_ne n12).trans up_same), rfl⟩
      · exact ⟨_, (up_ne n23).trans up_same, rfl⟩
      · exact ⟨_, up_same, rfl⟩
    obtain ⟨φ, h1, rfl⟩ := pr f (by simpa using hf)
    exact ⟨_, h1, fun m' SX S' l h => h⟩
  walk_at "r"
  walk_at "f"
  have hT5 := (up_ne (o := .pred (ActC P w K mg base' 9 f3 (exP (He.ga K "BadPerson")))) (nT e3 hT4)).trans ((up_ne (o := .pred (ActC P w K mg base' 9 f2 (exP (He.ga K "BadPerson")))) (nT e2 hT4)).trans ((up_ne (o := .pred (ActC P w K mg base' 9 f1 (exP (He.ga K "BadPerson")))) (nT e1 hT4)).trans hT4))
  have l5 : Le m (up (up (up m4 f1 (.pred (ActC P w K mg base' 9 f1 (exP (He.ga K "BadPerson"))))) f2 (.pred (ActC P w K mg base' 9 f2 (exP (He.ga K "BadPerson"))))) f3 (.pred (ActC P w K mg base' 9 f3 (exP (He.ga K "BadPerson"))))) := .over (.over (.over l4 m_f1) m_f2) m_f3
  generalize up (up (up m4 f1 (.pred (ActC P w K mg base' 9 f1 (exP (He.ga K "BadPerson"))))) f2 (.pred (ActC P w K mg base' 9 f2 (exP (He.ga K "BadPerson"))))) f3 (.pred (ActC P w K mg base' 9 f3 (exP (He.ga K "BadPerson")))) = m5 at hT5 l5 ⊢
  clear e1 e2 e3 el l4 hT4 nl n12 n13 n23
  walk_at "r"
  refine ⟨hT5, fun f4 hf4 => ?_⟩
  generalize hm6 : up m5 f4 _ = m6
  obtain ⟨a4, l6⟩ := nw hf4 hm6
  walk_at "r"
  refine ⟨l6 _ _ hT5, fun f5 hf5 => ?_⟩
  generalize hm7 : up m6 f5 _ = m7
  obtain ⟨a5, l7⟩ := nw hf5 hm7
  walk_at "r"
  refine ⟨by walk_at "len", fun q4 hq4 => ?_⟩
  generalize hm8 : up m7 q4 _ = m8
  obtain ⟨aq4, l8⟩ := nw hq4 hm8
  walk_at "r"
  refine ⟨l8 _ _ (l7 _ _ (l6 _ _ hT5)), fun f6 hf6 => ?_⟩
  generalize hm9 : up m8 f6 _ = m9
  obtain ⟨a6, l9⟩ := nw hf6 hm9
  walk_at "r"
  refine ⟨by walk_at "len", fun q5 hq5 => ?_⟩
  generalize hm10 : up m9 q5 _ = m10
  obtain ⟨aq5, l10⟩ := nw hq5 hm10
  walk_at "r"
  refine ⟨_, _, l10 _ _ (l9 _ _ aq4), aq5, by walk_at "len", fun q6 hq6 => ?_⟩
  generalize hm11 : up m10 q6 _ = m11
  obtain ⟨aq6, l11⟩ := nw hq6 hm11
  walk_at "r"
  refine ⟨⟨_, aq6⟩, ?_⟩
  walk_at "r"
  refine ⟨l11 _ _ (l10 _ _ (l9 _ _ (l8 _ _ (l7 _ _ (l6 _ _ hT5))))), fun f7 hf7 => ?_⟩
  generalize hm12 : up m11 f7 _ = m12
  obtain ⟨a7, l12⟩ := nw hf7 hm12
  walk_at "r"
  refine ⟨_, l12 _ _ aq6, by walk_at "len", ?_⟩
  walk_at "r"
  refine ⟨by walk_at "len", fun base' => ?_⟩
  have L9 := l9.trans (l10.trans (l11.trans l12))
  have c4 := L9 _ _ (l8 _ _ (l7 _ _ a4))
  have c5 := L9 _ _ (l8 _ _ a5)
  have c6 := (l10.trans (l11.trans l12)) _ _ a6
  have n45 : f4 ≠ f5 := mne a4 hf5
  have n46 : f4 ≠ f6 := mne (l8 _ _ (l7 _ _ a4)) hf6
  have n56 : f5 ≠ f6 := mne (l8 _ _ a5) hf6
  have n47 : f4 ≠ f7 := mne (l11 _ _ (l10 _ _ (l9 _ _ (l8 _ _ (l7 _ _ a4))))) hf7
  have n57 : f5 ≠ f7 := mne (l11 _ _ (l10 _ _ (l9 _ _ (l8 _ _ a5)))) hf7
  have n67 : f6 ≠ f7 := mne (l11 _ _ (l10 _ _ a6)) hf7
  have nq : ∀ {f : Addr} {mk : Addr → NdefX.NF} {e : Expr} {d : Option Int}, m12 f = some (.lam mk e d) → f ≠ q6 := fun {f mk e d} h z => by
    have := l12 _ _ aq6
    rw [← z, h] at this
    cases this
  have nq4 := nq c4
  have nq5 := nq c5
  have nq6 := nq c6
  have nq7 := nq a7
  have mq : m q6 = none := (l5.trans (l6.trans (l7.trans (l8.trans (l9.trans l10))))).none hq6
  have mf4 : m f4 = none := l5.none hf4
  have mf5 : m f5 = none := (l5.trans l6).none hf5
  have mf6 : m f6 = none := (l5.trans (l6.trans (l7.trans l8))).none hf6
  have mf7 : m f7 = none := (l5.trans (l6.trans (l7.trans (l8.trans (l9.trans (l10.trans l11)))))).none hf7
  have lm : Le m m12 := l5.trans (l6.trans (l7.trans (l8.trans L9)))
  clear l5 l6 l7 l8 l9 l10 l11 l12 L9 hm6 hm7 hm8 hm9 hm10 hm11 hm12
  refine ⟨up (up (up (up (up m12 q6 (.lst [.ref f4, .ref f5, .ref f6, .ref f7])) f4 (.pred (ActC P w K mg base' 9 f4 (exP (He.ga K "BadMoment"))))) f5 (.pred (ActC P w K mg base' 9 f5 (exP (He.ga K "BadMoment"))))) f6 (.pred (ActC P w K mg base' 9 f6 (exP (He.ga K "BadMoment"))))) f7 (.pred (ActC P w K mg base' 9 f7 (exP (He.ga K "BadMoment")))), .step (exP (He.ga K "BadMoment")) ((up_ne nq4).trans c4) ?b4 (.step (exP (He.ga K "BadMoment")) ((up_ne (Ne.symm n45)).trans ((up_ne nq5).trans c5)) ?b5 (.step (exP (He.ga K "BadMoment")) ((up_ne (Ne.symm n56)).trans ((up_ne (Ne.symm n46)).trans ((up_ne nq6).trans c6))) ?b6
    (.step (exP (He.ga K "BadMoment")) ((up_ne (Ne.symm n67)).trans ((up_ne (Ne.symm n57)).trans ((up_ne (Ne.symm n47)).trans ((up_ne nq7).trans a7)))) ?b7 (.refl _)))), ?rest⟩
  case b4 =>
    intro σ F H1 f c0 dV sr grd hf1 hc1 _ hd
    obtain rfl := hd
    refine act_core (k := 8) (fr := ["_law_rules_here", "_law_ago"]) (N := ["_law_rules_here", "_law_ago"]) (ps := []) (vs := []) (svs := []) (ws := [1, 5].map (NdefX.slotAt σ)) (ds := [some (RV R), some (ago)]) (Z := fun _ => True) (NdefX.nscope_by ?nm) rfl (fun _ => .nil) (fun doc pm ctv s H hok hZ => ?bd)
      (grd.2 _ _ [1, 5] (NdefX.Caps.made grd.1 (NdefX.ndef_free (sc := defScope s_law_is_refused) (fr := ["_law_rules_here", "_law_ago"]) (by decide +kernel)) (NdefX.ndef_fr (sc := defScope s_law_is_refused) (fr := ["_law_rules_here", "_law_ago"]) (by decide +kernel)) rfl)) (wr_of sr [1, 5]) hf1 hc1 trivial (fun A outer s H E hr => ⟨_, _, ge_call (ok_is_hushed (P := P) (w := w) (base := base') T) hr (by rfl) T.g_is_hushed T.k_is_hushed (Hn.b_is_hushed T) .nil (fun _ => .nil) passN (ga_cons (gv 0) (ga_cons ge_int (ga_cons (gv 1) ga_nil))), fun m SX Sv h => ?_⟩)
    case nm => kernel_rfl
    case bd => exact ⟨[], .nil, .of_eq rfl⟩
    walk_at "r"
    obtain ⟨ta, hta⟩ := ha1
    exact ⟨R, _, _, rfl, ok, ⟨_, rfl⟩, ⟨ta, hta m⟩, fun i t hi _ e => (by rw [e] at ha2; exact fun h0 h1 => absurd ha2 (by rw [show isMom (.int t) = true from wh_of h0 h1]; simp)), fun e => (by rw [show isWh (.int 0) 0 (R.length - 1) = true from wh_of (by omega) (by omega)] at e; cases e), fun _ _ => .of (h m (.refl m))⟩
  case b5 =>
    intro σ F H1 f c0 dV sr grd hf1 hc1 _ hd
    obtain ⟨T0, rfl, hT0⟩ := hd
    refine act_core (k := 8) (fr := ["_law_rules_here", "_law_ago"]) (N := ["_law_a", "_law_rules_here", "_law_ago"]) (ps := ["_law_a"]) (vs := [.int 0]) (svs := [.int 0]) (ws := [1, 5].map (NdefX.slotAt σ)) (ds := [some (RV R), some (ago)]) (Z := fun H => H T0 = some (.tup [.int 0])) (NdefX.nscope_by ?nm) rfl (fun _ => .cons (.int 0) .nil) (fun doc pm ctv s H hok hZ => ?bd)
      (grd.2 _ _ [1, 5] (NdefX.Caps.made grd.1 (NdefX.ndef_free (sc := defScope s_law_is_refused) (fr := ["_law_rules_here", "_law_ago"]) (by decide +kernel)) (NdefX.ndef_fr (sc := defScope s_law_is_refused) (fr := ["_law_rules_here", "_law_ago"]) (by decide +kernel)) rfl)) (wr_of sr [1, 5]) hf1 hc1 hT0 (fun A outer s H E hr => ⟨_, _, ge_call (ok_free_from (P := P) (w := w) (base := base') T) hr (by rfl) T.g_free_from T.k_free_from (Hn.b_free_from T) .nil (fun _ => .nil) passN (ga_cons (gv 1) (ga_cons ge_int (ga_cons (gv 2) ga_nil))), fun m SX Sv h => ?_⟩)
    case nm => kernel_rfl
    case bd => 
      obtain ⟨_, its, r, o, ho, hcl, n, hdt⟩ := hok T0 _ hZ
      obtain ⟨u, rfl, ru⟩ := r.one
      exact ⟨[u], r, .of_defaults (T := T0) rfl ho hdt rfl rfl⟩
    walk_at "r"
    obtain ⟨ta, hta⟩ := ha1
    exact ⟨R, _, _, rfl, ok, ⟨_, rfl⟩, ⟨ta, hta m⟩, fun i t hi _ e => (by rw [e] at ha2; exact fun h0 h1 => absurd ha2 (by rw [show isMom (.int t) = true from wh_of h0 h1]; simp)), fun e => (by rw [show isWh (.int 0) 0 (R.length - 1) = true from wh_of (by omega) (by omega)] at e; cases e), fun _ _ => .of (h m (.refl m))⟩
  case b6 =>
    intro σ F H1 f c0 dV sr grd hf1 hc1 _ hd
    obtain ⟨T0, rfl, hT0⟩ := hd
    refine act_core (k := 8) (fr := ["_law_rules_here", "_law_ago", "_law_moment"]) (N := ["_law_b", "_law_rules_here", "_law_ago", "_law_moment"]) (ps := ["_law_b"]) (vs := [.int 0]) (svs := [.int 0]) (ws := [1, 5, 2].map (NdefX.slotAt σ)) (ds := [some (RV R), some (ago), some (.int mo)]) (Z := fun H => H T0 = some (.tup [.int 0])) (NdefX.nscope_by ?nm) rfl (fun _ => .cons (.int 0) .nil) (fun doc pm ctv s H hok hZ => ?bd)
      (grd.2 _ _ [1, 5, 2] (NdefX.Caps.made grd.1 (NdefX.ndef_free (sc := defScope s_law_is_refused) (fr := ["_law_rules_here", "_law_ago", "_law_moment"]) (by decide +kernel)) (NdefX.ndef_fr (sc := defScope s_law_is_refused) (fr := ["_law_rules_here", "_law_ago", "_law_moment"]) (by decide +kernel)) rfl)) (wr_of sr [1, 5, 2]) hf1 hc1 hT0 (fun A outer s H E hr => ⟨_, _, ge_call (ok_hushed_between (P := P) (w := w) (base := base') T) hr (by rfl) T.g_hushed_between T.k_hushed_between (Hn.b_hushed_between T) .nil (fun _ => .nil) passN (ga_cons (gv 1) (ga_cons ge_int (ga_cons (gv 2) (ga_cons (gv 3) ga_nil)))), fun m SX Sv h => ?_⟩)
    case nm => kernel_rfl
    case bd => 
      obtain ⟨_, its, r, o, ho, hcl, n, hdt⟩ := hok T0 _ hZ
      obtain ⟨u, rfl, ru⟩ := r.one
      exact ⟨[u], r, .of_defaults (T := T0) rfl ho hdt rfl rfl⟩
    walk_at "r"
    obtain ⟨ta, hta⟩ := ha1
    exact ⟨R, _, _, _, rfl, ok, ⟨_, rfl⟩, ⟨ta, hta m⟩, ⟨_, rfl⟩, fun i t u hi _ e _ h0 h1 _ _ => (by rw [e] at ha2; exact absurd ha2 (by rw [show isMom (.int t) = true from wh_of h0 h1]; simp)), fun e => (by rw [show isWh (.int 0) 0 (R.length - 1) = true from wh_of (by omega) (by omega)] at e; cases e), fun _ _ => .of (h m (.refl m))⟩
  case b7 =>
    intro σ F H1 f c0 dV sr grd hf1 hc1 _ hd
    obtain ⟨T0, rfl, hT0⟩ := hd
    refine act_core (k := 8) (fr := ["_law_rules_here", "_law_moment", "_law_ago"]) (N := ["_law_c", "_law_rules_here", "_law_moment", "_law_ago"]) (ps := ["_law_c"]) (vs := [.int 0]) (svs := [.int 0]) (ws := [1, 2, 5].map (NdefX.slotAt σ)) (ds := [some (RV R), some (.int mo), some (ago)]) (Z := fun H => H T0 = some (.tup [.int 0])) (NdefX.nscope_by ?nm) rfl (fun _ => .cons (.int 0) .nil) (fun doc pm ctv s H hok hZ => ?bd)
      (grd.2 _ _ [1, 2, 5] (NdefX.Caps.made grd.1 (NdefX.ndef_free (sc := defScope s_law_is_refused) (fr := ["_law_rules_here", "_law_moment", "_law_ago"]) (by decide +kernel)) (NdefX.ndef_fr (sc := defScope s_law_is_refused) (fr := ["_law_rules_here", "_law_moment", "_law_ago"]) (by decide +kernel)) rfl)) (wr_of sr [1, 2, 5]) hf1 hc1 hT0 (fun A outer s H E hr => ⟨_, _, ge_call (ok_hushed_between (P := P) (w := w) (base := base') T) hr (by rfl) T.g_hushed_between T.k_hushed_between (Hn.b_hushed_between T) .nil (fun _ => .nil) passN (ga_cons (gv 1) (ga_cons ge_int (ga_cons (gv 2) (ga_cons (gv 3) ga_nil)))), fun m SX Sv h => ?_⟩)
    case nm => kernel_rfl
    case bd => 
      obtain ⟨_, its, r, o, ho, hcl, n, hdt⟩ := hok T0 _ hZ
      obtain ⟨u, rfl, ru⟩ := r.one
      exact ⟨[u], r, .of_defaults (T := T0) rfl ho hdt rfl rfl⟩
    walk_at "r"
    obtain ⟨ta, hta⟩ := ha1
    exact ⟨R, _, _, _, rfl, ok, ⟨_, rfl⟩, ⟨_, rfl⟩, ⟨ta, hta m⟩, fun i t u hi _ _ e _ _ h0 h1 => (by rw [e] at ha2; exact absurd ha2 (by rw [show isMom (.int u) = true from wh_of h0 h1]; simp)), fun e => (by rw [show isWh (.int 0) 0 (R.length - 1) = true from wh_of (by omega) (by omega)] at e; cases e), fun _ _ => .of (h m (.refl m))⟩
  case rest =>
  refine ⟨q6, [f4, f5, f6, f7], rfl, (up_ne (Ne.symm nq7)).trans ((up_ne (Ne.symm nq6)).trans ((up_ne (Ne.symm nq5)).trans ((up_ne (Ne.symm nq4)).trans up_same))), fun f hf => ?_, by simp, ?_⟩
  · have pr : ∀ f, f = f4 ∨ f = f5 ∨ f = f6 ∨ f = f7 → ∃ φ, (up (up (up (up (up m12 q6 (.lst [.ref f4, .ref f5, .ref f6, .ref f7])) f4 (.pred (ActC P w K mg base' 9 f4 (exP (He.ga K "BadMoment"))))) f5 (.pred (ActC P w K mg base' 9 f5 (exP (He.ga K "BadMoment"))))) f6 (.pred (ActC P w K mg base' 9 f6 (exP (He.ga K "BadMoment"))))) f7 (.pred (ActC P w K mg base' 9 f7 (exP (He.ga K "BadMoment"))))) f = some (.pred (ActC P w K mg base' 9 f φ)) ∧ φ = exP (He.ga K "BadMoment") := fun f h => by
      rcases h with rfl | rfl | rfl | rfl
      · exact ⟨_, (up_ne n47).trans ((up_ne n46).trans ((up_ne n45).trans up_same)), rfl⟩
      · exact ⟨_, (up_ne n57).trans ((up_ne n56).trans up_same), rfl⟩
      · exact ⟨_, (up_ne n67).trans up_same, rfl⟩
      · exact ⟨_, up_same, rfl⟩
    obtain ⟨φ, h1, rfl⟩ := pr f (by simpa using hf)
    exact ⟨_, h1, fun m' SX S' l h => h⟩
  exact ⟨m, .over (.over (.over (.over (.over lm mq) mf4) mf5) mf6) mf7, q⟩
end
end Hn

set_option Elab.async false
set_option linter.all false
set_option maxRecDepth 100000
set_option maxHeartbeats 8000000
namespace Hn
open PySem PySem.Spec PyProof.Rows L2 Sy Lm
section
variable {P : Program} {w : World} {K : PySem.W.Frag} {mg : Str → Option Value} {base : Heap}
local macro_rules | `(tactic| walk_at "r") => `(tactic| (conv => whnf))
local macro_rules | `(tactic| walk_at "sp") => `(tactic| (first | rfl | contradiction | exact (False.elim ‹_›)))
local macro_rules | `(tactic| walk_at "len") => `(tactic| (exact Nat.le_trans (show _ ≤ 100000 by first | (simp; done) | (rw [rngS_length]; decide)) (by decide)))
local macro_rules | `(tactic| walk_at "f") => `(tactic| (refine Br_i (fun hb => Bool.noConfusion (show false = true from hb)) (fun _ => ?_)))
local macro_rules | `(tactic| walk_at "t") => `(tactic| (refine Br_i (fun _ => ?_) (fun hb => Bool.noConfusion (show true = false from hb))))
local macro_rules | `(tactic| walk_at "le") => `(tactic| first | exact Le.refl _ | (refine Le.put ?_; walk_at "le") | (refine Le.new ?_ (by assumption); walk_at "le"))
def spLaw (t : Addr) (nm : Nat → Nat → Str) : SpS := fun vs m _ S => ∃ ns : List Int, vs = [.lst (ns.map .int)] ∧ ns.length ≤ 63 ∧ m t = some (.tab nm) ∧ ∀ m', S (.bl true) m'
theorem cntB_append (a b : List Bool) : cntB (a ++ b) = cntB a + cntB b := by
  unfold cntB
  rw [List.map_append, List.sum_append]
theorem cntB_take {bs : List Bool} {j : Nat} {b : Bool} (h : bs[j]? = some b) : cntB (bs.take (j + 1)) = cntB (bs.take j) + b2i b := by
  rw [List.take_add_one, h, cntB_append]
  congr 1
  unfold cntB
  simp
theorem ahead_succ (hs : List (Int × Int)) (m : Int) (hm : 0 ≤ m) : aheadB (hoursB hs) (m + 1) = aheadB (hoursB hs) m + b2i (inSome hs (m % 24)) := by
  have hat : (hoursB hs)[(m % 24).toNat]? = some (inSome hs (m % 24)) := by
    unfold hoursB
    rw [List.getElem?_map, List.getElem?_range (by omega)]
    show some (inSome hs (((m % 24).toNat : Nat) : Int)) = _
    rw [show (((m % 24).toNat : Nat) : Int) = m % 24 by omega]
  have ht := cntB_take hat
  unfold aheadB
  by_cases h : m % 24 = 23
  · have e1 : (m + 1) / 24 = m / 24 + 1 := by omega
    have e2 : (m + 1) % 24 = 0 := by omega
    have e3 : (m % 24).toNat + 1 = (hoursB hs).length := by rw [hoursB_length]; omega
    rw [e3, List.take_length] at ht
    rw [e1, e2, ht, show ((0 : Int).toNat) = 0 from rfl, List.take_zero, show cntB [] = 0 from rfl, Int.add_mul]
    omega
  · have e1 : (m + 1) / 24 = m / 24 := by omega
    have e2 : ((m + 1) % 24).toNat = (m % 24).toNat + 1 := by omega
    rw [e1, e2, ht]
    omega
def hushAt (hs : List (Int × Int)) (x : SV) : Bool := match x with
  | .int m => inSome hs (m % 24)
  | _ => false
theorem rng_count (hs : List (Int × Int)) : ∀ (n : Nat) (lo : Int), 0 ≤ lo → ((((rngS lo n).filter (hushAt hs)).length : Nat) : Int) = aheadB (hoursB hs) (lo + (n : Nat)) - aheadB (hoursB hs) lo
  | 0, lo, _ => by
    rw [show (lo + ((0 : Nat) : Int)) = lo by omega]
    show (0 : Int) = _
    omega
  | n + 1, lo, h0 => by
    have ih := rng_count hs n (lo + 1) (by omega)
    have es := ahead_succ hs lo h0
    rw [show (lo + ((n + 1 : Nat) : Int)) = lo + 1 + (n : Nat) by push_cast; omega, rngS, List.filter_cons]
    show (((if inSome hs (lo % 24) = true then _ else _ : List SV).length : Nat) : Int) = _
    cases e : inSome hs (lo % 24) with
    | true =>
      rw [e] at es
      rw [if_pos rfl, List.length_cons]
      have e2 : b2i true = 1 := rfl
      push_cast
      omega
    | false =>
      rw [e] at es
      rw [if_neg Bool.false_ne_true]
      have e2 : b2i false = 0 := rfl
      omega
def dayL (f : Int → Bool) : Nat → Int → List Bool
  | 0, _ => []
  | n + 1, t => f (t % 24) :: dayL f n (t + 1)
theorem dayL_length (f : Int → Bool) : ∀ (n : Nat) (t : Int), (dayL f n t).length = n
  | 0, _ => rfl
  | n + 1, t => by rw [dayL, List.length_cons, dayL_length f n]
theorem dayL_eq (hs : List (Int × Int)) : ∀ (n : Nat) (t : Int), (rngS t n).map (svInt fun h => .bl (inSome hs (h % 24))) = (dayL (inSome hs) n t).map SV.bl
  | 0, _ => rfl
  | n + 1, t => by
    rw [rngS, List.map_cons, dayL_eq hs n (t + 1)]
    rfl
theorem ff_eq (f : Int → Bool) : ∀ (n : Nat) (t : Int), ffGo f n t = (firstF (dayL f n t)).map fun (j : Nat) => t + (j : Int)
  | 0, _ => rfl
  | n + 1, t => by
    unfold ffGo
    rw [dayL, ff_eq f n (t + 1)]
    cases f (t % 24) with
    | false => rw [if_neg Bool.false_ne_true]; simp [firstF]
    | true =>
      rw [if_pos rfl]
      simp only [firstF, Option.map_map]
      congr 1
      funext j
      show t + 1 + (j : Int) = t + ((j + 1 : Nat) : Int)
      push_cast
      omega
theorem inS_false : ∀ bs : List Bool, inS (.bl false) (bs.map SV.bl) = (firstF bs).isSome
  | [] => rfl
  | false :: r => rfl
  | true :: r => by
    have ih := inS_false r
    unfold inS at ih ⊢
    rw [List.map_cons, List.any_cons, ih]
    simp [firstF, eqS]
theorem cut_tail {α : Type} (x : α) (xs : List α) : cutS' (x :: xs) (some 1) none = xs := by
  unfold cutS'
  rw [HT.sIx_none, show (some (1 : Int)) = some ((1 : Nat) : Int) from rfl, HT.sIx_nat, List.length_cons, Nat.min_eq_left (by omega), List.drop_succ_cons, List.drop_zero]
  exact List.take_of_length_le (by omega)
def optP : Option Int → PyData
  | none => .none
  | some i => .int i
theorem rd_opt {m : Mem} (o : Option Int) : Rd m (optV o) (optP o) := by cases o <;> constructor
theorem eqD_opt (o : Option Int) : eqD (optP o) (optP o) = true := by cases o <;> simp [optP, eqD]
theorem dpt_opt (o : Option Int) : dpt (optP o) = 0 := by cases o <;> rfl
theorem sm_opt (o : Option Int) : smD (optP o) := by cases o <;> trivial
theorem ok_law (T : Tx K mg) (G_law_is_refused : FnOk P w K mg base CX0 12 (He.ga K "_law_is_refused") T.fd__law_is_refused ["_law_box", "_law_rules_here", "_law_moment"] (lift K (spRef (He.cT K p0).2 nm0))) : FnOk P w K mg base (L2.CX P w) 13 (He.ga K "law") T.fd_law ["_law_script"] (lift K (spLaw (He.cT K p0).2 nm0)) := by
  have G_law_alike := ok_law_alike (P := P) (w := w) (base := base) T 3
  have b_law_alike := b_law_alike T
  have G_law_begun := ok_law_begun (P := P) (w := w) (base := base) T
  have b_law_begun := b_law_begun T
  have G_law_hush := ok_law_hush (P := P) (w := w) (base := base) T
  have b_law_hush := b_law_hush T
  have b_law_is_refused := b_law_is_refused T
  have G_law_rules := ok_law_rules (P := P) (w := w) (base := base) T
  have b_law_rules := b_law_rules T
  have G_law_take := ok_law_take (P := P) (w := w) (base := base) T
  have b_law_take := b_law_take T
  have G_free_from := ok_free_from (P := P) (w := w) (base := base) T
  have b_free_from := b_free_from T
  have G_hushed_between := ok_hushed_between (P := P) (w := w) (base := base) T
  have b_hushed_between := b_hushed_between T
  have G_is_hushed := ok_is_hushed (P := P) (w := w) (base := base) T
  have b_is_hushed := b_is_hushed T
  refine fn_syX T.F_law sc_law (fun svs m SX Sv h => ?_) (fun cdv A outer s H E hr => ⟨_, _, (gss_cons (gs_set (i := 1) sc_law.nd rfl (.inl rfl) (ge_call G_law_begun ((hr.mono (by decide))) (by rfl) T.g__law_begun T.k__law_begun b_law_begun .nil (fun _ => .nil) pass0 (ga_cons (gv 0) ga_nil)))
      (gss_cons (gs_for (passes_of rfl) rfl (gi_range1 (by rfl) T.z_range (ga_cons ge_int ga_nil)) (gg_name (i := 2) sc_law.nd rfl (.inl rfl))
      (gss_cons (gs_set (i := 3) sc_law.nd rfl (.inr rfl) (ge_call G_law_rules ((hr.mono (by decide))) (by rfl) T.g__law_rules T.k__law_rules b_law_rules .nil (fun _ => .nil) pass0 (ga_cons (gv 1) ga_nil)))
      (gss_cons (gs_set (i := 4) sc_law.nd rfl (.inr rfl) (ge_call G_law_take ((hr.mono (by decide))) (by rfl) T.g__law_take T.k__law_take b_law_take .nil (fun _ => .nil) pass0 (ga_cons (gv 1) (ga_cons (ge_callB (cr_len K) sim_len (by rfl) T.z_len (by decide +kernel) (ga_cons (gv 3) ga_nil)) ga_nil))))
      (gss_cons (gs_cut (gs_if (gt_cmp (op_eqG K hr.units) sim_eq (ge_call G_law_take ((hr.mono (by decide))) (by rfl) T.g__law_take T.k__law_take b_law_take .nil (fun _ => .nil) pass0 (ga_cons (gv 1) (ga_cons ge_int ga_nil))) ge_int (nomark _)) (gss_cons (gs_set (i := 5) sc_law.nd rfl (.inl rfl) (ge_call G_law_take ((hr.mono (by decide))) (by rfl) T.g__law_take T.k__law_take b_law_take .nil (fun _ => .nil) pass0 (ga_cons (gv 1) (ga_cons ge_int ga_nil))))
      (gss_cons (gs_set (i := 3) sc_law.nd rfl (.inr rfl) (ge_op (op_addG K) sim_add (ge_tup (ga_cons (ge_op (op_addG K) sim_add (ge_tup (ga_cons (ge_tup (ga_cons (ge_tup (ga_cons (gv 5) (ga_cons (ge_op op_mod sim_mod (ge_op (op_addG K) sim_add (gv 5) ge_int) ge_int) ga_nil))) (ga_cons (ge_tup (ga_cons (ge_op op_mod sim_mod (ge_op (op_addG K) sim_add (gv 5) ge_int) ge_int) (ga_cons (gv 5) ga_nil))) ga_nil))) ga_nil)) (ge_slice (ge_ix (ix_G K) sim_ix (gv 3) ge_int (fun _ _ => rfl)) (go_some ge_int) go_none)) ga_nil)) (ge_slice (gv 3) (go_some ge_int) go_none)))
      (gss_one (gs_set (i := 4) sc_law.nd rfl (.inr rfl) ge_int)))) gss_nil))
      (gss_cons (gs_set (i := 5) sc_law.nd rfl (.inl rfl) (ge_ix (ix_G K) sim_ix (ge_lst (ga_cons (ge_call G_law_take ((hr.mono (by decide))) (by rfl) T.g__law_take T.k__law_take b_law_take .nil (fun _ => .nil) pass0 (ga_cons (gv 1) (ga_cons ge_int ga_nil))) (ga_cons (ge_call G_law_take ((hr.mono (by decide))) (by rfl) T.g__law_take T.k__law_take b_law_take .nil (fun _ => .nil) pass0 (ga_cons (gv 1) (ga_cons (ge_op (op_addG K) sim_add (ge_op op_pow sim_pow ge_int ge_int) ge_int) ga_nil))) ga_nil))) (ge_call G_law_take ((hr.mono (by decide))) (by rfl) T.g__law_take T.k__law_take b_law_take .nil (fun _ => .nil) pass0 (ga_cons (gv 1) (ga_cons ge_int ga_nil))) (fun _ _ => rfl)))
      (gss_cons (gs_set (i := 6) sc_law.nd rfl (.inl rfl) (ge_callB (call_min2 rfl) sim_min2 (by rfl) T.z_min (by decide +kernel) (ga_cons (ge_op op_pow sim_pow ge_int ge_int) (ga_cons (ge_callB (call_max2 rfl) sim_max2 (by rfl) T.z_max (by decide +kernel) (ga_cons ge_int (ga_cons (ge_op op_sub sim_sub (ge_op (op_addG K) sim_add (gv 5) (ge_call G_law_take ((hr.mono (by decide))) (by rfl) T.g__law_take T.k__law_take b_law_take .nil (fun _ => .nil) pass0 (ga_cons (gv 1) (ga_cons (ge_ix (ix_G K) sim_ix (ge_lst (ga_cons ge_int (ga_cons ge_int ga_nil))) (ge_call G_law_take ((hr.mono (by decide))) (by rfl) T.g__law_take T.k__law_take b_law_take .nil (fun _ => .nil) pass0 (ga_cons (gv 1) (ga_cons ge_int ga_nil))) (fun _ _ => rfl)) ga_nil)))) ge_int) ga_nil))) ga_nil))))
      (gss_cons (gs_setLc (i := 7) (own := [("_law_hour", 8)]) (by rfl) sc_law.nd rfl rfl (sw_true rfl rfl rfl (by decide +kernel)) (gi_range2 (by rfl) T.z_range (ga_cons (gv 5) (ga_cons (ge_op (op_addG K) sim_add (gv 5) ge_int) ga_nil))) (blkOk_by (own := [("_law_hour", 8)]) (N := ["_law_script", "_law_box", "_law_turn", "_law_rules_here", "_law_person", "_law_begin", "_law_end", "_law_day", "_law_hour", "_law_free", "_law_many", "_law_moment", "_law_again", "_law_found"]) (sc := (defScope s_law)) (by decide +kernel)) (fun _ _ _ _ _ => (gg_name (i := 8) sc_law.nd rfl (.inl rfl))) (wp_name (by decide)) (fun _ _ _ _ _ => gts_nil) (fun _ _ _ _ _ => (ge_call G_law_hush ((hr.mono (by decide))) (by rfl) T.g__law_hush T.k__law_hush b_law_hush .nil (fun _ => .nil) pass0 (ga_cons (ge_ix (ix_G K) sim_ix (gv 3) (gv 4) (fun _ _ => rfl)) (ga_cons (gv 8) ga_nil)))))
      (gss_cons (gs_cut (gs_set (i := 9) sc_law.nd rfl (.inl rfl) (ge_ifE (gt_cmp (op_inG K) (sim_in false) ge_bl (gv 7) (by with_unfolding_all rfl)) (ge_op (op_addG K) sim_add (gv 5) (ge_bm PySem.F.plainAttrs_list PySem.F.slot_list_index PySem.F.type_list_index (mt_indexG K) simk_L sim_index (gv 7) (ga_cons ge_bl ga_nil))) ge_non)))
      (gss_cons (gs_set (i := 10) sc_law.nd rfl (.inl rfl) (ge_callB (cr_len K) sim_len (by rfl) T.z_len (by decide +kernel) (ga_cons (ge_lc (own := [("_law_moment", 11)]) (by rfl) sc_law.nd (gi_range2 (by rfl) T.z_range (ga_cons (gv 5) (ga_cons (gv 6) ga_nil))) (blkOk_by (own := [("_law_moment", 11)]) (N := ["_law_script", "_law_box", "_law_turn", "_law_rules_here", "_law_person", "_law_begin", "_law_end", "_law_day", "_law_hour", "_law_free", "_law_many", "_law_moment", "_law_again", "_law_found"]) (sc := (defScope s_law)) (by decide +kernel)) (fun _ _ _ _ _ => (gg_name (i := 11) sc_law.nd rfl (.inl rfl))) (wp_name (by decide)) (fun _ _ _ _ _ => (gts_one (gt_val (ge_call G_law_hush ((hr.mono (by decide))) (by rfl) T.g__law_hush T.k__law_hush b_law_hush .nil (fun _ => .nil) pass0 (ga_cons (ge_ix (ix_G K) sim_ix (gv 3) (gv 4) (fun _ _ => rfl)) (ga_cons (gv 11) ga_nil)))))) (fun _ _ _ _ _ => (gv 11))) ga_nil)))
      (gss_cons (gs_for (passes_of rfl) rfl (gi_range1 (by rfl) T.z_range (ga_cons ge_int ga_nil)) (gg_name (i := 12) sc_law.nd rfl (.inl rfl))
      (gss_cons (gs_set (i := 13) sc_law.nd rfl (.inl rfl) (ge_lst (ga_cons (ge_call G_is_hushed ((hr.mono (by decide))) (by rfl) T.g_is_hushed T.k_is_hushed b_is_hushed .nil (fun _ => .nil) passE (ga_cons (gv 3) (ga_cons (gv 4) (ga_cons (gv 5) ga_nil)))) (ga_cons (ge_call G_free_from ((hr.mono (by decide))) (by rfl) T.g_free_from T.k_free_from b_free_from .nil (fun _ => .nil) passE (ga_cons (gv 3) (ga_cons (gv 4) (ga_cons (gv 5) ga_nil)))) ga_nil))))
      (gss_one (gs_if (gw_pt (gw_or (gt_not (gt_val (ge_call G_law_alike ((hr.mono (by decide))) (by rfl) T.g__law_alike T.k__law_alike b_law_alike .nil (fun _ => .nil) pass0 (ga_cons (gv 13) (ga_cons (ge_lst (ga_cons (ge_ix (ix_G K) sim_ix (gv 7) ge_int (fun _ _ => rfl)) (ga_cons (gv 9) ga_nil))) ga_nil))))) (gw_or1 (gt_not (gt_val (ge_call G_law_alike ((hr.mono (by decide))) (by rfl) T.g__law_alike T.k__law_alike b_law_alike .nil (fun _ => .nil) pass0 (ga_cons (ge_call G_hushed_between ((hr.mono (by decide))) (by rfl) T.g_hushed_between T.k_hushed_between b_hushed_between .nil (fun _ => .nil) passE (ga_cons (gv 3) (ga_cons (gv 4) (ga_cons (gv 5) (ga_cons (gv 6) ga_nil))))) (ga_cons (gv 10) ga_nil)))))))) (gss_one (gs_ret ge_bl)) gss_nil))))
      (gss_one (gs_if (gt_not (gt_val (ge_call G_law_is_refused (hr) (by rfl) T.g__law_is_refused T.k__law_is_refused b_law_is_refused .nil (fun _ => .nil) pass0 (ga_cons (gv 1) (ga_cons (gv 3) (ga_cons (gv 5) ga_nil)))))) (gss_one (gs_ret ge_bl)) gss_nil))))))))))))
      (gss_one (gs_ret ge_bl)))), fun svs m SX Sv h => ?_⟩)
  · obtain ⟨ns, rfl, _⟩ := h
    rfl
  obtain ⟨ns, rfl, hl, hT, q⟩ := h
  walk_at "r"
  refine ⟨ns, rfl, hl, fun b cx hcx hb ne => ?_⟩
  have hT0 : up (up m cx .bxi) b (.box cx) (He.cT K p0).2 = some (.tab nm0) := by rw [up_ne (mne hT hb), up_ne (mne hT hcx)]; exact hT
  have bx : IsBox (up (up m cx .bxi) b (.box cx)) b := ⟨cx, up_same, by rw [up_ne (Ne.symm ne)]; exact up_same⟩
  generalize up (up m cx .bxi) b (.box cx) = m0 at hT0 bx
  clear hT hcx hb ne
  walk_at "r"
  refine ⟨⟨by decide, by decide⟩, ?_⟩
  refine for_inv (fun r δ m' => m' = m0 ∧ ∃ a2 a3 a4 a5 a6 a7 a8 a9 a10 a11 a12 a13, δ = [some (.lst (ns.map .int)), some (.ref b), a2, a3, a4, a5, a6, a7, a8, a9, a10, a11, a12, a13]) ⟨rfl, none, none, none, none, none, none, none, none, none, none, none, none, rfl⟩ (fun x r δ m' h => ?_) (fun δ m' h => ?_)
  · obtain ⟨rfl, a2, a3, a4, a5, a6, a7, a8, a9, a10, a11, a12, a13, rfl⟩ := h
    refine ⟨trivial, ?_⟩
    walk_at "r"
    refine ⟨bx, fun R ok => ?_⟩
    have h1 := ok.one
    have h6 := ok.six
    walk_at "r"
    refine ⟨_, rfl, ?_⟩
    walk_at "r"
    rw [List.length_map]
    refine ⟨bx, small (by omega) (by omega), fun pn pn0 pn1 => ?_⟩
    obtain ⟨pk, rfl⟩ : ∃ pk : Nat, pn = (pk : Int) := ⟨pn.toNat, by omega⟩
    walk_at "r"
    refine cut_by (fun δ m => m = m' ∧ ∃ (R : List PR) (i : Nat) (b5 : Option SV), i < R.length ∧ RulesOk R ∧ δ = [some (.lst (ns.map .int)), some (.ref b), some x, some (RV R), some (.int i), b5, a6, a7, a8, a9, a10, a11, a12, a13]) ?_ (fun δ m h => ?_)
    · walk_at "r"
      refine ⟨bx, small (by decide) (by decide), fun g g0 g1 => ?_⟩
      walk_at "r"
      refine Br_i (fun h2 => ?_) (fun h2 => ?_)
      · walk_at "r"
        refine ⟨bx, small (by decide) (by decide), fun hb hb0 hb1 => ?_⟩
        walk_at "r"
        refine ⟨(by decide : (0 : Int) < 24), ?_⟩
        walk_at "r"
        refine ⟨by walk_at "len", ?_⟩
        walk_at "r"
        refine ⟨(by decide : (0 : Int) < 24), ?_⟩
        walk_at "r"
        refine ⟨by walk_at "len", ?_⟩
        walk_at "r"
        refine ⟨by walk_at "len", ?_⟩
        walk_at "r"
        refine ⟨by walk_at "len", ?_⟩
        walk_at "r"
        cases R with
        | nil => cases h1
        | cons r0 R =>
          refine ⟨_, rv_get (R := r0 :: R) (i := 0) (by simp), ?_⟩
          walk_at "r"
          refine ⟨line_le (show 5 ≤ 100000 by decide), ?_⟩
          walk_at "r"
          refine ⟨by walk_at "len", ?_⟩
          walk_at "r"
          rw [show cutS' (List.map PR.sv (r0 :: R)) (some 1) none = R.map PR.sv from cut_tail _ _]
          refine ⟨line_le (by simp at h6 ⊢; omega), ?_⟩
          walk_at "r"
          have o0 := ok.all r0 List.mem_cons_self
          refine .of ⟨rfl, { r0 with hs := [(hb, (hb + 9) % 24), ((hb + 9) % 24, hb)] } :: R, 0, _, by simp, ⟨h1, h6, fun r hr => ?_⟩, rfl⟩
          rcases List.mem_cons.mp hr with rfl | hr
          · refine ⟨by simp, fun p hp => ?_, o0.le, o0.gl, o0.gs, o0.wt, o0.fu⟩
            simp only [List.mem_cons, List.not_mem_nil, or_false] at hp
            rcases hp with rfl | rfl
            · exact ⟨⟨hb0, by show hb ≤ 23; omega⟩, ⟨by show 0 ≤ (hb + 9) % 24; omega, by show (hb + 9) % 24 ≤ 23; omega⟩, by show hb ≠ (hb + 9) % 24; omega⟩
            · exact ⟨⟨by show 0 ≤ (hb + 9) % 24; omega, by show (hb + 9) % 24 ≤ 23; omega⟩, ⟨hb0, by show hb ≤ 23; omega⟩, by show (hb + 9) % 24 ≠ hb; omega⟩
          · exact ok.all r (List.mem_cons_of_mem _ hr)
      · walk_at "r"
        exact .of ⟨rfl, R, pk, _, by omega, ok, rfl⟩
    · clear h1 h6 ok pn0 pn1
      obtain ⟨rfl, R, i, b5, hi, ok, rfl⟩ := h
      have h1 := ok.one
      have h6 := ok.six
      have oi := ok.all _ (List.getElem_mem hi)
      walk_at "r"
      refine ⟨bx, small (by decide) (by decide), fun g1 g10 g11 => ?_⟩
      walk_at "r"
      refine ⟨⟨by decide, by decide, by decide⟩, ?_⟩
      walk_at "r"
      refine ⟨bx, small (by decide) (by decide), fun g2 g20 g21 => ?_⟩
      walk_at "r"
      refine ⟨by walk_at "len", fun p1 hp1 => ?_⟩
      walk_at "r"
      refine ⟨bx.new hp1, small (by decide) (by decide), fun g3 g30 g31 => ?_⟩
      walk_at "r"
      refine ⟨_, _, up_same, pick2 g30 g31, ?_⟩
      rw [ite_int]
      have e6 : (10 ^ (6 : Int).toNat : Int) = 1000000 := rfl
      rw [e6] at g21
      obtain ⟨bg, hbg, bg0, bg1⟩ : ∃ bg, (if g3 = 0 then g1 else g2) = bg ∧ 0 ≤ bg ∧ bg ≤ 1000000 := ⟨_, rfl, by split <;> omega, by split <;> omega⟩
      rw [hbg]
      have bx1 := bx.new (o := .lst [.int g1, .int g2]) hp1
      have hT1 := kp (u := .lst [.int g1, .int g2]) hT0 hp1
      have l1 := Le.new (o := .lst [.int g1, .int g2]) (.refl m) hp1
      generalize up m p1 _ = m1 at bx1 hT1 l1 ⊢
      walk_at "r"
      refine ⟨⟨by decide, by decide, by decide⟩, ?_⟩
      walk_at "r"
      refine ⟨by walk_at "len", fun p2 hp2 => ?_⟩
      walk_at "r"
      refine ⟨bx1.new hp2, small (by decide) (by decide), fun g4 g40 g41 => ?_⟩
      walk_at "r"
      refine ⟨_, _, up_same, pick2 g40 g41, ?_⟩
      rw [ite_int]
      walk_at "r"
      refine ⟨bx1.new hp2, small (by split <;> decide) (by split <;> decide), fun g5 g50 g51 => ?_⟩
      have bx2 := bx1.new (o := .lst [.int 30, .int 200]) hp2
      have hT2 := kp (u := .lst [.int 30, .int 200]) hT1 hp2
      have l2 := Le.new (o := .lst [.int 30, .int 200]) l1 hp2
      generalize up m1 p2 _ = m2 at bx2 hT2 l2 ⊢
      walk_at "r"
      rw [e6]
      obtain ⟨en, hen, en0, en1⟩ : ∃ en, (if (if bg + g5 - 9 > 0 then bg + g5 - 9 else 0) < 1000000 then (if bg + g5 - 9 > 0 then bg + g5 - 9 else 0) else 1000000) = en ∧ 0 ≤ en ∧ en ≤ 1000000 := ⟨_, rfl, by split <;> (try split) <;> omega, by split <;> (try split) <;> omega⟩
      rw [hen]
      have enb : en ≤ bg + 300 := by
        rw [← hen]
        have : g5 < 200 := by split at g51 <;> omega
        split <;> (try split) <;> omega
      clear hen hbg bx bx1 hT0 hT1 l1 hp1 hp2
      refine ⟨⟨by omega, by omega, by omega, by omega⟩, by rw [rngS_length, show (bg + 24 - bg).toNat = 24 by omega]; decide, fun p3 hp3 => ?_⟩
      rw [show (bg + 24 - bg).toNat = 24 by omega]
      refine lc_map (svInt fun h => .bl (inSome R[i].hs (h % 24))) (fun _ => trivial) (fun y hy acc K1 k => ?_) ?_
      · obtain ⟨j, hj⟩ := List.getElem?_of_mem hy
        obtain ⟨_, rfl⟩ := rngS_get _ _ _ _ hj
        walk_at "r"
        refine ⟨_, rv_get hi, ?_⟩
        walk_at "r"
        exact ⟨R[i], _, _, rfl, oi, k _ (.refl _)⟩
      rw [dayL_eq]
      have a3 := up_at hp3 (.lst ((dayL (inSome R[i].hs) 24 bg).map SV.bl))
      have bx3 := bx2.new (o := .lst ((dayL (inSome R[i].hs) 24 bg).map SV.bl)) hp3
      have hT3 := kp (u := .lst ((dayL (inSome R[i].hs) 24 bg).map SV.bl)) hT2 hp3
      have l3 := Le.new (o := .lst ((dayL (inSome R[i].hs) 24 bg).map SV.bl)) l2 hp3
      generalize up m2 p3 _ = m3 at a3 bx3 hT3 l3 ⊢
      clear bx2 hT2 l2 hp3
      have hff : firstFree R[i].hs bg = (firstF (dayL (inSome R[i].hs) 24 bg)).map fun (j : Nat) => bg + (j : Int) := ff_eq _ 24 bg
      walk_at "r"
      refine cut_by (fun δ m => m = m3 ∧ δ = [some (.lst (ns.map .int)), some (.ref b), some x, some (RV R), some (.int i), some (.int bg), some (.int en), some (.ref p3), a8, some (optV (firstFree R[i].hs bg)), a10, a11, a12, a13]) ?_ (fun δ m h => ?_)
      · walk_at "r"
        refine ⟨_, a3, rfl, flat_bls _, ?_⟩
        walk_at "r"
        change Br (inS (.bl false) _) _ _
        rw [inS_false]
        cases hj : firstF (dayL (inSome R[i].hs) 24 bg) with
        | none =>
          rw [hj] at hff
          walk_at "f"
          walk_at "r"
          exact .of ⟨rfl, by rw [hff]; rfl⟩
        | some j =>
          rw [hj] at hff
          obtain ⟨h2, h3⟩ := firstF_some hj
          walk_at "t"
          walk_at "r"
          refine ⟨⟨_, a3⟩, ?_⟩
          walk_at "r"
          refine ⟨_, j, .bl false, a3, rfl, flat_bls _, by rw [List.getElem?_map, h2]; rfl, rfl, fun k z hk hz => ?_, ?_⟩
          · rw [List.getElem?_map, h3 k hk] at hz
            cases hz
            rfl
          walk_at "r"
          exact .of ⟨rfl, by rw [hff]; rfl⟩
      obtain ⟨rfl, rfl⟩ := h
      walk_at "r"
      refine ⟨⟨by omega, by omega, by omega, by omega⟩, by rw [rngS_length]; exact line_le (by omega), fun p4 hp4 => ?_⟩
      refine lc_filt (hushAt R[i].hs) id (fun _ => trivial) (fun y hy acc K1 K0 k1 k0 => ?_) ?_
      · obtain ⟨j, hj⟩ := List.getElem?_of_mem hy
        obtain ⟨_, rfl⟩ := rngS_get _ _ _ _ hj
        walk_at "r"
        refine ⟨_, rv_get hi, ?_⟩
        walk_at "r"
        refine ⟨R[i], _, _, rfl, oi, ?_⟩
        refine Br_i (fun e => ?_) (fun e => k0 _ (.refl _) e)
        walk_at "r"
        exact k1 _ (.refl _) e
      rw [List.map_id]
      have hcnt : ((((rngS bg (en - bg).toNat).filter (hushAt R[i].hs)).length : Nat) : Int) = between R[i].hs bg en := by
        unfold between
        by_cases hle : en ≤ bg
        · rw [if_pos hle, show (en - bg).toNat = 0 by omega]
          rfl
        · rw [if_neg hle, rng_count _ _ _ bg0, show bg + ((en - bg).toNat : Int) = en by omega]
      have a4 := up_at hp4 (.lst ((rngS bg (en - bg).toNat).filter (hushAt R[i].hs)))
      have a34 := kp (u := .lst ((rngS bg (en - bg).toNat).filter (hushAt R[i].hs))) a3 hp4
      have bx4 := bx3.new (o := .lst ((rngS bg (en - bg).toNat).filter (hushAt R[i].hs))) hp4
      have hT4 := kp (u := .lst ((rngS bg (en - bg).toNat).filter (hushAt R[i].hs))) hT3 hp4
      have l4 := Le.new (o := .lst ((rngS bg (en - bg).toNat).filter (hushAt R[i].hs))) l3 hp4
      generalize up m p4 _ = m4 at a4 a34 bx4 hT4 l4 ⊢
      clear bx3 hT3 l3 a3 hp4
      walk_at "r"
      refine ⟨_, a4, ?_⟩
      walk_at "r"
      rw [hcnt]
      refine ⟨⟨by decide, by decide⟩, ?_⟩
      refine for_inv (fun r δ m' => m' = m4 ∧ ∃ c12 c13, δ = [some (.lst (ns.map .int)), some (.ref b), some x, some (RV R), some (.int i), some (.int bg), some (.int en), some (.ref p3), a8, some (optV (firstFree R[i].hs bg)), some (.int (between R[i].hs bg en)), a11, c12, c13]) ⟨rfl, _, _, rfl⟩ (fun y r2 δ m2 h => ?_) (fun δ m2 h => ?_)
      · obtain ⟨rfl, c12, c13, rfl⟩ := h
        refine ⟨trivial, ?_⟩
        have ii : ∀ {i' : Nat}, SV.int (i : Int) = .int (i' : Int) → i' = i := fun e => by injection e; omega
        walk_at "r"
        refine ⟨R, _, _, rfl, ok, ⟨_, rfl⟩, ⟨_, rfl⟩, fun i' t hi' e1 e2 t0 t1 => ?_, fun e => (by rw [wh_of (by omega) (by omega)] at e; cases e), fun _ e => (by rw [show isMom (.int bg) = true from wh_of bg0 bg1] at e; cases e)⟩
        obtain rfl := ii e1
        cases e2
        walk_at "r"
        refine ⟨R, _, _, rfl, ok, ⟨_, rfl⟩, ⟨_, rfl⟩, fun i2 t hi' e1 e2 t0 t1 => ?_, fun e => (by rw [wh_of (by omega) (by omega)] at e; cases e), fun _ e => (by rw [show isMom (.int bg) = true from wh_of bg0 bg1] at e; cases e)⟩
        obtain rfl := ii e1
        cases e2
        walk_at "r"
        refine ⟨by walk_at "len", fun p5 hp5 => ?_⟩
        have a5 := up_at hp5 (.lst [.bl (inSome R[i2].hs (bg % 24)), optV (firstFree R[i2].hs bg)])
        have a35 := kp (u := .lst [.bl (inSome R[i2].hs (bg % 24)), optV (firstFree R[i2].hs bg)]) a34 hp5
        have l5 := Le.new (o := .lst [.bl (inSome R[i2].hs (bg % 24)), optV (firstFree R[i2].hs bg)]) (.refl m2) hp5
        generalize up m2 p5 _ = m5 at a5 a35 l5 ⊢
        clear hff
        walk_at "r"
        refine ⟨_, .bl (inSome R[i2].hs (bg % 24)), a35, atI_nat (j := 0) rfl, ?_⟩
        walk_at "r"
        refine ⟨by walk_at "len", fun p6 hp6 => ?_⟩
        have a6 := up_at hp6 (.lst [.bl (inSome R[i2].hs (bg % 24)), optV (firstFree R[i2].hs bg)])
        have a56 := kp (u := .lst [.bl (inSome R[i2].hs (bg % 24)), optV (firstFree R[i2].hs bg)]) a5 hp6
        have l6 := Le.new (o := .lst [.bl (inSome R[i2].hs (bg % 24)), optV (firstFree R[i2].hs bg)]) l5 hp6
        generalize up m5 p6 _ = m6 at a6 a56 l6 ⊢
        walk_at "r"
        refine ⟨_, _, .list [.bool (inSome R[i2].hs (bg % 24)), optP (firstFree R[i2].hs bg)], .list [.bool (inSome R[i2].hs (bg % 24)), optP (firstFree R[i2].hs bg)], rfl, .ref a56 (.cons (.bl _) (.cons (rd_opt _) .nil)), .ref a6 (.cons (.bl _) (.cons (rd_opt _) .nil)), ?d1, ⟨(by simp), trivial, sm_opt _, trivial⟩, ?_⟩
        case d1 =>
          show 1 + max 0 (max (dpt (optP _)) 0) < 3
          rw [dpt_opt]
          decide
        walk_at "r"
        refine Br_i (fun hb => ?_) (fun _ => ?_)
        · have hb : (!(decide (inSome R[i2].hs (bg % 24) = inSome R[i2].hs (bg % 24)) && (eqD (optP (firstFree R[i2].hs bg)) (optP (firstFree R[i2].hs bg)) && true))) = true := hb
          rw [eqD_opt] at hb
          simp at hb
        walk_at "r"
        refine ⟨R, _, _, _, rfl, ok, ⟨_, rfl⟩, ⟨_, rfl⟩, ⟨_, rfl⟩, fun i3 t u hi' e1 e2 e3 t0 t1 u0 u1 => ?_, fun e => (by rw [wh_of (by omega) (by omega)] at e; cases e), fun _ e => (by rw [show isMom (.int bg) = true from wh_of bg0 bg1, show isMom (.int en) = true from wh_of en0 en1] at e; cases e)⟩
        obtain rfl := ii e1
        cases e2
        cases e3
        walk_at "r"
        refine ⟨_, _, _, _, rfl, .int _, .int _, (by show 0 < 3; decide), trivial, ?_⟩
        walk_at "r"
        refine Br_i (fun hb => ?_) (fun _ => ?_)
        · have hb : (!decide (between R[i3].hs bg en = between R[i3].hs bg en)) = true := hb
          simp at hb
        walk_at "r"
        exact ⟨_, l6, rfl, _, _, rfl⟩
      · obtain ⟨rfl, c12, c13, rfl⟩ := h
        refine ⟨trivial, ?_⟩
        walk_at "r"
        refine ⟨b, R, bg, rfl, bx4, ok, ⟨bg0, bg1⟩, hT4, ?_⟩
        walk_at "r"
        walk_at "f"
        walk_at "r"
        exact ⟨_, l4, rfl, _, _, _, _, _, _, _, _, _, _, _, _, rfl⟩
  · obtain ⟨rfl, a2, a3, a4, a5, a6, a7, a8, a9, a10, a11, a12, a13, rfl⟩ := h
    refine ⟨trivial, ?_⟩
    walk_at "r"
    exact .of (q _)
end
end Hn

set_option Elab.async false
set_option linter.all false
set_option maxRecDepth 100000
set_option maxHeartbeats 0
namespace Hn
open PySem PySem.Spec PyProof.Rows L2 Sy
def d_is_number : He.DefD := ⟨("is_number", none), "is_number", "is_number", defArgs s_is_number, defBody s_is_number, defScope s_is_number, [], []⟩
def d_is_whole : He.DefD := ⟨("is_whole", none), "is_whole", "is_whole", defArgs s_is_whole, defBody s_is_whole, defScope s_is_whole, [], []⟩
def d_is_tuple_of : He.DefD := ⟨("is_tuple_of", none), "is_tuple_of", "is_tuple_of", defArgs s_is_tuple_of, defBody s_is_tuple_of, defScope s_is_tuple_of, [], []⟩
def d_is_tuple_up_to : He.DefD := ⟨("is_tuple_up_to", none), "is_tuple_up_to", "is_tuple_up_to", defArgs s_is_tuple_up_to, defBody s_is_tuple_up_to, defScope s_is_tuple_up_to, [], []⟩
def d_is_stretch : He.DefD := ⟨("is_stretch", none), "is_stretch", "is_stretch", defArgs s_is_stretch, defBody s_is_stretch, defScope s_is_stretch, [], []⟩
def d_can_be_hushed : He.DefD := ⟨("can_be_hushed", none), "can_be_hushed", "can_be_hushed", defArgs s_can_be_hushed, defBody s_can_be_hushed, defScope s_can_be_hushed, [], []⟩
def d_can_be_gather : He.DefD := ⟨("can_be_gather", none), "can_be_gather", "can_be_gather", defArgs s_can_be_gather, defBody s_can_be_gather, defScope s_can_be_gather, [], []⟩
def d_first_bad_part : He.DefD := ⟨("first_bad_part", none), "first_bad_part", "first_bad_part", defArgs s_first_bad_part, defBody s_first_bad_part, defScope s_first_bad_part, [], []⟩
def d_refuse_bad_rules : He.DefD := ⟨("refuse_bad_rules", none), "refuse_bad_rules", "refuse_bad_rules", defArgs s_refuse_bad_rules, defBody s_refuse_bad_rules, defScope s_refuse_bad_rules, [], []⟩
def d_refuse_bad_person : He.DefD := ⟨("refuse_bad_person", none), "refuse_bad_person", "refuse_bad_person", defArgs s_refuse_bad_person, defBody s_refuse_bad_person, defScope s_refuse_bad_person, [], []⟩
def d_refuse_bad_moment : He.DefD := ⟨("refuse_bad_moment", none), "refuse_bad_moment", "refuse_bad_moment", defArgs s_refuse_bad_moment, defBody s_refuse_bad_moment, defScope s_refuse_bad_moment, [.int (1000000)], []⟩
def d_is_in_stretch : He.DefD := ⟨("is_in_stretch", none), "is_in_stretch", "is_in_stretch", defArgs s_is_in_stretch, defBody s_is_in_stretch, defScope s_is_in_stretch, [], []⟩
def d_hushed_hours : He.DefD := ⟨("hushed_hours", none), "hushed_hours", "hushed_hours", defArgs s_hushed_hours, defBody s_hushed_hours, defScope s_hushed_hours, [], []⟩
def d_judged_hours : He.DefD := ⟨("judged_hours", none), "judged_hours", "judged_hours", defArgs s_judged_hours, defBody s_judged_hours, defScope s_judged_hours, [], []⟩
def d_first_free : He.DefD := ⟨("first_free", none), "first_free", "first_free", defArgs s_first_free, defBody s_first_free, defScope s_first_free, [], []⟩
def d_hushed_ahead_of : He.DefD := ⟨("hushed_ahead_of", none), "hushed_ahead_of", "hushed_ahead_of", defArgs s_hushed_ahead_of, defBody s_hushed_ahead_of, defScope s_hushed_ahead_of, [], []⟩
def d_is_hushed : He.DefD := ⟨("is_hushed", none), "is_hushed", "is_hushed", defArgs s_is_hushed, defBody s_is_hushed, defScope s_is_hushed, [], []⟩
def d_free_from : He.DefD := ⟨("free_from", none), "free_from", "free_from", defArgs s_free_from, defBody s_free_from, defScope s_free_from, [], []⟩
def d_hushed_between : He.DefD := ⟨("hushed_between", none), "hushed_between", "hushed_between", defArgs s_hushed_between, defBody s_hushed_between, defScope s_hushed_between, [], []⟩
def d_law_begun : He.DefD := ⟨("_law_begun", none), "_law_begun", "_law_begun", defArgs s_law_begun, defBody s_law_begun, defScope s_law_begun, [], []⟩
def d_law_take : He.DefD := ⟨("_law_take", none), "_law_take", "_law_take", defArgs s_law_take, defBody s_law_take, defScope s_law_take, [], []⟩
def d_law_alike : He.DefD := ⟨("_law_alike", none), "_law_alike", "_law_alike", defArgs s_law_alike, defBody s_law_alike, defScope s_law_alike, [], []⟩
def d_law_told : He.DefD := ⟨("_law_told", none), "_law_told", "_law_told", defArgs s_law_told, defBody s_law_told, defScope s_law_told, [], []⟩
def d_law_all : He.DefD := ⟨("_law_all", none), "_law_all", "_law_all", defArgs s_law_all, defBody s_law_all, defScope s_law_all, [], []⟩
def d_law_stretches : He.DefD := ⟨("_law_stretches", none), "_law_stretches", "_law_stretches", defArgs s_law_stretches, defBody s_law_stretches, defScope s_law_stretches, [], []⟩
def d_law_rule : He.DefD := ⟨("_law_rule", none), "_law_rule", "_law_rule", defArgs s_law_rule, defBody s_law_rule, defScope s_law_rule, [], []⟩
def d_law_rules : He.DefD := ⟨("_law_rules", none), "_law_rules", "_law_rules", defArgs s_law_rules, defBody s_law_rules, defScope s_law_rules, [], []⟩
def d_law_hush : He.DefD := ⟨("_law_hush", none), "_law_hush", "_law_hush", defArgs s_law_hush, defBody s_law_hush, defScope s_law_hush, [], []⟩
def d_law_is_refused : He.DefD := ⟨("_law_is_refused", none), "_law_is_refused", "_law_is_refused", defArgs s_law_is_refused, defBody s_law_is_refused, defScope s_law_is_refused, [], []⟩
def d_law : He.DefD := ⟨("law", none), "law", "law", defArgs s_law, defBody s_law, defScope s_law, [], []⟩
def fn_0 : List He.DefD := [d_is_number, d_is_whole, d_is_tuple_of, d_is_tuple_up_to, d_is_stretch, d_can_be_hushed, d_can_be_gather, d_first_bad_part, d_refuse_bad_rules, d_refuse_bad_person, d_refuse_bad_moment, d_is_in_stretch, d_hushed_hours, d_judged_hours, d_first_free, d_hushed_ahead_of, d_is_hushed, d_free_from, d_hushed_between, d_law_begun, d_law_take, d_law_alike, d_law_told, d_law_all, d_law_stretches, d_law_rule, d_law_rules, d_law_hush, d_law_is_refused, d_law]
def fn : List He.DefD := fn_0
def fa_0 : List He.Fa := [.glo "is_number", .glo "is_whole", .glo "is_tuple_of", .glo "is_tuple_up_to", .glo "is_stretch", .glo "can_be_hushed", .glo "can_be_gather", .glo "first_bad_part", .glo "refuse_bad_rules", .glo "refuse_bad_person", .glo "refuse_bad_moment", .glo "is_in_stretch", .glo "hushed_hours", .glo "judged_hours", .glo "first_free", .glo "hushed_ahead_of", .glo "is_hushed", .glo "free_from", .glo "hushed_between", .glo "_law_begun", .glo "_law_take", .glo "_law_alike", .glo "_law_told", .glo "_law_all", .glo "_law_stretches", .glo "_law_rule", .glo "_law_rules", .glo "_law_hush", .glo "_law_is_refused", .glo "law"]
def fa_1 : List He.Fa := [.glo "NoticeError", .glo "BadRules", .glo "BadPerson", .glo "BadMoment", .glo "BadNotices", .glo "BadHears", .glo "BadDevice", .glo "BadBell", .glo "NotRinging", .glo "IsOff", .glo "BadText", .free "isinstance", .free "bool", .free "int", .free "tuple", .free "list", .free "len", .free "all", .free "any", .free "range", .free "min", .free "max", .free "sum", .free "str", .free "sorted", .free "enumerate", .free "zip", .free "dict", .free "set", .free "ValueError"]
def fa_2 : List He.Fa := [.exc "NoticeError", .exc "BadPerson", .exc "BadMoment", .exc "BadDevice", .exc "BadBell", .exc "NotRinging", .exc "IsOff", .int "MOST_PERSONS" (6), .int "MANY_PARTS" (5), .int "MOST_STRETCHES" (3), .int "LAST_HOUR" (23), .int "MOST_LEAST" (4), .int "MOST_GATHERED" (4), .int "LAST_KIND" (7), .int "MOST_SPAN" (12), .int "MOST_WAIT" (24), .int "LAST_MOMENT" (1000000), .int "NO_PART" (-1), .int "DAY" (24), .keep "NoticeError", .keep "BadRules", .keep "BadPerson", .keep "BadMoment", .keep "BadNotices", .keep "BadHears", .keep "BadDevice", .keep "BadBell", .keep "NotRinging", .keep "IsOff", .keep "BadText"]
def fa_3 : List He.Fa := [.exm "NoticeError" "NoticeError" true, .exm "BadRules" "NoticeError" true, .exm "BadPerson" "NoticeError" true, .exm "BadMoment" "NoticeError" true, .exm "BadNotices" "NoticeError" true, .exm "BadHears" "NoticeError" true, .exm "BadDevice" "NoticeError" true, .exm "BadBell" "NoticeError" true, .exm "NotRinging" "NoticeError" true, .exm "IsOff" "NoticeError" true, .exm "BadText" "NoticeError" true]
def fa : List He.Fa := fa_0 ++ fa_1 ++ fa_2 ++ fa_3
def tf : List He.Defn := [("_law_is_refused", none)]
def names_0 : List PySem.Str := ["NoticeError", "BadRules", "BadPerson", "BadMoment", "BadNotices", "BadHears", "BadDevice", "BadBell", "NotRinging", "IsOff", "BadText", "MOST_PERSONS", "MANY_PARTS", "MOST_STRETCHES", "LAST_HOUR", "MOST_LEAST", "MOST_GATHERED", "LAST_KIND", "MOST_SPAN", "MOST_WAIT", "LAST_MOMENT", "NO_PART", "is_number", "is_whole", "is_tuple_of", "is_tuple_up_to", "is_stretch", "can_be_hushed", "can_be_gather", "first_bad_part"]
def names_1 : List PySem.Str := ["refuse_bad_rules", "refuse_bad_person", "refuse_bad_moment", "DAY", "is_in_stretch", "hushed_hours", "judged_hours", "first_free", "hushed_ahead_of", "is_hushed", "free_from", "hushed_between", "_law_begun", "_law_take", "_law_alike", "_law_told", "_law_all", "_law_stretches", "_law_rule", "_law_rules", "_law_hush", "_law_is_refused"]
def names : List PySem.Str := names_0 ++ names_1
def exOne (K : PySem.W.Frag) (X : Str) (L : List (Str × Bool)) : Bool := He.eqO (PySem.W.findIn K (.ref (He.ga K X)) "__getattribute__") (some (some (.builtin "BaseException.__getattribute__"))) && (He.eqO (PySem.W.findIn K (.ref (He.ga K X)) "__getattr__") (some none) &&
  (decide (PySem.W.subIn K (.ref (He.ga K X)) (.type "BaseException") = some true) && (PySem.W.hasDictIn K (He.ga K X) && (He.eqO (PySem.W.findIn K (.ref (He.ga K X)) "__class__") (some (some (.builtin "object.__class__"))) && (He.eqO (PySem.W.specialIn K (.builtin "object.__class__") "__get__") (some (some (.builtin "getset_descriptor.__get__"))) &&
  (decide (PySem.W.takesIn K (.builtin "object.__class__") = some true) && (decide (PySem.W.mroIn K (He.ga K X) (.type "object") = some true) && (decide (PySem.W.kitOne K (.ref (He.ga K X)) (.type "ValueError") = some true) && L.all fun q => decide (PySem.W.kitOne K (.ref (He.ga K X)) (.ref (He.ga K q.1)) = some q.2)))))))))
theorem exOne_ok {K : PySem.W.Frag} {X : Str} {L : List (Str × Bool)} (h : exOne K X L = true) : ExcC K (He.ga K X) ∧ PySem.W.kitOne K (.ref (He.ga K X)) (.type "ValueError") = some true ∧ ∀ q ∈ L, PySem.W.kitOne K (.ref (He.ga K X)) (.ref (He.ga K q.1)) = some q.2 := by
  obtain ⟨h1, h⟩ := He.ba h
  obtain ⟨h2, h⟩ := He.ba h
  obtain ⟨h3, h⟩ := He.ba h
  obtain ⟨h4, h⟩ := He.ba h
  obtain ⟨h5, h⟩ := He.ba h
  obtain ⟨h6, h⟩ := He.ba h
  obtain ⟨h7, h⟩ := He.ba h
  obtain ⟨h8, h⟩ := He.ba h
  obtain ⟨h9, h⟩ := He.ba h
  exact ⟨⟨He.eqO_ok h1, He.eqO_ok h2, of_decide_eq_true h3, h4, He.eqO_ok h5, He.eqO_ok h6, of_decide_eq_true h7, of_decide_eq_true h8⟩, of_decide_eq_true h9, fun q hq => of_decide_eq_true (List.all_eq_true.mp h q hq)⟩
def kin_BadPerson : List (Str × Bool) := [("BadBell", false), ("BadDevice", false), ("BadHears", false), ("BadMoment", false), ("BadNotices", false), ("BadPerson", true), ("BadRules", false), ("BadText", false), ("IsOff", false), ("NotRinging", false)]
def kin_BadMoment : List (Str × Bool) := [("BadBell", false), ("BadDevice", false), ("BadHears", false), ("BadMoment", true), ("BadNotices", false), ("BadPerson", false), ("BadRules", false), ("BadText", false), ("IsOff", false), ("NotRinging", false)]
def exb (K : PySem.W.Frag) : Bool := exOne K "BadPerson" kin_BadPerson && exOne K "BadMoment" kin_BadMoment
abbrev R : PySem.W.OpenRow := PySem.W.OpenLaw.row PySem.Challenge.rw_hushnotice_k02_hours
abbrev hk : PySem.W.Hook := He.hookX 5 fa fn [] tf exb
def ob (s : PySem.W.SharedT) : He.AlX := He.obsX 5 fa fn [] tf exb (HandSHeadRun.getT s)
theorem ob_eq (s : PySem.W.SharedT) : ob s = hk.obs s.abs := He.obsX_eq (HandSHeadRun.getT_eq s)
theorem run (w : World) : HandSHeadRun.RunEq R (PySem.W.view R.prog [56]) hk ob 5000 names w := by
  intro os
  kernel_rfl
theorem tx_of {w : World} {h : Heap} {K : PySem.W.Frag} {mg : Str → Option Value} (X : K.In h) (G : h.Ns mainGlobals mg) (c : He.SaysX fa fn [] tf exb w h K) : Nonempty (Tx K mg) := by
  obtain ⟨f0, F0⟩ := c.t.d.def_ 0 (d := d_is_number) rfl
  obtain ⟨f1, F1⟩ := c.t.d.def_ 1 (d := d_is_whole) rfl
  obtain ⟨f2, F2⟩ := c.t.d.def_ 2 (d := d_is_tuple_of) rfl
  obtain ⟨f3, F3⟩ := c.t.d.def_ 3 (d := d_is_tuple_up_to) rfl
  obtain ⟨f4, F4⟩ := c.t.d.def_ 4 (d := d_is_stretch) rfl
  obtain ⟨f5, F5⟩ := c.t.d.def_ 5 (d := d_can_be_hushed) rfl
  obtain ⟨f6, F6⟩ := c.t.d.def_ 6 (d := d_can_be_gather) rfl
  obtain ⟨f7, F7⟩ := c.t.d.def_ 7 (d := d_first_bad_part) rfl
  obtain ⟨f8, F8⟩ := c.t.d.def_ 8 (d := d_refuse_bad_rules) rfl
  obtain ⟨f9, F9⟩ := c.t.d.def_ 9 (d := d_refuse_bad_person) rfl
  obtain ⟨f10, F10⟩ := c.t.d.def_ 10 (d := d_refuse_bad_moment) rfl
  obtain ⟨f11, F11⟩ := c.t.d.def_ 11 (d := d_is_in_stretch) rfl
  obtain ⟨f12, F12⟩ := c.t.d.def_ 12 (d := d_hushed_hours) rfl
  obtain ⟨f13, F13⟩ := c.t.d.def_ 13 (d := d_judged_hours) rfl
  obtain ⟨f14, F14⟩ := c.t.d.def_ 14 (d := d_first_free) rfl
  obtain ⟨f15, F15⟩ := c.t.d.def_ 15 (d := d_hushed_ahead_of) rfl
  obtain ⟨f16, F16⟩ := c.t.d.def_ 16 (d := d_is_hushed) rfl
  obtain ⟨f17, F17⟩ := c.t.d.def_ 17 (d := d_free_from) rfl
  obtain ⟨f18, F18⟩ := c.t.d.def_ 18 (d := d_hushed_between) rfl
  obtain ⟨f19, F19⟩ := c.t.d.def_ 19 (d := d_law_begun) rfl
  obtain ⟨f20, F20⟩ := c.t.d.def_ 20 (d := d_law_take) rfl
  obtain ⟨f21, F21⟩ := c.t.d.def_ 21 (d := d_law_alike) rfl
  obtain ⟨f22, F22⟩ := c.t.d.def_ 22 (d := d_law_told) rfl
  obtain ⟨f23, F23⟩ := c.t.d.def_ 23 (d := d_law_all) rfl
  obtain ⟨f24, F24⟩ := c.t.d.def_ 24 (d := d_law_stretches) rfl
  obtain ⟨f25, F25⟩ := c.t.d.def_ 25 (d := d_law_rule) rfl
  obtain ⟨f26, F26⟩ := c.t.d.def_ 26 (d := d_law_rules) rfl
  obtain ⟨f27, F27⟩ := c.t.d.def_ 27 (d := d_law_hush) rfl
  obtain ⟨f28, F28⟩ := c.t.d.def_ 28 (d := d_law_is_refused) rfl
  obtain ⟨f29, F29⟩ := c.t.d.def_ 29 (d := d_law) rfl
  exact ⟨{
    fd_is_number := f0
    F_is_number := F0
    fd_is_whole := f1
    F_is_whole := F1
    fd_is_tuple_of := f2
    F_is_tuple_of := F2
    fd_is_tuple_up_to := f3
    F_is_tuple_up_to := F3
    fd_is_stretch := f4
    F_is_stretch := F4
    fd_can_be_hushed := f5
    F_can_be_hushed := F5
    fd_can_be_gather := f6
    F_can_be_gather := F6
    fd_first_bad_part := f7
    F_first_bad_part := F7
    fd_refuse_bad_rules := f8
    F_refuse_bad_rules := F8
    fd_refuse_bad_person := f9
    F_refuse_bad_person := F9
    fd_refuse_bad_moment := f10
    F_refuse_bad_moment := F10
    fd_is_in_stretch := f11
    F_is_in_stretch := F11
    fd_hushed_hours := f12
    F_hushed_hours := F12
    fd_judged_hours := f13
    F_judged_hours := F13
    fd_first_free := f14
    F_first_free := F14
    fd_hushed_ahead_of := f15
    F_hushed_ahead_of := F15
    fd_is_hushed := f16
    F_is_hushed := F16
    fd_free_from := f17
    F_free_from := F17
    fd_hushed_between := f18
    F_hushed_between := F18
    fd__law_begun := f19
    F__law_begun := F19
    fd__law_take := f20
    F__law_take := F20
    fd__law_alike := f21
    F__law_alike := F21
    fd__law_told := f22
    F__law_told := F22
    fd__law_all := f23
    F__law_all := F23
    fd__law_stretches := f24
    F__law_stretches := F24
    fd__law_rule := f25
    F__law_rule := F25
    fd__law_rules := f26
    F__law_rules := F26
    fd__law_hush := f27
    F__law_hush := F27
    fd__law_is_refused := f28
    F__law_is_refused := F28
    fd_law := f29
    F_law := F29
    g_is_number := He.glo_ok X G (c.t.d.fact 0 (f := .glo "is_number") rfl)
    k_is_number := F0.kp
    g_is_whole := He.glo_ok X G (c.t.d.fact 1 (f := .glo "is_whole") rfl)
    k_is_whole := F1.kp
    g_is_tuple_of := He.glo_ok X G (c.t.d.fact 2 (f := .glo "is_tuple_of") rfl)
    k_is_tuple_of := F2.kp
    g_is_tuple_up_to := He.glo_ok X G (c.t.d.fact 3 (f := .glo "is_tuple_up_to") rfl)
    k_is_tuple_up_to := F3.kp
    g_is_stretch := He.glo_ok X G (c.t.d.fact 4 (f := .glo "is_stretch") rfl)
    k_is_stretch := F4.kp
    g_can_be_hushed := He.glo_ok X G (c.t.d.fact 5 (f := .glo "can_be_hushed") rfl)
    k_can_be_hushed := F5.kp
    g_can_be_gather := He.glo_ok X G (c.t.d.fact 6 (f := .glo "can_be_gather") rfl)
    k_can_be_gather := F6.kp
    g_first_bad_part := He.glo_ok X G (c.t.d.fact 7 (f := .glo "first_bad_part") rfl)
    k_first_bad_part := F7.kp
    g_refuse_bad_rules := He.glo_ok X G (c.t.d.fact 8 (f := .glo "refuse_bad_rules") rfl)
    k_refuse_bad_rules := F8.kp
    g_refuse_bad_person := He.glo_ok X G (c.t.d.fact 9 (f := .glo "refuse_bad_person") rfl)
    k_refuse_bad_person := F9.kp
    g_refuse_bad_moment := He.glo_ok X G (c.t.d.fact 10 (f := .glo "refuse_bad_moment") rfl)
    k_refuse_bad_moment := F10.kp
    g_is_in_stretch := He.glo_ok X G (c.t.d.fact 11 (f := .glo "is_in_stretch") rfl)
    k_is_in_stretch := F11.kp
    g_hushed_hours := He.glo_ok X G (c.t.d.fact 12 (f := .glo "hushed_hours") rfl)
    k_hushed_hours := F12.kp
    g_judged_hours := He.glo_ok X G (c.t.d.fact 13 (f := .glo "judged_hours") rfl)
    k_judged_hours := F13.kp
    g_first_free := He.glo_ok X G (c.t.d.fact 14 (f := .glo "first_free") rfl)
    k_first_free := F14.kp
    g_hushed_ahead_of := He.glo_ok X G (c.t.d.fact 15 (f := .glo "hushed_ahead_of") rfl)
    k_hushed_ahead_of := F15.kp
    g_is_hushed := He.glo_ok X G (c.t.d.fact 16 (f := .glo "is_hushed") rfl)
    k_is_hushed := F16.kp
    g_free_from := He.glo_ok X G (c.t.d.fact 17 (f := .glo "free_from") rfl)
    k_free_from := F17.kp
    g_hushed_between := He.glo_ok X G (c.t.d.fact 18 (f := .glo "hushed_between") rfl)
    k_hushed_between := F18.kp
    g__law_begun := He.glo_ok X G (c.t.d.fact 19 (f := .glo "_law_begun") rfl)
    k__law_begun := F19.kp
    g__law_take := He.glo_ok X G (c.t.d.fact 20 (f := .glo "_law_take") rfl)
    k__law_take := F20.kp
    g__law_alike := He.glo_ok X G (c.t.d.fact 21 (f := .glo "_law_alike") rfl)
    k__law_alike := F21.kp
    g__law_told := He.glo_ok X G (c.t.d.fact 22 (f := .glo "_law_told") rfl)
    k__law_told := F22.kp
    g__law_all := He.glo_ok X G (c.t.d.fact 23 (f := .glo "_law_all") rfl)
    k__law_all := F23.kp
    g__law_stretches := He.glo_ok X G (c.t.d.fact 24 (f := .glo "_law_stretches") rfl)
    k__law_stretches := F24.kp
    g__law_rule := He.glo_ok X G (c.t.d.fact 25 (f := .glo "_law_rule") rfl)
    k__law_rule := F25.kp
    g__law_rules := He.glo_ok X G (c.t.d.fact 26 (f := .glo "_law_rules") rfl)
    k__law_rules := F26.kp
    g__law_hush := He.glo_ok X G (c.t.d.fact 27 (f := .glo "_law_hush") rfl)
    k__law_hush := F27.kp
    g__law_is_refused := He.glo_ok X G (c.t.d.fact 28 (f := .glo "_law_is_refused") rfl)
    k__law_is_refused := F28.kp
    g_law := He.glo_ok X G (c.t.d.fact 29 (f := .glo "law") rfl)
    k_law := F29.kp
    g_NoticeError := He.glo_ok X G (c.t.d.fact 30 (f := .glo "NoticeError") rfl)
    k_NoticeError := He.keep_ok (c.t.d.fact 79 (f := .keep "NoticeError") rfl)
    g_BadRules := He.glo_ok X G (c.t.d.fact 31 (f := .glo "BadRules") rfl)
    k_BadRules := He.keep_ok (c.t.d.fact 80 (f := .keep "BadRules") rfl)
    g_BadPerson := He.glo_ok X G (c.t.d.fact 32 (f := .glo "BadPerson") rfl)
    k_BadPerson := He.keep_ok (c.t.d.fact 81 (f := .keep "BadPerson") rfl)
    g_BadMoment := He.glo_ok X G (c.t.d.fact 33 (f := .glo "BadMoment") rfl)
    k_BadMoment := He.keep_ok (c.t.d.fact 82 (f := .keep "BadMoment") rfl)
    g_BadNotices := He.glo_ok X G (c.t.d.fact 34 (f := .glo "BadNotices") rfl)
    k_BadNotices := He.keep_ok (c.t.d.fact 83 (f := .keep "BadNotices") rfl)
    g_BadHears := He.glo_ok X G (c.t.d.fact 35 (f := .glo "BadHears") rfl)
    k_BadHears := He.keep_ok (c.t.d.fact 84 (f := .keep "BadHears") rfl)
    g_BadDevice := He.glo_ok X G (c.t.d.fact 36 (f := .glo "BadDevice") rfl)
    k_BadDevice := He.keep_ok (c.t.d.fact 85 (f := .keep "BadDevice") rfl)
    g_BadBell := He.glo_ok X G (c.t.d.fact 37 (f := .glo "BadBell") rfl)
    k_BadBell := He.keep_ok (c.t.d.fact 86 (f := .keep "BadBell") rfl)
    g_NotRinging := He.glo_ok X G (c.t.d.fact 38 (f := .glo "NotRinging") rfl)
    k_NotRinging := He.keep_ok (c.t.d.fact 87 (f := .keep "NotRinging") rfl)
    g_IsOff := He.glo_ok X G (c.t.d.fact 39 (f := .glo "IsOff") rfl)
    k_IsOff := He.keep_ok (c.t.d.fact 88 (f := .keep "IsOff") rfl)
    g_BadText := He.glo_ok X G (c.t.d.fact 40 (f := .glo "BadText") rfl)
    k_BadText := He.keep_ok (c.t.d.fact 89 (f := .keep "BadText") rfl)
    x_NoticeError := (He.exc_ok (c.t.d.fact 60 (f := .exc "NoticeError") rfl)).1
    e_NoticeError := (He.exc_ok (c.t.d.fact 60 (f := .exc "NoticeError") rfl)).2.2.1
    t_NoticeError := (He.exc_ok (c.t.d.fact 60 (f := .exc "NoticeError") rfl)).2.2.2
    x_BadPerson := (He.exc_ok (c.t.d.fact 61 (f := .exc "BadPerson") rfl)).1
    e_BadPerson := (He.exc_ok (c.t.d.fact 61 (f := .exc "BadPerson") rfl)).2.2.1
    t_BadPerson := (He.exc_ok (c.t.d.fact 61 (f := .exc "BadPerson") rfl)).2.2.2
    x_BadMoment := (He.exc_ok (c.t.d.fact 62 (f := .exc "BadMoment") rfl)).1
    e_BadMoment := (He.exc_ok (c.t.d.fact 62 (f := .exc "BadMoment") rfl)).2.2.1
    t_BadMoment := (He.exc_ok (c.t.d.fact 62 (f := .exc "BadMoment") rfl)).2.2.2
    x_BadDevice := (He.exc_ok (c.t.d.fact 63 (f := .exc "BadDevice") rfl)).1
    e_BadDevice := (He.exc_ok (c.t.d.fact 63 (f := .exc "BadDevice") rfl)).2.2.1
    t_BadDevice := (He.exc_ok (c.t.d.fact 63 (f := .exc "BadDevice") rfl)).2.2.2
    x_BadBell := (He.exc_ok (c.t.d.fact 64 (f := .exc "BadBell") rfl)).1
    e_BadBell := (He.exc_ok (c.t.d.fact 64 (f := .exc "BadBell") rfl)).2.2.1
    t_BadBell := (He.exc_ok (c.t.d.fact 64 (f := .exc "BadBell") rfl)).2.2.2
    x_NotRinging := (He.exc_ok (c.t.d.fact 65 (f := .exc "NotRinging") rfl)).1
    e_NotRinging := (He.exc_ok (c.t.d.fact 65 (f := .exc "NotRinging") rfl)).2.2.1
    t_NotRinging := (He.exc_ok (c.t.d.fact 65 (f := .exc "NotRinging") rfl)).2.2.2
    x_IsOff := (He.exc_ok (c.t.d.fact 66 (f := .exc "IsOff") rfl)).1
    e_IsOff := (He.exc_ok (c.t.d.fact 66 (f := .exc "IsOff") rfl)).2.2.1
    t_IsOff := (He.exc_ok (c.t.d.fact 66 (f := .exc "IsOff") rfl)).2.2.2
    i_MOST_PERSONS := He.int_ok X G (c.t.d.fact 67 (f := .int "MOST_PERSONS" (6)) rfl)
    i_MANY_PARTS := He.int_ok X G (c.t.d.fact 68 (f := .int "MANY_PARTS" (5)) rfl)
    i_MOST_STRETCHES := He.int_ok X G (c.t.d.fact 69 (f := .int "MOST_STRETCHES" (3)) rfl)
    i_LAST_HOUR := He.int_ok X G (c.t.d.fact 70 (f := .int "LAST_HOUR" (23)) rfl)
    i_MOST_LEAST := He.int_ok X G (c.t.d.fact 71 (f := .int "MOST_LEAST" (4)) rfl)
    i_MOST_GATHERED := He.int_ok X G (c.t.d.fact 72 (f := .int "MOST_GATHERED" (4)) rfl)
    i_LAST_KIND := He.int_ok X G (c.t.d.fact 73 (f := .int "LAST_KIND" (7)) rfl)
    i_MOST_SPAN := He.int_ok X G (c.t.d.fact 74 (f := .int "MOST_SPAN" (12)) rfl)
    i_MOST_WAIT := He.int_ok X G (c.t.d.fact 75 (f := .int "MOST_WAIT" (24)) rfl)
    i_LAST_MOMENT := He.int_ok X G (c.t.d.fact 76 (f := .int "LAST_MOMENT" (1000000)) rfl)
    i_NO_PART := He.int_ok X G (c.t.d.fact 77 (f := .int "NO_PART" (-1)) rfl)
    i_DAY := He.int_ok X G (c.t.d.fact 78 (f := .int "DAY" (24)) rfl)
    z_isinstance := He.free_ok X G (c.t.d.fact 41 (f := .free "isinstance") rfl)
    z_bool := He.free_ok X G (c.t.d.fact 42 (f := .free "bool") rfl)
    z_int := He.free_ok X G (c.t.d.fact 43 (f := .free "int") rfl)
    z_tuple := He.free_ok X G (c.t.d.fact 44 (f := .free "tuple") rfl)
    z_list := He.free_ok X G (c.t.d.fact 45 (f := .free "list") rfl)
    z_len := He.free_ok X G (c.t.d.fact 46 (f := .free "len") rfl)
    z_all := He.free_ok X G (c.t.d.fact 47 (f := .free "all") rfl)
    z_any := He.free_ok X G (c.t.d.fact 48 (f := .free "any") rfl)
    z_range := He.free_ok X G (c.t.d.fact 49 (f := .free "range") rfl)
    z_min := He.free_ok X G (c.t.d.fact 50 (f := .free "min") rfl)
    z_max := He.free_ok X G (c.t.d.fact 51 (f := .free "max") rfl)
    z_sum := He.free_ok X G (c.t.d.fact 52 (f := .free "sum") rfl)
    z_str := He.free_ok X G (c.t.d.fact 53 (f := .free "str") rfl)
    z_sorted := He.free_ok X G (c.t.d.fact 54 (f := .free "sorted") rfl)
    z_enumerate := He.free_ok X G (c.t.d.fact 55 (f := .free "enumerate") rfl)
    z_zip := He.free_ok X G (c.t.d.fact 56 (f := .free "zip") rfl)
    z_dict := He.free_ok X G (c.t.d.fact 57 (f := .free "dict") rfl)
    z_set := He.free_ok X G (c.t.d.fact 58 (f := .free "set") rfl)
    z_ValueError := He.free_ok X G (c.t.d.fact 59 (f := .free "ValueError") rfl) }⟩
theorem kd_BadPerson {w : World} {h : Heap} {K : PySem.W.Frag} (c : He.SaysX fa fn [] tf exb w h K) : Kd_BadPerson K := by
  obtain ⟨h1, h2, h3⟩ := exOne_ok ((He.ba c.more).1)
  exact ⟨h1, He.exm_ok (c.t.d.fact 92 (f := .exm "BadPerson" "NoticeError" true) rfl), h2, h3 ("BadBell", false) (List.mem_of_getElem? (i := 0) rfl), h3 ("BadDevice", false) (List.mem_of_getElem? (i := 1) rfl), h3 ("BadHears", false) (List.mem_of_getElem? (i := 2) rfl), h3 ("BadMoment", false) (List.mem_of_getElem? (i := 3) rfl), h3 ("BadNotices", false) (List.mem_of_getElem? (i := 4) rfl), h3 ("BadPerson", true) (List.mem_of_getElem? (i := 5) rfl), h3 ("BadRules", false) (List.mem_of_getElem? (i := 6) rfl), h3 ("BadText", false) (List.mem_of_getElem? (i := 7) rfl), h3 ("IsOff", false) (List.mem_of_getElem? (i := 8) rfl), h3 ("NotRinging", false) (List.mem_of_getElem? (i := 9) rfl)⟩
theorem kd_BadMoment {w : World} {h : Heap} {K : PySem.W.Frag} (c : He.SaysX fa fn [] tf exb w h K) : Kd_BadMoment K := by
  obtain ⟨h1, h2, h3⟩ := exOne_ok ((He.ba c.more).2)
  exact ⟨h1, He.exm_ok (c.t.d.fact 93 (f := .exm "BadMoment" "NoticeError" true) rfl), h2, h3 ("BadBell", false) (List.mem_of_getElem? (i := 0) rfl), h3 ("BadDevice", false) (List.mem_of_getElem? (i := 1) rfl), h3 ("BadHears", false) (List.mem_of_getElem? (i := 2) rfl), h3 ("BadMoment", true) (List.mem_of_getElem? (i := 3) rfl), h3 ("BadNotices", false) (List.mem_of_getElem? (i := 4) rfl), h3 ("BadPerson", false) (List.mem_of_getElem? (i := 5) rfl), h3 ("BadRules", false) (List.mem_of_getElem? (i := 6) rfl), h3 ("BadText", false) (List.mem_of_getElem? (i := 7) rfl), h3 ("IsOff", false) (List.mem_of_getElem? (i := 8) rfl), h3 ("NotRinging", false) (List.mem_of_getElem? (i := 9) rfl)⟩
end Hn
open PySem PySem.W PySem.Calls PyProof.Rows
theorem PySem.Challenge.cw_hushnotice_k02_hours_holds : PySem.Challenge.rw_hushnotice_k02_hours.Holds := by
  w_on; o_law
  refine HandSHeadRun.head_any (r := OpenLaw.row PySem.Challenge.rw_hushnotice_k02_hours) (q := view (OpenLaw.row PySem.Challenge.rw_hushnotice_k02_hours).prog [56]) (H := Hn.hk) (ob := Hn.ob) (M := 5000) (loose := Hn.names) (d := HandSHeadRun.topDef (OpenLaw.row PySem.Challenge.rw_hushnotice_k02_hours).prog 56) (kwd := []) Hn.ob_eq
    (by kernel_rfl) (fun s => by kernel_rfl) Hn.run (by kernel_rfl) (by kernel_rfl) (by kernel_rfl) (by rfl) (by first | assumption | decide +kernel) (by decide +kernel) ⟨rfl, rfl, rfl, rfl, rfl, by decide +kernel⟩ ?hw ?hc
  case hw => w_witness2
  case hc =>
    refine LamX.walk_ofTsE (l := PySem.Challenge.rw_hushnotice_k02_hours) (n := 63) (k := 13) (CX := fun w => L2.CX PySem.Challenge.rw_hushnotice_k02_hours.prog w) (x := "_law_script") rfl (by decide) rfl ⟨rfl, by decide, by decide⟩ (fun w mg fa h hY hns hmg => ?_) (fun w H s e s' hx => ?_)
    · obtain ⟨K, X, c⟩ := hY
      obtain ⟨T⟩ := Hn.tx_of X hns c
      have ef : fa = He.ga K "law" := by
        have z : mg "law" = some (.ref fa) := hmg
        rw [T.g_law] at z
        cases z
        rfl
      subst ef
      refine ⟨K, X, T.fd_law, Hn.tf.map fun p => He.cT K p, Sy.lift K (Hn.spLaw (He.cT K ("_law_is_refused", none)).2 Hn.nm0), fun p hp => ?_, fun p hp => ?_, fun p hp => ?_, fun s u => ?_, fun H a ns hl hb ht hq => ?_, fun base XB GB TB => ?_⟩
      · obtain ⟨q, hq, rfl⟩ := List.mem_map.mp hp
        exact c.empty q hq
      · obtain ⟨q, hq, rfl⟩ := List.mem_map.mp hp
        exact c.out q hq
      · obtain ⟨q, hq, rfl⟩ := List.mem_map.mp hp
        exact PySem.W.codeHd_of_K X (c.hd q hq)
      · obtain ⟨oc, od, dV, kV, doc, pm, an, cdv, ct, osl, e, lk, hcd, hD, hK⟩ := T.F_law.ex
        rw [e]
        rcases hD with ⟨_, rfl⟩ | ⟨n, _⟩
        · exact .of_eq rfl
        · exact absurd rfl n
      · have hmem : He.cT K ("_law_is_refused", none) ∈ Hn.tf.map fun p => He.cT K p := List.mem_map.mpr ⟨_, List.mem_singleton.mpr rfl, rfl⟩
        have h0 := ht _ hmem
        refine ⟨fun y => match H y with | some (.lst xs) => some (.lst xs) | some (.frz o u) => some (.frz o u) | _ => none, [.lst (ns.map .int)], fun b => if b = (He.cT K ("_law_is_refused", none)).2 then some (.tab Hn.nm0) else none, fun _ _ => False, fun v _ => v = .bl true, ⟨fun y o e => ?_, fun b u hu => ?_⟩, .cons (.lst (vs := ns.map L2.V.int) ?_ (Sy.vrs_of_ints ns)) .nil, ⟨ns, rfl, hl, by simp, fun _ => rfl⟩, fun x d F' H' m' _ _ _ z => z.elim, fun v F' H' sv m' _ _ rv e => ?_⟩
        · show H y = some o
          have e : (match H y with | some (.lst xs) => some (.lst xs) | some (.frz o u) => some (.frz o u) | _ => none : Option L2.HO) = some o := e
          split at e
          · rename_i q
            rw [q, e]
          · rename_i q
            rw [q, e]
          · cases e
        · have hu : (if b = (He.cT K ("_law_is_refused", none)).2 then some (Sy.MO.tab Hn.nm0) else none) = some u := hu
          split at hu
          · rename_i e
            cases hu
            refine ⟨?_, ?_⟩
            · show (match H b with | some (.lst xs) => some (.lst xs) | some (.frz o u) => some (.frz o u) | _ => none : Option L2.HO) = none
              rw [e, h0]
            · rw [e]
              exact .nil h0
          · cases hu
        · rcases hq with (hq | ⟨o, hq⟩) | hq
          · refine .inl (.inl ?_)
            show (match H a with | some (.lst xs) => some (.lst xs) | some (.frz o u) => some (.frz o u) | _ => none : Option L2.HO) = _
            rw [hq]
          · refine .inl (.inr ⟨o, ?_⟩)
            show (match H a with | some (.lst xs) => some (.lst xs) | some (.frz o u) => some (.frz o u) | _ => none : Option L2.HO) = _
            rw [hq]
          · exact .inr hq
        · subst e
          cases rv
          rfl
      · exact Hn.ok_law T (Hn.ok_law_is_refused T (Hn.kd_BadPerson c) (Hn.kd_BadMoment c) (TB _ (List.mem_map.mpr ⟨_, List.mem_singleton.mpr rfl, rfl⟩)))
    · obtain ⟨_, _, _, _, _, _, _, _, _, _, _, _, z⟩ := hx
      exact z

