import PyProof.Rows.All
import Wide.All
import OpenK.AllK
import Wide.FinOn
import HandS.Lambda
import HandS.Nested
import KE.KDflt
import HandS.ForMost
import HandS.Exc
import HandS.ExcOwn
import HandS.TryOnly
import HandS.WordsExc
import HandS.IsInst
import HandS.Defaults
import HandS.TupAny
import HandS.Wide
import HandS.ExcIs
import PyProof.SumAnyB
import PyProof.Rows.SumGenD
import HandS.Style
import HandS.MakeKwOnly
import HandS.More
import HandS.SetFor
import HandS.TupSets
import HandS.Strs
import HandS.Deep
import HandS.DictTup
import HandS.Conv
import KE.KDictWalk
import HandS.NamedTupSort
import HandS.SortKw
import HandS.SortRule
import HandS.Keys
import KE.GoesEnum
import KE.GoesMore
import KE.KDictPairs
import HandS.HeadHook2
import KE.DataMinMax
import HandS.Zip
import HandS.Star
import HandS.Text
import HandS.HeadHook3
import HandS.HeadHook4
import KE.KUnpackStar
import HandS.HeadHook1
import PySem.Challenge.RW_hushnotice_k16_rules_written
import KE.KStateDown
import Lean
import HandS.Base
import HandS.Call
import HandS.Ends
import HandS.Words
import HandS.Head0
import HandS.Head1
import HandS.Head2
import HandS.HeadEnd
import HandS.HeadWalk
set_option Elab.async false
set_option linter.all false
set_option maxRecDepth 100000
set_option maxHeartbeats 4000000
/-! Lambdas as values: made, kept in lists, called later by others. -/
namespace Lm
open PySem PySem.Spec PyProof.Rows L2 LamX NdefX
/-- the function data of a lambda: F its words (no statements), e its expression, dV its defaults -/
abbrev lfd (F : NF) (e : Expr) (dV doc pm ctv : Value) : FuncData := PySem.W.kdv_fn F.name F.qual F.params (.expr e) F.scope F.cl dV doc pm (.ref F.c) ctv
def LamO (f : Addr) (F : NF) (e : Expr) (dV : Value) : HO := .ext fun h => ∃ (od : Option Addr) (sl : Array (Option Value)) (doc pm ctv : Value), h.get? f = some (⟨.type "function", od, .func (lfd F e dV doc pm ctv), sl⟩ : Obj)
section
variable {X : Cx} {pins : List (Addr × Obj)} {σ : L2.St} {H : Hp} {s : Shared}
/-- the lambda's words -/
abbrev NF.lam (X : Cx) (params : Arguments) (scope : Scope) (c' : Addr) : NF := ⟨"<lambda>", X.env.qual ++ "<lambda>", params, [], scope, cloFrom X.env.cells scope.names [], c'⟩
/-- lambda: body -/
def tLam0 (P : Addr) (nm : Nat → Nat → Str) (mk : Addr → NF) (body : Expr) : TE := fun σ H Q => TabN H P nm ∧ ∀ (f c' : Addr) (H1 : Hp), (∀ b o, b ≠ P → H b = some o → H1 b = some o) → (∀ b, H1 b = Option.none → H b = Option.none) → TabN H1 P nm → H f = none → H1 f = some (LamO f (mk c') body .none) → H1 c' = some (CodeO c' (mk c').qual) →
  (∀ b o, H1 b = some o → H b = none → b = f ∨ b = c') → Q (.ref f) H1
/-- lambda a=0: body; the defaults' tuple stands at T -/
def tLam1 (P : Addr) (nm : Nat → Nat → Str) (mk : Addr → NF) (body : Expr) (i : Int) : TE := fun σ H Q => TabN H P nm ∧ ∀ (f c' T : Addr) (H1 : Hp), (∀ b o, b ≠ P → H b = some o → H1 b = some o) → (∀ b, H1 b = Option.none → H b = Option.none) → TabN H1 P nm → H f = none → H T = none → H1 T = some (.tup [.int i]) → H1 f = some (LamO f (mk c') body (.ref T)) → H1 c' = some (CodeO c' (mk c').qual) →
  (∀ b o, H1 b = some o → H b = none → b = f ∨ b = c' ∨ b = T) → Q (.ref f) H1
end
/-! ### calls -/
section
variable {CX : CXT} {P : Program} {w : World} {K : PySem.W.Frag} {mg : Str → Option Value} {base : Heap} {N ps fr : List Str} {F : NF} {e : Expr} {dV : Value} {f : Addr} {k : Nat} {tb : List (Option V) → XK → TE}
/-- the lambda at f, called without arguments, at every state where its cells hold ws -/
def LOk (CX : CXT) (P : Program) (w : World) (K : PySem.W.Frag) (mg : Str → Option Value) (base : Heap) (k : Nat) (f : Addr) (F : NF) (e : Expr) (dV : Value) (fr : List Str) (ws : List (Option V)) (Z : Hp → Prop) (sp : Hp → VK → XK → Prop) : Prop :=
  ∀ (A : Around) (outer : List Env) (s : Shared) (H : Hp) (Q : VK) (E : XK), Room k A → Env0 P w K mg base A outer s H → H f = some (LamO f F e dV) → H F.c = some (CodeO F.c F.qual) → Z H → CellsAt F.cl fr ws s.heap H → sp H Q E →
    codeAny (model P w) A (.call (.ref f) ⟨[], []⟩) (CR CX outer P w H s Q E) s
end
end Lm

set_option Elab.async false
set_option linter.all false
set_option maxRecDepth 100000
set_option maxHeartbeats 4000000
/-! Symbolic values and a symbolic memory: tuples are values, lists, dicts, instances are owned cells of the memory; F (hidden) is the part of the abstract heap that no longer changes. -/
namespace Sy
open PySem PySem.Spec PyProof.Rows L2
inductive SV where
  | non | bl (b : Bool) | int (i : Int) | str (x : Str) | tup (xs : List SV) | lst (xs : List SV) | ref (a : Addr) | ty (n : String) | kt (k : List Key) | ptup (xs : List SV)
inductive MO where
  | lst (xs : List SV) | dK (kvs : List (Key × SV)) | dT (kvs : List (List Key × SV)) | ins (C : Addr) (fs : List (Str × SV)) | box (c : Addr) | bxi | tab (nm : Nat → Nat → Str) | lam (mk : Addr → NdefX.NF) (e : Expr) (d : Option Int) | pred (ψ : Hp → Hp → Prop) | xd (fs : List (Str × SV)) | raw (o : HO) | lk (o : HO) (kvs : List (List Key × SV))
abbrev Mem := Addr → Option MO
def up (m : Mem) (a : Addr) (o : MO) : Mem := fun b => if b = a then some o else m b
theorem up_same {m : Mem} {a : Addr} {o : MO} : up m a o a = some o := by unfold up; rw [if_pos rfl]
theorem up_ne {m : Mem} {a b : Addr} {o : MO} (h : b ≠ a) : up m a o b = m b := by unfold up; rw [if_neg h]
theorem up_up {m : Mem} {a : Addr} {o u : MO} : up (up m a o) a u = up m a u := by
  funext b; unfold up; split <;> rfl
theorem up_comm {m : Mem} {a b : Addr} {o u : MO} (h : a ≠ b) : up (up m a o) b u = up (up m b u) a o := by
  funext c; unfold up
  by_cases h1 : c = b
  · subst h1; rw [if_pos rfl, if_neg (Ne.symm h), if_pos rfl]
  · rw [if_neg h1]
    by_cases h2 : c = a
    · rw [if_pos h2, if_pos h2]
    · rw [if_neg h2, if_neg h2, if_neg h1]
theorem up_id {m : Mem} {a : Addr} {o : MO} (h : m a = some o) : up m a o = m := by
  funext b; unfold up; split
  · next e => rw [e, h]
  · rfl
theorem mne {m : Mem} {a b : Addr} {o : MO} (h : m a = some o) (n : m b = none) : a ≠ b := fun e => by rw [e, n] at h; cases h
def Le (a m : Mem) : Prop := ∀ b o, a b = some o → m b = some o
theorem Le.refl (m : Mem) : Le m m := fun _ _ h => h
theorem Le.trans {a b c : Mem} (h : Le a b) (k : Le b c) : Le a c := fun x o e => k x o (h x o e)
theorem Le.new {a m : Mem} {p : Addr} {o : MO} (h : Le a m) (n : m p = none) : Le a (up m p o) := fun x u e => by
  have e2 := h x u e
  rw [up_ne (mne e2 n)]
  exact e2
theorem Le.put {a m : Mem} {p : Addr} {o : MO} (h : Le a m) : Le (up a p o) (up m p o) := fun x u e => by
  by_cases q : x = p
  · subst q; rw [up_same] at e ⊢; exact e
  · rw [up_ne q] at e ⊢; exact h x u e
theorem Le.none {a m : Mem} {p : Addr} (h : Le a m) (n : m p = none) : a p = none := by
  cases q : a p with
  | none => rfl
  | some o => rw [h p o q] at n; cases n
inductive Fg (P : Mem → Prop) (m : Mem) : Prop where
  | mk (a : Mem) (l : Le a m) (h : P a) : Fg P m
theorem Fg.of {P : Mem → Prop} {m : Mem} (h : P m) : Fg P m := ⟨m, .refl m, h⟩
/-- frozen parts -/
def Sub (F H : Hp) : Prop := ∀ a o, F a = some o → H a = some o
theorem Sub.refl (H : Hp) : Sub H H := fun _ _ h => h
theorem Sub.trans {F G H : Hp} (a : Sub F G) (b : Sub G H) : Sub F H := fun x o h => b x o (a x o h)
theorem Sub.gone {F H : Hp} (e : Sub F H) {p : Addr} (h : H p = none) : F p = none := by
  cases q : F p with
  | none => rfl
  | some o => rw [e p o q] at h; cases h
theorem Sub.new {F : Hp} {p : Addr} {o : HO} (h : F p = none) : Sub F (upd F p o) := fun a u e => by
  rw [upd_ne (ne_of_none e h)]; exact e
theorem Sub.upd2 {F H : Hp} {p : Addr} {o : HO} (e : Sub F H) : Sub (upd F p o) (upd H p o) := fun a u h => by
  by_cases ha : a = p
  · subst ha; rw [upd_same] at h ⊢; exact h
  · rw [upd_ne ha] at h ⊢; exact e a u h
theorem Sub.free {F H : Hp} {p : Addr} {o : HO} (e : Sub F H) (h : F p = none) : Sub F (upd H p o) := fun a u ha => by
  rw [upd_ne (ne_of_none ha h)]; exact e a u ha
theorem sql_sub {K : PySem.W.Frag} {F H : Hp} {a : Addr} {xs : List V} (e : Sub F H) (h : SqL K F a xs) : SqL K H a xs := by
  rcases h with (h | ⟨o, h⟩) | h
  · exact .inl (.inl (e _ _ h))
  · exact .inl (.inr ⟨o, e _ _ h⟩)
  · exact .inr h
theorem sqt_sub {K : PySem.W.Frag} {F H : Hp} {a : Addr} {xs : List V} (e : Sub F H) (h : SqT K F a xs) : SqT K H a xs := by
  rcases h with (h | ⟨o, h⟩) | h
  · exact .inl (.inl (e _ _ h))
  · exact .inl (.inr ⟨o, e _ _ h⟩)
  · exact .inr h
/-! ### values -/
mutual
inductive VR (K : PySem.W.Frag) (F : Hp) : V → SV → Prop
  | non : VR K F .non .non
  | bl (b : Bool) : VR K F (.bl b) (.bl b)
  | int (i : Int) : VR K F (.int i) (.int i)
  | str (x : Str) : VR K F (.str x) (.str x)
  | ty (n : String) : VR K F (.ty n) (.ty n)
  | ref (a : Addr) : VR K F (.ref a) (.ref a)
  | tup {a : Addr} {vs : List V} {xs : List SV} : SqT K F a vs → VRs K F vs xs → VR K F (.ref a) (.tup xs)
  | lst {a : Addr} {vs : List V} {xs : List SV} : SqL K F a vs → VRs K F vs xs → VR K F (.ref a) (.lst xs)
  | kt {a : Addr} {k : List Key} : F a = some (.tup (k.map kV)) → VR K F (.ref a) (.kt k)
  | ptup {a : Addr} {o : Obj} {vs : List V} {xs : List SV} : F a = some (.frz o (.tup vs)) → o.dict = none → VRs K F vs xs → VR K F (.ref a) (.ptup xs)
inductive VRs (K : PySem.W.Frag) (F : Hp) : List V → List SV → Prop
  | nil : VRs K F [] []
  | cons {v : V} {x : SV} {vs : List V} {xs : List SV} : VR K F v x → VRs K F vs xs → VRs K F (v :: vs) (x :: xs)
end
mutual
theorem vr_sub {K : PySem.W.Frag} {F H : Hp} (e : Sub F H) : ∀ {v : V} {d : SV}, VR K F v d → VR K H v d
  | _, _, .non => .non
  | _, _, .bl b => .bl b
  | _, _, .int i => .int i
  | _, _, .str x => .str x
  | _, _, .ty x => .ty x
  | _, _, .ref x => .ref x
  | _, _, .lst h a => .lst (sql_sub e h) (vrs_sub e a)
  | _, _, .tup h a => .tup (sqt_sub e h) (vrs_sub e a)
  | _, _, .kt h => .kt (e _ _ h)
  | _, _, .ptup h n a => .ptup (e _ _ h) n (vrs_sub e a)
theorem vrs_sub {K : PySem.W.Frag} {F H : Hp} (e : Sub F H) : ∀ {vs : List V} {ds : List SV}, VRs K F vs ds → VRs K H vs ds
  | _, _, .nil => .nil
  | _, _, .cons a b => .cons (vr_sub e a) (vrs_sub e b)
end
section
variable {K : PySem.W.Frag} {F H : Hp}
theorem vrs_length : ∀ {vs : List V} {ds : List SV}, VRs K F vs ds → vs.length = ds.length
  | _, _, .nil => rfl
  | _, _, .cons _ b => by rw [List.length_cons, List.length_cons, vrs_length b]
theorem vrs_get : ∀ {vs : List V} {ds : List SV} {i : Nat} {d : SV}, VRs K F vs ds → ds[i]? = some d → ∃ v, vs[i]? = some v ∧ VR K F v d
  | _, _, _, _, .nil, e => by simp at e
  | _, _, 0, _, .cons r _, e => by simp at e; subst e; exact ⟨_, rfl, r⟩
  | _, _, i + 1, d, .cons _ t, e => by
    obtain ⟨u, h1, h2⟩ := vrs_get (i := i) (d := d) t (by simpa using e)
    exact ⟨u, by simpa using h1, h2⟩
theorem vrs_getV : ∀ {vs : List V} {ds : List SV} {i : Nat} {v : V}, VRs K F vs ds → vs[i]? = some v → ∃ d, ds[i]? = some d ∧ VR K F v d
  | _, _, _, _, .nil, e => by simp at e
  | _, _, 0, _, .cons r _, e => by simp at e; subst e; exact ⟨_, rfl, r⟩
  | _, _, i + 1, v, .cons _ t, e => by
    obtain ⟨u, h1, h2⟩ := vrs_getV (i := i) (v := v) t (by simpa using e)
    exact ⟨u, by simpa using h1, h2⟩
theorem vrs_append : ∀ {vs ws : List V} {ds es : List SV}, VRs K F vs ds → VRs K F ws es → VRs K F (vs ++ ws) (ds ++ es)
  | _, _, _, _, .nil, s => s
  | _, _, _, _, .cons r t, s => .cons r (vrs_append t s)
theorem vrs_set : ∀ {vs : List V} {ds : List SV} {v : V} {d : SV} (n : Nat), VRs K F vs ds → VR K F v d → VRs K F (vs.set n v) (ds.set n d)
  | _, _, _, _, _, .nil, _ => .nil
  | _, _, _, _, 0, .cons _ t, r => .cons r t
  | _, _, _, _, n + 1, .cons q t, r => .cons q (vrs_set n t r)
theorem vrs_erase : ∀ {vs : List V} {ds : List SV} (n : Nat), VRs K F vs ds → VRs K F (vs.eraseIdx n) (ds.eraseIdx n)
  | _, _, _, .nil => .nil
  | _, _, 0, .cons _ t => t
  | _, _, n + 1, .cons q t => .cons q (vrs_erase n t)
theorem vrs_ints : ∀ {vs : List V} {ns : List Int}, VRs K F vs (ns.map SV.int) → vs = ns.map V.int
  | _, [], .nil => rfl
  | _, _ :: _, .cons (.int _) t => by rw [vrs_ints t]; rfl
theorem vrs_of_ints : ∀ (ns : List Int), VRs K F (ns.map V.int) (ns.map SV.int)
  | [] => .nil
  | _ :: r => .cons (.int _) (vrs_of_ints r)
theorem vrs_bls : ∀ {vs : List V} {ns : List Bool}, VRs K F vs (ns.map SV.bl) → vs = ns.map V.bl
  | _, [], .nil => rfl
  | _, _ :: _, .cons (.bl _) t => by rw [vrs_bls t]; rfl
theorem vrs_strs : ∀ {vs : List V} {ns : List Str}, VRs K F vs (ns.map SV.str) → vs = ns.map V.str
  | _, [], .nil => rfl
  | _, _ :: _, .cons (.str _) t => by rw [vrs_strs t]; rfl
theorem vr_int {v : V} {i : Int} (h : VR K F v (.int i)) : v = .int i := by cases h; rfl
theorem vr_bl {v : V} {i : Bool} (h : VR K F v (.bl i)) : v = .bl i := by cases h; rfl
theorem vr_str {v : V} {i : Str} (h : VR K F v (.str i)) : v = .str i := by cases h; rfl
theorem vr_ref {v : V} {a : Addr} (h : VR K F v (.ref a)) : v = .ref a := by cases h; rfl
theorem vr_ty {v : V} {n : String} (h : VR K F v (.ty n)) : v = .ty n := by cases h; rfl
end
/-- keyed values -/
inductive KR {κ : Type} (K : PySem.W.Frag) (F : Hp) : List (κ × V) → List (κ × SV) → Prop
  | nil : KR K F [] []
  | cons {k : κ} {v : V} {x : SV} {vs : List (κ × V)} {xs : List (κ × SV)} : VR K F v x → KR K F vs xs → KR K F ((k, v) :: vs) ((k, x) :: xs)
section
variable {K : PySem.W.Frag} {F H : Hp} {κ : Type}
theorem kr_sub (e : Sub F H) : ∀ {vs : List (κ × V)} {xs : List (κ × SV)}, KR K F vs xs → KR K H vs xs
  | _, _, .nil => .nil
  | _, _, .cons a b => .cons (vr_sub e a) (kr_sub e b)
end
/-! ### the memory -/
/-- what never changes where it stands -/
def Still : HO → Prop
  | .ext _ => True
  | .tup _ => True
  | .own _ => True
  | _ => False
def MOR (K : PySem.W.Frag) (F H : Hp) (m : Mem) (a : Addr) : MO → Prop
  | .lst xs => ∃ vs, H a = some (.lst vs) ∧ VRs K F vs xs
  | .dK kvs => ∃ us, H a = some (.dK us) ∧ KR K F us kvs
  | .dT kvs => ∃ us, H a = some (.dT us) ∧ KR K F us kvs
  | .ins C fs => ∃ dx us, H a = some (.ins C dx us) ∧ H dx = some (.own a) ∧ F dx = none ∧ m dx = none ∧ KR K F us fs
  | .xd fs => ∃ us, H a = some (.xd us) ∧ KR K F us fs
  | .box c => ∃ sv : Int, H a = some (.lst [.ref c, .int sv])
  | .bxi => ∃ ns : List Int, H a = some (.lst (ns.map V.int)) ∧ ns.length ≤ 63
  | .tab nm => NdefX.TabN H a nm
  | .lam mk e d => ∃ (c : Addr) (dV : Value), H a = some (Lm.LamO a (mk c) e dV) ∧ H c = some (LamX.CodeO (mk c).c (mk c).qual) ∧ (mk c).c = c ∧ (match d with | none => dV = .none | some i => ∃ T, dV = .ref T ∧ H T = some (.tup [.int i]))
  | .pred ψ => (∃ u, H a = some u ∧ Still u ∧ ∀ xs, u ≠ .tup xs) ∧ ∀ F' H', Sub F F' → (∀ b u, H b = some u → Still u → H' b = some u) → ψ F' H'
  | .raw o => H a = some o ∧ ∀ xs, o ≠ .tup xs
  | .lk o kvs => H a = some o ∧ ∃ od us, o = .frz od (.dT us) ∧ KR K F us kvs
structure MR (K : PySem.W.Frag) (F H : Hp) (m : Mem) : Prop where
  sub : Sub F H
  at_ : ∀ a o, m a = some o → F a = none ∧ MOR K F H m a o
section
variable {K : PySem.W.Frag} {F H F' H' : Hp} {m m' : Mem} {a p : Addr} {o : MO} {ho : HO}
theorem mor_some : ∀ {o : MO}, MOR K F H m a o → ∃ u, H a = some u
  | .lst _, ⟨_, h, _⟩ => ⟨_, h⟩
  | .dK _, ⟨_, h, _⟩ => ⟨_, h⟩
  | .dT _, ⟨_, h, _⟩ => ⟨_, h⟩
  | .ins _ _, ⟨_, _, h, _⟩ => ⟨_, h⟩
  | .xd _, ⟨_, h, _⟩ => ⟨_, h⟩
  | .box _, ⟨_, h⟩ => ⟨_, h⟩
  | .bxi, ⟨_, h, _⟩ => ⟨_, h⟩
  | .tab _, ⟨_, h, _⟩ => ⟨_, h⟩
  | .lam _ _ _, ⟨_, _, h, _⟩ => ⟨_, h⟩
  | .pred _, ⟨⟨u, h, _⟩, _⟩ => ⟨u, h⟩
  | .raw _, h => ⟨_, h.1⟩
  | .lk _ _, h => ⟨_, h.1⟩
theorem MR.have_ (M : MR K F H m) (h : m a = some o) : ∃ u, H a = some u := mor_some (M.at_ a o h).2
theorem MR.gone (M : MR K F H m) (h : H p = none) : m p = none := by
  cases q : m p with
  | none => rfl
  | some o =>
    obtain ⟨u, z⟩ := M.have_ q
    rw [h] at z; cases z
/-- another frame: what is tracked stays as it is, the frozen part grows where nothing is owned -/
theorem mor_keep (sF : Sub F F') (hm : ∀ b, m b = none → (∀ o', m' b = some o' → False) ∨ b = p) (hH : ∀ b u, b ≠ p → H b = some u → H' b = some u) (hp : ∀ u, H p = some u → ¬ Still u)
    (hF : ∀ b u, H b = some u → F b = none → F' b = none) : ∀ {o : MO}, a ≠ p → MOR K F H m a o → MOR K F' H' m' a o := fun {o} n h => by
  have key : ∀ b u, H b = some u → m b = none → b ≠ p → m' b = none := fun b u hb mb np => by
    cases q : m' b with
    | none => rfl
    | some o' =>
      rcases hm b mb with z | z
      · exact (z o' q).elim
      · exact (np z).elim
  have still : ∀ b u, H b = some u → Still u → H' b = some u := fun b u e1 e2 => hH b u (fun z => hp u (by rw [← z]; exact e1) e2) e1
  cases o with
  | lst xs => obtain ⟨vs, h1, h2⟩ := h; exact ⟨vs, hH _ _ n h1, vrs_sub sF h2⟩
  | dK xs => obtain ⟨vs, h1, h2⟩ := h; exact ⟨vs, hH _ _ n h1, kr_sub sF h2⟩
  | dT xs => obtain ⟨vs, h1, h2⟩ := h; exact ⟨vs, hH _ _ n h1, kr_sub sF h2⟩
  | xd xs => obtain ⟨vs, h1, h2⟩ := h; exact ⟨vs, hH _ _ n h1, kr_sub sF h2⟩
  | ins C fs =>
    obtain ⟨dx, us, h1, h2, h3, h4, h5⟩ := h
    have nd : dx ≠ p := fun z => by subst z; exact hp _ h2 trivial
    exact ⟨dx, us, hH _ _ n h1, hH _ _ nd h2, hF _ _ h2 h3, key _ _ h2 h4 nd, kr_sub sF h5⟩
  | box c => obtain ⟨sv, h1⟩ := h; exact ⟨sv, hH _ _ n h1⟩
  | bxi => obtain ⟨ns, h1, h2⟩ := h; exact ⟨ns, hH _ _ n h1, h2⟩
  | tab nm =>
    obtain ⟨ps, h1, h2, h3⟩ := h
    refine ⟨ps, hH _ _ n h1, h2, fun pos cv hc => ?_⟩
    obtain ⟨c, e1, e2⟩ := h3 pos cv hc
    exact ⟨c, e1, still _ _ e2 trivial⟩
  | lam mk e d =>
    obtain ⟨c, dV, h1, h2, h3, h4⟩ := h
    refine ⟨c, dV, hH _ _ n h1, still _ _ h2 trivial, h3, ?_⟩
    cases d with
    | none => exact h4
    | some i =>
      obtain ⟨T, e1, e2⟩ := h4
      exact ⟨T, e1, still _ _ e2 trivial⟩
  | pred ψ =>
    obtain ⟨⟨u, h1, h2⟩, h3⟩ := h
    exact ⟨⟨u, hH _ _ n h1, h2⟩, fun F2 H2 s2 k2 => h3 F2 H2 (sF.trans s2) fun b u' e1 e2 => k2 b u' (still b u' e1 e2) e2⟩
  | raw u => exact ⟨hH _ _ n h.1, h.2⟩
  | lk u kvs =>
    obtain ⟨h1, od, us, h2, h3⟩ := h
    exact ⟨hH _ _ n h1, od, us, h2, kr_sub sF h3⟩
/-- an owned cell changes -/
theorem MR.put {o0 : MO} (M : MR K F H m) (h0 : m a = some o0) (hown : ∀ u, H a = some u → ¬ Still u) (n : MOR K F (upd H a ho) (up m a o) a o) : MR K F (upd H a ho) (up m a o) where
  sub := M.sub.free (M.at_ a o0 h0).1
  at_ := fun b u hb => by
    by_cases e : b = a
    · subst e
      rw [up_same] at hb; cases hb
      exact ⟨(M.at_ b o0 h0).1, n⟩
    · rw [up_ne e] at hb
      refine ⟨(M.at_ b u hb).1, mor_keep (p := a) (.refl F) (fun c hc => ?_) (fun c u q1 q2 => (upd_ne q1).trans q2) hown (fun _ _ _ z => z) e (M.at_ b u hb).2⟩
      by_cases e2 : c = a
      · exact .inr e2
      · exact .inl fun o' z => by rw [up_ne e2, hc] at z; cases z
/-- an owned cell is told of in another way -/
theorem MR.reab {o0 : MO} (M : MR K F H m) (h0 : m a = some o0) (hown : ∀ u, H a = some u → ¬ Still u) (n : MOR K F H (up m a o) a o) : MR K F H (up m a o) where
  sub := M.sub
  at_ := fun b u hb => by
    by_cases e : b = a
    · subst e
      rw [up_same] at hb; cases hb
      exact ⟨(M.at_ b o0 h0).1, n⟩
    · rw [up_ne e] at hb
      refine ⟨(M.at_ b u hb).1, mor_keep (p := a) (.refl F) (fun c hc => ?_) (fun c u q1 q2 => q2) hown (fun _ _ _ z => z) e (M.at_ b u hb).2⟩
      by_cases e2 : c = a
      · exact .inr e2
      · exact .inl fun o' z => by rw [up_ne e2, hc] at z; cases z
/-- a new owned cell -/
theorem MR.new_ (M : MR K F H m) (hp : H p = none) (n : MOR K F (upd H p ho) (up m p o) p o) : MR K F (upd H p ho) (up m p o) where
  sub := M.sub.free (M.sub.gone hp)
  at_ := fun b u hb => by
    by_cases e : b = p
    · subst e
      rw [up_same] at hb; cases hb
      exact ⟨M.sub.gone hp, n⟩
    · rw [up_ne e] at hb
      refine ⟨(M.at_ b u hb).1, mor_keep (p := p) (.refl F) (fun c hc => ?_) (fun c u q1 q2 => (upd_ne q1).trans q2) (fun u z => by rw [hp] at z; cases z) (fun _ _ _ z => z) e (M.at_ b u hb).2⟩
      by_cases e2 : c = p
      · exact .inr e2
      · exact .inl fun o' z => by rw [up_ne e2, hc] at z; cases z
/-- a new frozen thing -/
theorem MR.frz (M : MR K F H m) (hp : H p = none) : MR K (upd F p ho) (upd H p ho) m where
  sub := M.sub.upd2
  at_ := fun b u hb => by
    have nb : b ≠ p := fun e => by
      subst e
      obtain ⟨u, z⟩ := M.have_ hb
      rw [hp] at z; cases z
    exact ⟨(upd_ne nb).trans (M.at_ b u hb).1, mor_keep (p := p) (Sub.new (M.sub.gone hp)) (fun c hc => .inl fun o' z => by rw [hc] at z; cases z) (fun c u q1 q2 => (upd_ne q1).trans q2) (fun u z => by rw [hp] at z; cases z) 
      (fun c u q1 q2 => (upd_ne (ne_of_none q1 hp)).trans q2) nb (M.at_ b u hb).2⟩
/-- cells are forgotten -/
theorem MR.drop (M : MR K F H m) (h : ∀ b o, m' b = some o → m b = some o) : MR K F H m' where
  sub := M.sub
  at_ := fun b u hb => by
    have z := M.at_ b u (h b u hb)
    refine ⟨z.1, ?_⟩
    have w := z.2
    have key : ∀ c, m c = none → m' c = none := fun c hc => by
      cases q : m' c with
      | none => rfl
      | some o' => rw [h c o' q] at hc; cases hc
    cases u with
    | ins C fs => obtain ⟨dx, us, h1, h2, h3, h4, h5⟩ := w; exact ⟨dx, us, h1, h2, h3, key _ h4, h5⟩
    | _ => exact w
def del (m : Mem) (a : Addr) : Mem := fun b => if b = a then none else m b
theorem MR.lst_ {xs : List SV} (M : MR K F H m) (h : m a = some (.lst xs)) : ∃ vs, H a = some (.lst vs) ∧ VRs K F vs xs := (M.at_ a _ h).2
theorem MR.nown {xs : List SV} (M : MR K F H m) (h : m a = some (.lst xs)) : ∀ u, H a = some u → ¬ Still u := fun u hu x => by
  obtain ⟨vs, z, _⟩ := M.lst_ h
  rw [z] at hu; cases hu; exact x
/-- a list gets another content -/
theorem MR.setL {xs ys : List SV} {ws : List V} (M : MR K F H m) (h : m a = some (.lst xs)) (r : VRs K F ws ys) : MR K F (upd H a (.lst ws)) (up m a (.lst ys)) := M.put h (M.nown h) ⟨ws, upd_same, r⟩
theorem MR.newL {ys : List SV} {ws : List V} (M : MR K F H m) (hp : H p = none) (r : VRs K F ws ys) : MR K F (upd H p (.lst ws)) (up m p (.lst ys)) := M.new_ hp ⟨ws, upd_same, r⟩
end
/-! ### slots -/
abbrev DS := List (Option SV)
structure SR (K : PySem.W.Frag) (F : Hp) (σ : L2.St) (δ : DS) : Prop where
  len : σ.length = δ.length
  at_ : ∀ (i : Nat) (d : SV), δ[i]? = some (some d) → ∃ v, σ[i]? = some (some v) ∧ VR K F v d
section
variable {K : PySem.W.Frag} {F F' H : Hp} {σ : L2.St} {δ : DS}
theorem SR.sub (h : SR K F σ δ) (s : Sub F F') : SR K F' σ δ := ⟨h.len, fun i d e => by
  obtain ⟨v, h1, h2⟩ := h.at_ i d e
  exact ⟨v, h1, vr_sub s h2⟩⟩
theorem SR.set {i : Nat} {v : V} {d : SV} (h : SR K F σ δ) (dv : VR K F v d) : SR K F (σ.set i (some v)) (δ.set i (some d)) := ⟨by rw [List.length_set, List.length_set]; exact h.len, fun j e hj => by
  by_cases hji : i = j
  · subst hji
    by_cases hl : i < δ.length
    · rw [List.getElem?_set_self hl] at hj
      cases hj
      exact ⟨v, List.getElem?_set_self (by rw [h.len]; exact hl), dv⟩
    · rw [List.getElem?_eq_none (by rw [List.length_set]; omega)] at hj
      cases hj
  · rw [List.getElem?_set_ne hji] at hj ⊢
    exact h.at_ j e hj⟩
theorem SR.setNo {i : Nat} {v : Option V} (h : SR K F σ δ) : SR K F (σ.set i v) (δ.set i none) := ⟨by rw [List.length_set, List.length_set]; exact h.len, fun j e hj => by
  by_cases hji : i = j
  · subst hji
    by_cases hl : i < δ.length
    · rw [List.getElem?_set_self hl] at hj
      cases hj
    · rw [List.getElem?_eq_none (by rw [List.length_set]; omega)] at hj
      cases hj
  · rw [List.getElem?_set_ne hji] at hj ⊢
    exact h.at_ j e hj⟩
def wipeD (δ : DS) : List Nat → DS
  | [] => δ
  | v :: vs => (wipeD δ vs).set v none
theorem SR.wipe (h : SR K F σ δ) : ∀ vs : List Nat, SR K F (L2.wipe σ vs) (wipeD δ vs)
  | [] => h
  | _ :: vs => (h.wipe vs).setNo
def startD (n : Nat) (ds : List SV) : DS := ds.map some ++ List.replicate (n - ds.length) none
theorem SR.start {N : List Str} {vs : List V} {ds : List SV} (h : VRs K F vs ds) : SR K F (L2.start N vs) (startD N.length ds) := ⟨by
  unfold L2.start startD
  rw [List.length_append, List.length_append, List.length_map, List.length_map, List.length_replicate, List.length_replicate, vrs_length h], fun i d e => by
  unfold startD at e
  unfold L2.start
  by_cases hi : i < ds.length
  · rw [List.getElem?_append_left (by rw [List.length_map]; exact hi), List.getElem?_map] at e
    obtain ⟨d', h1, h2⟩ := Option.map_eq_some_iff.mp e
    cases h2
    obtain ⟨v, h3, h4⟩ := vrs_get h h1
    refine ⟨v, ?_, h4⟩
    rw [List.getElem?_append_left (by rw [List.length_map, vrs_length h]; exact hi), List.getElem?_map, h3]
    rfl
  · rw [List.getElem?_append_right (by rw [List.length_map]; omega), List.getElem?_replicate] at e
    split at e <;> cases e⟩
end
end Sy

set_option Elab.async false
set_option linter.all false
set_option maxRecDepth 100000
set_option maxHeartbeats 4000000
/-! Readings told over symbolic values: expressions. -/
namespace Sy
open PySem PySem.Spec PyProof.Rows L2
/-- an exception: its class, its fields (none: no dict of its own) -/
structure XO where
  cls : Addr
  fs : Option (List (Str × SV)) := none
abbrev SXK := XO → Mem → Prop
def XOk (K : PySem.W.Frag) (F H : Hp) (m : Mem) (d : Option Addr) (x : XO) : Prop := match x.fs with
  | none => d = none
  | some fs => ∃ (dd : Addr) (us : List (Str × V)), d = some dd ∧ H dd = some (.xd us) ∧ F dd = none ∧ m dd = none ∧ KR K F us fs
def ExOk (K : PySem.W.Frag) (F : Hp) (E : XK) (SX : SXK) : Prop := ∀ x d F' H' m', Sub F F' → MR K F' H' m' → XOk K F' H' m' d x → SX x m' → E (.ref x.cls) d H'
theorem ExOk.go {K : PySem.W.Frag} {F F' : Hp} {E : XK} {SX : SXK} (h : ExOk K F E SX) (s : Sub F F') : ExOk K F' E SX := fun x d F2 H2 m2 s2 => h x d F2 H2 m2 (s.trans s2)
theorem ExOk.fg {K : PySem.W.Frag} {F : Hp} {E : XK} {SX : SXK} (h : ExOk K F E SX) : ExOk K F E (fun x => Fg (SX x)) := fun x d F' H' m' s M hx ⟨m2, l2, q⟩ => h x d F' H' m2 s (M.drop l2) (by
  unfold XOk at hx ⊢
  cases e : x.fs with
  | none => rw [e] at hx; exact hx
  | some fs =>
    rw [e] at hx
    obtain ⟨dd, us, h1, h2, h3, h4, h5⟩ := hx
    exact ⟨dd, us, h1, h2, h3, l2.none h4, h5⟩) q
/-- the state: slots, memory, the wish of exceptions -/
structure Rl (K : PySem.W.Frag) (E : XK) (σ : L2.St) (F H : Hp) (δ : DS) (m : Mem) (SX : SXK) : Prop where
  sr : SR K F σ δ
  mr : MR K F H m
  ex : ExOk K F E SX
section
variable {K : PySem.W.Frag} {E : XK} {σ σ' : L2.St} {F F' H H' : Hp} {δ δ' : DS} {m m' : Mem} {SX : SXK}
theorem Rl.go (r : Rl K E σ F H δ m SX) (s : Sub F F') (M : MR K F' H' m') : Rl K E σ F' H' δ m' SX := ⟨r.sr.sub s, M, r.ex.go s⟩
end
abbrev SE := SXK → DS → Mem → (SV → Mem → Prop) → Prop
abbrev SA := SXK → DS → Mem → (List SV → Mem → Prop) → Prop
abbrev STt := SXK → DS → Mem → (Bool → Mem → Prop) → Prop
def Cn (K : PySem.W.Frag) (F : Hp) (S : SV → Mem → Prop) (Q : VK) : Prop := ∀ v F' H' sv m', Sub F F' → MR K F' H' m' → VR K F' v sv → S sv m' → Q v H'
def CnA (K : PySem.W.Frag) (F : Hp) (S : List SV → Mem → Prop) (Q : List V → Hp → Prop) : Prop := ∀ v F' H' sv m', Sub F F' → MR K F' H' m' → VRs K F' v sv → S sv m' → Q v H'
def CnT (K : PySem.W.Frag) (F : Hp) (S : Bool → Mem → Prop) (Q : Bool → Hp → Prop) : Prop := ∀ b F' H' m', Sub F F' → MR K F' H' m' → S b m' → Q b H'
theorem Cn.go {K : PySem.W.Frag} {F F' : Hp} {S : SV → Mem → Prop} {Q : VK} (c : Cn K F S Q) (s : Sub F F') : Cn K F' S Q := fun v F2 H2 sv m2 s2 => c v F2 H2 sv m2 (s.trans s2)
theorem CnT.go {K : PySem.W.Frag} {F F' : Hp} {S : Bool → Mem → Prop} {Q : Bool → Hp → Prop} (c : CnT K F S Q) (s : Sub F F') : CnT K F' S Q := fun v F2 H2 m2 s2 => c v F2 H2 m2 (s.trans s2)
def SimE (K : PySem.W.Frag) (E : XK) (te : TE) (se : SE) : Prop := ∀ σ F H δ m SX S Q, Rl K E σ F H δ m SX → se SX δ m S → Cn K F S Q → te σ H Q
def SimA (K : PySem.W.Frag) (E : XK) (te : TA) (se : SA) : Prop := ∀ σ F H δ m SX S Q, Rl K E σ F H δ m SX → se SX δ m S → CnA K F S Q → te σ H Q
def SimT (K : PySem.W.Frag) (E : XK) (te : TT) (se : STt) : Prop := ∀ σ F H δ m SX S Q, Rl K E σ F H δ m SX → se SX δ m S → CnT K F S Q → te σ H Q
structure GE (K : PySem.W.Frag) (E : XK) (X : Cx) (e : Expr) (te : TE) (se : SE) : Prop where
  pe : PE X e te
  sim : SimE K E te se
structure GT (K : PySem.W.Frag) (E : XK) (X : Cx) (e : Expr) (te : TT) (se : STt) : Prop where
  pe : PT X e te
  sim : SimT K E te se
structure GW (K : PySem.W.Frag) (E : XK) (X : Cx) (e : Expr) (te : TT) (se : STt) : Prop where
  pe : PW X e te
  sim : SimT K E te se
structure GA (K : PySem.W.Frag) (E : XK) (X : Cx) (e : List Expr) (te : TA) (se : SA) : Prop where
  pe : PA X e te
  sim : SimA K E te se
abbrev SR2 := SV → SV → Mem → (SV → Mem → Prop) → Prop
def SimR (K : PySem.W.Frag) (r : R2) (s : SR2) : Prop := ∀ F H m x y a b S Q, MR K F H m → VR K F x a → VR K F y b → s a b m S → Cn K F S Q → r x y H Q
abbrev SR1 := SV → Mem → (SV → Mem → Prop) → Prop
def SimU (K : PySem.W.Frag) (r : V → Hp → VK → Prop) (s : SR1) : Prop := ∀ F H m x a S Q, MR K F H m → VR K F x a → s a m S → Cn K F S Q → r x H Q
abbrev SRC := List SV → Mem → (SV → Mem → Prop) → Prop
def SimC (K : PySem.W.Frag) (r : List V → Hp → VK → Prop) (s : SRC) : Prop := ∀ F H m xs as S Q, MR K F H m → VRs K F xs as → s as m S → Cn K F S Q → r xs H Q
abbrev SRM := SV → List SV → Mem → (SV → Mem → Prop) → Prop
def SimM (K : PySem.W.Frag) (r : V → List V → Hp → VK → Prop) (s : SRM) : Prop := ∀ F H m x xs a as S Q, MR K F H m → VR K F x a → VRs K F xs as → s a as m S → Cn K F S Q → r x xs H Q
/-! ### combinators -/
def sVar (i : Nat) : SE := fun _ δ m S => match δ[i]? with
  | some (some v) => S v m
  | _ => False
def sC (v : SV) : SE := fun _ _ m S => S v m
def sOp (r : SR2) (a b : SE) : SE := fun SX δ m S => a SX δ m fun x m1 => b SX δ m1 fun y m2 => r x y m2 S
def sUn (r : SR1) (a : SE) : SE := fun SX δ m S => a SX δ m fun x m1 => r x m1 S
/-- a branch -/
@[irreducible] def Br (b : Bool) (A B : Prop) : Prop := if b = true then A else B
theorem Br_t {A B : Prop} (h : A) : Br true A B := by unfold Br; exact h
theorem Br_f {A B : Prop} (h : B) : Br false A B := by unfold Br; exact h
theorem Br_i {b : Bool} {A B : Prop} (h1 : b = true → A) (h2 : b = false → B) : Br b A B := by
  cases b with
  | true => exact Br_t (h1 rfl)
  | false => exact Br_f (h2 rfl)
theorem Br_eq {b : Bool} {A B : Prop} : Br b A B = (if b = true then A else B) := by unfold Br; rfl
def sB (a : SE) : STt := fun SX δ m S => a SX δ m fun x m1 => match x with
  | .bl b => S b m1
  | _ => False
def sAnd (t u : STt) : STt := fun SX δ m S => t SX δ m fun c m1 => Br c (u SX δ m1 S) (S false m1)
def sOr (t u : STt) : STt := fun SX δ m S => t SX δ m fun c m1 => Br c (S true m1) (u SX δ m1 S)
def sNot (t : STt) : STt := fun SX δ m S => t SX δ m fun c m1 => S (!c) m1
def sAndV (a b : SE) : SE := fun SX δ m S => a SX δ m fun x m1 => match x with
  | .bl c => Br c (b SX δ m1 S) (S (.bl false) m1)
  | _ => False
def sOrV (a b : SE) : SE := fun SX δ m S => a SX δ m fun x m1 => match x with
  | .bl c => Br c (S (.bl true) m1) (b SX δ m1 S)
  | _ => False
def sNotV (a : SE) : SE := fun SX δ m S => a SX δ m fun x m1 => match x with
  | .bl c => S (.bl (!c)) m1
  | _ => False
def sIfE (t : STt) (a b : SE) : SE := fun SX δ m S => t SX δ m fun c m1 => Br c (a SX δ m1 S) (b SX δ m1 S)
def sNil : SA := fun _ _ m S => S [] m
def sCons (a : SE) (r : SA) : SA := fun SX δ m S => a SX δ m fun x m1 => r SX δ m1 fun xs m2 => S (x :: xs) m2
def sTup (a : SA) : SE := fun SX δ m S => a SX δ m fun xs m1 => xs.length ≤ sizeLine ∧ S (.tup xs) m1
def sLst (a : SA) : SE := fun SX δ m S => a SX δ m fun xs m1 => xs.length ≤ sizeLine ∧ ∀ p, m1 p = none → S (.ref p) (up m1 p (.lst xs))
def sChain (r r' : SR2) (a b c : SE) : SE := fun SX δ m S => a SX δ m fun x m1 => b SX δ m1 fun y m2 => r x y m2 fun z m3 => match z with
  | .bl k => Br k (c SX δ m3 fun w m4 => r' y w m4 S) (S (.bl false) m3)
  | _ => False
section
variable {K : PySem.W.Frag} {E : XK} {X : Cx} {a b c e : Expr} {es : List Expr} {ta tb tc te : TE} {sa sb sc se : SE} {pos : Pos} {t u : TT} {st su : STt} {tl : TA} {sl : SA}
theorem ge_var {i : Nat} {x : Str} (hN : X.N[i]? = some x) (hv : Vis X.env.scope x) (hd : (x == ("__debug__" : Str)) = false := by decide) (hcd : (x == ("__classdict__" : Str)) = false := by decide) : GE K E X (.Name x pos) (tVar i) (sVar i) :=
  ⟨pe_var hN hv hd hcd, fun σ F H δ m SX S Q r h c => by
    unfold sVar at h
    split at h
    · next v e =>
      obtain ⟨w, h1, h2⟩ := r.sr.at_ i v e
      exact ⟨w, h1, c w F H v m (.refl F) r.mr h2 h⟩
    · exact h.elim⟩
theorem sim_c {v : V} {d : SV} (hd : ∀ F, VR K F v d) : SimE K E (tC v) (sC d) := fun σ F H δ m SX S Q r h c => c v F H d m (.refl F) r.mr (hd F) h
theorem ge_int {i j} : GE K E X (.Constant (.int i) j pos) (tC (.int i)) (sC (.int i)) := ⟨pe_int, sim_c fun _ => .int _⟩
theorem ge_bl {i j} : GE K E X (.Constant (.bool i) j pos) (tC (.bl i)) (sC (.bl i)) := ⟨pe_bl, sim_c fun _ => .bl _⟩
theorem ge_non {j} : GE K E X (.Constant .none j pos) (tC .non) (sC .non) := ⟨pe_non, sim_c fun _ => .non⟩
theorem ge_str {i j} : GE K E X (.Constant (.str i) j pos) (tC (.str i)) (sC (.str i)) := ⟨pe_str, sim_c fun _ => .str _⟩
theorem ge_gi {x : Str} {i : Int} (hg : Gl X x) (h : ∃ t, X.mg x = some (.int i t)) (hd : (x == ("__debug__" : Str)) = false := by decide) : GE K E X (.Name x pos) (tC (.int i)) (sC (.int i)) := by
  obtain ⟨t, ht⟩ := h
  exact ⟨pe_glob (v := .int i) hg ht ⟨t, rfl⟩ hd, sim_c fun _ => .int _⟩
theorem ge_gs {x y : Str} (hg : Gl X x) (h : ∃ t, X.mg x = some (.str y t)) (hd : (x == ("__debug__" : Str)) = false := by decide) : GE K E X (.Name x pos) (tC (.str y)) (sC (.str y)) := by
  obtain ⟨t, ht⟩ := h
  exact ⟨pe_glob (v := .str y) hg ht ⟨t, rfl⟩ hd, sim_c fun _ => .str _⟩
theorem ge_ty {x : Str} {n : String} (hg : Gl X x) (hm : X.mg x = none) (hv : bootBuiltins x = some (.type n)) (hn : x ≠ "__name__" := by decide) (hd : (x == ("__debug__" : Str)) = false := by decide) : GE K E X (.Name x pos) (tC (.ty n)) (sC (.ty n)) :=
  ⟨pe_bltn (v := .ty n) hg hm hv rfl hn hd, sim_c fun _ => .ty _⟩
theorem sim_op {r : R2} {s : SR2} (hr : SimR K r s) (ha : SimE K E ta sa) (hb : SimE K E tb sb) : SimE K E (tOp r ta tb) (sOp s sa sb) := fun σ F H δ m SX S Q q h c =>
  ha σ F H δ m SX _ _ q h fun x F1 H1 sx m1 s1 M1 v1 h1 => hb σ F1 H1 δ m1 SX _ _ (q.go s1 M1) h1 fun y F2 H2 sy m2 s2 M2 v2 h2 =>
    hr F2 H2 m2 x y sx sy S Q M2 (vr_sub s2 v1) v2 h2 (c.go (s1.trans s2))
theorem ge_op {op : Operator} {r : R2} {s : SR2} (ho : OpR X (binaryOp op) r) (hr : SimR K r s) (ha : GE K E X a ta sa) (hb : GE K E X b tb sb) : GE K E X (.BinOp a op b pos) (tOp r ta tb) (sOp s sa sb) := ⟨pe_op ho ha.pe hb.pe, sim_op hr ha.sim hb.sim⟩
theorem ge_cmp {op : CmpOp} {r : R2} {s : SR2} (ho : OpR X (compareOp op) r) (hr : SimR K r s) (ha : GE K E X a ta sa) (hb : GE K E X b tb sb) (hm : behindInMarks op b = false) : GE K E X (.Compare a [op] [b] pos) (tOp r ta tb) (sOp s sa sb) := ⟨pe_cmpR ho ha.pe hb.pe hm, sim_op hr ha.sim hb.sim⟩
theorem sim_test (h : SimE K E te se) : SimT K E (tTest te) (sB se) := fun σ F H δ m SX S Q r q c =>
  h σ F H δ m SX _ _ r q fun v F1 H1 sv m1 s1 M1 v1 h1 => by
    cases v1 with
    | bl b => exact ⟨b, rfl, c b F1 H1 m1 s1 M1 h1⟩
    | _ => exact (show False from h1).elim
theorem gt_cmp {op : CmpOp} {r : R2} {s : SR2} (ho : OpR X (compareOp op) r) (hr : SimR K r s) (ha : GE K E X a ta sa) (hb : GE K E X b tb sb) (hm : behindInMarks op b = false) : GT K E X (.Compare a [op] [b] pos) (tTest (tOp r ta tb)) (sB (sOp s sa sb)) := ⟨pt_cmpR ho ha.pe hb.pe hm, sim_test (sim_op hr ha.sim hb.sim)⟩
theorem sim_chain {r r' : R2} {s s' : SR2} (hr : SimR K r s) (hr' : SimR K r' s') (ha : SimE K E ta sa) (hb : SimE K E tb sb) (hc : SimE K E tc sc) : SimE K E (tChain r r' ta tb tc) (sChain s s' sa sb sc) := fun σ F H δ m SX S Q q h c =>
  ha σ F H δ m SX _ _ q h fun x F1 H1 sx m1 s1 M1 v1 h1 => hb σ F1 H1 δ m1 SX _ _ (q.go s1 M1) h1 fun y F2 H2 sy m2 s2 M2 v2 h2 =>
    hr F2 H2 m2 x y sx sy _ _ M2 (vr_sub s2 v1) v2 h2 fun z F3 H3 sz m3 s3 M3 v3 h3 => by
      cases v3 with
      | bl k =>
        refine ⟨k, rfl, ?_⟩
        have h3 : Br k _ _ := h3
        rw [Br_eq] at h3
        have s13 := (s1.trans s2).trans s3
        split
        · next e =>
          rw [if_pos e] at h3
          exact hc σ F3 H3 δ m3 SX _ _ (q.go s13 M3) h3 fun w F4 H4 sw m4 s4 M4 v4 h4 => hr' F4 H4 m4 y w sy sw S Q M4 (vr_sub (s3.trans s4) v2) v4 h4 (c.go (s13.trans s4))
        · next e =>
          rw [if_neg e] at h3
          exact c _ F3 H3 _ m3 s13 M3 (.bl false) h3
      | _ => exact (show False from h3).elim
theorem ge_chain {op op' : CmpOp} {r r' : R2} {s s' : SR2} (ho : OpR X (compareOp op) r) (ho' : OpR X (compareOp op') r') (hr : SimR K r s) (hr' : SimR K r' s') (ha : GE K E X a ta sa) (hb : GE K E X b tb sb) (hc : GE K E X c tc sc)
    (hm : lastMarks [op, op'] [b, c] = false := by with_unfolding_all rfl) : GE K E X (.Compare a [op, op'] [b, c] pos) (tChain r r' ta tb tc) (sChain s s' sa sb sc) := ⟨pe_chain ho ho' ha.pe hb.pe hc.pe hm, sim_chain hr hr' ha.sim hb.sim hc.sim⟩
theorem gt_chain {op op' : CmpOp} {r r' : R2} {s s' : SR2} (ho : OpR X (compareOp op) r) (ho' : OpR X (compareOp op') r') (hr : SimR K r s) (hr' : SimR K r' s') (ha : GE K E X a ta sa) (hb : GE K E X b tb sb) (hc : GE K E X c tc sc)
    (hm : lastMarks [op, op'] [b, c] = false := by with_unfolding_all rfl) : GT K E X (.Compare a [op, op'] [b, c] pos) (tTest (tChain r r' ta tb tc)) (sB (sChain s s' sa sb sc)) := ⟨pt_chain ho ho' ha.pe hb.pe hc.pe hm, sim_test (sim_chain hr hr' ha.sim hb.sim hc.sim)⟩
theorem sim_val (h : SimE K E te se) : SimT K E (tB te) (sB se) := fun σ F H δ m SX S Q r q c =>
  h σ F H δ m SX _ _ r q fun v F1 H1 sv m1 s1 M1 v1 h1 => by
    cases v1 with
    | bl b => exact ⟨b, rfl, c b F1 H1 m1 s1 M1 h1⟩
    | _ => exact (show False from h1).elim
theorem gt_val (h : GE K E X e te se) (he : ∀ whole, isTrue e X.env whole = (do let v ← whole; standAt e.pos; holding [v] (truthy v)) := by intro _; rfl) : GT K E X e (tB te) (sB se) := ⟨pt_val h.pe he, sim_val h.sim⟩
theorem sim_and (ha : SimT K E t st) (hb : SimT K E u su) : SimT K E (tAnd t u) (sAnd st su) := fun σ F H δ m SX S Q r q c =>
  ha σ F H δ m SX _ _ r q fun b F1 H1 m1 s1 M1 h1 => by
    rw [Br_eq] at h1
    split
    · next e => rw [if_pos e] at h1; exact hb σ F1 H1 δ m1 SX S Q (r.go s1 M1) h1 (c.go s1)
    · next e => rw [if_neg e] at h1; exact c false F1 H1 m1 s1 M1 h1
theorem sim_or (ha : SimT K E t st) (hb : SimT K E u su) : SimT K E (tOr t u) (sOr st su) := fun σ F H δ m SX S Q r q c =>
  ha σ F H δ m SX _ _ r q fun b F1 H1 m1 s1 M1 h1 => by
    rw [Br_eq] at h1
    split
    · next e => rw [if_pos e] at h1; exact c true F1 H1 m1 s1 M1 h1
    · next e => rw [if_neg e] at h1; exact hb σ F1 H1 δ m1 SX S Q (r.go s1 M1) h1 (c.go s1)
theorem gw_pt (h : GW K E X e t st) : GT K E X e t st := ⟨h.pe.pt, h.sim⟩
theorem gw_and1 (h : GT K E X a t st) : GW K E X (.BoolOp .And [a] pos) t st := ⟨pw_and1 h.pe, h.sim⟩
theorem gw_or1 (h : GT K E X a t st) : GW K E X (.BoolOp .Or [a] pos) t st := ⟨pw_or1 h.pe, h.sim⟩
theorem gw_and (ha : GT K E X a t st) (hb : GW K E X (.BoolOp .And (b :: es) pos) u su) : GW K E X (.BoolOp .And (a :: b :: es) pos) (tAnd t u) (sAnd st su) := ⟨pw_and ha.pe hb.pe, sim_and ha.sim hb.sim⟩
theorem gw_or (ha : GT K E X a t st) (hb : GW K E X (.BoolOp .Or (b :: es) pos) u su) : GW K E X (.BoolOp .Or (a :: b :: es) pos) (tOr t u) (sOr st su) := ⟨pw_or ha.pe hb.pe, sim_or ha.sim hb.sim⟩
theorem gt_not (ha : GT K E X a t st) : GT K E X (.UnaryOp .Not a pos) (tNot t) (sNot st) := ⟨pt_not ha.pe, fun σ F H δ m SX S Q r q c => ha.sim σ F H δ m SX _ _ r q fun b F1 H1 m1 s1 M1 h1 => c _ F1 H1 m1 s1 M1 h1⟩
theorem ge_one {op} (h : GE K E X a te se) : GE K E X (.BoolOp op [a] pos) te se := ⟨pe_one h.pe, h.sim⟩
theorem ge_and (ha : GE K E X a ta sa) (hb : GE K E X (.BoolOp .And (b :: es) pos) tb sb) : GE K E X (.BoolOp .And (a :: b :: es) pos) (tAndV ta tb) (sAndV sa sb) := ⟨pe_and ha.pe hb.pe, fun σ F H δ m SX S Q r q c =>
  ha.sim σ F H δ m SX _ _ r q fun v F1 H1 sv m1 s1 M1 v1 h1 => by
    cases v1 with
    | bl k =>
      have h1 : Br k _ _ := h1
      rw [Br_eq] at h1
      refine ⟨k, rfl, ?_⟩
      split
      · next e => rw [if_pos e] at h1; exact hb.sim σ F1 H1 δ m1 SX S Q (r.go s1 M1) h1 (c.go s1)
      · next e => rw [if_neg e] at h1; exact c _ F1 H1 _ m1 s1 M1 (.bl false) h1
    | _ => exact (show False from h1).elim⟩
theorem ge_or (ha : GE K E X a ta sa) (hb : GE K E X (.BoolOp .Or (b :: es) pos) tb sb) : GE K E X (.BoolOp .Or (a :: b :: es) pos) (tOrV ta tb) (sOrV sa sb) := ⟨pe_or ha.pe hb.pe, fun σ F H δ m SX S Q r q c =>
  ha.sim σ F H δ m SX _ _ r q fun v F1 H1 sv m1 s1 M1 v1 h1 => by
    cases v1 with
    | bl k =>
      have h1 : Br k _ _ := h1
      rw [Br_eq] at h1
      refine ⟨k, rfl, ?_⟩
      split
      · next e => rw [if_pos e] at h1; exact c _ F1 H1 _ m1 s1 M1 (.bl true) h1
      · next e => rw [if_neg e] at h1; exact hb.sim σ F1 H1 δ m1 SX S Q (r.go s1 M1) h1 (c.go s1)
    | _ => exact (show False from h1).elim⟩
theorem ge_not (ha : GE K E X a ta sa) : GE K E X (.UnaryOp .Not a pos) (tNotV ta) (sNotV sa) := ⟨pe_not ha.pe, fun σ F H δ m SX S Q r q c =>
  ha.sim σ F H δ m SX _ _ r q fun v F1 H1 sv m1 s1 M1 v1 h1 => by
    cases v1 with
    | bl k => exact ⟨k, rfl, c _ F1 H1 _ m1 s1 M1 (.bl _) h1⟩
    | _ => exact (show False from h1).elim⟩
theorem ge_ifE (hc : GT K E X c t st) (ha : GE K E X a ta sa) (hb : GE K E X b tb sb) : GE K E X (.IfExp c a b pos) (tIf t ta tb) (sIfE st sa sb) := ⟨pe_ifExp hc.pe ha.pe hb.pe, fun σ F H δ m SX S Q r q c =>
  hc.sim σ F H δ m SX _ _ r q fun b F1 H1 m1 s1 M1 h1 => by
    rw [Br_eq] at h1
    split
    · next e => rw [if_pos e] at h1; exact ha.sim σ F1 H1 δ m1 SX S Q (r.go s1 M1) h1 (c.go s1)
    · next e => rw [if_neg e] at h1; exact hb.sim σ F1 H1 δ m1 SX S Q (r.go s1 M1) h1 (c.go s1)⟩
theorem ga_nil : GA K E X [] tNil sNil := ⟨pa_nil, fun σ F H δ m SX S Q r q c => c [] F H [] m (.refl F) r.mr .nil q⟩
theorem ga_cons (ha : GE K E X e te se) (hr : GA K E X es tl sl) (hs : starEach (e :: es) X.env = (false, eval e X.env) :: starEach es X.env := by rfl) : GA K E X (e :: es) (tCons te tl) (sCons se sl) := ⟨pa_cons ha.pe hr.pe hs, fun σ F H δ m SX S Q r q c =>
  ha.sim σ F H δ m SX _ _ r q fun v F1 H1 sv m1 s1 M1 v1 h1 => hr.sim σ F1 H1 δ m1 SX _ _ (r.go s1 M1) h1 fun vs F2 H2 svs m2 s2 M2 v2 h2 => c _ F2 H2 _ m2 (s1.trans s2) M2 (.cons (vr_sub s2 v1) v2) h2⟩
theorem ge_tup {x1} (h : GA K E X es tl sl) : GE K E X (.Tuple es x1 pos) (tTup tl) (sTup sl) := ⟨pe_tup h.pe, fun σ F H δ m SX S Q r q c =>
  h.sim σ F H δ m SX _ _ r q fun vs F1 H1 svs m1 s1 M1 v1 h1 => ⟨by rw [vrs_length v1]; exact h1.1, fun p hp => c (.ref p) (upd F1 p _) _ _ m1 (s1.trans (Sub.new (M1.sub.gone hp))) (M1.frz hp) (.tup (.inl (.inl upd_same)) (vrs_sub (Sub.new (M1.sub.gone hp)) v1)) h1.2⟩⟩
theorem ge_lst (h : GA K E X es tl sl) : GE K E X (.List es pos) (tLst tl) (sLst sl) := ⟨pe_lst h.pe, fun σ F H δ m SX S Q r q c =>
  h.sim σ F H δ m SX _ _ r q fun vs F1 H1 svs m1 s1 M1 v1 h1 => ⟨by rw [vrs_length v1]; exact h1.1, fun p hp => c (.ref p) F1 _ _ _ s1 (M1.newL hp v1) (.ref p) (h1.2 p (M1.gone hp))⟩⟩
theorem ge_un {op : UnaryOp} {r : V → Hp → VK → Prop} {s : SR1} (ho : UnR X (unaryOp op) r) (hr : SimU K r s) (ha : GE K E X a ta sa) : GE K E X (.UnaryOp op a pos) (tUn r ta) (sUn s sa) := ⟨pe_un ho ha.pe, fun σ F H δ m SX S Q q h c =>
  ha.sim σ F H δ m SX _ _ q h fun x F1 H1 sx m1 s1 M1 v1 h1 => hr F1 H1 m1 x sx S Q M1 v1 h1 (c.go s1)⟩
end
end Sy

set_option Elab.async false
set_option linter.all false
set_option maxRecDepth 100000
set_option maxHeartbeats 4000000
/-! Operators, subscripts, slices, built-ins, methods of lists over symbolic values. -/
namespace Sy
open PySem PySem.Spec PyProof.Rows L2
section
variable {K : PySem.W.Frag} {F H : Hp} {m : Mem} {x y : V} {a b : SV}
/-- a list's, a tuple's items -/
def Its (m : Mem) (x : SV) (ys : List SV) : Prop := match x with
  | .tup xs => ys = xs
  | .lst xs => ys = xs
  | .ptup xs => ys = xs
  | .ref a => m a = some (.lst ys)
  | _ => False
theorem its_seq {ys : List SV} (M : MR K F H m) (r : VR K F x a) (h : Its m a ys) : ∃ p vs, x = .ref p ∧ (SqL K H p vs ∨ SqT K H p vs) ∧ VRs K F vs ys := by
  cases r with
  | tup h1 h2 => cases (show ys = _ from h); exact ⟨_, _, rfl, .inr (sqt_sub M.sub h1), h2⟩
  | lst h1 h2 => cases (show ys = _ from h); exact ⟨_, _, rfl, .inl (sql_sub M.sub h1), h2⟩
  | ptup h1 _ h2 => cases (show ys = _ from h); exact ⟨_, _, rfl, .inr (.inl (.inr ⟨_, M.sub _ _ h1⟩)), h2⟩
  | ref p =>
    obtain ⟨vs, h1, h2⟩ := M.lst_ (show m p = some (.lst ys) from h)
    exact ⟨p, vs, rfl, .inl (.inl (.inl h1)), h2⟩
  | _ => exact (show False from h).elim
def ItsL (m : Mem) (x : SV) (ys : List SV) : Prop := match x with
  | .lst xs => ys = xs
  | .ref a => m a = some (.lst ys)
  | _ => False
theorem its_lst {ys : List SV} (M : MR K F H m) (r : VR K F x a) (h : ItsL m a ys) : ∃ p vs, x = .ref p ∧ SqL K H p vs ∧ VRs K F vs ys := by
  cases r with
  | lst h1 h2 => cases (show ys = _ from h); exact ⟨_, _, rfl, sql_sub M.sub h1, h2⟩
  | ref p =>
    obtain ⟨vs, h1, h2⟩ := M.lst_ (show m p = some (.lst ys) from h)
    exact ⟨p, vs, rfl, .inl (.inl h1), h2⟩
  | _ => exact (show False from h).elim
/-! ### data that == compares at any depth -/
mutual
inductive Rd (m : Mem) : SV → PyData → Prop
  | non : Rd m .non .none
  | bl (b : Bool) : Rd m (.bl b) (.bool b)
  | int (i : Int) : Rd m (.int i) (.int i)
  | str (x : Str) : Rd m (.str x) (.str x)
  | tup {xs : List SV} {ds : List PyData} : Rds m xs ds → Rd m (.tup xs) (.tuple ds)
  | lst {xs : List SV} {ds : List PyData} : Rds m xs ds → Rd m (.lst xs) (.list ds)
  | ref {a : Addr} {xs : List SV} {ds : List PyData} : m a = some (.lst xs) → Rds m xs ds → Rd m (.ref a) (.list ds)
inductive Rds (m : Mem) : List SV → List PyData → Prop
  | nil : Rds m [] []
  | cons {x : SV} {d : PyData} {xs : List SV} {ds : List PyData} : Rd m x d → Rds m xs ds → Rds m (x :: xs) (d :: ds)
end
mutual
theorem rd_dp (M : MR K F H m) : ∀ {a : SV} {d : PyData}, Rd m a d → ∀ {x : V}, VR K F x a → Dp K H x d
  | _, _, .non, _, r => by cases r; exact .non
  | _, _, .bl b, _, r => by cases r; exact .bl b
  | _, _, .int b, _, r => by cases r; exact .int b
  | _, _, .str b, _, r => by cases r; exact .str b
  | _, _, .tup h, _, r => by
    cases r with
    | tup h1 h2 => exact .tup (sqt_sub M.sub h1) (rds_dp M h h2)
  | _, _, .lst h, _, r => by
    cases r with
    | lst h1 h2 => exact .lst (sql_sub M.sub h1) (rds_dp M h h2)
  | _, _, .ref e h, _, r => by
    cases r with
    | ref a =>
      obtain ⟨vs, h1, h2⟩ := M.lst_ e
      exact .lst (.inl (.inl h1)) (rds_dp M h h2)
theorem rds_dp (M : MR K F H m) : ∀ {as : List SV} {ds : List PyData}, Rds m as ds → ∀ {xs : List V}, VRs K F xs as → DpAll K H xs ds
  | _, _, .nil, _, r => by cases r; exact .nil
  | _, _, .cons h t, _, r => by
    cases r with
    | cons r1 r2 => exact .cons (rd_dp M h r1) (rds_dp M t r2)
end
def eqF : SV → SV → Option Bool
  | .int i, .int j => some (decide (i = j))
  | .str i, .str j => some (decide (i = j))
  | .bl i, .bl j => some (decide (i = j))
  | .non, .non => some true
  | .non, .int _ => some false
  | .non, .str _ => some false
  | .non, .bl _ => some false
  | .int _, .non => some false
  | .str _, .non => some false
  | .bl _, .non => some false
  | .int _, .str _ => some false
  | .str _, .int _ => some false
  | .bl _, .str _ => some false
  | .str _, .bl _ => some false
  | _, _ => none
theorem dec_inj {α β : Type} [DecidableEq α] [DecidableEq β] {f : α → β} (h : ∀ a b, f a = f b → a = b) (a b : α) : decide (f a = f b) = decide (a = b) := by
  by_cases e : a = b
  · rw [decide_eq_true e, decide_eq_true (congrArg f e)]
  · rw [decide_eq_false e, decide_eq_false fun z => e (h _ _ z)]
theorem eqF_ok {k : Bool} (r : VR K F x a) (q : VR K F y b) (h : eqF a b = some k) : scal x y = true ∧ decide (x = y) = k := by
  cases r <;> cases q <;> first
    | (cases (show (none : Option Bool) = some k from h); done)
    | (obtain rfl := Option.some.inj h; refine ⟨rfl, ?_⟩; first
        | exact dec_inj (fun _ _ z => V.int.inj z) _ _
        | exact dec_inj (fun _ _ z => V.str.inj z) _ _
        | exact dec_inj (fun _ _ z => V.bl.inj z) _ _
        | rfl
        | exact decide_eq_false fun z => by cases z)
end
/-! ### operators -/
def rAddG (K : PySem.W.Frag) : R2 := fun x y H Q => (rI0 fun i j => .int (i + j)) x y H Q ∨ (∃ i j, x = .str i ∧ y = .str j ∧ i.length + j.length ≤ sizeLine ∧ Q (.str (i ++ j)) H) ∨ rCatA K x y H Q ∨ rCat x y H Q
theorem op_addG {X : Cx} (K : PySem.W.Frag) (hK : X.K = K := by rfl) : OpR X (binaryOp .Add) (rAddG K) := by
  subst hK
  exact .or op_add (.or op_add_str (.or op_catA op_cat))
def sAdd : SR2 := fun x y m S => match x, y with
  | .int i, .int j => S (.int (i + j)) m
  | .str i, .str j => i.length + j.length ≤ sizeLine ∧ S (.str (i ++ j)) m
  | .tup xs, .tup ys => xs.length + ys.length ≤ sizeLine ∧ S (.tup (xs ++ ys)) m
  | .ref a, .ref b => ∃ xs ys, m a = some (.lst xs) ∧ m b = some (.lst ys) ∧ xs.length + ys.length ≤ sizeLine ∧ ∀ p, m p = none → S (.ref p) (up m p (.lst (xs ++ ys)))
  | _, _ => False
theorem vrs_nil {K : PySem.W.Frag} {F : Hp} {xs : List SV} (h : VRs K F [] xs) : xs = [] := by cases h; rfl
theorem sim_add {K : PySem.W.Frag} : SimR K (rAddG K) sAdd := fun F H m x y a b S Q M ra rb h c => by
  cases ra <;> cases rb <;> first
    | exact (show False from h).elim
    | exact .inl ⟨_, _, rfl, rfl, c _ F H _ m (.refl F) M (.int _) h⟩
    | exact .inr (.inl ⟨_, _, rfl, rfl, h.1, c _ F H _ m (.refl F) M (.str _) h.2⟩)
    | skip
  · obtain ⟨xs, ys, h1, h2, hl, q⟩ := (show ∃ xs ys, _ from h)
    obtain ⟨vs, e1, r1⟩ := M.lst_ h1
    obtain ⟨ws, e2, r2⟩ := M.lst_ h2
    exact .inr (.inr (.inr ⟨_, _, _, _, rfl, rfl, e1, e2, by rw [vrs_length r1, vrs_length r2]; exact hl, fun p hp => c (.ref p) F _ _ _ (.refl F) (M.newL hp (vrs_append r1 r2)) (.ref p) (q p (M.gone hp))⟩))
  · rename_i h1 r1 _ _ _ h2 r2
    obtain ⟨hl, h⟩ := (show _ ∧ _ from h)
    refine .inr (.inr (.inl ⟨_, _, _, _, rfl, rfl, sqt_sub M.sub h1, sqt_sub M.sub h2, by rw [vrs_length r1, vrs_length r2]; exact hl, fun e => ?_, fun e1 e2 => ?_, fun e1 e2 p hp => ?_⟩))
    · subst e
      obtain rfl := vrs_nil r1
      exact c _ F H _ m (.refl F) M (.tup h2 r2) h
    · subst e2
      obtain rfl := vrs_nil r2
      rw [List.append_nil] at h
      exact c _ F H _ m (.refl F) M (.tup h1 r1) h
    · exact c (.ref p) (upd F p _) _ _ m (Sub.new (M.sub.gone hp)) (M.frz hp) (.tup (.inl (.inl upd_same)) (vrs_sub (Sub.new (M.sub.gone hp)) (vrs_append r1 r2))) h
def sI2 (C : Int → Int → Prop) (g : Int → Int → SV) : SR2 := fun x y m S => match x, y with
  | .int i, .int j => C i j ∧ S (g i j) m
  | _, _ => False
def sI0 (g : Int → Int → SV) : SR2 := fun x y m S => match x, y with
  | .int i, .int j => S (g i j) m
  | _, _ => False
theorem sim_I0 {K : PySem.W.Frag} {g : Int → Int → V} {g' : Int → Int → SV} (hg : ∀ F i j, VR K F (g i j) (g' i j)) : SimR K (rI0 g) (sI0 g') := fun F H m x y a b S Q M ra rb h c => by
  cases ra <;> cases rb <;> first
    | exact (show False from h).elim
    | exact ⟨_, _, rfl, rfl, c _ F H _ m (.refl F) M (hg F _ _) h⟩
theorem sim_I {K : PySem.W.Frag} {C : Int → Int → Prop} {g : Int → Int → V} {g' : Int → Int → SV} (hg : ∀ F i j, VR K F (g i j) (g' i j)) : SimR K (rI C g) (sI2 C g') := fun F H m x y a b S Q M ra rb h c => by
  cases ra <;> cases rb <;> first
    | exact (show False from h).elim
    | exact ⟨_, _, rfl, rfl, h.1, c _ F H _ m (.refl F) M (hg F _ _) h.2⟩
abbrev sSub : SR2 := sI0 fun i j => .int (i - j)
theorem sim_sub {K : PySem.W.Frag} : SimR K (rI0 fun i j => .int (i - j)) sSub := sim_I0 fun _ _ _ => .int _
def CMulG (i j : Int) : Prop := CMul i j ∨ CMulW i j
def CDivG (i j : Int) : Prop := CDiv i j ∨ CDivW i j
theorem op_mulG {X : Cx} : OpR X (binaryOp .Mult) (rI CMulG fun i j => .int (i * j)) := by
  intro pins s σ H x y v u Q I rx ry ⟨i, j, e1, e2, hc, q⟩
  rcases hc with hc | hc
  · exact op_mul pins s σ H x y v u Q I rx ry ⟨i, j, e1, e2, hc, q⟩
  · exact op_mulW pins s σ H x y v u Q I rx ry ⟨i, j, e1, e2, hc, q⟩
theorem op_fdivG {X : Cx} : OpR X (binaryOp .FloorDiv) (rI CDivG fun i j => .int (i / j)) := by
  intro pins s σ H x y v u Q I rx ry ⟨i, j, e1, e2, hc, q⟩
  rcases hc with hc | hc
  · exact op_fdiv pins s σ H x y v u Q I rx ry ⟨i, j, e1, e2, hc, q⟩
  · exact op_fdivW pins s σ H x y v u Q I rx ry ⟨i, j, e1, e2, hc, q⟩
abbrev sMul : SR2 := sI2 CMulG fun i j => .int (i * j)
abbrev sDiv : SR2 := sI2 CDivG fun i j => .int (i / j)
abbrev sMod : SR2 := sI2 (fun _ j => 0 < j) fun i j => .int (i % j)
abbrev sPow : SR2 := sI2 CPow fun i j => .int (i ^ j.toNat)
abbrev sLt : SR2 := sI0 fun i j => .bl (decide (i < j))
abbrev sLe : SR2 := sI0 fun i j => .bl (decide (i ≤ j))
abbrev sGt : SR2 := sI0 fun i j => .bl (decide (j < i))
abbrev sGe : SR2 := sI0 fun i j => .bl (decide (j ≤ i))
section
variable {K : PySem.W.Frag}
theorem sim_mul : SimR K (rI CMulG fun i j => .int (i * j)) sMul := sim_I fun _ _ _ => .int _
theorem sim_fdiv : SimR K (rI CDivG fun i j => .int (i / j)) sDiv := sim_I fun _ _ _ => .int _
theorem sim_mod : SimR K (rI (fun _ j => 0 < j) fun i j => .int (i % j)) sMod := sim_I fun _ _ _ => .int _
theorem sim_lt : SimR K (rI0 fun i j => .bl (decide (i < j))) sLt := sim_I0 fun _ _ _ => .bl _
theorem sim_le : SimR K (rI0 fun i j => .bl (decide (i ≤ j))) sLe := sim_I0 fun _ _ _ => .bl _
theorem sim_gt : SimR K (rI0 fun i j => .bl (decide (j < i))) sGt := sim_I0 fun _ _ _ => .bl _
end
def sNeg : SR1 := fun x m S => match x with
  | .int i => S (.int (-i)) m
  | _ => False
theorem sim_neg {K : PySem.W.Frag} : SimU K (rU fun i => .int (-i)) sNeg := fun F H m x a S Q M r h c => by
  cases r <;> first
    | exact (show False from h).elim
    | exact ⟨_, rfl, c _ F H _ m (.refl F) M (.int _) h⟩
/-- == -/
def rEqG (K : PySem.W.Frag) : R2 := fun x y H Q => rEq x y H Q ∨ rEqD K x y H Q
def rNeG (K : PySem.W.Frag) : R2 := fun x y H Q => rNe x y H Q ∨ rNeD K x y H Q
theorem op_eqG {X : Cx} (K : PySem.W.Frag) (hu : X.A.units + 64 < cLine) (hK : X.K = K := by rfl) : OpR X (compareOp .Eq) (rEqG K) := by
  subst hK
  exact .or op_eq (op_eqD hu)
theorem op_neG {X : Cx} (K : PySem.W.Frag) (hu : X.A.units + 64 < cLine) (hK : X.K = K := by rfl) : OpR X (compareOp .NotEq) (rNeG K) := by
  subst hK
  exact .or op_ne (op_neD hu)
def sEq : SR2 := fun x y m S => match eqF x y with
  | some k => S (.bl k) m
  | none => ∃ d e, Rd m x d ∧ Rd m y e ∧ SeqAt.shaped d = true ∧ SeqAt.shaped e = true ∧ S (.bl (PyData.eqv d e)) m
def sNe : SR2 := fun x y m S => match eqF x y with
  | some k => S (.bl (!k)) m
  | none => ∃ d e, Rd m x d ∧ Rd m y e ∧ SeqAt.shaped d = true ∧ SeqAt.shaped e = true ∧ S (.bl (!PyData.eqv d e)) m
theorem sim_eq {K : PySem.W.Frag} : SimR K (rEqG K) sEq := fun F H m x y a b S Q M ra rb h c => by
  unfold sEq at h
  split at h
  · next k e =>
    obtain ⟨h1, h2⟩ := eqF_ok ra rb e
    exact .inl ⟨h1, by rw [h2]; exact c _ F H _ m (.refl F) M (.bl _) h⟩
  · obtain ⟨d, e, h1, h2, h3, h4, q⟩ := h
    exact .inr ⟨d, e, rd_dp M h1 ra, rd_dp M h2 rb, h3, h4, c _ F H _ m (.refl F) M (.bl _) q⟩
theorem sim_ne {K : PySem.W.Frag} : SimR K (rNeG K) sNe := fun F H m x y a b S Q M ra rb h c => by
  unfold sNe at h
  split at h
  · next k e =>
    obtain ⟨h1, h2⟩ := eqF_ok ra rb e
    exact .inl ⟨h1, by rw [h2]; exact c _ F H _ m (.refl F) M (.bl _) h⟩
  · obtain ⟨d, e, h1, h2, h3, h4, q⟩ := h
    exact .inr ⟨d, e, rd_dp M h1 ra, rd_dp M h2 rb, h3, h4, c _ F H _ m (.refl F) M (.bl _) q⟩
/-- is None -/
def isNon : SV → Bool
  | .non => true
  | _ => false
theorem isNon_ok {K : PySem.W.Frag} {F : Hp} {x : V} {a : SV} (r : VR K F x a) : decide (x = V.non) = isNon a := by cases r <;> rfl
def sIsN : SR2 := fun x y m S => match y with
  | .non => S (.bl (isNon x)) m
  | _ => False
def sNotN : SR2 := fun x y m S => match y with
  | .non => S (.bl (!isNon x)) m
  | _ => False
abbrev rIsN : R2 := fun x y H Q => y = .non ∧ Q (.bl (decide (x = .non))) H
abbrev rNotN : R2 := fun x y H Q => y = .non ∧ Q (.bl (!decide (x = .non))) H
theorem sim_isN {K : PySem.W.Frag} : SimR K rIsN sIsN := fun F H m x y a b S Q M ra rb h c => by
  cases rb <;> first
    | exact (show False from h).elim
    | exact ⟨rfl, by rw [isNon_ok ra]; exact c _ F H _ m (.refl F) M (.bl _) h⟩
theorem sim_notN {K : PySem.W.Frag} : SimR K rNotN sNotN := fun F H m x y a b S Q M ra rb h c => by
  cases rb <;> first
    | exact (show False from h).elim
    | exact ⟨rfl, by rw [isNon_ok ra]; exact c _ F H _ m (.refl F) M (.bl _) h⟩
/-- in, not in: flat items of a list or a tuple -/
def flatS : SV → Bool
  | .non => true
  | .bl _ => true
  | .int _ => true
  | .str _ => true
  | _ => false
def eqS : SV → SV → Bool
  | .non, .non => true
  | .bl a, .bl b => a == b
  | .bl a, .int b => (if a then 1 else 0) == b
  | .int a, .bl b => a == (if b then 1 else 0)
  | .int a, .int b => a == b
  | .str a, .str b => a == b
  | _, _ => false
section
variable {K : PySem.W.Frag} {F : Hp}
theorem flat_ok {x : V} {a : SV} (r : VR K F x a) (h : flatS a = true) : flatV x = true := by
  cases r <;> first | rfl | cases h
theorem eqS_ok {x y : V} {a b : SV} (r : VR K F x a) (q : VR K F y b) (h : flatS a = true) (h2 : flatS b = true) : eqV x y = eqS a b := by
  cases r <;> cases q <;> first | rfl | cases h | cases h2
theorem flats_ok : ∀ {xs : List V} {as : List SV}, VRs K F xs as → as.all flatS = true → xs.all flatV = true
  | _, _, .nil, _ => rfl
  | _, _, .cons r t, h => by
    rw [List.all_cons, Bool.and_eq_true] at h ⊢
    exact ⟨flat_ok r h.1, flats_ok t h.2⟩
theorem any_ok {x : V} {a : SV} (r : VR K F x a) (h : flatS a = true) : ∀ {xs : List V} {as : List SV}, VRs K F xs as → as.all flatS = true → inV x xs = as.any (fun y => eqS y a)
  | _, _, .nil, _ => rfl
  | _, _, .cons (v := v) (vs := vs) q t, h2 => by
    rw [List.all_cons, Bool.and_eq_true] at h2
    have e : inV x (v :: vs) = (eqV v x || inV x vs) := rfl
    rw [e, List.any_cons, any_ok r h t h2.2, eqS_ok q r h2.1 h]
end
def inS (x : SV) (xs : List SV) : Bool := xs.any fun y => eqS y x
def sIn (neg : Bool) : SR2 := fun x y m S => ∃ xs, Its m y xs ∧ flatS x = true ∧ xs.all flatS = true ∧ S (.bl (if neg then !inS x xs else inS x xs)) m
theorem sim_in {K : PySem.W.Frag} (neg : Bool) : SimR K (rIn K neg) (sIn neg) := fun F H m x y a b S Q M ra rb h c => by
  obtain ⟨xs, h1, h2, h3, q⟩ := h
  obtain ⟨p, vs, rfl, hs, r⟩ := its_seq M rb h1
  refine ⟨p, vs, rfl, hs, flat_ok ra h2, flats_ok r h3, ?_⟩
  rw [any_ok ra h2 r h3]
  exact c _ F H _ m (.refl F) M (.bl _) q
theorem op_notInG {X : Cx} (K : PySem.W.Frag) (hK : X.K = K := by rfl) : OpR X (compareOp .NotIn) (rIn K true) := by subst hK; exact op_notIn_seq
/-! ### subscripts -/
def rIxG (K : PySem.W.Frag) : R2 := fun x y H Q => rIxL K x y H Q ∨ rIxT K x y H Q ∨ rIxS x y H Q
theorem ix_G {X : Cx} (K : PySem.W.Frag) (hK : X.K = K := by rfl) : IxR X (rIxG K) := by
  subst hK
  exact .or ix_list (.or ix_tup ix_str)
def sIx : SR2 := fun x y m S => match x, y with
  | .tup xs, .int i => ∃ v, atI xs i = some v ∧ S v m
  | .lst xs, .int i => ∃ v, atI xs i = some v ∧ S v m
  | .ptup xs, .int i => ∃ v, atI xs i = some v ∧ S v m
  | .ref a, .int i => ∃ xs v, m a = some (.lst xs) ∧ atI xs i = some v ∧ S v m
  | .str z, .int i => ∃ c, z.length ≤ sizeLine ∧ atI z.cps.toList i = some c ∧ S (.str ⟨#[c]⟩) m
  | _, _ => False
theorem atI_vrs {K : PySem.W.Frag} {F : Hp} {vs : List V} {xs : List SV} {i : Int} {x : SV} (r : VRs K F vs xs) (h : atI xs i = some x) : ∃ v, atI vs i = some v ∧ VR K F v x := by
  unfold atI at h ⊢
  rw [← vrs_length r] at h
  obtain ⟨j, h1, h2⟩ := Option.bind_eq_some_iff.mp h
  obtain ⟨v, hv, dv⟩ := vrs_get r h2
  exact ⟨v, by rw [h1]; exact hv, dv⟩
theorem sim_ix {K : PySem.W.Frag} : SimR K (rIxG K) sIx := fun F H m x y a b S Q M ra rb h c => by
  cases ra <;> cases rb <;> first
    | exact (show False from h).elim
    | skip
  · obtain ⟨k, h1, h2, q⟩ := (show ∃ c, _ from h)
    exact .inr (.inr ⟨_, _, k, rfl, rfl, h1, h2, c _ F H _ m (.refl F) M (.str _) q⟩)
  · obtain ⟨xs, v, h1, h2, q⟩ := (show ∃ xs v, _ from h)
    obtain ⟨vs, e1, r1⟩ := M.lst_ h1
    obtain ⟨w, hw, rw_⟩ := atI_vrs r1 h2
    exact .inl ⟨_, _, _, w, rfl, rfl, .inl (.inl e1), hw, c _ F H _ m (.refl F) M rw_ q⟩
  · obtain ⟨v, h2, q⟩ := (show ∃ v, _ from h)
    rename_i h1 r1 _
    obtain ⟨w, hw, rw_⟩ := atI_vrs r1 h2
    exact .inr (.inl ⟨_, _, _, w, rfl, rfl, sqt_sub M.sub h1, hw, c _ F H _ m (.refl F) M rw_ q⟩)
  · obtain ⟨v, h2, q⟩ := (show ∃ v, _ from h)
    rename_i h1 r1 _
    obtain ⟨w, hw, rw_⟩ := atI_vrs r1 h2
    exact .inl ⟨_, _, _, w, rfl, rfl, sql_sub M.sub h1, hw, c _ F H _ m (.refl F) M rw_ q⟩
  · obtain ⟨v, h2, q⟩ := (show ∃ v, _ from h)
    rename_i h1 _ r1 _
    obtain ⟨w, hw, rw_⟩ := atI_vrs r1 h2
    exact .inr (.inl ⟨_, _, _, w, rfl, rfl, .inl (.inr ⟨_, M.sub _ _ h1⟩), hw, c _ F H _ m (.refl F) M rw_ q⟩)
section
variable {K : PySem.W.Frag} {E : XK} {X : Cx} {a b c e : Expr} {ta tb tc te : TE} {sa sb sc se : SE} {pos p2 : Pos}
theorem ge_ix {r : R2} {s : SR2} (hr : IxR X r) (hs : SimR K r s) (ha : GE K E X a ta sa) (hb : GE K E X b tb sb) (hp : PlainIx b) : GE K E X (.Subscript a b pos) (tOp r ta tb) (sOp s sa sb) := ⟨pe_ix hr ha.pe hb.pe hp, sim_op hs ha.sim hb.sim⟩
end
/-! slices -/
abbrev SO := SXK → DS → Mem → (Option Int → Mem → Prop) → Prop
def SimO (K : PySem.W.Frag) (E : XK) (te : TO) (se : SO) : Prop := ∀ σ F H δ m SX S (Q : Option Int → Hp → Prop), Rl K E σ F H δ m SX → se SX δ m S → (∀ i F' H' m', Sub F F' → MR K F' H' m' → S i m' → Q i H') → te σ H Q
structure GO (K : PySem.W.Frag) (E : XK) (X : Cx) (e : Option Expr) (te : TO) (se : SO) : Prop where
  pe : PO X e te
  sim : SimO K E te se
def sNoPart : SO := fun _ _ m S => S none m
def sPart (a : SE) : SO := fun SX δ m S => a SX δ m fun x m1 => match x with
  | .int i => S (some i) m1
  | _ => False
abbrev SSl := SV → Option Int → Option Int → Mem → (SV → Mem → Prop) → Prop
def sSlice (r : SSl) (a : SE) (l h : SO) : SE := fun SX δ m S => a SX δ m fun x m1 => l SX δ m1 fun i m2 => h SX δ m2 fun j m3 => r x i j m3 S
def cutS' {α : Type} (xs : List α) (lo hi : Option Int) : List α := (xs.drop (HT.sIx xs.length 0 lo)).take (HT.sIx xs.length xs.length hi - HT.sIx xs.length 0 lo)
def sSl : SSl := fun x lo hi m S => match x with
  | .tup xs => S (.tup (cutS' xs lo hi)) m
  | .lst xs => ∀ p, m p = none → S (.ref p) (up m p (.lst (cutS' xs lo hi)))
  | .ref a => ∃ xs, m a = some (.lst xs) ∧ ∀ p, m p = none → S (.ref p) (up m p (.lst (cutS' xs lo hi)))
  | .str z => z.length ≤ sizeLine ∧ S (.str (cutS z lo hi)) m
  | _ => False
def rSlG (K : PySem.W.Frag) : V → Option Int → Option Int → Hp → VK → Prop := fun x lo hi H Q => rSlL K x lo hi H Q ∨ rSlA K x lo hi H Q ∨ rSlS x lo hi H Q
section
variable {K : PySem.W.Frag} {E : XK} {X : Cx} {a b c e : Expr} {ta tb tc te : TE} {sa sb sc se : SE} {pos p2 : Pos} {lo hi : Option Expr} {tl th : TO} {sl sh : SO}
end
/-! ### calls of built-ins, methods -/
def sCB (r : SRC) (a : SA) : SE := fun SX δ m S => a SX δ m fun xs m1 => r xs m1 S
def sBM (ck : SV → Mem → Prop) (r : SRM) (o : SE) (a : SA) : SE := fun SX δ m S => o SX δ m fun x m1 => ck x m1 ∧ a SX δ m1 fun xs m2 => r x xs m2 S
def sBM0 (ck : SV → Mem → Prop) (r : SRM) (o : SE) : SE := fun SX δ m S => o SX δ m fun x m1 => ck x m1 ∧ r x [] m1 S
def SimK (K : PySem.W.Frag) (T : String) (ck : SV → Mem → Prop) : Prop := ∀ F H m x a, MR K F H m → VR K F x a → ck a m → tyV K T x H
section
variable {K : PySem.W.Frag} {E : XK} {X : Cx} {a b c e o : Expr} {es : List Expr} {ta tb tc te to : TE} {sa sb sc se so : SE} {pos p apos cpos : Pos} {tl : TA} {sl : SA}
theorem sim_cb {r : List V → Hp → VK → Prop} {s : SRC} (hr : SimC K r s) (ha : SimA K E tl sl) : SimE K E (tCB r tl) (sCB s sl) := fun σ F H δ m SX S Q q h c =>
  ha σ F H δ m SX _ _ q h fun xs F1 H1 sx m1 s1 M1 v1 h1 => hr F1 H1 m1 xs sx S Q M1 v1 h1 (c.go s1)
theorem ge_callB {x : Str} {id : String} {r : List V → Hp → VK → Prop} {s : SRC} (hc : CallR X (.builtin id) r) (hr : SimC K r s) (hg : Gl X x) (hm : X.mg x = none) (hv : bootBuiltins x = some (.builtin id)) (ha : GA K E X (e :: es) tl sl) (hn : x ≠ "__name__" := by decide) (hdb : (x == ("__debug__" : Str)) = false := by decide)
    (he : starEach (e :: es) X.env = (false, eval e X.env) :: starEach es X.env := by rfl) (hpl : (backTo pos (starEach es X.env)).any (·.1) = false := by rfl) : GE K E X (.Call (.Name x p) (e :: es) [] pos) (tCB r tl) (sCB s sl) := ⟨pe_callB hc hg hm hv ha.pe hn hdb he hpl, sim_cb hr ha.sim⟩
theorem ge_callTy {x : Str} {T : String} {r : List V → Hp → VK → Prop} {s : SRC} (hc : CallR X (.type T) r) (hr : SimC K r s) (hg : Gl X x) (hm : X.mg x = none) (hv : bootBuiltins x = some (.type T)) (ha : GA K E X (e :: es) tl sl) (hn : x ≠ "__name__" := by decide) (hdb : (x == ("__debug__" : Str)) = false := by decide)
    (he : starEach (e :: es) X.env = (false, eval e X.env) :: starEach es X.env := by rfl) (hpl : (backTo pos (starEach es X.env)).any (·.1) = false := by rfl) : GE K E X (.Call (.Name x p) (e :: es) [] pos) (tCB r tl) (sCB s sl) := ⟨pe_callTy hc hg hm hv ha.pe hn hdb he hpl, sim_cb hr ha.sim⟩
theorem ge_bm {name : Str} {T id : String} {r : V → List V → Hp → VK → Prop} {s : SRM} {ck : SV → Mem → Prop} (pa : PlainAttrs T) (slot : Slot T name id) (hty : typeOf (.builtin id) = pure (.type "method_descriptor")) (hm : MtR X id r) (hk : SimK K T ck) (hr : SimM K r s) (ho : GE K E X o to so) (ha : GA K E X (e :: es) tl sl)
    (hK : X.K = K := by rfl) (hbase : attributeBase o name X.env (eval o X.env) = eval o X.env := by rfl)
    (hfew : ((backTo cpos (starEach (e :: es) X.env)).all (fun x => !x.1) && (backToKw cpos (keywordEach [] X.env)).all (fun x => x.1.isSome)
      && decide ((e :: es).length + ([] : List Keyword).length + (if ([] : List Keyword).isEmpty then 0 else 1) < 30)) = true := by rfl)
    (hline : (apos.endLine == cpos.line) = true := by rfl) (hs : starEach (e :: es) X.env = (false, eval e X.env) :: starEach es X.env := by rfl) (hplain : (backTo cpos (starEach es X.env)).any (·.1) = false := by rfl) :
    GE K E X (.Call (.Attribute o name apos) (e :: es) [] cpos) (tBM K T r to tl) (sBM ck s so sl) := by
  subst hK
  exact ⟨pe_bm pa slot hty hm ho.pe ha.pe hbase hfew hline hs hplain, fun σ F H δ m SX S Q q h c =>
    ho.sim σ F H δ m SX _ _ q h fun x F1 H1 sx m1 s1 M1 v1 h1 => ⟨hk F1 H1 m1 x sx M1 v1 h1.1, ha.sim σ F1 H1 δ m1 SX _ _ (q.go s1 M1) h1.2 fun xs F2 H2 sxs m2 s2 M2 v2 h2 => hr F2 H2 m2 x xs sx sxs S Q M2 (vr_sub s2 v1) v2 h2 (c.go (s1.trans s2))⟩⟩
end
def ckL (x : SV) (m : Mem) : Prop := match x with
  | .ref a => ∃ xs, m a = some (.lst xs)
  | .lst _ => True
  | _ => False
theorem simk_L {K : PySem.W.Frag} : SimK K "list" ckL := fun F H m x a M r h => by
  cases r with
  | ref p =>
    obtain ⟨xs, e⟩ := (show ∃ xs, _ from h)
    obtain ⟨vs, e2, _⟩ := M.lst_ e
    exact .inl ⟨rfl, vs, .inl (.inl e2)⟩
  | lst h1 _ => exact .inl ⟨rfl, _, sql_sub M.sub h1⟩
  | _ => exact (show False from h).elim
def sAppend : SRM := fun x vs m S => match x, vs with
  | .ref a, [y] => ∃ xs, m a = some (.lst xs) ∧ xs.length < sizeLine ∧ S .non (up m a (.lst (xs ++ [y])))
  | _, _ => False
theorem vrs_one {K : PySem.W.Frag} {F : Hp} {vs : List V} {y : SV} (h : VRs K F vs [y]) : ∃ v, vs = [v] ∧ VR K F v y := by
  cases h with
  | cons r t => cases t; exact ⟨_, rfl, r⟩
theorem vrs_two {K : PySem.W.Frag} {F : Hp} {vs : List V} {y z : SV} (h : VRs K F vs [y, z]) : ∃ v w, vs = [v, w] ∧ VR K F v y ∧ VR K F w z := by
  cases h with
  | cons r t =>
    obtain ⟨w, rfl, q⟩ := vrs_one t
    exact ⟨_, _, rfl, r, q⟩
section
variable {K : PySem.W.Frag}
theorem sim_append : SimM K rAppend sAppend := fun F H m x xs a as S Q M r rs h c => by
  cases r with
  | ref p =>
    unfold sAppend at h
    split at h
    · have e := SV.ref.inj (by assumption : SV.ref p = SV.ref _)
      subst e
      obtain ⟨ys, e1, hl, q⟩ := h
      obtain ⟨v, rfl, rv⟩ := vrs_one rs
      obtain ⟨vs, e2, r2⟩ := M.lst_ e1
      exact ⟨p, vs, v, rfl, rfl, e2, by rw [vrs_length r2]; exact hl, c _ F _ _ _ (.refl F) (M.setL e1 (vrs_append r2 (.cons rv .nil))) .non q⟩
    · exact h.elim
  | _ => exact (show False from by unfold sAppend at h; exact h).elim
def sExtend : SRM := fun x vs m S => match x, vs with
  | .ref a, [.ref b] => ∃ xs ys, m a = some (.lst xs) ∧ m b = some (.lst ys) ∧ xs.length + ys.length ≤ sizeLine ∧ S .non (up m a (.lst (xs ++ ys)))
  | _, _ => False
theorem sim_extend : SimM K rExtend sExtend := fun F H m x xs a as S Q M r rs h c => by
  cases r with
  | ref p =>
    unfold sExtend at h
    split at h
    · have e := SV.ref.inj (by assumption : SV.ref p = SV.ref _)
      subst e
      obtain ⟨ys, zs, e1, e3, hl, q⟩ := h
      obtain ⟨v, rfl, rv⟩ := vrs_one rs
      obtain rfl := vr_ref rv
      obtain ⟨vs, e2, r2⟩ := M.lst_ e1
      obtain ⟨ws, e4, r4⟩ := M.lst_ e3
      exact ⟨p, _, vs, ws, rfl, rfl, e2, e4, by rw [vrs_length r2, vrs_length r4]; exact hl, c _ F _ _ _ (.refl F) (M.setL e1 (vrs_append r2 r4)) .non q⟩
    · exact h.elim
  | _ => exact (show False from by unfold sExtend at h; exact h).elim
def sClear : SRM := fun x vs m S => match x, vs with
  | .ref a, [] => ∃ xs, m a = some (.lst xs) ∧ S .non (up m a (.lst []))
  | _, _ => False
/-- list.index of a flat thing: the first place -/
def sIndex : SRM := fun x vs m S => match vs with
  | [y] => ∃ xs j z, ItsL m x xs ∧ flatS y = true ∧ xs.all flatS = true ∧ xs[j]? = some z ∧ eqS z y = true ∧ (∀ (i : Nat) z', i < j → xs[i]? = some z' → eqS z' y = false) ∧ S (.int (j : Nat)) m
  | _ => False
theorem sim_index : SimM K (rIndex K) sIndex := fun F H m x xs a as S Q M r rs h c => by
  unfold sIndex at h
  split at h
  · obtain ⟨ys, j, z, h1, h2, h3, h4, h5, h6, q⟩ := h
    obtain ⟨v, rfl, rv⟩ := vrs_one rs
    obtain ⟨p, vs, rfl, hs, r2⟩ := its_lst M r h1
    obtain ⟨w, hw, rw_⟩ := vrs_get r2 h4
    have fl : ∀ (i : Nat) z', ys[i]? = some z' → flatS z' = true := fun i z' e => List.all_eq_true.mp h3 z' (List.mem_of_getElem? e)
    refine ⟨p, vs, v, j, w, rfl, rfl, hs, flat_ok rv h2, flats_ok r2 h3, hw, by rw [eqS_ok rw_ rv (fl _ _ h4) h2]; exact h5, fun i z' hi e => ?_, c _ F H _ m (.refl F) M (.int _) q⟩
    obtain ⟨d, hd, rd⟩ := vrs_getV r2 e
    rw [eqS_ok rd rv (fl _ _ hd) h2]
    exact h6 i d hi hd
  · exact h.elim
/-- len -/
def sLen : SRC := fun vs m S => match vs with
  | [x] => match x with
    | .str z => z.length ≤ sizeLine ∧ S (.int z.length) m
    | x => ∃ ys, Its m x ys ∧ S (.int ys.length) m
  | _ => False
def rLenG (K : PySem.W.Frag) : List V → Hp → VK → Prop := fun xs H Q => (∃ p ys, xs = [.ref p] ∧ (SqL K H p ys ∨ SqT K H p ys) ∧ Q (.int ys.length) H) ∨ ∃ z, xs = [.str z] ∧ z.length ≤ sizeLine ∧ Q (.int z.length) H
theorem cr_len {X : Cx} (K : PySem.W.Frag) (hK : X.K = K := by rfl) : CallR X (.builtin "len") (rLenG K) := by
  subst hK
  exact .or call_len_seq call_len_str
theorem sim_len : SimC K (rLenG K) sLen := fun F H m xs as S Q M rs h c => by
  unfold sLen at h
  split at h
  · next x =>
    obtain ⟨v, rfl, rv⟩ := vrs_one rs
    have key : (∃ ys, Its m x ys ∧ S (.int ys.length) m) → rLenG K [v] H Q := fun ⟨ys, h1, q⟩ => by
      obtain ⟨p, vs, rfl, hs, r2⟩ := its_seq M rv h1
      exact .inl ⟨p, vs, rfl, hs, by rw [vrs_length r2]; exact c _ F H _ m (.refl F) M (.int _) q⟩
    cases x with
    | str z => obtain rfl := vr_str rv; exact .inr ⟨z, rfl, h.1, c _ F H _ m (.refl F) M (.int _) h.2⟩
    | _ => exact key h
  · exact h.elim
/-- isinstance of built-in classes -/
def tyS (m : Mem) (x : SV) (t : String) : Prop := match x with
  | .non => t = "NoneType"
  | .bl _ => t = "bool"
  | .int _ => t = "int"
  | .str _ => t = "str"
  | .tup _ => t = "tuple"
  | .lst _ => t = "list"
  | .ref a => t = "list" ∧ ∃ xs, m a = some (.lst xs)
  | _ => False
theorem tyx_ok {F H : Hp} {m : Mem} {x : V} {a : SV} {t : String} (M : MR K F H m) (r : VR K F x a) (h : tyS m a t) : TyX K H x (.type t) := by
  cases r with
  | non => cases (show t = _ from h); exact .base .non
  | bl b => cases (show t = _ from h); exact .base (.bl b)
  | int b => cases (show t = _ from h); exact .base (.int b)
  | str b => cases (show t = _ from h); exact .base (.str b)
  | ty n => exact (show False from h).elim
  | kt _ => exact (show False from h).elim
  | ptup _ _ _ => exact (show False from h).elim
  | tup h1 _ =>
    cases (show t = _ from h)
    rcases sqt_sub M.sub h1 with (h | ⟨o, h⟩) | ⟨o, its, n, h1, h2, _⟩
    · exact .base (.tup h)
    · exact .fTuple h
    · exact .kTuple h1 h2
  | lst h1 _ =>
    cases (show t = _ from h)
    rcases sql_sub M.sub h1 with (h | ⟨o, h⟩) | ⟨o, its, n, h1, h2, _⟩
    · exact .base (.lst h)
    · exact .base (.frz h)
    · exact .kList h1 h2
  | ref a =>
    obtain ⟨rfl, xs, e⟩ := (show t = "list" ∧ ∃ xs, _ from h)
    obtain ⟨vs, e2, _⟩ := M.lst_ e
    exact .base (.lst e2)
def isB (t T : String) : Bool := t == T || (t == "bool" && T == "int")
theorem kit_tab : ∀ t ∈ ["NoneType", "bool", "int", "str", "list", "tuple", "dict"], ∀ T ∈ ["bool", "int", "str", "list", "tuple"], kitB t T = some (isB t T) := by decide +kernel
theorem tyS_mem {m : Mem} {a : SV} {t : String} (h : tyS m a t) : t ∈ ["NoneType", "bool", "int", "str", "list", "tuple", "dict"] := by
  cases a <;> first
    | exact (show False from h).elim
    | (cases (show t = _ from h); simp)
    | (obtain ⟨rfl, _⟩ := (show t = "list" ∧ _ from h); simp)
def sIsi : SRC := fun vs m S => match vs with
  | [x, .ty T] => T ∈ ["bool", "int", "str", "list", "tuple"] ∧ ∃ t, tyS m x t ∧ S (.bl (isB t T)) m
  | [x, .tup [.ty T, .ty U]] => (T ∈ ["bool", "int", "str", "list", "tuple"] ∧ U ∈ ["bool", "int", "str", "list", "tuple"]) ∧ ∃ t, tyS m x t ∧ S (.bl (isB t T || isB t U)) m
  | _ => False
def rIsiG (K : PySem.W.Frag) : List V → Hp → VK → Prop := fun xs H Q => rIsi K xs H Q ∨ rIsiT K xs H Q
theorem cr_isi {X : Cx} (K : PySem.W.Frag) (hK : X.K = K := by rfl) : CallR X (.builtin "isinstance") (rIsi K) := by
  subst hK
  exact call_isi
def sIsi1 : SRC := fun vs m S => match vs with
  | [x, .ty T] => T ∈ ["bool", "int", "str", "list", "tuple"] ∧ ∃ t, tyS m x t ∧ S (.bl (isB t T)) m
  | _ => False
theorem sim_isi : SimC K (rIsi K) sIsi1 := fun F H m xs as S Q M rs h c => by
  unfold sIsi1 at h
  split at h
  · obtain ⟨hT, t, ht, q⟩ := h
    obtain ⟨v, w, rfl, rv, rw_⟩ := vrs_two rs
    obtain rfl := vr_ty rw_
    exact ⟨v, _, _, _, _, rfl, .ty _, tyx_ok M rv ht, kit_ty (kit_tab _ (tyS_mem ht) _ hT), c _ F H _ m (.refl F) M (.bl _) q⟩
  · exact h.elim
/-- all, any, sum -/
def sAll : SRC := fun vs m S => match vs with
  | [x] => ∃ bs : List Bool, ItsL m x (bs.map .bl) ∧ S (.bl (bs.all id)) m
  | _ => False
def sAny : SRC := fun vs m S => match vs with
  | [x] => ∃ bs : List Bool, ItsL m x (bs.map .bl) ∧ S (.bl (bs.any id)) m
  | _ => False
def sSum : SRC := fun vs m S => match vs with
  | [x] => ∃ ns : List Int, ItsL m x (ns.map .int) ∧ S (.int ns.sum) m
  | _ => False
theorem cr_allG {X : Cx} (K : PySem.W.Frag) (hc : X.calm = true := by rfl) (hK : X.K = K := by rfl) : CallR X (.builtin "all") (rAll K) := by subst hK; exact cr_all hc
theorem sim_all : SimC K (rAll K) sAll := fun F H m xs as S Q M rs h c => by
  unfold sAll at h
  split at h
  · obtain ⟨bs, h1, q⟩ := h
    obtain ⟨v, rfl, rv⟩ := vrs_one rs
    obtain ⟨p, vs, rfl, hs, r2⟩ := its_lst M rv h1
    obtain rfl := vrs_bls r2
    exact ⟨p, bs, rfl, hs, c _ F H _ m (.refl F) M (.bl _) q⟩
  · exact h.elim
/-- min, max of two ints -/
abbrev rMin2' : List V → Hp → VK → Prop := fun xs H Q => ∃ i j, xs = [.int i, .int j] ∧ Q (.int (if j < i then j else i)) H
abbrev rMax2' : List V → Hp → VK → Prop := fun xs H Q => ∃ i j, xs = [.int i, .int j] ∧ Q (.int (if j > i then j else i)) H
def sMin2 : SRC := fun vs m S => match vs with
  | [.int i, .int j] => S (.int (if j < i then j else i)) m
  | _ => False
def sMax2 : SRC := fun vs m S => match vs with
  | [.int i, .int j] => S (.int (if j > i then j else i)) m
  | _ => False
theorem sim_min2 : SimC K rMin2' sMin2 := fun F H m xs as S Q M rs h c => by
  unfold sMin2 at h
  split at h
  · obtain ⟨v, w, rfl, rv, rw_⟩ := vrs_two rs
    obtain rfl := vr_int rv
    obtain rfl := vr_int rw_
    exact ⟨_, _, rfl, c _ F H _ m (.refl F) M (.int _) h⟩
  · exact h.elim
/-- tuple(..), list(..) -/
abbrev rTupG (K : PySem.W.Frag) : List V → Hp → VK → Prop := fun xs H Q => ∃ p ys, xs = [.ref p] ∧ ((SqL K H p ys ∧ ∀ l, H l = none → Q (.ref l) (upd H l (.tup ys))) ∨ (SqT K H p ys ∧ Q (.ref p) H))
abbrev rLstG (K : PySem.W.Frag) : List V → Hp → VK → Prop := fun xs H Q => ∃ p ys, xs = [.ref p] ∧ (SqL K H p ys ∨ SqT K H p ys) ∧ ∀ l, H l = none → Q (.ref l) (upd H l (.lst ys))
theorem cr_tup {X : Cx} (K : PySem.W.Frag) (hK : X.K = K := by rfl) : CallR X (.type "tuple") (rTupG K) := by subst hK; exact call_tuple_of
theorem cr_lst {X : Cx} (K : PySem.W.Frag) (hK : X.K = K := by rfl) : CallR X (.type "list") (rLstG K) := by subst hK; exact call_list_of
def sTupOf : SRC := fun vs m S => match vs with
  | [x] => ∃ ys, Its m x ys ∧ S (.tup ys) m
  | _ => False
def sLstOf : SRC := fun vs m S => match vs with
  | [x] => ∃ ys, Its m x ys ∧ ∀ p, m p = none → S (.ref p) (up m p (.lst ys))
  | _ => False
theorem sim_tupOf : SimC K (rTupG K) sTupOf := fun F H m xs as S Q M rs h c => by
  unfold sTupOf at h
  split at h
  · obtain ⟨ys, h1, q⟩ := h
    obtain ⟨v, rfl, rv⟩ := vrs_one rs
    have key : ∀ p vs, v = .ref p → SqL K H p vs → VRs K F vs ys → rTupG K [v] H Q := fun p vs e hs r2 => by
      subst e
      exact ⟨p, vs, rfl, .inl ⟨hs, fun l hl => c (.ref l) (upd F l _) _ _ m (Sub.new (M.sub.gone hl)) (M.frz hl) (.tup (.inl (.inl upd_same)) (vrs_sub (Sub.new (M.sub.gone hl)) r2)) q⟩⟩
    cases rv with
    | tup g1 r2 =>
      cases (show ys = _ from h1)
      exact ⟨_, _, rfl, .inr ⟨sqt_sub M.sub g1, c _ F H _ m (.refl F) M (.tup g1 r2) q⟩⟩
    | lst g1 r2 => cases (show ys = _ from h1); exact key _ _ rfl (sql_sub M.sub g1) r2
    | ptup g1 _ r2 =>
      cases (show ys = _ from h1)
      exact ⟨_, _, rfl, .inr ⟨.inl (.inr ⟨_, M.sub _ _ g1⟩), c _ F H _ m (.refl F) M (.tup (.inl (.inr ⟨_, g1⟩)) r2) q⟩⟩
    | ref p =>
      obtain ⟨vs, e, r2⟩ := M.lst_ (show m p = some (.lst ys) from h1)
      exact key _ _ rfl (.inl (.inl e)) r2
    | _ => exact (show False from h1).elim
  · exact h.elim
theorem sim_lstOf : SimC K (rLstG K) sLstOf := fun F H m xs as S Q M rs h c => by
  unfold sLstOf at h
  split at h
  · obtain ⟨ys, h1, q⟩ := h
    obtain ⟨v, rfl, rv⟩ := vrs_one rs
    obtain ⟨p, vs, rfl, hs, r2⟩ := its_seq M rv h1
    exact ⟨p, vs, rfl, hs, fun l hl => c (.ref l) F _ _ _ (.refl F) (M.newL hl r2) (.ref l) (q l (M.gone hl))⟩
  · exact h.elim
/-- int(..) of an int, a bool -/
abbrev rInt1 : List V → Hp → VK → Prop := fun xs H Q => (∃ i, xs = [.int i] ∧ Q (.int i) H) ∨ ∃ k, xs = [.bl k] ∧ Q (.int (if k then 1 else 0)) H
def sInt1 : SRC := fun vs m S => match vs with
  | [.int i] => S (.int i) m
  | [.bl k] => S (.int (if k then 1 else 0)) m
  | _ => False
theorem sim_int1 : SimC K rInt1 sInt1 := fun F H m xs as S Q M rs h c => by
  unfold sInt1 at h
  split at h
  · obtain ⟨v, rfl, rv⟩ := vrs_one rs
    obtain rfl := vr_int rv
    exact .inl ⟨_, rfl, c _ F H _ m (.refl F) M (.int _) h⟩
  · obtain ⟨v, rfl, rv⟩ := vrs_one rs
    obtain rfl := vr_bl rv
    exact .inr ⟨_, rfl, c _ F H _ m (.refl F) M (.int _) h⟩
  · exact h.elim
/-- str(n) -/
abbrev rStrI : List V → Hp → VK → Prop := fun xs H Q => ∃ i, xs = [.int i] ∧ i.natAbs.log2 < 1920 ∧ Q (.str (toString i)) H
def sStrI : SRC := fun vs m S => match vs with
  | [.int i] => i.natAbs.log2 < 1920 ∧ S (.str (toString i)) m
  | _ => False
theorem sim_strI : SimC K rStrI sStrI := fun F H m xs as S Q M rs h c => by
  unfold sStrI at h
  split at h
  · obtain ⟨v, rfl, rv⟩ := vrs_one rs
    obtain rfl := vr_int rv
    exact ⟨_, rfl, h.1, c _ F H _ m (.refl F) M (.str _) h.2⟩
  · exact h.elim
end
end Sy

set_option Elab.async false
set_option linter.all false
set_option maxRecDepth 100000
set_option maxHeartbeats 4000000
/-! Statements, loops, comprehensions, defs over symbolic values. -/
namespace Sy
open PySem PySem.Spec PyProof.Rows L2
structure SEnds where
  nx : DS → Mem → Prop
  rt : SV → Mem → Prop
  bk : DS → Mem → Prop := fun _ _ => False
  ct : DS → Mem → Prop := fun _ _ => False
abbrev SS := SXK → SEnds → DS → Mem → Prop
def CnS (K : PySem.W.Frag) (F : Hp) (S : DS → Mem → Prop) (Q : L2.St → Hp → Prop) : Prop := ∀ σ δ F' H' m', Sub F F' → SR K F' σ δ → MR K F' H' m' → S δ m' → Q σ H'
theorem CnS.go {K : PySem.W.Frag} {F F' : Hp} {S : DS → Mem → Prop} {Q : L2.St → Hp → Prop} (c : CnS K F S Q) (s : Sub F F') : CnS K F' S Q := fun v F2 H2 sv m2 s2 => c v F2 H2 sv m2 (s.trans s2)
structure EndOk (K : PySem.W.Frag) (F : Hp) (E : Ends) (D : SEnds) : Prop where
  nx : CnS K F D.nx E.nx
  rt : Cn K F D.rt E.rt
  bk : CnS K F D.bk E.bk
  ct : CnS K F D.ct E.ct
theorem EndOk.go {K : PySem.W.Frag} {F F' : Hp} {E : Ends} {D : SEnds} (c : EndOk K F E D) (s : Sub F F') : EndOk K F' E D := ⟨c.nx.go s, c.rt.go s, c.bk.go s, c.ct.go s⟩
def SimS (K : PySem.W.Frag) (E : XK) (ts : TS) (ss : SS) : Prop := ∀ σ F H δ m SX D Es, Rl K E σ F H δ m SX → ss SX D δ m → EndOk K F Es D → ts Es σ H
structure GS (K : PySem.W.Frag) (E : XK) (X : Cx) (st : Stmt) (ts : TS) (ss : SS) : Prop where
  pe : PS X st ts
  sim : SimS K E ts ss
structure GSs (K : PySem.W.Frag) (E : XK) (X : Cx) (st : List Stmt) (ts : TS) (ss : SS) : Prop where
  pe : PSs X st ts
  sim : SimS K E ts ss
/-! targets -/
abbrev SG := SXK → SV → DS → Mem → (DS → Mem → Prop) → Prop
abbrev SGs := SXK → List SV → DS → Mem → (DS → Mem → Prop) → Prop
def SimG (K : PySem.W.Frag) (E : XK) (g : TG) (s : SG) : Prop := ∀ σ F H δ m SX v sv S Q, Rl K E σ F H δ m SX → VR K F v sv → s SX sv δ m S → CnS K F S Q → g v σ H Q
def SimGs (K : PySem.W.Frag) (E : XK) (g : TGs) (s : SGs) : Prop := ∀ σ F H δ m SX v sv S Q, Rl K E σ F H δ m SX → VRs K F v sv → s SX sv δ m S → CnS K F S Q → g v σ H Q
structure GG (K : PySem.W.Frag) (E : XK) (X : Cx) (e : Expr) (g : TG) (s : SG) : Prop where
  pe : PG X e g
  sim : SimG K E g s
structure GGs (K : PySem.W.Frag) (E : XK) (X : Cx) (e : List Expr) (g : TGs) (s : SGs) : Prop where
  pe : PGs X e g
  sim : SimGs K E g s
def hName (i : Nat) : SG := fun _ v δ m S => S (δ.set i (some v)) m
def hNil : SGs := fun _ vs δ m S => match vs with
  | [] => S δ m
  | _ => False
def hCons (g : SG) (r : SGs) : SGs := fun SX vs δ m S => match vs with
  | v :: ws => g SX v δ m fun δ1 m1 => r SX ws δ1 m1 S
  | [] => False
def hTup (n : Nat) (r : SGs) : SG := fun SX v δ m S => match v with
  | .tup xs => xs.length = n ∧ r SX xs δ m S
  | _ => False
section
variable {K : PySem.W.Frag} {E : XK} {X : Cx} {a b c e : Expr} {es : List Expr} {ta tb tc te : TE} {sa sb sc se : SE} {pos pos' : Pos} {g : TG} {gs : TGs} {sg : SG} {sgs : SGs}
theorem gg_name {i : Nat} {x : Str} (hN : X.N.Nodup) (hi : X.N[i]? = some x) (hx : Loc X.env.scope x) (hf : X.fn x = true ∨ X.env.scope.names.lookup x = some .local := by first | exact .inl rfl | exact .inr rfl | assumption) : GG K E X (.Name x pos) (gName i) (hName i) :=
  ⟨pg_name hN hi hx hf, fun σ F H δ m SX v sv S Q r rv h c => c _ _ F H m (.refl F) (r.sr.set rv) r.mr h⟩
theorem ggs_nil : GGs K E X [] gNil hNil := ⟨pgs_nil, fun σ F H δ m SX v sv S Q r rv h c => by
  cases rv with
  | nil => exact ⟨rfl, c _ _ F H m (.refl F) r.sr r.mr h⟩
  | cons _ _ => exact (show False from h).elim⟩
theorem ggs_cons (h1 : GG K E X e g sg) (h2 : GGs K E X es gs sgs) (hs : (assignEach (e :: es) X.env).map (·.2) = assign e X.env :: (assignEach es X.env).map (·.2) := by rfl) : GGs K E X (e :: es) (gCons g gs) (hCons sg sgs) := ⟨pgs_cons h1.pe h2.pe hs, fun σ F H δ m SX v sv S Q r rv h c => by
  cases rv with
  | nil => exact (show False from h).elim
  | cons r1 r2 =>
    exact ⟨_, _, rfl, h1.sim σ F H δ m SX _ _ _ _ r r1 h fun σ1 δ1 F1 H1 m1 s1 sr1 M1 q1 => h2.sim σ1 F1 H1 δ1 m1 SX _ _ S Q ⟨sr1, M1, r.ex.go s1⟩ (vrs_sub s1 r2) q1 (c.go s1)⟩⟩
theorem gg_tup (n : Nat) {k : Nat} (hc : X.calm = true) (h : GGs K E X es gs sgs) (hn : (assignEach es X.env).length = n := by rfl) (hst : (assignEach es X.env).findIdx? (·.1) = none := by rfl) (hK : X.K = K := by rfl) : GG K E X (.Tuple es k pos) (gTup K n gs) (hTup n sgs) := by
  subst hK
  exact ⟨pg_tup hc h.pe hn hst, fun σ F H δ m SX v sv S Q r rv hh c => by
    cases rv with
    | tup h1 h2 => exact ⟨_, _, rfl, sqt_sub r.mr.sub h1, by rw [vrs_length h2]; exact hh.1, h.sim σ F H δ m SX _ _ S Q r h2 hh.2 c⟩
    | _ => exact (show False from hh).elim⟩
/-- o[i] = v of a list -/
def hSubL (o i : SE) : SG := fun SX v δ m S => o SX δ m fun x m1 => i SX δ m1 fun y m2 => match x, y with
  | .ref a, .int k => ∃ xs j, m2 a = some (.lst xs) ∧ ixN xs.length k = some j ∧ S δ (up m2 a (.lst (xs.set j v)))
  | _, _ => False
theorem gg_subL (ho : GE K E X a ta sa) (hi : GE K E X b tb sb) (ha : ∀ v, assign (.Subscript a b pos) X.env v = (do
      let ov ← holding [v] (eval a X.env)
      let iv ← holding [v, ov] (eval b X.env)
      standAt pos
      holding [v, ov, iv] (setItem ov iv v)
      release [v, ov, iv] []) := by intro _; rfl) : GG K E X (.Subscript a b pos) (gSub ta tb rSetL) (hSubL sa sb) := ⟨pg_sub ho.pe hi.pe set_list ha, fun σ F H δ m SX v sv S Q r rv h c =>
  ho.sim σ F H δ m SX _ _ r h fun x F1 H1 sx m1 s1 M1 v1 h1 => hi.sim σ F1 H1 δ m1 SX _ _ (r.go s1 M1) h1 fun y F2 H2 sy m2 s2 M2 v2 h2 => by
    have v1 := vr_sub s2 v1
    cases v1 <;> cases v2 <;> first
      | exact (show False from h2).elim
      | skip
    obtain ⟨xs, j, e1, e2, q⟩ := (show ∃ xs j, _ from h2)
    obtain ⟨vs, e3, r3⟩ := M2.lst_ e1
    have s12 := s1.trans s2
    exact ⟨_, vs, _, j, rfl, rfl, e3, by rw [vrs_length r3]; exact e2, c _ δ F2 _ _ s12 (r.sr.sub s12) (M2.setL e1 (vrs_set j r3 (vr_sub s12 rv))) q⟩⟩
end
/-! small statements -/
def sNext : SS := fun _ D δ m => D.nx δ m
def sSeq (t u : SS) : SS := fun SX D δ m => t SX { D with nx := fun δ1 m1 => u SX D δ1 m1 } δ m
def sAsg (a : SE) (g : SG) : SS := fun SX D δ m => a SX δ m fun x m1 => g SX x δ m1 D.nx
def sDrop (a : SE) : SS := fun SX D δ m => a SX δ m fun _ m1 => D.nx δ m1
def sRet (a : SE) : SS := fun SX D δ m => a SX δ m D.rt
def sRetN : SS := fun _ D _ m => D.rt .non m
def sIfS (c : STt) (t u : SS) : SS := fun SX D δ m => c SX δ m fun b m1 => Br b (t SX D δ m1) (u SX D δ m1)
def sBreak : SS := fun _ D δ m => D.bk δ m
def sCont : SS := fun _ D δ m => D.ct δ m
def sNever : SS := fun _ _ _ _ => False
section
variable {K : PySem.W.Frag} {E : XK} {X : Cx} {a b c e : Expr} {es : List Expr} {ta tb tc te : TE} {sa sb sc se : SE} {pos pos' : Pos} {g : TG} {gs : TGs} {sg : SG} {sgs : SGs} {st : Stmt} {sts rest : List Stmt} {t u : TS} {zt zu : SS} {ct : TT} {cs : STt}
theorem gss_nil : GSs K E X [] tNext sNext := ⟨pss_nil, fun σ F H δ m SX D Es r h q => q.nx σ δ F H m (.refl F) r.sr r.mr h⟩
theorem gss_one (h : GS K E X st t zt) : GSs K E X [st] t zt := ⟨pss_one h.pe, h.sim⟩
theorem gss_cons (h1 : GS K E X st t zt) (h2 : GSs K E X rest u zu) : GSs K E X (st :: rest) (tSeq t u) (sSeq zt zu) := ⟨pss_cons h1.pe h2.pe, fun σ F H δ m SX D Es r h q =>
  h1.sim σ F H δ m SX _ _ r h ⟨fun σ1 δ1 F1 H1 m1 s1 sr1 M1 q1 => h2.sim σ1 F1 H1 δ1 m1 SX D Es ⟨sr1, M1, r.ex.go s1⟩ q1 (q.go s1), q.rt, q.bk, q.ct⟩⟩
theorem gs_never : GS K E X st tNever sNever := ⟨ps_never, fun σ F H δ m SX D Es r h q => h.elim⟩
theorem gs_expr (he : GE K E X e te se) (hs : swapsWith e none pos.line X.env = pure false := by rfl) : GS K E X (.Expr e pos) (tDrop te) (sDrop se) := ⟨ps_expr he.pe hs, fun σ F H δ m SX D Es r h q =>
  he.sim σ F H δ m SX _ _ r h fun v F1 H1 sv m1 s1 M1 v1 h1 => q.nx σ δ F1 H1 m1 s1 (r.sr.sub s1) M1 h1⟩
theorem gs_ret (he : GE K E X e te se) : GS K E X (.Return (some e) pos) (tRet te) (sRet se) := ⟨ps_ret he.pe, fun σ F H δ m SX D Es r h q => he.sim σ F H δ m SX _ _ r h q.rt⟩
theorem sim_asg (he : SimE K E te se) (hg : SimG K E g sg) : SimS K E (tAsg te g) (sAsg se sg) := fun σ F H δ m SX D Es r h q =>
  he σ F H δ m SX _ _ r h fun v F1 H1 sv m1 s1 M1 v1 h1 => hg σ F1 H1 δ m1 SX v sv _ _ (r.go s1 M1) v1 h1 (q.nx.go s1)
theorem gs_asg (he : GE K E X e te se) (hg : GG K E X a g sg) (hs : swapsWithSole [a] e pos.line X.env = pure false := by rfl) (hw : swappedStores [a] e X.env = pure none := by rfl)
    (h1 : (assignEach [a] X.env).map (·.2) = [assign a X.env] := by rfl) : GS K E X (.Assign [a] e pos) (tAsg te g) (sAsg se sg) := ⟨ps_asg he.pe hg.pe hs hw h1, sim_asg he.sim hg.sim⟩
theorem gs_set {i : Nat} {x : Str} (hN : X.N.Nodup) (hi : X.N[i]? = some x) (hx : Loc X.env.scope x) (he : GE K E X e te se) (hs : swapsWith e (some (.Name x pos')) pos.line X.env = pure false := by rfl) (hf : X.fn x = true ∨ X.env.scope.names.lookup x = some .local := by first | exact .inl rfl | exact .inr rfl | assumption) : GS K E X (.Assign [.Name x pos'] e pos) (tAsg te (gName i)) (sAsg se (hName i)) :=
  ⟨ps_set hN hi hx he.pe hs hf, sim_asg he.sim fun σ F H δ m SX v sv S Q r rv h c => c _ _ F H m (.refl F) (r.sr.set rv) r.mr h⟩
theorem gs_if {s1 s2 : List Stmt} (hc : GT K E X c ct cs) (h1 : GSs K E X s1 t zt) (h2 : GSs K E X s2 u zu) : GS K E X (.If c s1 s2 pos) (tIfS ct t u) (sIfS cs zt zu) := ⟨ps_if hc.pe h1.pe h2.pe, fun σ F H δ m SX D Es r h q =>
  hc.sim σ F H δ m SX _ _ r h fun b F1 H1 m1 s1 M1 h1' => by
    rw [Br_eq] at h1'
    cases b with
    | true => exact h1.sim σ F1 H1 δ m1 SX D Es (r.go s1 M1) (by simpa using h1') (q.go s1)
    | false => exact h2.sim σ F1 H1 δ m1 SX D Es (r.go s1 M1) (by simpa using h1') (q.go s1)⟩
end
/-! ### while -/
@[irreducible] def WhileGo (c : STt) (b : SS) (SX : SXK) (D : SEnds) (δ : DS) (m : Mem) : Prop := ∃ W : Nat → DS → Mem → Prop, (∃ n, W n δ m) ∧ ∀ n δ m, W n δ m →
  c SX δ m fun t m1 => Br t (b SX { D with nx := fun δ' m' => ∃ n', n' < n ∧ Fg (W n' δ') m', ct := fun δ' m' => ∃ n', n' < n ∧ Fg (W n' δ') m', bk := D.nx } δ m1) (D.nx δ m1)
def sWhile (c : STt) (b : SS) : SS := fun SX D δ m => WhileGo c b SX D δ m
section
variable {K : PySem.W.Frag} {E : XK} {X : Cx} {c : Expr} {pos : Pos} {body : List Stmt} {t : TS} {zt : SS} {ct : TT} {cs : STt}
end
/-! ### what is walked -/
abbrev SI := SXK → DS → Mem → (List SV → (Mem → Prop) → Mem → Prop) → Prop
structure ItOk (K : PySem.W.Frag) (F : Hp) (J : It) (items : List SV) (keep : Mem → Prop) : Prop where
  go : ∀ i F' H' m' x, Sub F F' → MR K F' H' m' → keep m' → items[i]? = some x → J.go i H' ∧ ∀ v H'', J.yld i H' v H'' → ∃ F'', Sub F' F'' ∧ MR K F'' H'' m' ∧ VR K F'' v x
  stop : ∀ F' H' m', Sub F F' → MR K F' H' m' → keep m' → J.stop items.length H'
def SimI (K : PySem.W.Frag) (E : XK) (ti : TI) (si : SI) : Prop := ∀ σ F H δ m SX R R', Rl K E σ F H δ m SX → si SX δ m R → (∀ J items keep F' H' m', Sub F F' → MR K F' H' m' → ItOk K F' J items keep → R items keep m' → R' J H') → ti σ H R'
structure GI (K : PySem.W.Frag) (E : XK) (X : Cx) (tg e : Expr) (ti : TI) (si : SI) : Prop where
  pe : PI X tg e ti
  sim : SimI K E ti si
def iSeq (K : PySem.W.Frag) (tl : TE) : TI := fun σ H R => tl σ H fun x H1 => ∃ a, x = .ref a ∧ (((∃ xs, SqL K H1 a xs) ∧ R (Itl K a) H1) ∨ ((∃ xs, SqT K H1 a xs) ∧ R (Itt K a) H1))
theorem pi_seq {X : Cx} {tg l : Expr} {tl : TE} (hl : PE X l tl) : PI X tg l (iSeq X.K tl) := by
  refine ⟨fun pins s σ H R I h => ?_⟩
  refine thn (hl.run pins s σ H _ I h) fun v s1 ⟨x, H1, I1, r1, q1⟩ => ?_
  obtain ⟨a, e, q⟩ := q1
  subst e
  cases r1
  rcases q with ⟨⟨xs, hq⟩, q⟩ | ⟨⟨xs, hq⟩, q⟩
  · obtain ⟨its, rv, p, hz⟩ := I1.list hq
    refine wpAny_pyIter_list p.isList ?_
    refine ⟨s1.heap.objs.size, [s1.heap.objs.size], _, _, H1, rfl, I1.kept (t' := s1.toks) fun b o e => Heap.get?_push_of_some _ e, turn_list a _, ⟨_, Heap.get?_push_size _ rfl, rfl, rfl⟩, fun b hb => ?_, q⟩
    have e : b = s1.heap.objs.size := by simpa using hb
    subst e
    exact I1.fpOk (Nat.le_refl _) (I1.hok.fresh (Nat.le_refl _))
  · obtain ⟨its, rv, p, hz⟩ := I1.tuple hq
    refine wpAny_pyIter_tuple (show s1.heap.IsTuple a its.toArray from p) ?_
    refine ⟨s1.heap.objs.size, [s1.heap.objs.size], _, _, H1, rfl, I1.kept (t' := s1.toks) fun b o e => Heap.get?_push_of_some _ e, turn_tuple a _, ⟨_, Heap.get?_push_size _ rfl, rfl, rfl⟩, fun b hb => ?_, q⟩
    have e : b = s1.heap.objs.size := by simpa using hb
    subst e
    exact I1.fpOk (Nat.le_refl _) (I1.hok.fresh (Nat.le_refl _))
def keepOf (x : SV) (xs : List SV) (m : Mem) : Prop := match x with
  | .ref a => m a = some (.lst xs)
  | _ => True
def sSeqI (a : SE) : SI := fun SX δ m R => a SX δ m fun x m1 => ∃ xs, Its m1 x xs ∧ R xs (keepOf x xs) m1
section
variable {K : PySem.W.Frag} {F : Hp}
theorem it_l {a : Addr} {items : List SV} {keep : Mem → Prop} (h : ∀ F' H' m', Sub F F' → MR K F' H' m' → keep m' → ∃ vs, SqL K H' a vs ∧ VRs K F' vs items) : ItOk K F (Itl K a) items keep where
  go := fun i F' H' m' x s M k e => by
    obtain ⟨vs, h1, h2⟩ := h F' H' m' s M k
    obtain ⟨v, hv, rv⟩ := vrs_get h2 e
    refine ⟨⟨vs, v, h1, hv⟩, fun w H'' hy => ?_⟩
    obtain ⟨rfl, hy⟩ := hy
    have z := hy vs h1
    rw [hv] at z
    cases z
    exact ⟨F', .refl F', M, rv⟩
  stop := fun F' H' m' s M k => by
    obtain ⟨vs, h1, h2⟩ := h F' H' m' s M k
    exact ⟨vs, h1, by rw [vrs_length h2]; exact Nat.le_refl _⟩
theorem it_t {a : Addr} {items : List SV} {keep : Mem → Prop} (h : ∀ F' H' m', Sub F F' → MR K F' H' m' → keep m' → ∃ vs, SqT K H' a vs ∧ VRs K F' vs items) : ItOk K F (Itt K a) items keep where
  go := fun i F' H' m' x s M k e => by
    obtain ⟨vs, h1, h2⟩ := h F' H' m' s M k
    obtain ⟨v, hv, rv⟩ := vrs_get h2 e
    refine ⟨⟨vs, v, h1, hv⟩, fun w H'' hy => ?_⟩
    obtain ⟨rfl, hy⟩ := hy
    have z := hy vs h1
    rw [hv] at z
    cases z
    exact ⟨F', .refl F', M, rv⟩
  stop := fun F' H' m' s M k => by
    obtain ⟨vs, h1, h2⟩ := h F' H' m' s M k
    exact ⟨vs, h1, by rw [vrs_length h2]; exact Nat.le_refl _⟩
/-- lo, lo + 1, .. -/
def rngS : Int → Nat → List SV
  | _, 0 => []
  | lo, n + 1 => .int lo :: rngS (lo + 1) n
theorem rngS_length : ∀ (n : Nat) (lo : Int), (rngS lo n).length = n
  | 0, _ => rfl
  | n + 1, lo => by rw [rngS, List.length_cons, rngS_length n]
theorem rngS_get : ∀ (n : Nat) (lo : Int) (i : Nat) (x : SV), (rngS lo n)[i]? = some x → i < n ∧ x = .int (lo + (i : Nat))
  | 0, _, _, _, e => by simp [rngS] at e
  | n + 1, lo, 0, x, e => by
    simp [rngS] at e
    exact ⟨Nat.succ_pos _, by rw [← e]; simp⟩
  | n + 1, lo, i + 1, x, e => by
    obtain ⟨h1, h2⟩ := rngS_get n (lo + 1) i x (by simpa [rngS] using e)
    exact ⟨Nat.succ_lt_succ h1, by rw [h2]; congr 1; push_cast; omega⟩
theorem it_r {lo : Int} {n : Nat} : ItOk K F (Itr lo n) (rngS lo n) (fun _ => True) where
  go := fun i F' H' m' x s M k e => by
    obtain ⟨h1, rfl⟩ := rngS_get n lo i x e
    refine ⟨h1, fun w H'' hy => ?_⟩
    obtain ⟨rfl, rfl⟩ := hy
    exact ⟨F', .refl F', M, .int _⟩
  stop := fun F' H' m' s M k => by rw [rngS_length]; exact Nat.le_refl _
end
def sRng1 (a : SA) : SI := fun SX δ m R => a SX δ m fun xs m1 => match xs with
  | [.int j] => (-(2 ^ 62) ≤ j ∧ j < 2 ^ 62) ∧ R (rngS 0 j.toNat) (fun _ => True) m1
  | _ => False
def sRng2 (a : SA) : SI := fun SX δ m R => a SX δ m fun xs m1 => match xs with
  | [.int i, .int j] => (-(2 ^ 62) ≤ i ∧ i < 2 ^ 62 ∧ -(2 ^ 62) ≤ j ∧ j < 2 ^ 62) ∧ R (rngS i (j - i).toNat) (fun _ => True) m1
  | _ => False
theorem one_int {xs : List SV} {P : Int → Prop} (h : match xs with | [.int j] => P j | _ => False) : ∃ j, xs = [.int j] ∧ P j := by
  split at h
  · exact ⟨_, rfl, h⟩
  · exact h.elim
section
variable {K : PySem.W.Frag} {E : XK} {X : Cx} {tg a b l e : Expr} {ta tl : TE} {sa sl : SE} {pos p : Pos} {t : TA} {s : SA}
theorem gi_seq (h : GE K E X l tl sl) (hK : X.K = K := by rfl) : GI K E X tg l (iSeq K tl) (sSeqI sl) := by
  subst hK
  exact ⟨pi_seq h.pe, fun σ F H δ m SX R R' r hh c => h.sim σ F H δ m SX _ _ r hh fun v F1 H1 sv m1 s1 M1 v1 h1 => by
    obtain ⟨xs, hi, q⟩ := h1
    cases v1 with
    | tup g1 g2 =>
      cases (show xs = _ from hi)
      exact ⟨_, rfl, .inr ⟨⟨_, sqt_sub M1.sub g1⟩, c _ _ _ F1 H1 m1 s1 M1 (it_t fun F2 H2 m2 s2 M2 _ => ⟨_, sqt_sub (s2.trans M2.sub) g1, vrs_sub s2 g2⟩) q⟩⟩
    | lst g1 g2 =>
      cases (show xs = _ from hi)
      exact ⟨_, rfl, .inl ⟨⟨_, sql_sub M1.sub g1⟩, c _ _ _ F1 H1 m1 s1 M1 (it_l fun F2 H2 m2 s2 M2 _ => ⟨_, sql_sub (s2.trans M2.sub) g1, vrs_sub s2 g2⟩) q⟩⟩
    | ptup g1 _ g2 =>
      cases (show xs = _ from hi)
      exact ⟨_, rfl, .inr ⟨⟨_, .inl (.inr ⟨_, M1.sub _ _ g1⟩)⟩, c _ _ _ F1 H1 m1 s1 M1 (it_t fun F2 H2 m2 s2 M2 _ => ⟨_, .inl (.inr ⟨_, (s2.trans M2.sub) _ _ g1⟩), vrs_sub s2 g2⟩) q⟩⟩
    | ref p =>
      obtain ⟨vs, e1, _⟩ := M1.lst_ (show m1 p = some (.lst xs) from hi)
      exact ⟨_, rfl, .inl ⟨⟨_, .inl (.inl e1)⟩, c _ _ _ F1 H1 m1 s1 M1 (it_l fun F2 H2 m2 s2 M2 k => by
        obtain ⟨ws, e2, r2⟩ := M2.lst_ (show m2 p = some (.lst xs) from k)
        exact ⟨ws, .inl (.inl e2), r2⟩) q⟩⟩
    | _ => exact (show False from hi).elim⟩
theorem gi_range1 (hg : Gl X "range") (hm : X.mg "range" = none) (ha : GA K E X [a] t s) (hs : starEach [a] X.env = [(false, eval a X.env)] := by rfl) : GI K E X tg (.Call (.Name "range" p) [a] [] pos) (iRng1 t) (sRng1 s) := ⟨pi_range1 hg hm ha.pe hs, fun σ F H δ m SX R R' r hh c => ha.sim σ F H δ m SX _ _ r hh fun v F1 H1 sv m1 s1 M1 v1 h1 => by
  obtain ⟨j, rfl, h1⟩ := one_int h1
  obtain ⟨w, rfl, rw_⟩ := vrs_one v1
  obtain rfl := vr_int rw_
  exact ⟨_, rfl, h1.1.1, h1.1.2, c _ _ _ F1 H1 m1 s1 M1 it_r h1.2⟩⟩
end
/-! ### for -/
/-- I: what holds with the items that are left -/
@[irreducible] def ForGo (keep : Mem → Prop) (g : SG) (b : SS) (SX : SXK) (D : SEnds) (items : List SV) (δ : DS) (m : Mem) : Prop := ∃ I : List SV → DS → Mem → Prop, I items δ m ∧
  (∀ x r δ m, I (x :: r) δ m → keep m ∧ g SX x δ m fun δ1 m1 => b SX { D with nx := fun δ' => Fg (I r δ'), ct := fun δ' => Fg (I r δ'), bk := D.nx } δ1 m1) ∧ ∀ δ m, I [] δ m → keep m ∧ D.nx δ m
def sFor (si : SI) (g : SG) (b : SS) : SS := fun SX D δ m => si SX δ m fun items keep m1 => ForGo keep g b SX D items δ m1
theorem drop_cons {α : Type} {xs : List α} {i : Nat} {x : α} {r : List α} (h : xs.drop i = x :: r) : xs[i]? = some x ∧ xs.drop (i + 1) = r := by
  have h1 : i < xs.length := by
    by_cases q : i < xs.length
    · exact q
    · rw [List.drop_eq_nil_of_le (by omega)] at h; cases h
  rw [List.drop_eq_getElem_cons h1] at h
  injection h with h2 h3
  exact ⟨by rw [List.getElem?_eq_getElem h1, h2], h3⟩
section
variable {K : PySem.W.Frag} {E : XK} {X : Cx} {tg iter : Expr} {pos : Pos} {body : List Stmt} {t : TS} {zt : SS} {ti : TI} {si : SI} {g : TG} {sg : SG}
theorem gs_for (hp : PassesOwn (model X.prog X.w) X.A X.env X.xe) (hc : X.calm = true) (hi : GI K E X tg iter ti si) (hg : GG K E X tg g sg) (hb : GSs K E X body t zt) (hs : ∀ x, foldedSetIterable iter X.env x = pure x := by intro _; rfl) :
    GS K E X (.For tg iter body [] pos) (tFor ti g t) (sFor si sg zt) := ⟨ps_for hp hc hi.pe hg.pe hb.pe hs, fun σ F H δ m SX D Es r h q => hi.sim σ F H δ m SX _ _ r h fun J items keep F1 H1 m1 s1 M1 iok h1 => by
  unfold ForGo at h1
  obtain ⟨I, i0, step, done⟩ := h1
  refine ⟨fun i n σ' H' => ∃ F' δ' m' rest, Sub F1 F' ∧ SR K F' σ' δ' ∧ MR K F' H' m' ∧ items.drop i = rest ∧ n = rest.length ∧ i ≤ items.length ∧ I rest δ' m', ⟨_, F1, δ, m1, items, .refl F1, r.sr.sub s1, M1, rfl, rfl, Nat.zero_le _, i0⟩, ?_⟩
  rintro i n σ' H' ⟨F', δ', m', rest, s', sr', M', hd, rfl, hle, hI⟩
  cases rest with
  | nil =>
    obtain ⟨k, hn⟩ := done δ' m' hI
    have hl : items.length ≤ i := by simpa using hd
    obtain rfl : i = items.length := by omega
    exact .inl ⟨iok.stop F' H' m' s' M' k, q.nx σ' δ' F' H' m' (s1.trans s') sr' M' hn⟩
  | cons x rest =>
    obtain ⟨hx, hd2⟩ := drop_cons hd
    obtain ⟨k, hs⟩ := step x rest δ' m' hI
    obtain ⟨g1, g2⟩ := iok.go i F' H' m' x s' M' k hx
    refine .inr ⟨g1, fun σ2 H2 => ∃ F2 δ2 m2, Sub F1 F2 ∧ SR K F2 σ2 δ2 ∧ MR K F2 H2 m2 ∧ I rest δ2 m2, fun σ2 H2 ⟨F2, δ2, m2, a1, a2, a3, a4⟩ => ⟨rest.length, by simp, F2, δ2, m2, rest, a1, a2, a3, hd2, rfl, (List.getElem?_eq_some_iff.mp hx).1, a4⟩, fun v H'' hy => ?_⟩
    obtain ⟨F3, s3, M3, v3⟩ := g2 v H'' hy
    have s13 := s1.trans (s'.trans s3)
    refine hg.sim σ' F3 H'' δ' m' SX v x _ _ ⟨sr'.sub s3, M3, r.ex.go s13⟩ v3 hs fun σ4 δ4 F4 H4 m4 s4 sr4 M4 h4 => ?_
    have cn : CnS K F4 (fun δ' => Fg (I rest δ')) (fun σ2 H2 => ∃ F2 δ2 m2, Sub F1 F2 ∧ SR K F2 σ2 δ2 ∧ MR K F2 H2 m2 ∧ I rest δ2 m2) := fun σ5 δ5 F5 H5 m5 s5 sr5 M5 ⟨m6, l6, h5⟩ => ⟨F5, δ5, m6, (s'.trans s3).trans (s4.trans s5), sr5, M5.drop l6, h5⟩
    exact hb.sim σ4 F4 H4 δ4 m4 SX _ _ ⟨sr4, M4, r.ex.go (s13.trans s4)⟩ h4 ⟨cn, q.rt.go (s13.trans s4), q.nx.go (s13.trans s4), cn⟩⟩
end
/-! ### comprehensions -/
theorem wipe_set {σ : L2.St} {x : Option V} : ∀ {vs : List Nat} {v : Nat}, v ∈ vs → wipe (σ.set v x) vs = wipe σ vs
  | [], _, h => by cases h
  | w :: vs, v, h => by
    show (wipe (σ.set v x) vs).set w none = (wipe σ vs).set w none
    by_cases hv : v ∈ vs
    · rw [wipe_set hv]
    · have e : v = w := (List.mem_cons.mp h).resolve_right hv
      subst e
      have com : ∀ (us : List Nat), v ∉ us → wipe (σ.set v x) us = (wipe σ us).set v x := by
        intro us
        induction us with
        | nil => intro _; rfl
        | cons a us ih =>
          intro hn
          show (wipe (σ.set v x) us).set a none = ((wipe σ us).set a none).set v x
          rw [ih (fun z => hn (List.mem_cons_of_mem _ z)), List.set_comm]
          exact fun z => hn (by rw [z]; exact List.mem_cons_self)
      rw [com vs hv, List.set_set]
theorem wipe_wipe {σ2 σ : L2.St} {vs : List Nat} (h : wipe σ2 vs = wipe (wipe σ vs) vs) : wipe σ2 vs = wipe σ vs := by
  have key : ∀ us : List Nat, wipe (wipe σ us) us = wipe σ us := by
    intro us
    have step : ∀ (us ws : List Nat) (τ : L2.St), (∀ u ∈ us, u ∈ ws) → wipe (wipe τ us) ws = wipe τ ws := by
      intro us
      induction us with
      | nil => intro ws τ _; rfl
      | cons a us ih =>
        intro ws τ hs
        show wipe ((wipe τ us).set a none) ws = wipe τ ws
        rw [wipe_set (hs a List.mem_cons_self)]
        exact ih ws τ fun u hu => hs u (List.mem_cons_of_mem _ hu)
    exact step us us σ fun _ z => z
  rw [h, key]

/-- the target only writes to vs -/
def WpG (g : TG) (vs : List Nat) : Prop := ∀ v σ H (Q Q' : L2.St → Hp → Prop), g v σ H Q → (∀ σ' H', Q σ' H' → wipe σ' vs = wipe σ vs → Q' σ' H') → g v σ H Q'
def WpGs (g : TGs) (vs : List Nat) : Prop := ∀ v σ H (Q Q' : L2.St → Hp → Prop), g v σ H Q → (∀ σ' H', Q σ' H' → wipe σ' vs = wipe σ vs → Q' σ' H') → g v σ H Q'
theorem wp_name {i : Nat} {vs : List Nat} (h : i ∈ vs) : WpG (gName i) vs := fun v σ H Q Q' q k => k _ _ q (wipe_set h)
theorem wps_nil {vs : List Nat} : WpGs gNil vs := fun v σ H Q Q' q k => ⟨q.1, k _ _ q.2 rfl⟩
theorem wps_cons {g : TG} {gs : TGs} {vs : List Nat} (h1 : WpG g vs) (h2 : WpGs gs vs) : WpGs (gCons g gs) vs := fun v σ H Q Q' q k => by
  obtain ⟨x, r, e, q⟩ := q
  exact ⟨x, r, e, h1 x σ H _ _ q fun σ1 H1 q1 w1 => h2 r σ1 H1 Q Q' q1 fun σ2 H2 q2 w2 => k σ2 H2 q2 (w2.trans w1)⟩
theorem wp_tup {K : PySem.W.Frag} {n : Nat} {gs : TGs} {vs : List Nat} (h : WpGs gs vs) : WpG (gTup K n gs) vs := fun v σ H Q Q' q k => by
  obtain ⟨a, xs, e, h1, h2, q⟩ := q
  exact ⟨a, xs, e, h1, h2, h xs σ H Q Q' q k⟩
def sYes : STt := fun _ _ m S => S true m
structure GTs (K : PySem.W.Frag) (E : XK) (X : Cx) (e : List Expr) (te : TT) (se : STt) : Prop where
  pe : PTs X e te
  sim : SimT K E te se
/-- D: the new list's place; I: the items that are left, what is made so far -/
@[irreducible] def LcGo (p : Addr) (keep : Mem → Prop) (g : SG) (tt : STt) (te : SE) (vs : List Nat) (SX : SXK) (δ : DS) (items : List SV) (m : Mem) (S : SV → Mem → Prop) : Prop := ∃ I : List SV → List SV → Mem → Prop, I items [] (up m p (.lst [])) ∧
  (∀ x r acc m, I (x :: r) acc m → keep m ∧ g SX x (wipeD δ vs) m fun δ1 m1 => tt SX δ1 m1 fun b m2 => Br b (te SX δ1 m2 fun y m3 => m3 p = some (.lst acc) ∧ Fg (I r (acc ++ [y])) (up m3 p (.lst (acc ++ [y])))) (Fg (I r acc) m2)) ∧
  ∀ acc m, I [] acc m → keep m ∧ S (.ref p) m
def sLc (si : SI) (g : SG) (tt : STt) (te : SE) (vs : List Nat) : SE := fun SX δ m S => si SX δ m fun items keep m1 => items.length ≤ sizeLine ∧ ∀ p, m1 p = none → LcGo p keep g tt te vs SX δ items m1 S
section
variable {K : PySem.W.Frag} {E : XK} {X : Cx} {pos spos py : Pos} {ti : TI} {si : SI} {g : TG} {sg : SG} {elt tg iter c : Expr} {ifs : List Expr} {scope : Scope} {own : List (Str × Nat)} {tt : TT} {st : STt} {te : TE} {se : SE}
theorem gts_nil : GTs K E X [] tYes sYes := ⟨pts_nil, fun σ F H δ m SX S Q r h q => q true F H m (.refl F) r.mr h⟩
theorem gts_one (h : GT K E X c tt st) : GTs K E X [c] tt st := ⟨pts_one h.pe, h.sim⟩
theorem sim_lc {vs : List Nat} (hi : SimI K E ti si) (hg : SimG K E g sg) (hw : WpG g vs) (ht : SimT K E tt st) (he : SimE K E te se) : SimE K E (tLc ti g tt te vs) (sLc si sg st se vs) := fun σ F H δ m SX S Q r h q => hi σ F H δ m SX _ _ r h fun J items keep F1 H1 m1 s1 M1 iok h1 => by
  obtain ⟨hlen, h1⟩ := h1
  intro D hD
  have h1 := h1 D (M1.gone hD)
  unfold LcGo at h1
  obtain ⟨I, i0, step, done⟩ := h1
  refine ⟨fun i n H' => ∃ F' m' rest acc, Sub F1 F' ∧ MR K F' H' m' ∧ items.drop i = rest ∧ n = rest.length ∧ i ≤ items.length ∧ acc.length ≤ i ∧ I rest acc m', ⟨_, F1, _, items, [], .refl F1, M1.newL hD .nil, rfl, rfl, Nat.zero_le _, Nat.zero_le _, i0⟩, ?_⟩
  rintro i n H' ⟨F', m', rest, acc, s', M', hd, rfl, hle, hacc, hI⟩
  cases rest with
  | nil =>
    obtain ⟨k, hn⟩ := done acc m' hI
    have hl : items.length ≤ i := by simpa using hd
    obtain rfl : i = items.length := by omega
    exact .inl ⟨iok.stop F' H' m' s' M' k, q (.ref D) F' H' _ m' (s1.trans s') M' (.ref D) hn⟩
  | cons x rest =>
    obtain ⟨hx, hd2⟩ := drop_cons hd
    have hi1 := (List.getElem?_eq_some_iff.mp hx).1
    obtain ⟨k, hs⟩ := step x rest acc m' hI
    obtain ⟨g1, g2⟩ := iok.go i F' H' m' x s' M' k hx
    refine .inr ⟨g1, fun H2 => ∃ F2 m2 acc2, Sub F1 F2 ∧ MR K F2 H2 m2 ∧ acc2.length ≤ i + 1 ∧ I rest acc2 m2, fun H2 ⟨F2, m2, acc2, a1, a2, a3, a4⟩ => ⟨rest.length, by simp, F2, m2, rest, acc2, a1, a2, hd2, rfl, hi1, a3, a4⟩, fun v H'' hy => ?_⟩
    obtain ⟨F3, s3, M3, v3⟩ := g2 v H'' hy
    have s13 := s1.trans (s'.trans s3)
    refine hw v _ H'' _ _ (hg (wipe σ vs) F3 H'' (wipeD δ vs) m' SX v x _ (fun σ2 H2 => tt σ2 H2 fun b H3 =>
      if b = true then te σ2 H3 fun y H4 => ∃ acc, H4 D = some (.lst acc) ∧ acc.length < sizeLine ∧ ∃ F2 m2 acc2, Sub F1 F2 ∧ MR K F2 (upd H4 D (.lst (acc ++ [y]))) m2 ∧ acc2.length ≤ i + 1 ∧ I rest acc2 m2 else ∃ F2 m2 acc2, Sub F1 F2 ∧ MR K F2 H3 m2 ∧ acc2.length ≤ i + 1 ∧ I rest acc2 m2) ⟨(r.sr.sub s13).wipe vs, M3, r.ex.go s13⟩ v3 hs fun σ4 δ4 F4 H4 m4 s4 sr4 M4 h4 => ?_) (fun σ2 H2 q2 w2 => ⟨wipe_wipe w2, q2⟩)
    refine ht σ4 F4 H4 δ4 m4 SX _ _ ⟨sr4, M4, r.ex.go (s13.trans s4)⟩ h4 fun b F5 H5 m5 s5 M5 h5 => ?_
    rw [Br_eq] at h5
    have s15 := (s13.trans s4).trans s5
    have t15 := ((s'.trans s3).trans s4).trans s5
    split
    · next e =>
      rw [if_pos e] at h5
      refine he σ4 F5 H5 δ4 m5 SX _ _ ⟨sr4.sub s5, M5, r.ex.go s15⟩ h5 fun y F6 H6 sy m6 s6 M6 v6 h6 => ?_
      obtain ⟨e1, m7, l7, h6⟩ := h6
      obtain ⟨vs', e2, r2⟩ := M6.lst_ e1
      exact ⟨vs', e2, by rw [vrs_length r2]; omega, F6, _, _, t15.trans s6, (M6.setL e1 (vrs_append r2 (.cons v6 .nil))).drop l7, by rw [List.length_append]; simp; omega, h6⟩
    · next e =>
      rw [if_neg e] at h5
      obtain ⟨m7, l7, h5⟩ := h5
      exact ⟨F5, m7, acc, t15, M5.drop l7, by omega, h5⟩
theorem ge_lc (hc : X.calm = true) (hN : X.N.Nodup) (hi : GI K E X tg iter ti si) (ok : BlkOk X.N X.env.scope scope own)
    (hg : ∀ (s : Shared) (H : Hp) (C : Addr) (cl : List (Str × Addr)) (fp : List Addr), GG K E (X.blk s H scope (compEnvC scope cl C X.env) fp) tg g sg) (hw : WpG g (own.map (·.2))) (ht : ∀ (s : Shared) (H : Hp) (C : Addr) (cl : List (Str × Addr)) (fp : List Addr), GTs K E (X.blk s H scope (compEnvC scope cl C X.env) fp) ifs tt st)
    (he : ∀ (s : Shared) (H : Hp) (C : Addr) (cl : List (Str × Addr)) (fp : List Addr), GE K E (X.blk s H scope (compEnvC scope cl C X.env) fp) elt te se) (hs : ∀ x, foldedSetIterable iter X.env x = pure x := by intro _; rfl) :
    GE K E X (.ListComp elt [⟨tg, iter, ifs, 0⟩] scope pos) (tLc ti g tt te (own.map (·.2))) (sLc si sg st se (own.map (·.2))) :=
  ⟨pe_lc hc hN hi.pe ok (fun s H C cl fp => (hg s H C cl fp).pe) (fun s H C cl fp => (ht s H C cl fp).pe) (fun s H C cl fp => (he s H C cl fp).pe) hs,
    sim_lc hi.sim (hg X.s_0 X.H_0 0 [] []).sim hw (ht X.s_0 X.H_0 0 [] []).sim (he X.s_0 X.H_0 0 [] []).sim⟩
theorem gs_setLc {i : Nat} {y : Str} (hc : X.calm = true) (hN : X.N.Nodup) (hy : X.N[i]? = some y) (hyl : X.env.scope.names.lookup y = some .local)
    (hsw : swapsWith (.ListComp elt [⟨tg, iter, ifs, 0⟩] scope pos) (some (.Name y py)) spos.line X.env = pure true) (hi : GI K E X tg iter ti si) (ok : BlkOk X.N X.env.scope scope own)
    (hg : ∀ (s : Shared) (H : Hp) (C : Addr) (cl : List (Str × Addr)) (fp : List Addr), GG K E (X.blk s H scope (compEnvC scope cl C X.env) fp) tg g sg) (hw : WpG g (own.map (·.2))) (ht : ∀ (s : Shared) (H : Hp) (C : Addr) (cl : List (Str × Addr)) (fp : List Addr), GTs K E (X.blk s H scope (compEnvC scope cl C X.env) fp) ifs tt st)
    (he : ∀ (s : Shared) (H : Hp) (C : Addr) (cl : List (Str × Addr)) (fp : List Addr), GE K E (X.blk s H scope (compEnvC scope cl C X.env) fp) elt te se) (hs : ∀ x, foldedSetIterable iter X.env x = pure x := by intro _; rfl) :
    GS K E X (.Assign [.Name y py] (.ListComp elt [⟨tg, iter, ifs, 0⟩] scope pos) spos) (tAsg (tLc ti g tt te (own.map (·.2))) (gName i)) (sAsg (sLc si sg st se (own.map (·.2))) (hName i)) :=
  ⟨ps_setLc hc hN hy hyl hsw hi.pe ok (fun s H C cl fp => (hg s H C cl fp).pe) (fun s H C cl fp => (ht s H C cl fp).pe) (fun s H C cl fp => (he s H C cl fp).pe) hs,
    sim_asg (sim_lc hi.sim (hg X.s_0 X.H_0 0 [] []).sim hw (ht X.s_0 X.H_0 0 [] []).sim (he X.s_0 X.H_0 0 [] []).sim) fun σ F H δ m SX v sv S Q r rv h c => c _ _ F H m (.refl F) (r.sr.set rv) r.mr h⟩
end
/-! ### defs -/
abbrev SpS := List SV → Mem → SXK → (SV → Mem → Prop) → Prop
def lift (K : PySem.W.Frag) (sp : SpS) : Sp := fun vs H Q E => ∃ F svs m SX S, MR K F H m ∧ VRs K F vs svs ∧ sp svs m SX S ∧ ExOk K F E SX ∧ Cn K F S Q
def sCall (sp : SpS) (dvs : List SV) (a : SA) : SE := fun SX δ m S => a SX δ m fun vs m1 => sp (vs ++ dvs) m1 SX S
abbrev FnP (K : PySem.W.Frag) (x : Str) (st : Stmt) (f : Addr) (fd : FuncData) : Prop := FunD K x x (defArgs st) (defBody st) (defScope st) [] [] f fd
section
variable {K : PySem.W.Frag} {E : XK} {X : Cx} {CX : CXT} {k : Nat} {f C : Addr} {fd : FuncData} {ps : List Str} {sp : SpS} {dvs : List V} {svs : List SV} {ds : List Value} {x : Str} {p pos : Pos} {e : Expr} {es : List Expr} {t : TA} {s : SA}
theorem sim_call (hd : ∀ F, VRs K F dvs svs) (ha : SimA K E t s) : SimE K E (tCall (lift K sp) dvs E t) (sCall sp svs s) := fun σ F H δ m SX S Q r h c =>
  ha σ F H δ m SX _ _ r h fun vs F1 H1 sv m1 s1 M1 v1 h1 => ⟨F1, sv ++ svs, m1, SX, S, M1, vrs_append v1 (hd F1), h1, r.ex.go s1, c.go s1⟩
theorem ge_call (F : FnOk X.prog X.w X.K X.mg X.base CX k f fd ps (lift K sp)) (hr : Room k X.A) (hg : Gl X x) (hm : X.mg x = some (.ref f)) (hk : PySem.W.keepIn X.K (.ref f) = true) (hb : Binds X.K fd ps ds) (hd : Vals dvs ds) (hds : ∀ F, VRs K F dvs svs) (hx : Passes CX X E)
    (ha : GA K E X (e :: es) t s) (hdb : (x == ("__debug__" : Str)) = false := by decide) (he : starEach (e :: es) X.env = (false, eval e X.env) :: starEach es X.env := by rfl) (hpl : (backTo pos (starEach es X.env)).any (·.1) = false := by rfl) :
    GE K E X (.Call (.Name x p) (e :: es) [] pos) (tCall (lift K sp) dvs E t) (sCall sp svs s) := ⟨pe_call F hr hg hm hk hb hd hx ha.pe hdb he hpl, sim_call hds ha.sim⟩
end
section
variable {P : Program} {w : World} {K : PySem.W.Frag} {mg : Str → Option Value} {base : Heap}
theorem fn_sy {x : Str} {st : Stmt} {f : Addr} {fd : FuncData} {N ps : List Str} {k : Nat} {sp : SpS} {dvs : List V} {kws : List (Str × V)} (Fn : FunD K x x (defArgs st) (defBody st) (defScope st) dvs kws f fd) (S : FnScope N ps (defScope st)) (hl : ∀ svs m SX Sv, sp svs m SX Sv → svs.length = ps.length)
    (hev : ∀ (cdv : Value) (A : Around) (outer : List Env) (s : Shared) (H : Hp) (E : XK), Room k (A.deeper (envOfC x (defScope st) s.heap.objs.size f cdv)) → ∃ ts ss, GSs K E (cxOf CX0 P w K mg base N x (defScope st) f cdv A outer s H E).nox (defBody st) ts ss ∧
      ∀ svs m SX Sv, sp svs m SX Sv → ss (fun x => Fg (SX x)) { nx := fun _ m' => Fg (Sv .non) m', rt := fun v => Fg (Sv v) } (startD N.length svs) m) : FnOk P w K mg base CX0 (k + 1) f fd ps (lift K sp) := by
  refine FunD.ok Fn S (fun vs H Q E h => by
    obtain ⟨F, svs, m, SX, Sv, _, h2, h3, _⟩ := h
    rw [vrs_length h2]; exact hl _ _ _ _ h3) (fun cdv A outer s H vs Q E hr h => ?_)
  obtain ⟨F, svs, m, SX, Sv, M, r, hsp, hx, c⟩ := h
  obtain ⟨ts, ss, hder, hev⟩ := hev cdv A outer s H E hr
  refine ⟨ts, PSs.nox hder.pe, ?_⟩
  exact hder.sim _ F H _ m (fun x => Fg (SX x)) { nx := fun _ m' => Fg (Sv .non) m', rt := fun v => Fg (Sv v) } _ ⟨SR.start r, M, hx.fg⟩ (hev svs m SX Sv hsp) ⟨fun σ' δ' F' H' m' s' _ M' ⟨m2, l2, q⟩ => c .non F' H' .non m2 s' (M'.drop l2) .non q, fun v F' H' sv m' s' M' rv ⟨m2, l2, q⟩ => c v F' H' sv m2 s' (M'.drop l2) rv q, fun _ _ _ _ _ _ _ _ q => q.elim, fun _ _ _ _ _ _ _ _ q => q.elim⟩
theorem fn_syX {x : Str} {st : Stmt} {f : Addr} {fd : FuncData} {N ps : List Str} {k : Nat} {sp : SpS} {dvs : List V} {kws : List (Str × V)} (Fn : FunD K x x (defArgs st) (defBody st) (defScope st) dvs kws f fd) (S : FnScope N ps (defScope st)) (hl : ∀ svs m SX Sv, sp svs m SX Sv → svs.length = ps.length)
    (hev : ∀ (cdv : Value) (A : Around) (outer : List Env) (s : Shared) (H : Hp) (E : XK), Room k (A.deeper (envOfC x (defScope st) s.heap.objs.size f cdv)) → ∃ ts ss, GSs K E (cxOf (L2.CX P w) P w K mg base N x (defScope st) f cdv A outer s H E) (defBody st) ts ss ∧
      ∀ svs m SX Sv, sp svs m SX Sv → ss (fun x => Fg (SX x)) { nx := fun _ m' => Fg (Sv .non) m', rt := fun v => Fg (Sv v) } (startD N.length svs) m) : FnOk P w K mg base (L2.CX P w) (k + 1) f fd ps (lift K sp) := by
  refine FunD.ok Fn S (fun vs H Q E h => by
    obtain ⟨F, svs, m, SX, Sv, _, h2, h3, _⟩ := h
    rw [vrs_length h2]; exact hl _ _ _ _ h3) (fun cdv A outer s H vs Q E hr h => ?_)
  obtain ⟨F, svs, m, SX, Sv, M, r, hsp, hx, c⟩ := h
  obtain ⟨ts, ss, hder, hev⟩ := hev cdv A outer s H E hr
  refine ⟨ts, hder.pe, ?_⟩
  exact hder.sim _ F H _ m (fun x => Fg (SX x)) { nx := fun _ m' => Fg (Sv .non) m', rt := fun v => Fg (Sv v) } _ ⟨SR.start r, M, hx.fg⟩ (hev svs m SX Sv hsp) ⟨fun σ' δ' F' H' m' s' _ M' ⟨m2, l2, q⟩ => c .non F' H' .non m2 s' (M'.drop l2) .non q, fun v F' H' sv m' s' M' rv ⟨m2, l2, q⟩ => c v F' H' sv m2 s' (M'.drop l2) rv q, fun _ _ _ _ _ _ _ _ q => q.elim, fun _ _ _ _ _ _ _ _ q => q.elim⟩
end
/-- raise of an own class without an __init__ -/
def sRaise (C : Addr) : SS := fun SX _ _ m => SX ⟨C, none⟩ m
end Sy

set_option Elab.async false
set_option linter.all false
set_option maxRecDepth 100000
set_option maxHeartbeats 4000000
namespace Sy
open PySem PySem.Spec PyProof.Rows L2
section
variable {K : PySem.W.Frag} {E : XK} {X : Cx}
theorem gv (i : Nat) {x : Str} {pos : Pos} (hN : X.N[i]? = some x := by rfl) (hv : Vis X.env.scope x := by first | exact Or.inl rfl | exact Or.inr (Or.inl rfl) | exact Or.inr (Or.inr rfl)) (hd : (x == ("__debug__" : Str)) = false := by decide)
    (hcd : (x == ("__classdict__" : Str)) = false := by decide) : GE K E X (.Name x pos) (tVar i) (sVar i) := ge_var hN hv hd hcd
end
theorem mt_indexG {X : Cx} (K : PySem.W.Frag) (hK : X.K = K := by rfl) : MtR X "list.index" (rIndex K) := by subst hK; exact mt_index
def sPopAt : SRM := fun x vs m S => match x, vs with
  | .ref a, [.int i] => ∃ xs k y, m a = some (.lst xs) ∧ -(2 ^ 63) ≤ i ∧ i < 2 ^ 63 ∧ seqIndex? i xs.length = some k ∧ xs[k]? = some y ∧ S y (up m a (.lst (xs.eraseIdx k)))
  | _, _ => False
theorem sim_popAt {K : PySem.W.Frag} : SimM K rPopAt sPopAt := fun F H m x xs a as S Q M r rs h c => by
  cases r with
  | ref p =>
    unfold sPopAt at h
    split at h
    · have e := SV.ref.inj (by assumption : SV.ref p = SV.ref _)
      subst e
      obtain ⟨ys, k, y, e1, h1, h2, h3, h4, q⟩ := h
      obtain ⟨v, rfl, rv⟩ := vrs_one rs
      obtain rfl := vr_int rv
      obtain ⟨vs, e2, r2⟩ := M.lst_ e1
      obtain ⟨w, hw, rw_⟩ := vrs_get r2 h4
      exact ⟨p, vs, _, k, w, rfl, rfl, e2, h1, h2, by rw [vrs_length r2]; exact h3, hw, c _ F _ _ _ (.refl F) (M.setL e1 (vrs_erase k r2)) rw_ q⟩
    · exact h.elim
  | _ => exact (show False from by unfold sPopAt at h; exact h).elim
/-- a cut behind a statement: J is what is known there -/
@[irreducible] def CutGo (z : SS) (SX : SXK) (D : SEnds) (δ : DS) (m : Mem) : Prop := ∃ J : DS → Mem → Prop, z SX { D with nx := fun δ' => Fg (J δ') } δ m ∧ ∀ δ' m', J δ' m' → D.nx δ' m'
def sCut (z : SS) : SS := fun SX D δ m => CutGo z SX D δ m
/-- a value of a kind that isinstance tells -/
def Dat (m : Mem) (x : SV) : Prop := ∃ t, tyS m x t
def isInt : SV → Bool
  | .int _ => true
  | _ => false
theorem tyS_int {m : Mem} {x : SV} {t : String} (h : tyS m x t) : (isB t "int" && !isB t "bool") = isInt x := by
  cases x <;> first
    | exact (show False from h).elim
    | (cases (show t = _ from h); rfl)
    | (obtain ⟨rfl, _⟩ := (show t = "list" ∧ _ from h); rfl)
mutual
inductive DD (m : Mem) : SV → Prop
  | non : DD m .non
  | bl (b : Bool) : DD m (.bl b)
  | int (i : Int) : DD m (.int i)
  | str (x : Str) : DD m (.str x)
  | tup {xs : List SV} : DDs m xs → DD m (.tup xs)
  | lst {xs : List SV} : DD m (.lst xs)
  | ref {a : Addr} {xs : List SV} : m a = some (.lst xs) → DD m (.ref a)
inductive DDs (m : Mem) : List SV → Prop
  | nil : DDs m []
  | cons {x : SV} {xs : List SV} : DD m x → DDs m xs → DDs m (x :: xs)
end
theorem DD.dat {m : Mem} {x : SV} (h : DD m x) : Dat m x := by
  cases h with
  | non => exact ⟨_, rfl⟩
  | bl => exact ⟨_, rfl⟩
  | int => exact ⟨_, rfl⟩
  | str => exact ⟨_, rfl⟩
  | tup => exact ⟨_, rfl⟩
  | lst => exact ⟨_, rfl⟩
  | ref e => exact ⟨_, rfl, _, e⟩
theorem DDs.mem {m : Mem} : ∀ {xs : List SV} {x : SV}, DDs m xs → x ∈ xs → DD m x
  | _, _, .cons a b, h => by
    rcases List.mem_cons.mp h with rfl | h
    · exact a
    · exact b.mem h
theorem DDs.of {m : Mem} : ∀ {xs : List SV}, (∀ x ∈ xs, DD m x) → DDs m xs
  | [], _ => .nil
  | _ :: _, h => .cons (h _ List.mem_cons_self) (.of fun x hx => h x (List.mem_cons_of_mem _ hx))
theorem Br_true {A B : Prop} : Br true A B = A := by rw [Br_eq]; simp
section
variable {keep : Mem → Prop} {g : SG} {b : SS} {SX : SXK} {D : SEnds} {items : List SV} {δ : DS} {m : Mem} {p : Addr} {tt : STt} {te : SE} {vs : List Nat} {S : SV → Mem → Prop} {c : STt}
theorem for_inv (I : List SV → DS → Mem → Prop) (h0 : I items δ m) (step : ∀ x r δ m, I (x :: r) δ m → keep m ∧ g SX x δ m fun δ1 m1 => b SX { D with nx := fun δ' => Fg (I r δ'), ct := fun δ' => Fg (I r δ'), bk := D.nx } δ1 m1) (done : ∀ δ m, I [] δ m → keep m ∧ D.nx δ m) : ForGo keep g b SX D items δ m := by
  unfold ForGo
  exact ⟨I, h0, step, done⟩
/-- a loop turn by turn -/
def forRun (keep : Mem → Prop) (g : SG) (b : SS) (SX : SXK) (D : SEnds) : List SV → DS → Mem → Prop
  | [], δ, m => keep m ∧ D.nx δ m
  | x :: r, δ, m => keep m ∧ g SX x δ m fun δ1 m1 => b SX { D with nx := fun δ' => Fg (forRun keep g b SX D r δ'), ct := fun δ' => Fg (forRun keep g b SX D r δ'), bk := D.nx } δ1 m1
theorem lc_inv (I : List SV → List SV → Mem → Prop) (h0 : I items [] (up m p (.lst []))) (step : ∀ x r acc m, I (x :: r) acc m → keep m ∧ g SX x (wipeD δ vs) m fun δ1 m1 => tt SX δ1 m1 fun b m2 => Br b (te SX δ1 m2 fun y m3 => m3 p = some (.lst acc) ∧ Fg (I r (acc ++ [y])) (up m3 p (.lst (acc ++ [y])))) (Fg (I r acc) m2))
    (done : ∀ acc m, I [] acc m → keep m ∧ S (.ref p) m) : LcGo p keep g tt te vs SX δ items m S := by
  unfold LcGo
  exact ⟨I, h0, step, done⟩
/-- the memory stays (but for what is made and forgotten), the items by a test and a function -/
theorem lc_filt (pr : SV → Bool) (f : SV → SV) (hk : ∀ acc, keep (up m p (.lst acc)))
    (step : ∀ x ∈ items, ∀ acc (K1 : SV → Mem → Prop) (K0 : Mem → Prop), (∀ m', Le (up m p (.lst acc)) m' → pr x = true → K1 (f x) m') → (∀ m', Le (up m p (.lst acc)) m' → pr x = false → K0 m') → g SX x (wipeD δ vs) (up m p (.lst acc)) fun δ1 m1 => tt SX δ1 m1 fun b m2 => Br b (te SX δ1 m2 K1) (K0 m2))
    (done : S (.ref p) (up m p (.lst ((items.filter pr).map f)))) : LcGo p keep g tt te vs SX δ items m S := by
  refine lc_inv (fun r acc m' => m' = up m p (.lst acc) ∧ ∃ pre, pre ++ r = items ∧ acc = (pre.filter pr).map f) ⟨rfl, [], rfl, rfl⟩ (fun x r acc m' h => ?_) (fun acc m' h => ?_)
  · obtain ⟨rfl, pre, e, ha⟩ := h
    refine ⟨hk _, step x (by rw [← e]; simp) acc _ _ (fun m' l q => ⟨l _ _ up_same, _, (by rw [← up_up (m := m)]; exact Le.put l), rfl, pre ++ [x], by rw [← e]; simp, by rw [ha, List.filter_append, List.map_append]; simp [q]⟩) (fun m' l q => ⟨_, l, rfl, pre ++ [x], by rw [← e]; simp, by rw [ha, List.filter_append, List.map_append]; simp [q]⟩)⟩
  · obtain ⟨rfl, pre, e, ha⟩ := h
    rw [List.append_nil] at e
    subst e
    exact ⟨hk _, by rw [ha]; exact done⟩
theorem filter_yes {α : Type} (xs : List α) : xs.filter (fun _ => true) = xs := by simp
theorem lc_map (f : SV → SV) (hk : ∀ acc, keep (up m p (.lst acc)))
    (step : ∀ x ∈ items, ∀ acc (K1 : SV → Mem → Prop), (∀ m', Le (up m p (.lst acc)) m' → K1 (f x) m') → g SX x (wipeD δ vs) (up m p (.lst acc)) fun δ1 m1 => te SX δ1 m1 K1)
    (done : S (.ref p) (up m p (.lst (items.map f)))) : LcGo p keep g sYes te vs SX δ items m S := by
  refine lc_filt (fun _ => true) f hk (fun x hx acc K1 K0 h1 _ => ?_) (by rw [filter_yes]; exact done)
  have e : (fun δ1 m1 => sYes SX δ1 m1 fun b m2 => Br b (te SX δ1 m2 K1) (K0 m2)) = fun δ1 m1 => te SX δ1 m1 K1 := by
    funext δ1 m1
    exact Br_true
  rw [e]
  exact step x hx acc K1 fun m' l => h1 m' l rfl
theorem DDs.le {a m : Mem} (l : Le a m) : ∀ {xs : List SV}, DDs a xs → DDs m xs := by
  intro xs
  exact fun h => DDs.rec (motive_1 := fun x _ => DD m x) (motive_2 := fun xs _ => DDs m xs) .non .bl .int .str (fun _ ih => .tup ih) .lst (fun e => .ref (l _ _ e)) .nil (fun _ _ a b => .cons a b) h
theorem DD.le {a m : Mem} (l : Le a m) {x : SV} (h : DD a x) : DD m x := by
  cases h with
  | non => exact .non
  | bl b => exact .bl b
  | int i => exact .int i
  | str z => exact .str z
  | tup h => exact .tup (h.le l)
  | lst => exact .lst
  | ref e => exact .ref (l _ _ e)
end
end Sy

set_option Elab.async false
set_option linter.all false
set_option maxRecDepth 100000
set_option maxHeartbeats 4000000
/-! Lambdas kept in lists, called two defs further down; the error that such a call lets out. -/
namespace Sy
open PySem PySem.Spec PyProof.Rows L2 LamX NdefX Lm
/-- lambda: made -/
def sLam (P : Addr) (nm : Nat → Nat → Str) (mk : Addr → NF) (e : Expr) (d : Option Int) : SE := fun _ _ m S => m P = some (.tab nm) ∧ ∀ f, m f = none → S (.ref f) (up m f (.lam mk e d))
section
variable {K : PySem.W.Frag} {E : XK} {X : Cx}
end
/-! ### cells under the ground for the time of a call -/
structure CellsB (base : Heap) (cl : List (Str × Addr)) (fr : List Str) (ws : List (Option V)) : Prop where
  len : ws.length = fr.length
  all : ∀ y c, cl.lookup y = some c → ∃ v, base.IsCell c v
  inj : ∀ x y c, cl.lookup x = some c → cl.lookup y = some c → x = y
  has : ∀ (i : Nat) (y : Str), fr[i]? = some y → ∃ c, cl.lookup y = some c ∧ ∀ v, ws[i]? = some (some v) → ∃ u, L2.RelV v u ∧ base.IsCell c (some u)
section
variable {X : Cx} {pins : List (Addr × Obj)} {σ : L2.St} {H : Hp} {s : Shared}
/-- f(..), what is called may rest on the frame's cells -/
def tCallB (X : Cx) (sp : Heap → Sp) (t : TA) : TE := fun σ H Q => t σ H fun vs H1 => ∀ base', X.Ok → (∀ cl fr js, Caps X cl fr js → CellsB base' cl fr (js.map (slotAt σ))) → sp base' vs H1 Q E0
end

/-- a callable at f, called without arguments: what is asked is φ -/
abbrev Phi := Mem → SXK → (SV → Mem → Prop) → Prop
def ActC (P : Program) (w : World) (K : PySem.W.Frag) (mg : Str → Option Value) (base : Heap) (k : Nat) (f : Addr) (φ : Phi) : Hp → Hp → Prop := fun F H => (∃ N e dV, H f = some (LamO f N e dV)) ∧
  ∀ (A : Around) (outer : List Env) (s : Shared) (m : Mem) (Q : VK) (E : XK) (SX : SXK) (S : SV → Mem → Prop), Room k A → Env0 P w K mg base A outer s H → MR K F H m → φ m SX S → ExOk K F E SX → Cn K F S Q →
    codeAny (model P w) A (.call (.ref f) ⟨[], []⟩) (CR (L2.CX P w) outer P w H s Q E) s
/-- the reading of work() -/
def tWork (P : Program) (w : World) (K : PySem.W.Frag) (mg : Str → Option Value) (base : Heap) (k i : Nat) (W : WX) : TE := fun σ H Q => ∃ (F : Hp) (f : Addr) (φ : Phi) (m : Mem) (SX : SXK) (S : SV → Mem → Prop), σ[i]? = some (some (.ref f)) ∧ MR K F H m ∧ m f = some (.pred (ActC P w K mg base k f φ)) ∧ φ m SX S ∧ ExOk K F (fun cls d H' => W cls d σ H') SX ∧ Cn K F S Q
section
variable {X : Cx}
end
/-! ### what a lambda does -/
def startFD (n : Nat) (vs : List SV) (ws : List (Option SV)) : DS := vs.map some ++ (ws ++ List.replicate (n - vs.length - ws.length) none)
/-- the cells' values -/
def WR (K : PySem.W.Frag) (F : Hp) (ws : List (Option V)) (ds : List (Option SV)) : Prop := ws.length = ds.length ∧ ∀ (i : Nat) d, ds[i]? = some (some d) → ∃ v, ws[i]? = some (some v) ∧ VR K F v d
section
variable {P : Program} {w : World} {K : PySem.W.Frag} {mg : Str → Option Value} {base : Heap} {k : Nat} {f c : Addr} {mk : Addr → NF} {e : Expr} {N ps fr : List Str} {φ : Phi} {ds : List (Option SV)} {ws : List (Option V)} {F H : Hp}
end
/-! ### a call while the frame's cells lie under the ground -/
section
variable {X : Cx}
/-- what the new ground knows -/
def Grd (X : Cx) (base' : Heap) (σ : L2.St) : Prop := X.Ok ∧ ∀ cl fr js, Caps X cl fr js → CellsB base' cl fr (js.map (slotAt σ))
/-- a lambda of this frame does φ -/
def Beh (P : Program) (w : World) (K : PySem.W.Frag) (mg : Str → Option Value) (X : Cx) (k : Nat) (base' : Heap) (δ : DS) (mk : Addr → NF) (e : Expr) (d : Option Int) (φ : Phi) : Prop :=
  ∀ (σ : L2.St) (F H : Hp) (f c : Addr) (dV : Value), SR K F σ δ → Grd X base' σ → H f = some (LamO f (mk c) e dV) → H c = some (CodeO (mk c).c (mk c).qual) → (mk c).c = c → (match d with | none => dV = .none | some i => ∃ T, dV = .ref T ∧ H T = some (.tup [.int i])) → ActC P w K mg base' k f φ F H
inductive Conv (P : Program) (w : World) (K : PySem.W.Frag) (mg : Str → Option Value) (X : Cx) (k : Nat) (base' : Heap) (δ : DS) : Mem → Mem → Prop
  | refl (m : Mem) : Conv P w K mg X k base' δ m m
  | step {m m' : Mem} {f : Addr} {mk : Addr → NF} {e : Expr} {d : Option Int} (φ : Phi) : m f = some (.lam mk e d) → Beh P w K mg X k base' δ mk e d φ → Conv P w K mg X k base' δ (up m f (.pred (ActC P w K mg base' k f φ))) m' → Conv P w K mg X k base' δ m m'
def sCallB (P : Program) (w : World) (K : PySem.W.Frag) (mg : Str → Option Value) (X : Cx) (k : Nat) (sp : Heap → SpS) (a : SA) : SE := fun SX δ m S => a SX δ m fun vs m1 => ∀ base', ∃ m2, Conv P w K mg X k base' δ m1 m2 ∧ sp base' vs m2 (fun _ _ => False) S
end
/-! ### how often, isinstance of a caught error -/
section
variable {X : Cx}
/-! ### how often a flat value stands in a list of flat ones -/
def rCntF (K : PySem.W.Frag) : V → List V → Hp → VK → Prop := fun x xs H Q => ∃ (a : Addr) (ys : List V) (y : V), x = V.ref a ∧ xs = [y] ∧ SqL K H a ys ∧ flatV y = true ∧ ys.all flatV = true ∧ Q (.int ((ys.countP fun z => eqV z y) : Nat)) H
end

def sCount : SRM := fun x vs m S => match vs with
  | [y] => ∃ xs, ItsL m x xs ∧ flatS y = true ∧ xs.all flatS = true ∧ S (.int ((xs.countP fun z => eqS z y : Nat))) m
  | _ => False
section
variable {K : PySem.W.Frag}
def sIsE (K : PySem.W.Frag) (D a : Addr) : SRC := fun vs m S => match vs with
  | [.ref b, .ref C] => b = a ∧ ∃ k, PySem.W.kitOne K (.ref D) (.ref C) = some k ∧ S (.bl k) m
  | [.ref b, .ty n] => b = a ∧ ∃ k, PySem.W.kitOne K (.ref D) (.type n) = some k ∧ S (.bl k) m
  | _ => False
end
/-! ### a def whose code object is known (it makes lambdas) -/
section
variable {P : Program} {w : World} {K : PySem.W.Frag} {mg : Str → Option Value} {base : Heap}
end
end Sy

set_option Elab.async false
set_option linter.all false
set_option maxRecDepth 100000
set_option maxHeartbeats 4000000
/-! sum of a list of truths -/
namespace Sy
open PySem PySem.Spec PyProof.Rows L2
def cntB (bs : List Bool) : Int := (bs.map b2i).sum
def rSumB (K : PySem.W.Frag) : List V → Hp → VK → Prop := fun vs H Q => ∃ (a : Addr) (bs : List Bool), vs = [V.ref a] ∧ SqL K H a (bs.map V.bl) ∧ Q (.int (cntB bs)) H
def rSumG (K : PySem.W.Frag) : List V → Hp → VK → Prop := fun xs H Q => rSum K xs H Q ∨ rSumB K xs H Q
def sSumA : SRC := fun vs m S => match vs with
  | [x] => (∃ ns : List Int, ItsL m x (ns.map .int) ∧ S (.int ns.sum) m) ∨ (∃ bs : List Bool, ItsL m x (bs.map .bl) ∧ S (.int (cntB bs)) m)
  | _ => False
end Sy
namespace Sy
open PySem PySem.Spec PyProof.Rows L2
def slotD (δ : DS) (j : Nat) : Option SV := match δ[j]? with
  | some o => o
  | none => none
end Sy
namespace Sy
open PySem PySem.Spec PyProof.Rows L2
section
variable {P : Program} {w : World} {K : PySem.W.Frag} {mg : Str → Option Value} {base : Heap}
end
end Sy

set_option Elab.async false
set_option linter.all false
set_option maxRecDepth 100000
set_option maxHeartbeats 4000000
/-! Instances and their fields, methods, constructors over symbolic values. -/
namespace Sy
open PySem PySem.Spec PyProof.Rows L2
/-- a field is stored -/
def putS (f : Str) (v : SV) : List (Str × SV) → List (Str × SV)
  | [] => [(f, v)]
  | (g, x) :: r => if g = f then (g, v) :: r else (g, x) :: putS f v r
section
variable {K : PySem.W.Frag} {F H : Hp} {m : Mem}
end
/-- o.f of an instance of the class at C -/
def sFldR (C : Addr) (f : Str) (a : SE) : SE := fun SX δ m S => a SX δ m fun x m1 => match x with
  | .ref p => ∃ fs v, m1 p = some (.ins C fs) ∧ fs.lookup f = some v ∧ S v m1
  | _ => False
/-- o.f = v -/
def sFldW (C : Addr) (f : Str) (a tv : SE) : SS := fun SX D δ m => tv SX δ m fun y m1 => a SX δ m1 fun x m2 => match x with
  | .ref p => ∃ fs, m2 p = some (.ins C fs) ∧ fs.length < 1000 ∧ D.nx δ (up m2 p (.ins C (putS f y fs)))
  | _ => False
/-- o.m(..) -/
def sMeth (C : Addr) (nm : Str) (sp : SpS) (dvs : List SV) (a : SE) (t : SA) : SE := fun SX δ m S => a SX δ m fun x m1 => match x with
  | .ref p => ∃ fs, m1 p = some (.ins C fs) ∧ fs.lookup nm = none ∧ t SX δ m1 fun vs m2 => sp (.ref p :: (vs ++ dvs)) m2 SX S
  | _ => False
/-- C(..) -/
def sMake (C : Addr) (sp : SpS) (dvs : List SV) (t : SA) : SE := fun SX δ m S => t SX δ m fun vs m1 => ∀ p, m1 p = none → sp (.ref p :: (vs ++ dvs)) (up m1 p (.ins C [])) SX (fun v m2 => v = .non ∧ S (.ref p) m2)
/-- a method's promise, a constructor's -/
abbrev FnM (K : PySem.W.Frag) (x q : Str) (st : Stmt) (f : Addr) (fd : FuncData) : Prop := FunD K x q (defArgs st) (defBody st) (defScope st) [] [] f fd
section
variable {K : PySem.W.Frag} {E : XK} {X : Cx} {CX : CXT} {k : Nat} {f C : Addr} {fd : FuncData} {ps : List Str} {sp : SpS} {dvs : List V} {svs : List SV} {ds : List Value} {x nm : Str} {p pos apos pos' : Pos} {e o value : Expr} {es : List Expr} {t : TA} {s : SA} {ta tv : TE} {sa sv : SE}
end
/-! ### keywords -/
structure GK (K : PySem.W.Frag) (E : XK) (X : Cx) (e : List Keyword) (te : TA) (se : SA) : Prop where
  pe : PK X e te
  sim : SimA K E te se
def tMethK (C : Addr) (m : Str) (sp : Sp) (gV : List V → List V → List V) (E : XK) (ta : TE) (tk : TA) : TE := fun σ H Q => ta σ H fun x H1 => ∃ a dx fs, x = .ref a ∧ H1 a = some (.ins C dx fs) ∧ fs.lookup m = none ∧
  tk σ H1 fun zs H2 => sp (gV [x] zs) H2 Q E
/-- o.m(k = v) -/
def sMethK (C : Addr) (nm : Str) (sp : SpS) (a : SE) (t : SA) : SE := fun SX δ m S => a SX δ m fun x m1 => match x with
  | .ref p => ∃ fs, m1 p = some (.ins C fs) ∧ fs.lookup nm = none ∧ t SX δ m1 fun vs m2 => sp (.ref p :: vs) m2 SX S
  | _ => False
section
variable {K : PySem.W.Frag} {E : XK} {X : Cx} {CX : CXT} {k : Nat} {f C : Addr} {fd : FuncData} {ps ks : List Str} {sp : SpS} {x nm : Str} {p pos apos kpos : Pos} {e o : Expr} {es : List Expr} {kws : List Keyword} {t tk : TA} {s sk : SA} {ta te : TE} {sa se : SE} {nk : Option Str}
end
/-! ### defs with a qualified name -/
section
variable {P : Program} {w : World} {K : PySem.W.Frag} {mg : Str → Option Value} {base : Heap}
end
end Sy

set_option Elab.async false
set_option linter.all false
set_option maxRecDepth 100000
set_option maxHeartbeats 4000000
/-! Dicts with keys ints and texts, displays, enumerate, sorted, copies backward over symbolic values. -/
namespace Sy
open PySem PySem.Spec PyProof.Rows L2
def keyS : SV → Option Key
  | .int i => some (.inl i)
  | .str x => some (.inr x)
  | _ => none
def kS : Key → SV
  | .inl i => .int i
  | .inr x => .str x
section
variable {κ : Type} [DecidableEq κ]
def valS (kvs : List (κ × SV)) (k : κ) : Option SV := (kvs.find? fun kv => decide (kv.1 = k)).map (·.2)
def putD (kvs : List (κ × SV)) (k : κ) (v : SV) : List (κ × SV) :=
  if (kvs.any fun kv => decide (kv.1 = k)) = true then kvs.map (fun kv => if kv.1 = k then (kv.1, v) else kv) else kvs ++ [(k, v)]
def dropD (kvs : List (κ × SV)) (k : κ) : List (κ × SV) := kvs.filter fun kv => decide (kv.1 ≠ k)
variable {K : PySem.W.Frag} {F : Hp}
end
/-! ### readings -/
def sDGet (d i : SE) : SE := fun SX δ m S => d SX δ m fun x m1 => i SX δ m1 fun y m2 => match x with
  | .ref a => ∃ kvs k v, m2 a = some (.dK kvs) ∧ keyS y = some k ∧ valS kvs k = some v ∧ S v m2
  | _ => False
/-- d.get(k) -/
def sDGet1 (d i : SE) : SE := fun SX δ m S => d SX δ m fun x m1 => match x with
  | .ref a => (∃ kvs, m1 a = some (.dK kvs)) ∧ i SX δ m1 fun y m2 => ∃ kvs k, m2 a = some (.dK kvs) ∧ keyS y = some k ∧ S ((valS kvs k).getD .non) m2
  | _ => False
/-- d[k] = v -/
def sDPutS (d i v : SE) : SS := fun SX D δ m => v SX δ m fun z m1 => d SX δ m1 fun x m2 => i SX δ m2 fun y m3 => match x with
  | .ref a => ∃ kvs k, m3 a = some (.dK kvs) ∧ keyS y = some k ∧ kvs.length < sizeLine ∧ D.nx δ (up m3 a (.dK (putD kvs k z)))
  | _ => False
def sDNew : SE := fun _ _ m S => ∀ p, m p = none → S (.ref p) (up m p (.dK []))
def sPairs : List (SE × SE) → SXK → DS → Mem → (List (SV × SV) → Mem → Prop) → Prop
  | [], _, _, m, S => S [] m
  | (k, v) :: r, SX, δ, m, S => k SX δ m fun x m1 => v SX δ m1 fun y m2 => sPairs r SX δ m2 fun ps m3 => S ((x, y) :: ps) m3
def mergeS (kvs more : List (Key × SV)) : List (Key × SV) := more.foldl (fun acc kv => putD acc kv.1 kv.2) kvs
def sDisp (srs : List (SE × SE)) : SE := fun SX δ m S => ∀ p, m p = none → sPairs srs SX δ (up m p (.dK [])) fun ps m2 => m2 p = some (.dK []) ∧ ∃ kvs : List (Key × SV), ps = kvs.map (fun kv => (kS kv.1, kv.2)) ∧ kvs.length ≤ 15 ∧ S (.ref p) (up m2 p (.dK (mergeS [] kvs)))
section
variable {K : PySem.W.Frag} {F H : Hp} {m : Mem} {a p : Addr}
end
inductive PR2 (K : PySem.W.Frag) (F : Hp) : List (V × V) → List (SV × SV) → Prop
  | nil : PR2 K F [] []
  | cons {x y : V} {a b : SV} {ps : List (V × V)} {qs : List (SV × SV)} : VR K F x a → VR K F y b → PR2 K F ps qs → PR2 K F ((x, y) :: ps) ((a, b) :: qs)
structure GPs (K : PySem.W.Frag) (E : XK) (X : Cx) (pos : Pos) (ks : List (Option Expr)) (vs : List Expr) (trs : List (TE × TE)) (srs : List (SE × SE)) : Prop where
  pe : PPs X pos ks vs trs
  sim : ∀ σ F H δ m SX (S : List (SV × SV) → Mem → Prop) (Q : List (V × V) → Hp → Prop), Rl K E σ F H δ m SX → sPairs srs SX δ m S → (∀ ps F' H' qs m', Sub F F' → MR K F' H' m' → PR2 K F' ps qs → S qs m' → Q ps H') → tPairs trs σ H Q
section
variable {K : PySem.W.Frag} {E : XK} {X : Cx} {pos apos cpos pos' : Pos} {o i e k v value : Expr} {ks : List (Option Expr)} {vs : List Expr} {trs : List (TE × TE)} {srs : List (SE × SE)} {td ty tk tv : TE} {sd sy sk sv : SE}
end
/-! ### sorted of a dict with int keys -/
def rSortDI : List V → Hp → VK → Prop := fun xs H Q => ∃ (a : Addr) (kvs : List (Key × V)) (ks : List Int), xs = [.ref a] ∧ L2.Rd H a (.dK kvs) ∧ kvs.map (·.1) = ks.map Sum.inl ∧ ks.length < 64 ∧
    ∀ (ys : List Int) (p : Addr), ys.Perm ks → ys.Pairwise (· ≤ ·) → H p = none → Q (.ref p) (upd H p (.lst (ys.map V.int)))
def srtI (ks : List Int) : List Int := ks.mergeSort (fun a b => decide (a ≤ b))
def sSortDI : SRC := fun vs m S => match vs with
  | [.ref a] => ∃ (kvs : List (Key × SV)) (ks : List Int), m a = some (.dK kvs) ∧ kvs.map (·.1) = ks.map Sum.inl ∧ ks.length < 64 ∧ ∀ p, m p = none → S (.ref p) (up m p (.lst ((srtI ks).map SV.int)))
  | _ => False
/-! ### enumerate(list) -/
def enS : Int → List SV → List SV
  | _, [] => []
  | i, x :: r => .tup [.int i, x] :: enS (i + 1) r
theorem enS_len : ∀ (xs : List SV) (i : Int), (enS i xs).length = xs.length
  | [], _ => rfl
  | _ :: r, i => by rw [enS, List.length_cons, List.length_cons, enS_len r]
theorem enS_get : ∀ (xs : List SV) (i : Int) (j : Nat) (y : SV), (enS i xs)[j]? = some y → ∃ x, xs[j]? = some x ∧ y = .tup [.int (i + (j : Nat)), x]
  | [], _, _, _, e => by simp [enS] at e
  | x :: r, i, 0, y, e => by
    simp [enS] at e
    exact ⟨x, rfl, by rw [← e]; simp⟩
  | x :: r, i, j + 1, y, e => by
    obtain ⟨x', h1, h2⟩ := enS_get r (i + 1) j y (by simpa [enS] using e)
    refine ⟨x', by simpa using h1, ?_⟩
    rw [h2]
    congr 3
    push_cast
    omega
def sEnumI (a : SA) : SI := fun SX δ m R => a SX δ m fun xs m1 => match xs with
  | [x] => ∃ ys, ItsL m1 x ys ∧ R (enS 0 ys) (keepOf x ys) m1
  | _ => False
theorem one_any {xs : List SV} {P : SV → Prop} (h : match xs with | [x] => P x | _ => False) : ∃ x, xs = [x] ∧ P x := by
  split at h
  · exact ⟨_, rfl, h⟩
  · exact h.elim
theorem it_e {K : PySem.W.Frag} {F : Hp} {a : Addr} {ys : List SV} {keep : Mem → Prop} (h : ∀ F' H' m', Sub F F' → MR K F' H' m' → keep m' → ∃ vs, SqL K H' a vs ∧ VRs K F' vs ys) : ItOk K F (Ite K a) (enS 0 ys) keep where
  go := fun i F' H' m' x s M k e => by
    obtain ⟨vs, h1, h2⟩ := h F' H' m' s M k
    obtain ⟨z, hz, rfl⟩ := enS_get _ _ _ _ e
    obtain ⟨v, hv, rv⟩ := vrs_get h2 hz
    refine ⟨⟨vs, v, h1, hv⟩, fun w H'' hy => ?_⟩
    obtain ⟨T, y, rfl, hT, rfl, hy⟩ := hy
    have q := hy vs h1
    rw [hv] at q
    cases q
    refine ⟨upd F' T _, Sub.new (M.sub.gone hT), M.frz hT, .tup (.inl (.inl upd_same)) (.cons ?_ (.cons (vr_sub (Sub.new (M.sub.gone hT)) rv) .nil))⟩
    have e0 : (0 : Int) + (i : Nat) = (i : Nat) := by omega
    rw [e0]
    exact .int _
  stop := fun F' H' m' s M k => by
    obtain ⟨vs, h1, h2⟩ := h F' H' m' s M k
    exact ⟨vs, h1, by rw [enS_len, vrs_length h2]; exact Nat.le_refl _⟩
section
variable {K : PySem.W.Frag} {E : XK} {X : Cx} {e : Expr} {p pos tpos : Pos} {elts : List Expr} {kk : Nat} {t : TA} {s : SA} {te : TE} {se : SE}
theorem gi_enumerate (hg : Gl X "enumerate") (hm : X.mg "enumerate" = none) (ha : GA K E X [e] t s) (hs : starEach [e] X.env = [(false, eval e X.env)] := by rfl) (hK : X.K = K := by rfl) : GI K E X (.Tuple elts kk tpos) (.Call (.Name "enumerate" p) [e] [] pos) (iEnum K t) (sEnumI s) := by
  subst hK
  exact ⟨pi_enum hg hm ha.pe hs, fun σ F H δ m SX R R' r hh c => ha.sim σ F H δ m SX _ _ r hh fun v F1 H1 sv m1 s1 M1 v1 h1 => by
    obtain ⟨x, rfl, ys, hi, q⟩ := one_any h1
    obtain ⟨w, rfl, rw_⟩ := vrs_one v1
    cases rw_ with
    | lst g1 g2 =>
      cases (show ys = _ from hi)
      exact ⟨_, _, rfl, sql_sub M1.sub g1, c _ _ _ F1 H1 m1 s1 M1 (it_e fun F2 H2 m2 s2 M2 _ => ⟨_, sql_sub (s2.trans M2.sub) g1, vrs_sub s2 g2⟩) q⟩
    | ref b =>
      obtain ⟨vs, e1, _⟩ := M1.lst_ (show m1 b = some (.lst ys) from hi)
      exact ⟨_, _, rfl, .inl (.inl e1), c _ _ _ F1 H1 m1 s1 M1 (it_e fun F2 H2 m2 s2 M2 k => by
        obtain ⟨ws, e2, r2⟩ := M2.lst_ (show m2 b = some (.lst ys) from k)
        exact ⟨ws, .inl (.inl e2), r2⟩) q⟩
    | _ => exact (show False from hi).elim⟩
/-! ### xs[::-1], [..] * n -/
def sRev (a : SE) : SE := fun SX δ m S => a SX δ m fun x m1 => ∃ ys, ItsL m1 x ys ∧ ∀ p, m1 p = none → S (.ref p) (up m1 p (.lst ys.reverse))
def sRep : SR2 := fun x y m S => match x, y with
  | .ref a, .int k => ∃ xs, m a = some (.lst xs) ∧ (-(2 ^ 63) ≤ k ∧ k < 2 ^ 63 ∧ xs.length * k.toNat ≤ sizeLine) ∧ ∀ p, m p = none → S (.ref p) (up m p (.lst (List.replicate k.toNat xs).flatten))
  | _, _ => False
end
end Sy

set_option Elab.async false
set_option linter.all false
set_option maxRecDepth 100000
set_option maxHeartbeats 4000000
/-! A def that may raise, called where it doesn't (within a comprehension). -/
namespace Sy
open PySem PySem.Spec PyProof.Rows L2
def calm (sp : SpS) : SpS := fun vs m _ S => sp vs m (fun _ _ => False) S
end Sy

set_option Elab.async false
set_option linter.all false
set_option maxRecDepth 100000
set_option maxHeartbeats 4000000
/-! a, b = x, y of plain names -/
namespace Sy
open PySem PySem.Spec PyProof.Rows L2
def sPar (i j : Nat) (sa : SA) : SS := fun SX D δ m => sa SX δ m fun vs m1 => match vs with
  | [v, w] => D.nx ((δ.set i (some v)).set j (some w)) m1
  | _ => False
def sPar3 (i j l : Nat) (sa : SA) : SS := fun SX D δ m => sa SX δ m fun vs m1 => match vs with
  | [u, v, w] => D.nx (((δ.set i (some u)).set j (some v)).set l (some w)) m1
  | _ => False
theorem two_any {xs : List SV} {P : SV → SV → Prop} (h : match xs with | [x, y] => P x y | _ => False) : ∃ x y, xs = [x, y] ∧ P x y := by
  split at h
  · exact ⟨_, _, rfl, h⟩
  · exact h.elim
theorem three_any {xs : List SV} {P : SV → SV → SV → Prop} (h : match xs with | [x, y, z] => P x y z | _ => False) : ∃ x y z, xs = [x, y, z] ∧ P x y z := by
  split at h
  · exact ⟨_, _, _, rfl, h⟩
  · exact h.elim
section
variable {K : PySem.W.Frag} {E : XK} {X : Cx} {a b c : Expr} {ta : TA} {sa : SA} {pos px py pz pt pt2 : Pos} {kt k2 : Nat} {i j l : Nat} {x y z : Str}
theorem gs_par (hc : X.calm = true) (hN : X.N.Nodup) (hi : X.N[i]? = some x) (hj : X.N[j]? = some y) (hij : i ≠ j)
    (hx : X.env.scope.names.lookup x = some .local) (hy : X.env.scope.names.lookup y = some .local) (ha : GA K E X [a, b] ta sa)
    (hw : swappedStores [.Tuple [.Name x px, .Name y py] kt pt] (.Tuple [a, b] k2 pt2) X.env = pure (some [x, y]) := by rfl)
    (hs : swapsWithSole [.Tuple [.Name x px, .Name y py] kt pt] (.Tuple [a, b] k2 pt2) pos.line X.env = pure false := by rfl) :
    GS K E X (.Assign [.Tuple [.Name x px, .Name y py] kt pt] (.Tuple [a, b] k2 pt2) pos) (tPar i j ta) (sPar i j sa) :=
  ⟨ps_par hc hN hi hj hij hx hy ha.pe hw hs, fun σ F H δ m SX D Es r h q => ha.sim σ F H δ m SX _ _ r h fun vs F1 H1 svs m1 s1 M1 v1 h1 => by
    obtain ⟨v, w, rfl, h1⟩ := two_any h1
    obtain ⟨v', w', rfl, r1, r2⟩ := vrs_two v1
    exact ⟨v', w', rfl, q.nx _ _ F1 H1 m1 s1 (((r.sr.sub s1).set r1).set r2) M1 h1⟩⟩
theorem vrs_three {F : Hp} {vs : List V} {x y z : SV} (h : VRs K F vs [x, y, z]) : ∃ u v w, vs = [u, v, w] ∧ VR K F u x ∧ VR K F v y ∧ VR K F w z := by
  cases h with
  | cons r t =>
    obtain ⟨v, w, rfl, q1, q2⟩ := vrs_two t
    exact ⟨_, _, _, rfl, r, q1, q2⟩
theorem gs_par3 (hc : X.calm = true) (hN : X.N.Nodup) (hi : X.N[i]? = some x) (hj : X.N[j]? = some y) (hl : X.N[l]? = some z) (hij : i ≠ j) (hil : i ≠ l) (hjl : j ≠ l)
    (hx : X.env.scope.names.lookup x = some .local) (hy : X.env.scope.names.lookup y = some .local) (hz : X.env.scope.names.lookup z = some .local) (ha : GA K E X [a, b, c] ta sa)
    (hw : swappedStores [.Tuple [.Name x px, .Name y py, .Name z pz] kt pt] (.Tuple [a, b, c] k2 pt2) X.env = pure (some [x, y, z]) := by rfl)
    (hs : swapsWithSole [.Tuple [.Name x px, .Name y py, .Name z pz] kt pt] (.Tuple [a, b, c] k2 pt2) pos.line X.env = pure false := by rfl) :
    GS K E X (.Assign [.Tuple [.Name x px, .Name y py, .Name z pz] kt pt] (.Tuple [a, b, c] k2 pt2) pos) (tPar3 i j l ta) (sPar3 i j l sa) :=
  ⟨ps_par3 hc hN hi hj hl hij hil hjl hx hy hz ha.pe hw hs, fun σ F H δ m SX D Es r h q => ha.sim σ F H δ m SX _ _ r h fun vs F1 H1 svs m1 s1 M1 v1 h1 => by
    obtain ⟨u, v, w, rfl, h1⟩ := three_any h1
    obtain ⟨u', v', w', rfl, r1, r2, r3⟩ := vrs_three v1
    exact ⟨u', v', w', rfl, q.nx _ _ F1 H1 m1 s1 ((((r.sr.sub s1).set r1).set r2).set r3) M1 h1⟩⟩
end
def isBl (x : SV) (b : Bool) : Bool := match x with
  | .bl a => decide (a = b)
  | _ => false
def sNotBA : SR2 := fun x y m S => match y with
  | .bl b => S (.bl (!isBl x b)) m
  | _ => False
end Sy

set_option Elab.async false
set_option linter.all false
set_option maxRecDepth 100000
set_option maxHeartbeats 4000000
/-! sorted(set(xs)), len(set(xs)) of a list of ints; d.get(k, x). -/
namespace Sy
open PySem PySem.Spec PyProof.Rows L2
/-- an empty set's object -/
abbrev nset (w : World) : Obj := { cls := .type "set", dict := none, data := .set #[] 0 (.fresh 0 0 (!w.params.followText "set-order")) }
section
variable {P : Program} {w : World} {A : Around} {E : Value → Shared → Prop} {s : Shared}
/-- what stands behind the making of a set out of ns -/
def Made (w : World) (s : Shared) (ns : List Int) (r : Value) (s2 : Shared) : Prop := r = .none ∧ ∃ h' tk c, s2 = { s with heap := h', toks := tk } ∧ SetR w h' s.heap.objs.size (fun j => decide (j ∈ ns)) c ∧ c ≤ ns.length ∧ ∀ b o, s.heap.get? b = some o → h'.get? b = some o
end
def rSetI (K : PySem.W.Frag) (w : World) : List V → Hp → VK → Prop := fun xs H Q => ∃ (l : Addr) (ns : List Int), xs = [V.ref l] ∧ SqL K H l (ns.map V.int) ∧ ns.length < 64 ∧ ∀ (p : Addr) (c : Nat), H p = none → c ≤ ns.length → Q (.ref p) (upd H p (SetO w p (fun j => decide (j ∈ ns)) c))
def sSetI (w : World) : SRC := fun vs m S => match vs with
  | [x] => ∃ ns : List Int, ItsL m x (ns.map .int) ∧ ns.length < 64 ∧ ∀ (p : Addr) (c : Nat), m p = none → c ≤ ns.length → S (.ref p) (up m p (.raw (SetO w p (fun j => decide (j ∈ ns)) c)))
  | _ => False
def sSortS (w : World) : SRC := fun vs m S => match vs with
  | [.ref a] => ∃ (ns : List Int) (c : Nat), m a = some (.raw (SetO w a (fun j => decide (j ∈ ns)) c)) ∧ c < 64 ∧ ∀ (ys : List Int) (p : Addr), ys.Pairwise (· < ·) → (∀ k, k ∈ ys ↔ k ∈ ns) → m p = none → S (.ref p) (up m p (.lst (ys.map .int)))
  | _ => False
/-- len(set(xs)), unlike ints -/
def sLenSet (a : SE) : SE := fun SX δ m S => a SX δ m fun x m1 => ∃ ns : List Int, ItsL m1 x (ns.map .int) ∧ ns.length < 64 ∧ ns.Nodup ∧ S (.int ns.length) m1
/-- d.get(k, x) -/
def sDGet2 (d i f : SE) : SE := fun SX δ m S => d SX δ m fun x m1 => match x with
  | .ref a => (∃ kvs, m1 a = some (.dK kvs)) ∧ i SX δ m1 fun y m2 => f SX δ m2 fun z m3 => ∃ kvs k, m3 a = some (.dK kvs) ∧ keyS y = some k ∧ S ((valS kvs k).getD z) m3
  | _ => False
end Sy

set_option Elab.async false
set_option linter.all false
set_option maxRecDepth 100000
set_option maxHeartbeats 4000000
/-! k in d; x in a list of data of any depth. -/
namespace Sy
open PySem PySem.Spec PyProof.Rows L2
def sInD (neg : Bool) : SR2 := fun x y m S => ∃ d ds, Rd m x d ∧ Rd m y (.list ds) ∧ SeqAt.shaped d = true ∧ SeqAt.shaped (.list ds) = true ∧ S (.bl (if neg then !(ds.any fun z => PyData.eqv z d) else ds.any fun z => PyData.eqv z d)) m
section
variable {K : PySem.W.Frag} {E : XK} {X : Cx} {a b : Expr} {ta tb : TE} {sa sb : SE} {pos : Pos}
/-- k in d -/
def sDIn (i d : SE) : SE := fun SX δ m S => i SX δ m fun y m1 => d SX δ m1 fun x m2 => match x with
  | .ref a => ∃ kvs k, m2 a = some (.dK kvs) ∧ keyS y = some k ∧ S (.bl (valS kvs k).isSome) m2
  | _ => False
end
mutual
/-- data without dicts, its == -/
def NoD : PyData → Prop
  | .list a => NoDs a
  | .tuple a => NoDs a
  | .dict _ => False
  | _ => True
def NoDs : List PyData → Prop
  | [] => True
  | a :: r => NoD a ∧ NoDs r
end
mutual
theorem eqv_refl : ∀ d : PyData, NoD d → PyData.eqv d d = true
  | .none, _ => by simp [PyData.eqv]
  | .bool b, _ => by cases b <;> simp [PyData.eqv]
  | .int _, _ => by simp [PyData.eqv]
  | .str _, _ => by simp [PyData.eqv]
  | .list a, h => by simp only [PyData.eqv]; exact eqvAll_refl a h
  | .tuple a, h => by simp only [PyData.eqv]; exact eqvAll_refl a h
  | .dict _, h => h.elim
theorem eqvAll_refl : ∀ d : List PyData, NoDs d → PyData.eqvAll d d = true
  | [], _ => by simp [PyData.eqvAll]
  | a :: r, h => by
    simp only [PyData.eqvAll, Bool.and_eq_true]
    exact ⟨eqv_refl a h.1, eqvAll_refl r h.2⟩
end
/-- data that == compares -/
def Shp (n : Nat) (d : PyData) : Prop := PyData.canLay0 d = true ∧ PyData.depth d ≤ n
theorem shp_list {n : Nat} {ds : List PyData} (h : ∀ d ∈ ds, Shp n d) : Shp (n + 1) (.list ds) ∧ Shp (n + 1) (.tuple ds) := by
  have key : ∀ (ds : List PyData), (∀ d ∈ ds, Shp n d) → PyData.canLayAll0 ds = true ∧ PyData.depthAll ds ≤ n := fun ds => by
    induction ds with
    | nil => exact fun _ => ⟨by simp [PyData.canLayAll0], by simp [PyData.depthAll]⟩
    | cons a r ih =>
      intro h
      obtain ⟨i1, i2⟩ := ih fun d hd => h d (List.mem_cons_of_mem _ hd)
      obtain ⟨j1, j2⟩ := h a List.mem_cons_self
      refine ⟨by simp [PyData.canLayAll0, i1, j1], ?_⟩
      simp only [PyData.depthAll]
      omega
  obtain ⟨k1, k2⟩ := key ds h
  exact ⟨⟨by simp only [PyData.canLay0, k1], by simp only [PyData.depth]; omega⟩, ⟨by simp only [PyData.canLay0, k1], by simp only [PyData.depth]; omega⟩⟩
theorem shp_ok {n : Nat} {d : PyData} (h : Shp n d) (hn : n ≤ 64) : SeqAt.shaped d = true := by
  unfold SeqAt.shaped
  rw [h.1, Bool.true_and]
  exact decide_eq_true (Nat.le_trans h.2 hn)
theorem shp_int {n : Nat} (i : Int) : Shp n (.int i) := ⟨by simp [PyData.canLay0], by simp [PyData.depth]⟩
theorem shp_none {n : Nat} : Shp n .none := ⟨by simp [PyData.canLay0], by simp [PyData.depth]⟩
end Sy

set_option Elab.async false
set_option linter.all false
set_option maxRecDepth 100000
set_option maxHeartbeats 4000000
/-! Dicts whose keys are tuples of ints and texts. -/
namespace Sy
open PySem PySem.Spec PyProof.Rows L2
section
variable {K : PySem.W.Frag} {F H : Hp} {m : Mem}
end
/-! ### readings -/
def sTupK (a : SA) : SE := fun SX δ m S => a SX δ m fun xs m1 => ∃ ks : List Key, xs = ks.map kS ∧ xs.length ≤ sizeLine ∧ S (.kt ks) m1
def sDGetT (d i : SE) : SE := fun SX δ m S => d SX δ m fun x m1 => i SX δ m1 fun y m2 => match x with
  | .ref a => ∃ kvs k v, m2 a = some (.dT kvs) ∧ y = .kt k ∧ valS kvs k = some v ∧ S v m2
  | _ => False
def sDGetT2 (d i f : SE) : SE := fun SX δ m S => d SX δ m fun x m1 => match x with
  | .ref a => (∃ kvs, m1 a = some (.dT kvs)) ∧ i SX δ m1 fun y m2 => f SX δ m2 fun z m3 => ∃ kvs k, m3 a = some (.dT kvs) ∧ y = .kt k ∧ S ((valS kvs k).getD z) m3
  | _ => False
def sDPutT (d i v : SE) : SS := fun SX D δ m => v SX δ m fun z m1 => d SX δ m1 fun x m2 => i SX δ m2 fun y m3 => match x with
  | .ref a => ∃ kvs k, m3 a = some (.dT kvs) ∧ y = .kt k ∧ kvs.length < sizeLine ∧ D.nx δ (up m3 a (.dT (putD kvs k z)))
  | _ => False
def sDNewT : SE := fun _ _ m S => ∀ p, m p = none → S (.ref p) (up m p (.dT []))
def sDInT (neg : Bool) (i d : SE) : SE := fun SX δ m S => i SX δ m fun y m1 => d SX δ m1 fun x m2 => match x with
  | .ref a => ∃ kvs k, m2 a = some (.dT kvs) ∧ y = .kt k ∧ S (.bl (if neg then !(valS kvs k).isSome else (valS kvs k).isSome)) m2
  | _ => False
def tDDelT (td ty : TE) : TS := fun D σ H => td σ H fun x H1 => ty σ H1 fun y H2 => ∃ (a b : Addr) (kvs : List (List Key × V)) (k : List Key), x = .ref a ∧ H2 a = some (.dT kvs) ∧ y = .ref b ∧ H2 b = some (.tup (k.map kV)) ∧ (valV kvs k).isSome = true ∧ D.nx σ (upd H2 a (.dT (dropK kvs k)))
def sDDelT (d i : SE) : SS := fun SX D δ m => d SX δ m fun x m1 => i SX δ m1 fun y m2 => match x with
  | .ref a => ∃ kvs k, m2 a = some (.dT kvs) ∧ y = .kt k ∧ (valS kvs k).isSome = true ∧ D.nx δ (up m2 a (.dT (dropD kvs k)))
  | _ => False
section
variable {K : PySem.W.Frag} {E : XK} {X : Cx} {pos apos cpos pos' tpos : Pos} {o i e f k v value a b : Expr} {es : List Expr} {td ty tv te tx : TE} {sd sy sv se sx : SE} {tl : TA} {sl : SA}
/-- `k not in d` of int and text keys -/
def sDNotIn (i d : SE) : SE := fun SX δ m S => i SX δ m fun y m1 => d SX δ m1 fun x m2 => match x with
  | .ref a => ∃ kvs k, m2 a = some (.dK kvs) ∧ keyS y = some k ∧ S (.bl (!(valS kvs k).isSome)) m2
  | _ => False
end
/-! ### list(d), k[i] -/
def rListT : List V → Hp → VK → Prop := fun xs H Q => ∃ d kvs, xs = [V.ref d] ∧ L2.Rd H d (.dT kvs) ∧ ∀ p bs, H p = none → IsKeys H kvs bs → Q (.ref p) (upd H p (.lst (bs.map V.ref)))
def sListT : SRC := fun vs m S => match vs with
  | [.ref a] => ∃ kvs : List (List Key × SV), m a = some (.dT kvs) ∧ ∀ p, m p = none → S (.ref p) (up m p (.lst (kvs.map fun q => .kt q.1)))
  | _ => False
def sIxK : SR2 := fun x y m S => match x, y with
  | .kt ks, .int i => ∃ k, atI ks i = some k ∧ S (kS k) m
  | _, _ => False
/-! ### d.values() of a locked dict -/
def ItdT (d : Addr) (o : Obj) (kvs : List (List Key × V)) : It :=
  ⟨fun i H => H d = some (.frz o (.dT kvs)) ∧ i < kvs.length, fun i H x H' => H' = H ∧ ∃ k, kvs[i]? = some (k, x), fun i H => H d = some (.frz o (.dT kvs)) ∧ kvs.length ≤ i⟩
def iValsT (td : TE) : TI := fun σ H R => td σ H fun x H1 => ∃ d o kvs, x = .ref d ∧ H1 d = some (.frz o (.dT kvs)) ∧ R (ItdT d o kvs) H1
def sValsT (a : SE) : SI := fun SX δ m R => a SX δ m fun x m1 => match x with
  | .ref d => ∃ o kvs, m1 d = some (.lk o kvs) ∧ R (kvs.map (·.2)) (fun m' => m' d = some (.lk o kvs)) m1
  | _ => False
/-- an expression that runs while a dict is locked -/
def sLockT (se : SE) : SE := fun SX δ m S => ∃ d kvs, m d = some (.dT kvs) ∧ ∀ o, se SX δ (up m d (.lk o kvs)) fun v m' => m' d = some (.lk o kvs) ∧ S v (up m' d (.dT kvs))
end Sy

set_option Elab.async false
set_option linter.all false
set_option maxRecDepth 100000
set_option maxHeartbeats 4000000
/-! sorted of rows (two ints and a tuple of ints), of ints; max of a list; min(.., default = None). -/
namespace Sy
open PySem PySem.Spec PyProof.Rows L2
/-- a row: two ints and a tuple of ints -/
abbrev Row := Int × Int × List Int
def keyR (r : Row) : List Int := r.1 :: r.2.1 :: r.2.2
def rowS (r : Row) : SV := .tup [.int r.1, .int r.2.1, .tup (r.2.2.map .int)]
def IsRow (h : Heap) (v : Value) (κ : List Int) : Prop := ∃ (a b : Addr) (o : Obj) (t u : Tok) (n : Nat) (i j : Int) (itb : Array Value) (ns : List Int), v = .ref a ∧ h.get? a = some o ∧ o.cls = .type "tuple" ∧ o.data = .seq #[.int i t, .int j u, .ref b] n ∧ IsTup h b itb ∧ IntsAre itb.toList ns ∧ κ = i :: j :: ns
section
variable {prog : Program} {w : World} {A : Around} {E : Value → Shared → Prop} {s : Shared}
open PySem.SeqAt
end
def toV : V → Value
  | .ref a => .ref a
  | _ => .none
/-- what is sorted: rows of any number -/
def RowV (K : PySem.W.Frag) (H : Hp) (x : V) (r : Row) : Prop := ∃ t b, x = .ref t ∧ SqT K H t [.int r.1, .int r.2.1, .ref b] ∧ SqT K H b (r.2.2.map V.int)
def rSortRows (K : PySem.W.Frag) : List V → Hp → VK → Prop := fun vs H Q => ∃ (a : Addr) (zs : List (V × Row)), vs = [V.ref a] ∧ SqL K H a (zs.map (·.1)) ∧ (∀ z ∈ zs, RowV K H z.1 z.2) ∧
  ∀ (ys : List (V × Row)) (p : Addr), ys.Perm zs → ys.Pairwise (fun r q => HT.lexLt (keyR q.2) (keyR r.2) = false) → H p = none → Q (.ref p) (upd H p (.lst (ys.map (·.1))))
def sSortRows : SRC := fun vs m S => match vs with
  | [x] => ∃ rs : List Row, ItsL m x (rs.map rowS) ∧ ∀ (ys : List Row) (p : Addr), ys.Perm rs → ys.Pairwise (fun r q => HT.lexLt (keyR q) (keyR r) = false) → m p = none → S (.ref p) (up m p (.lst (ys.map rowS)))
  | _ => False
/-! ### sorted of ints, max of a list -/
def sSortInts : SRC := fun vs m S => match vs with
  | [x] => ∃ ns : List Int, ItsL m x (ns.map .int) ∧ ∀ p, m p = none → S (.ref p) (up m p (.lst ((srtI ns).map .int)))
  | _ => False
def sMaxL : SRC := fun vs m S => match vs with
  | [x] => ∃ ns : List Int, ItsL m x (ns.map .int) ∧ 0 < ns.length ∧ ∀ y, y ∈ ns → (∀ z, z ∈ ns → z ≤ y) → S (.int y) m
  | _ => False
end Sy

set_option Elab.async false
set_option linter.all false
set_option maxRecDepth 100000
set_option maxHeartbeats 4000000
/-! min(list of ints, default = None). -/
namespace Sy
open PySem PySem.Spec PyProof.Rows L2
section
variable {prog : Program} {w : World} {A : Around} {E : Value → Shared → Prop} {s : Shared}
/-- what the store of the best so far holds: nothing, or the least of the numbers that were seen -/
def BestSo (ns : List Int) (j : Nat) (its : Array Value) : Prop := (j = 0 ∧ its = #[]) ∨ ∃ x t, its = #[.int x t, .int x t] ∧ x ∈ ns.take j ∧ ∀ y ∈ ns.take j, x ≤ y
/-- the answer -/
def MinD (ns : List Int) (d v : Value) : Prop := (ns = [] ∧ v = d) ∨ ∃ x t, v = .int x t ∧ x ∈ ns ∧ ∀ y ∈ ns, x ≤ y
end
def rMinD (K : PySem.W.Frag) : List V → List V → Hp → VK → Prop := fun vs zs H Q => ∃ (a : Addr) (ns : List Int), vs = [V.ref a] ∧ zs = [.non] ∧ SqL K H a (ns.map V.int) ∧ (ns = [] → Q .non H) ∧ ∀ y, y ∈ ns → (∀ z, z ∈ ns → y ≤ z) → Q (.int y) H
def sCKw (r : List SV → List SV → Mem → (SV → Mem → Prop) → Prop) (t tk : SA) : SE := fun SX δ m S => t SX δ m fun vs m1 => tk SX δ m1 fun zs m2 => r vs zs m2 S
def sMinD : List SV → List SV → Mem → (SV → Mem → Prop) → Prop := fun vs zs m S => match vs, zs with
  | [x], [.non] => ∃ ns : List Int, ItsL m x (ns.map .int) ∧ (ns = [] → S .non m) ∧ ∀ y, y ∈ ns → (∀ z, z ∈ ns → y ≤ z) → S (.int y) m
  | _, _ => False
end Sy

set_option Elab.async false
set_option linter.all false
set_option maxRecDepth 100000
set_option maxHeartbeats 4000000
/-! enumerate of a tuple; dict of a tuple of pairs; an attribute among targets; isinstance of two kinds. -/
namespace Sy
open PySem PySem.Spec PyProof.Rows L2
/-! ### enumerate(tuple) -/
def Itet (K : PySem.W.Frag) (a : Addr) : It :=
  ⟨fun i H => ∃ (xs : List V) (x : V), SqT K H a xs ∧ xs[i]? = some x, fun i H v H' => ∃ T x, v = .ref T ∧ H T = none ∧ H' = upd H T (.tup [.int (i : Nat), x]) ∧ ∀ xs, SqT K H a xs → xs[i]? = some x, fun i H => ∃ xs : List V, SqT K H a xs ∧ xs.length ≤ i⟩
def iEnum2 (K : PySem.W.Frag) (ta : TA) : TI := fun σ H R => ta σ H fun vs H1 => ∃ a xs, vs = [.ref a] ∧ ((SqL K H1 a xs ∧ R (Ite K a) H1) ∨ (SqT K H1 a xs ∧ R (Itet K a) H1))
def sEnumI2 (a : SA) : SI := fun SX δ m R => a SX δ m fun xs m1 => match xs with
  | [x] => ∃ ys, Its m1 x ys ∧ R (enS 0 ys) (keepOf x ys) m1
  | _ => False
/-! ### a tuple made of a list, its object known; dict of such -/
def rTupP (K : PySem.W.Frag) : List V → Hp → VK → Prop := fun xs H Q => ∃ (p : Addr) (ys : List V), xs = [.ref p] ∧ SqL K H p ys ∧ ∀ (l : Addr) (o : Obj), H l = none → o.dict = none → Q (.ref l) (upd H l (.frz o (.tup ys)))
theorem cr_tupP {X : Cx} (K : PySem.W.Frag) (hK : X.K = K := by rfl) : CallR X (.type "tuple") (rTupP K) := by
  subst hK
  intro pins s σ H xs us Q I r h
  obtain ⟨p, ys, rfl, hq, q⟩ := h
  obtain rfl := Vals.ref1 r
  obtain ⟨its, r', pl, hz⟩ := I.list hq
  have hlen := r'.length
  refine call_tuple_list pl.isList (fun h' kp => ?_) (by simp only [List.size_toArray] <;> omega)
  have I1 : Inv X pins σ H { s with heap := h' } := I.kept (t' := s.toks) kp
  have I2 : Inv X pins σ (upd H h'.objs.size (.frz { cls := .type "tuple", data := .seq its.toArray } (.tup ys))) { s with heap := h'.push { cls := .type "tuple", data := .seq its.toArray } } :=
    I1.laid (t' := s.toks) (fun b o e => Heap.get?_push_of_some _ e) (Nat.le_refl _) (show ObjOk X.prog X.w _ _ _ (.frz _ (.tup ys)) from ⟨Heap.get?_push_size _ rfl, hz, its, r', IsTup.new _ _⟩)
  exact ⟨.ref h'.objs.size, _, I2, rfl, q _ _ (I1.hok.fresh (Nat.le_refl _)) rfl⟩
def sTupP : SRC := fun vs m S => match vs with
  | [x] => ∃ ys, ItsL m x ys ∧ S (.ptup ys) m
  | _ => False
theorem sim_tupP {K : PySem.W.Frag} : SimC K (rTupP K) sTupP := fun F H m xs as S Q M rs h c => by
  unfold sTupP at h
  split at h
  · obtain ⟨ys, h1, q⟩ := h
    obtain ⟨v, rfl, rv⟩ := vrs_one rs
    obtain ⟨p, vs, rfl, hs, r2⟩ := its_lst M rv h1
    exact ⟨p, vs, rfl, hs, fun l o hl ho => c (.ref l) (upd F l _) _ _ m (Sub.new (M.sub.gone hl)) (M.frz hl) (.ptup upd_same ho (vrs_sub (Sub.new (M.sub.gone hl)) r2)) q⟩
  · exact h.elim
/-- dict(t) of such a tuple of pairs -/
def rDictP (K : PySem.W.Frag) : List V → Hp → VK → Prop := fun xs H Q => ∃ (a : Addr) (o : Obj) (ps : List Addr) (kvs : List (Key × V)), xs = [.ref a] ∧ H a = some (.frz o (.tup (ps.map V.ref))) ∧ o.dict = none ∧ Paired (fun p kv => SqT K H p [kV kv.1, kv.2]) ps kvs ∧
  ∀ p, H p = none → Q (.ref p) (upd H p (.dK (mergeK [] kvs)))
end Sy

set_option Elab.async false
set_option linter.all false
set_option maxRecDepth 100000
set_option maxHeartbeats 4000000
/-! dict of a plain tuple; an attribute among targets; isinstance of two kinds; a call with keywords; tuples of tuples. -/
namespace Sy
open PySem PySem.Spec PyProof.Rows L2
def pairS (q : Key × SV) : SV := .tup [kS q.1, q.2]
def sDictP : SRC := fun vs m S => match vs with
  | [.ptup xs] => ∃ kvs : List (Key × SV), xs = kvs.map pairS ∧ ∀ p, m p = none → S (.ref p) (up m p (.dK (mergeS [] kvs)))
  | _ => False
/-! ### o.x among the targets of an unpacking -/
def gFld (K : PySem.W.Frag) (ta : TE) (x : Str) : TG := fun v σ H Q => ta σ H fun y H1 => ∃ a C dx fs, y = .ref a ∧ H1 a = some (.ins C dx fs) ∧ Cls K C ∧ NoAttr K C x ∧ fs.length < 1000 ∧ Q σ (upd H1 a (.ins C dx (putF x v fs)))
def hFld (C : Addr) (x : Str) (a : SE) : SG := fun SX v δ m S => a SX δ m fun y m1 => match y with
  | .ref p => ∃ fs, m1 p = some (.ins C fs) ∧ fs.length < 1000 ∧ S δ (up m1 p (.ins C (putS x v fs)))
  | _ => False
/-! ### isinstance(x, (A, B)) -/
def tIsi2 (K : PySem.W.Frag) (te : TE) (A B : String) : TE := fun σ H Q => te σ H fun x H1 => ∀ p, H1 p = none → ∃ (t : Value) (b : Bool), TyX K (upd H1 p (.tup [.ty A, .ty B])) x t ∧ PySem.W.kitAny K t [.type A, .type B] = some b ∧ Q (.bl b) (upd H1 p (.tup [.ty A, .ty B]))
def sIsi2 (A B : String) (a : SE) : SE := fun SX δ m S => a SX δ m fun x m1 => A ∈ ["bool", "int", "str", "list", "tuple"] ∧ B ∈ ["bool", "int", "str", "list", "tuple"] ∧ ∃ t, tyS m1 x t ∧ S (.bl (isB t A || isB t B)) m1
/-! ### f(e, .., k = v, ..) -/
def sCallN (n m : Nat) (sp : SpS) (gS : List SV → List SV → List SV) (t tk : SA) : SE := fun SX δ m0 S => t SX δ m0 fun vs m1 => tk SX δ m1 fun zs m2 => vs.length = n ∧ zs.length = m ∧ sp (gS vs zs) m2 SX S
/-- the default of a keyword-only parameter, if it is an object -/
def kwAt (f x : Str) (K : PySem.W.Frag) : Addr := match K.lookup (He.ga K f) with
  | some ⟨_, _, .func fd, _⟩ => (match fd.kwdefaults with
    | .ref D => (match PySem.W.nsIn K D x with
      | some (some (.ref a)) => a
      | _ => 0)
    | _ => 0)
  | _ => 0
/-- the empty tuple of the module -/
def EmptyT (K : PySem.W.Frag) (a : Addr) : Prop := ∃ (o : Obj) (n : Nat), K.lookup a = some o ∧ o.cls = .type "tuple" ∧ o.data = .seq #[] n
def emB (K : PySem.W.Frag) (a : Addr) : Bool := match K.lookup a with
  | some ⟨.type c, _, .seq its _, _⟩ => decide (c = "tuple") && decide (its = #[])
  | _ => false
/-! ### plain tuples are tuples -/
mutual
inductive Wk : SV → SV → Prop
  | refl (x : SV) : Wk x x
  | tup {xs ys : List SV} : Wks xs ys → Wk (.tup xs) (.tup ys)
  | ptup {xs ys : List SV} : Wks xs ys → Wk (.ptup xs) (.tup ys)
inductive Wks : List SV → List SV → Prop
  | nil : Wks [] []
  | cons {x y : SV} {xs ys : List SV} : Wk x y → Wks xs ys → Wks (x :: xs) (y :: ys)
end
theorem Wks.same : ∀ xs : List SV, Wks xs xs
  | [] => .nil
  | x :: xs => .cons (.refl x) (Wks.same xs)
theorem Wks.map {α : Type} {f g : α → SV} (h : ∀ a, Wk (f a) (g a)) : ∀ xs : List α, Wks (xs.map f) (xs.map g)
  | [] => .nil
  | x :: xs => .cons (h x) (Wks.map h xs)
mutual
theorem vr_wk {K : PySem.W.Frag} {F : Hp} : ∀ {v : V} {x y : SV}, Wk x y → VR K F v x → VR K F v y
  | _, _, _, .refl _, h => h
  | _, _, _, .tup a, .tup g r => .tup g (vrs_wk a r)
  | _, _, _, .ptup a, .ptup g _ r => .tup (.inl (.inr ⟨_, g⟩)) (vrs_wk a r)
theorem vrs_wk {K : PySem.W.Frag} {F : Hp} : ∀ {vs : List V} {xs ys : List SV}, Wks xs ys → VRs K F vs xs → VRs K F vs ys
  | _, _, _, .nil, h => h
  | _, _, _, .cons a b, .cons r t => .cons (vr_wk a r) (vrs_wk b t)
end
section
variable {P : Program} {w : World} {K : PySem.W.Frag} {mg : Str → Option Value} {base : Heap} {CX : CXT} {k : Nat} {f : Addr} {fd : FuncData} {ps : List Str} {sp sp' : SpS}
theorem fn_wk (F : FnOk P w K mg base CX k f fd ps (lift K sp)) (h : ∀ vs m SX S, sp' vs m SX S → ∃ ws, Wks vs ws ∧ sp ws m SX S) : FnOk P w K mg base CX k f fd ps (lift K sp') := by
  have key : ∀ vs H Q E, lift K sp' vs H Q E → lift K sp vs H Q E := fun vs H Q E ⟨F0, svs, m, SX, S, M, r, hs, x, c⟩ => by
    obtain ⟨ws, h1, h2⟩ := h svs m SX S hs
    exact ⟨F0, ws, m, SX, S, M, vrs_wk h1 r, h2, x, c⟩
  exact ⟨fun vs H Q E h => F.len _ _ _ _ (key _ _ _ _ h), fun A outer s H args us vs Q E hr he hb hv hs => F.run A outer s H args us vs Q E hr he hb hv (key _ _ _ _ hs)⟩
end
end Sy

set_option Elab.async false
set_option linter.all false
set_option maxRecDepth 100000
set_option maxHeartbeats 4000000
/-! the truth of a list, of a tuple -/
namespace Sy
open PySem PySem.Spec PyProof.Rows L2
def sTruL (a : SE) : STt := fun SX δ m S => a SX δ m fun x m1 => ∃ ys, Its m1 x ys ∧ S (!ys.isEmpty) m1
end Sy

set_option Elab.async false
set_option linter.all false
set_option maxRecDepth 100000
set_option maxHeartbeats 4000000
/-! a, b, .. = a list -/
namespace Sy
open PySem PySem.Spec PyProof.Rows L2
def hLstU (n : Nat) (r : SGs) : SG := fun SX v δ m S => ∃ ys, ItsL m v ys ∧ ys.length = n ∧ r SX ys δ m S
end Sy

set_option Elab.async false
set_option linter.all false
set_option maxRecDepth 100000
namespace Sy
open PySem PySem.Spec PyProof.Rows L2 PySem.W
/-! ### min of a list of alike data -/
def rMinE (K : PySem.W.Frag) : List V → Hp → VK → Prop := fun vs H Q => ∃ (a : Addr) (xs : List V) (d : PyData) (ds : List PyData), vs = [V.ref a] ∧ SqL K H a xs ∧ DpAll K H xs (d :: ds) ∧ AlikeAll (d :: ds) ∧ PyData.depthAll (d :: ds) ≤ 8 ∧ ∀ (i : Nat) x, xs[i]? = some x → (d :: ds)[i]? = some (minD d ds) → Q x H
def sMinE : SRC := fun vs m S => match vs with
  | [x] => ∃ xs d ds, ItsL m x xs ∧ Rds m xs (d :: ds) ∧ AlikeAll (d :: ds) ∧ PyData.depthAll (d :: ds) ≤ 8 ∧ ∀ (i : Nat) y, xs[i]? = some y → (d :: ds)[i]? = some (minD d ds) → S y m
  | _ => False
def pdt (q : Int × Int) : PyData := .tuple [.int q.1, .int q.2]
end Sy

set_option Elab.async false
set_option linter.all false
set_option maxRecDepth 100000
/-! len(set(xs)), where all of xs are one int -/
namespace Sy
open PySem PySem.Spec PyProof.Rows L2 PySem.W
def tLenSame (K : PySem.W.Frag) (ta : TE) : TE := fun σ H Q => ta σ H fun x H1 => ∃ (l : Addr) (n : Int) (ns : List Int), x = .ref l ∧ SqL K H1 l (ns.map V.int) ∧ (∀ k ∈ ns, k = n) ∧ 0 < ns.length ∧ ns.length ≤ 4000 ∧ Q (.int (1 : Nat)) H1
def sLenSame (a : SE) : SE := fun SX δ m S => a SX δ m fun x m1 => ∃ (n : Int) (ns : List Int), ItsL m1 x (ns.map .int) ∧ (∀ k ∈ ns, k = n) ∧ 0 < ns.length ∧ ns.length < 64 ∧ S (.int (1 : Nat)) m1
end Sy

set_option Elab.async false
set_option linter.all false
set_option maxRecDepth 100000
/-! a tuple written down, its object known -/
namespace Sy
open PySem PySem.Spec PyProof.Rows L2 PySem.W
def tTupD (t : TA) : TE := fun σ H Q => t σ H fun xs H1 => xs.length ≤ sizeLine ∧ ∀ (p : Addr) (o : Obj), H1 p = none → o.dict = none → Q (.ref p) (upd H1 p (.frz o (.tup xs)))
def sTupD (a : SA) : SE := fun SX δ m S => a SX δ m fun xs m1 => xs.length ≤ sizeLine ∧ S (.ptup xs) m1
end Sy

set_option Elab.async false
set_option linter.all false
set_option maxRecDepth 100000
set_option maxHeartbeats 400000
/-! Texts: join, split, sign by sign, a sign in a text, int(text); dicts of the top with text keys; *xs in a display, in a target. -/
namespace Sy
open PySem PySem.Spec PyProof.Rows L2
/-! ### methods of a text -/
def ckS : SV → Mem → Prop := fun x _ => match x with
  | .str _ => True
  | _ => False
theorem simk_S {K : PySem.W.Frag} : SimK K "str" ckS := fun F H m x a M r h => by
  cases r <;> first
    | exact (show False from h).elim
    | exact (show ("str" : String) = "str" from rfl)
def sJoin : SRM := fun x vs m S => match x, vs with
  | .str a, [y] => ∃ ys : List Str, Its m y (ys.map .str) ∧ (ys.map (·.length)).sum + ys.length * a.length ≤ 16777216 ∧ S (.str (Txt.join a ys)) m
  | _, _ => False
def sSplit : SRM := fun x vs m S => match x, vs with
  | .str a, [.str b] => (b.length == 0) = false ∧ a.length + 2 ≤ sizeLine ∧ ∀ p, m p = none → S (.ref p) (up m p (.lst ((Txt.split a b).map .str)))
  | _, _ => False
theorem strs_vrs {K : PySem.W.Frag} {F : Hp} : ∀ ys : List Str, VRs K F (ys.map .str) (ys.map .str)
  | [] => .nil
  | y :: ys => .cons (.str y) (strs_vrs ys)
def rJoin (K : PySem.W.Frag) : V → List V → Hp → VK → Prop := fun x xs H Q => ∃ a p, ∃ ys : List Str, x = .str a ∧ xs = [.ref p] ∧ (SqL K H p (ys.map V.str) ∨ SqT K H p (ys.map V.str)) ∧ (ys.map (·.length)).sum + ys.length * a.length ≤ 16777216 ∧ Q (.str (Txt.join a ys)) H
def rSplit : V → List V → Hp → VK → Prop := fun x xs H Q => ∃ a b, x = .str a ∧ xs = [.str b] ∧ (b.length == 0) = false ∧ a.length + 2 ≤ sizeLine ∧ rNewStrs (Txt.split a b) H Q
theorem mt_joinG {X : Cx} (K : PySem.W.Frag) (hK : X.K = K := by rfl) : MtR X "str.join" (rJoin K) := by subst hK; exact mt_join
theorem mt_splitG {X : Cx} : MtR X "str.split" rSplit := mt_split
theorem sim_join {K : PySem.W.Frag} : SimM K (rJoin K) sJoin := fun F H m x xs a as S Q M r rs h c => by
  unfold sJoin at h
  split at h
  · rename_i z y
    obtain ⟨ys, h1, h2, q⟩ := h
    obtain ⟨v, rfl, rv⟩ := vrs_one rs
    obtain ⟨p, vs, rfl, hs, r2⟩ := its_seq M rv h1
    cases r
    rw [vrs_strs r2] at hs
    exact ⟨z, p, ys, rfl, rfl, hs, h2, c _ F H _ m (.refl F) M (.str _) q⟩
  · exact h.elim
theorem sim_split {K : PySem.W.Frag} : SimM K rSplit sSplit := fun F H m x xs a as S Q M r rs h c => by
  unfold sSplit at h
  split at h
  · rename_i z y
    obtain ⟨h1, h2, q⟩ := h
    obtain ⟨v, rfl, rv⟩ := vrs_one rs
    cases r
    cases rv
    exact ⟨z, y, rfl, rfl, h1, h2, fun p hp => c (.ref p) F _ _ _ (.refl F) (M.newL hp (strs_vrs _)) (.ref p) (q p (M.gone hp))⟩
  · exact h.elim
/-! ### int(text), a sign in a text -/
def sIntS : SRC := fun vs m S => match vs with
  | [.str a] => ∃ n, PySem.intText? a = some n ∧ a.length ≤ 640 ∧ S (.int n) m
  | _ => False
def rIntS : List V → Hp → VK → Prop := fun xs H Q => ∃ a n, xs = [.str a] ∧ PySem.intText? a = some n ∧ a.length ≤ 640 ∧ Q (.int n) H
theorem sim_intS {K : PySem.W.Frag} : SimC K rIntS sIntS := fun F H m xs as S Q M rs h c => by
  unfold sIntS at h
  split at h
  · rename_i a
    obtain ⟨n, h1, h2, q⟩ := h
    obtain ⟨v, rfl, rv⟩ := vrs_one rs
    cases rv
    exact ⟨a, n, rfl, h1, h2, c _ F H _ m (.refl F) M (.int _) q⟩
  · exact h.elim
def sInSg (neg : Bool) : SR2 := fun x y m S => match x, y with
  | .str a, .str z => ∃ g, a = ⟨#[g]⟩ ∧ S (.bl (if neg then !decide (g ∈ z.cps.toList) else decide (g ∈ z.cps.toList))) m
  | _, _ => False
def rInSg (neg : Bool) : R2 := fun x y H Q => ∃ (c : Nat) (z : Str), x = .str ⟨#[c]⟩ ∧ y = .str z ∧ Q (.bl (if neg then !decide (c ∈ z.cps.toList) else decide (c ∈ z.cps.toList))) H
theorem op_inSg {X : Cx} : OpR X (compareOp .In) (rInSg false) := op_in_sign
theorem sim_inSg {K : PySem.W.Frag} (neg : Bool) : SimR K (rInSg neg) (sInSg neg) := fun F H m x y a b S Q M ra rb h c => by
  cases ra <;> cases rb <;> first
    | exact (show False from h).elim
    | skip
  obtain ⟨g, rfl, q⟩ := (show ∃ g, _ from h)
  exact ⟨g, _, rfl, rfl, c _ F H _ m (.refl F) M (.bl _) q⟩
/-! ### sign by sign -/
def signS (z : Str) : List SV := z.cps.toList.map fun c => .str ⟨#[c]⟩
def sSgI (se : SE) : SI := fun SX δ m R => se SX δ m fun x m1 => match x with
  | .str z => R (signS z) (fun _ => True) m1
  | _ => False
theorem gi_str {K : PySem.W.Frag} {E : XK} {X : Cx} {tg e : Expr} {te : TE} {se : SE} (h : GE K E X e te se) : GI K E X tg e (iStr te) (sSgI se) := ⟨pi_str h.pe, fun σ F H δ m SX R R' r hh k =>
  h.sim σ F H δ m SX _ _ r hh fun v F1 H1 sv m1 s1 M1 rv h1 => by
    cases rv <;> first
      | exact (show False from h1).elim
      | skip
    rename_i z
    refine ⟨z, rfl, k (L2.Its z) (signS z) (fun _ => True) F1 H1 m1 s1 M1 ⟨fun i F' H' m' x s' M' _ e => ?_, fun F' H' m' s' M' _ => ?_⟩ h1⟩
    · unfold signS at e
      rw [List.getElem?_map] at e
      obtain ⟨g, e1, rfl⟩ := Option.map_eq_some_iff.mp e
      have hi := (List.getElem?_eq_some_iff.mp e1).1
      refine ⟨show i < z.cps.size by simpa using hi, fun v H'' ⟨e2, g', e3, e4⟩ => ?_⟩
      subst e2 e4
      rw [Array.getElem?_toList] at e1
      rw [e1] at e3
      cases e3
      exact ⟨F', .refl F', M', .str _⟩
    · show z.cps.size ≤ (signS z).length
      unfold signS
      simp⟩
/-! ### *xs in a display -/
def sStar (se : SE) (sa : SA) : SA := fun SX δ m S => se SX δ m fun x m1 => ∃ xs, Its m1 x xs ∧ sa SX δ m1 fun ys m2 => S (xs ++ ys) m2
theorem ga_star {K : PySem.W.Frag} {E : XK} {X : Cx} {e : Expr} {es : List Expr} {te : TE} {t : TA} {se : SE} {sa : SA} {p : Pos} (he : GE K E X e te se) (ha : GA K E X es t sa) (hs : starEach (.Starred e p :: es) X.env = (true, eval e X.env) :: starEach es X.env := by rfl) (hK : X.K = K := by rfl) : GA K E X (.Starred e p :: es) (StX.tStar K te t) (sStar se sa) := by
  subst hK
  exact ⟨StX.pa_star he.pe ha.pe hs, fun σ F H δ m SX S Q r h c => he.sim σ F H δ m SX _ _ r h fun v F1 H1 sv m1 s1 M1 rv h1 => by
    obtain ⟨xs, hi, h2⟩ := h1
    obtain ⟨q, vs, rfl, hs, r2⟩ := its_seq M1 rv hi
    exact ⟨q, vs, rfl, hs.symm, ha.sim σ F1 H1 δ m1 SX _ _ (r.go s1 M1) h2 fun ws F2 H2 ys m2 s2 M2 rw2 h3 => c _ F2 H2 _ m2 (s1.trans s2) M2 (vrs_append (vrs_sub s2 r2) rw2) h3⟩⟩
/-! ### name, *rest = words -/
section
variable {prog : Program} {w : World} {A : Around} {E : Value → Shared → Prop} {s : Shared}
theorem star_items {l : Addr} {items : Array Value} {Q : List Value → Shared → Prop} (free : A.handled = none) (hl : s.heap.IsList l items) (one : 1 ≤ items.size) (few : items.size ≤ 16384)
    (q : ∀ (h' : Heap) (tk : Nat), (∀ b o, s.heap.get? b = some o → h'.get? b = some o) → Q (items.toList.take 1 ++ [.ref h'.objs.size]) { s with heap := h'.push { cls := .type "list", data := .seq (items.toList.drop 1).toArray }, toks := tk }) :
    wpAny (model prog w) A (unpackItems (.ref l) 2 (some 1)) Q E s := by
  have below : l < s.heap.objs.size := by obtain ⟨o, ho, _⟩ := hl; exact Heap.lt_size ho
  have apart : l ≠ s.heap.objs.size := Nat.ne_of_lt below
  have len1 : (items.toList.take 1).length = 1 := by rw [List.length_take, Array.length_toList]; omega
  have lenR : (items.toList.drop 1).length = items.size - 1 := by rw [List.length_drop, Array.length_toList]
  unfold unpackItems notIterableAtAll
  refine wpAny_bind (wpAny_bind (wpAny_specialOf hl.typeIs slot_list_iter.lookup (wpAny_pure ?_))); simp only [Bool.false_eq_true, if_false]
  refine wpAny_bind (wpAny_holding (wpAny_pyIter_list hl (wpAny_bind (wpAny_holding (PySem.W.kun_draw apart 1 0 _ _ ⟨_, Heap.get?_push_size _ rfl, rfl, rfl⟩ (hl.push _) (by omega) fun h1 it1 same1 => ?_)))))
  have hl1 : h1.IsList l items := (hl.push _).extBut same1.extBut apart
  rw [Nat.zero_add] at it1; rw [List.drop_zero, if_neg (show ¬ ((items.toList.take 1).length < 1) by omega)]
  obtain ⟨oi, hoi, hci⟩ := id it1
  obtain ⟨ol, hol, hcl⟩ := id hl1
  refine wpAny_bind (wpAny_holding (PySem.W.kun_collect (s := { s with heap := h1 }) (T := "list_iterator") (.inr (.inr (.inl rfl))) (Walks.list (A := A.in1) free s.heap.objs.size l apart items) (fun j u st => st.1.typeIs) (k := 1) (by omega) ⟨it1, hl1⟩ (Heap.lt_size hoi) (Heap.lt_size hol) (fun h2 tk same2 => ?_) (by rw [sizeLine_eq]; omega)))
  show wpAny _ _ (if (items.toList.drop 1).length < 2 - 1 - 1 then _ else _) _ _ _; rw [if_neg (by omega)]
  show wpAny _ _ (newList ((items.toList.drop 1).take ((items.toList.drop 1).length - (2 - 1 - 1))) >>= fun d => pure (items.toList.take 1 ++ [d] ++ (items.toList.drop 1).drop ((items.toList.drop 1).length - (2 - 1 - 1)))) _ _ _
  rw [show (items.toList.drop 1).length - (2 - 1 - 1) = (items.toList.drop 1).length by omega, List.take_length, List.drop_length]; simp only [List.append_nil]
  have keep : ∀ b o, s.heap.get? b = some o → h2.get? b = some o := fun b o e => same2 b o (Nat.ne_of_lt (Heap.lt_size e)) (same1.extBut b o (Nat.ne_of_lt (Heap.lt_size e)) (Heap.get?_push_of_some _ e))
  exact wpAny_bind (wpAny_newObj_type (wpAny_pure (q h2 tk keep)) (by show _ ≤ sizeLine; rw [sizeLine_eq]; simp; omega))
end
/-- a, *b = a list -/
def gStar (K : PySem.W.Frag) (t : TGs) : TG := fun v σ H Q => ∃ a x xs, v = .ref a ∧ SqL K H a (x :: xs) ∧ xs.length < 16384 ∧ ∀ p, H p = none → t [x, .ref p] σ (upd H p (.lst xs)) Q
section
variable {X : Cx} {pos : Pos}
theorem pgs_last {e : Expr} {t : TG} {p : Pos} (h : PG X e t) : PGs X [.Starred e p] (gCons t gNil) := by
  refine ⟨fun pins s σ H vs us Q I r hw => ?_⟩
  obtain ⟨v, vr, e1, hw⟩ := hw
  subst e1
  cases r with
  | cons r rr =>
    show wpAny _ _ (assignInOrder (assign e X.env :: []) _) _ _ _
    exact assignInOrder_cons (thn (h.run pins s σ H _ _ _ I r hw) fun _ s1 ⟨σ1, H1, I1, q1⟩ => pgs_nil.run pins s1 σ1 H1 _ _ Q I1 rr q1)
theorem pg_starl {es : List Expr} {k : Nat} {t : TGs} (hc : X.calm = true) (h : PGs X es t) (hn : (assignEach es X.env).length = 2 := by rfl) (hst : (assignEach es X.env).findIdx? (·.1) = some 1 := by rfl) : PG X (.Tuple es k pos) (gStar X.K t) := by
  refine ⟨fun pins s σ H v u Q I r hw => ?_⟩
  obtain ⟨a, x, xs, e1, hq, hl, hw⟩ := hw
  subst e1
  cases r
  obtain ⟨its, rv, pl, hz⟩ := I.list hq
  have hl' : s.heap.IsList a its.toArray := pl.isList
  have hlen := rv.length
  rw [PyProof.Rows.assign_Tuple]
  refine wpAny_bind (wpAny_standAt ?_)
  unfold unpack
  rw [hn, hst]
  refine wpAny_bind (wpAny_holding (star_items (I.ok.hd hc) hl' (by rw [List.size_toArray, ← hlen]; simp) (by rw [List.size_toArray, ← hlen]; simp; omega) fun h' tk keep => ?_))
  have I1 : Inv X pins σ H { s with heap := h', toks := tk } := I.kept keep
  cases rv with
  | cons rx rr =>
    rename_i u us
    have I2 := I1.laid (t' := tk) (h' := h'.push { cls := .type "list", data := .seq (us : List Value).toArray }) (a := h'.objs.size) (o := .lst xs) (fun b o e => Heap.get?_push_of_some _ e) (Nat.le_refl _) ⟨by rw [sizeLine_eq]; omega, us, 0, rr, Heap.get?_push_size _ rfl⟩
    exact h.run pins _ σ _ [x, .ref h'.objs.size] [u, .ref h'.objs.size] Q I2 (.cons rx (.cons rfl .nil)) (hw _ (I1.hok.fresh (Nat.le_refl _)))
end
def hStar (r : SGs) : SG := fun SX v δ m S => match v with
  | .ref a => ∃ x xs, m a = some (.lst (x :: xs)) ∧ xs.length < 16384 ∧ ∀ p, m p = none → r SX [x, .ref p] δ (up m p (.lst xs)) S
  | _ => False
section
variable {K : PySem.W.Frag} {E : XK} {X : Cx} {e : Expr} {es : List Expr} {pos p : Pos} {g : TG} {gs : TGs} {sg : SG} {sgs : SGs}
theorem ggs_last (h1 : GG K E X e g sg) : GGs K E X [.Starred e p] (gCons g gNil) (hCons sg hNil) := ⟨pgs_last h1.pe, fun σ F H δ m SX v sv S Q r rv h c => by
  cases rv with
  | nil => exact (show False from h).elim
  | cons r1 rr =>
    refine ⟨_, _, rfl, h1.sim σ F H δ m SX _ _ _ _ r r1 h fun σ' δ' F' H' m' s' sr' M' h2 => ?_⟩
    cases rr with
    | nil => exact ⟨rfl, c _ δ' F' H' m' s' sr' M' h2⟩
    | cons _ _ => exact (show False from h2).elim⟩
theorem gg_starl {k : Nat} (hc : X.calm = true) (h : GGs K E X es gs sgs) (hn : (assignEach es X.env).length = 2 := by rfl) (hst : (assignEach es X.env).findIdx? (·.1) = some 1 := by rfl) (hK : X.K = K := by rfl) : GG K E X (.Tuple es k pos) (gStar K gs) (hStar sgs) := by
  subst hK
  exact ⟨pg_starl hc h.pe hn hst, fun σ F H δ m SX v sv S Q r rv hh c => by
    cases rv <;> first
      | exact (show False from hh).elim
      | skip
    obtain ⟨x, xs, e1, e2, q⟩ := (show ∃ x xs, _ from hh)
    obtain ⟨vs, e3, r3⟩ := r.mr.lst_ e1
    cases r3 with
    | cons rx rr =>
      refine ⟨_, _, _, rfl, .inl (.inl e3), by rw [vrs_length rr]; exact e2, fun p hp => ?_⟩
      have M := r.mr.newL hp rr
      exact h.sim σ F _ δ _ SX _ _ _ _ ⟨r.sr, M, r.ex⟩ (.cons rx (.cons (.ref p) .nil)) (q p (r.mr.gone hp)) c⟩
end
end Sy

set_option Elab.async false
set_option linter.all false
set_option maxRecDepth 100000
set_option maxHeartbeats 1000000
/-! zip of a list and a tuple. -/
namespace Zm
open PySem
section
variable {prog : Program} {w : World}
/-- an iterator at i over what stands at l; St h k: it stands ahead of item k -/
structure Nx (prog : Program) (w : World) (St : Heap → Nat → Prop) (i l : Addr) (items : Array Value) : Prop where
  keep : ∀ {h h' : Heap} {k : Nat}, St h k → (∀ c o, (c = i ∨ c = l) → h.get? c = some o → h'.get? c = some o) → St h' k
  here : ∀ {h : Heap} {k : Nat}, St h k → ∃ o, h.get? i = some o
  item : ∀ {A : Around} {E : Value → Shared → Prop} {s : Shared} {k : Nat} {x : Value} {Q : Value → Shared → Prop}, St s.heap k → items[k]? = some x → (∀ h', St h' (k + 1) → Heap.SameBut i s.heap h' → Q x { s with heap := h' }) → wpAny (model prog w) A (Builtin.SmallTypes.nextOf (.ref i)) Q E s
  stop : ∀ {A : Around} {E : Value → Shared → Prop} {s : Shared} {k : Nat} {Q : Value → Shared → Prop}, A.handled = none → St s.heap k → items[k]? = none → (∀ h' e, Heap.ExtBut i s.heap h' → (∃ o, h'.get? e = some o ∧ o.cls = .type "StopIteration") → E (.ref e) { s with heap := h' }) → wpAny (model prog w) A (Builtin.SmallTypes.nextOf (.ref i)) Q E s
theorem nx_list {i l : Addr} {items : Array Value} (ne : l ≠ i) : Nx prog w (fun h k => h.IsListIter i l k ∧ h.IsList l items) i l items where
  keep := fun st k => ⟨st.1.at fun o e => k i o (.inl rfl) e, st.2.at fun o e => k l o (.inr rfl) e⟩
  here := fun st => by obtain ⟨o, e, _⟩ := st.1; exact ⟨o, e⟩
  item := fun st hx q => wpAny_nextOf_list_item st.1 st.2 hx fun h' it sb => q h' ⟨it, st.2.extBut sb.extBut ne⟩ sb
  stop := fun hh st hx q => wpAny_nextOf_list_end hh st.1 st.2 hx q
theorem nx_tup {i l : Addr} {items : Array Value} (ne : l ≠ i) : Nx prog w (fun h k => h.IsTupleIter i l k ∧ h.IsTuple l items) i l items where
  keep := fun st k => ⟨st.1.at fun o e => k i o (.inl rfl) e, st.2.at fun o e => k l o (.inr rfl) e⟩
  here := fun st => by obtain ⟨o, e, _⟩ := st.1; exact ⟨o, e⟩
  item := fun st hx q => RZ.nextOf_tuple_item st.1 st.2 hx fun h' it sb => q h' ⟨it, st.2.extBut sb.extBut ne⟩ sb
  stop := fun hh st hx q => RZ.nextOf_tuple_end hh st.1 st.2 hx q
section
variable {A : Around} {E : Value → Shared → Prop} {s : Shared} {z TI TO i1 i2 l1 l2 : Addr} {k1 k2 : Nat} {xs ys : Array Value} {a b : Value} {S1 S2 : Heap → Nat → Prop}
theorem two {c i l z : Addr} (e : c = i ∨ c = l) (a : i ≠ z) (b : l ≠ z) : c ≠ z := e.elim (fun q => q ▸ a) (fun q => q ▸ b)
/-- what a turn leaves alone -/
abbrev Rest (z TO i1 i2 : Addr) (h h' : Heap) : Prop := ∀ c o, c ≠ z → c ≠ TO → c ≠ i1 → c ≠ i2 → h.get? c = some o → h'.get? c = some o
theorem zip_go {x y : Value} {Q : Value → Shared → Prop} (D : ZipApart z TI TO i1 i2 l1 l2) (N1 : Nx prog w S1 i1 l1 xs) (N2 : Nx prog w S2 i2 l2 ys) (hz : IsZip s.heap z TI TO .none) (hp : IsPair s.heap TI (.ref i1) (.ref i2)) (ho : IsPair s.heap TO a b)
    (t1 : S1 s.heap k1) (t2 : S2 s.heap k2) (hx : xs[k1]? = some x) (hy : ys[k2]? = some y)
    (q : ∀ h', IsZip h' z TI TO (rawInt s.heap.objs.size) → IsPair h' TO x y → S1 h' (k1 + 1) → S2 h' (k2 + 1) → IsPair h' s.heap.objs.size x y → h'.objs.size = s.heap.objs.size + 1 → Rest z TO i1 i2 s.heap h' → Q (.ref s.heap.objs.size) { s with heap := h' }) :
    wpAny (model prog w) A (Builtin.«zip.__next__» ⟨[.ref z], []⟩) (fun fin s' => ∃ v, fin = .done (.ret v) ∧ Q v s') E s := by
  show wpAny _ _ (field (.ref z) 2 >>= _) _ _ _; refine wpAny_bind (wpAny_field hz rfl (x := .bool false) rfl ?_)
  show wpAny _ _ (field (.ref z) 3 >>= _) _ _ _; refine wpAny_bind (wpAny_field hz rfl (x := .ref TI) rfl (wpAny_bind (wpAny_seqItems hp rfl ?_)))
  show wpAny _ _ (Builtin.SmallTypes.ownedTupleIsFree (.ref z) >>= _) _ _ _; refine wpAny_bind ?_; unfold Builtin.SmallTypes.ownedTupleIsFree
  refine wpAny_bind (wpAny_field hz rfl (x := .none) rfl (wpAny_pure ?_)); simp only [if_true]
  refine wpAny_bind (wpAny_rule (wpAny_bind (wpAny_field hz rfl (x := .ref TO) rfl (wpAny_bind (wpAny_setField_rec hz (by simp) fun g1 z1 d1 => ?_)))))
  replace z1 : IsZip g1 z TI TO .ellipsis := z1
  refine wpAny_bind ?_; simp only [List.zipIdx_cons, List.zipIdx_nil, List.forIn_cons, List.forIn_nil]
  refine wpAny_bind (wpAny_bind (wpAny_onRaise ?_)); show wpAny _ _ (Builtin.SmallTypes.nextOf (.ref i1) >>= _) _ _ _
  have off1 : ∀ c o, c ≠ z → s.heap.get? c = some o → g1.get? c = some o := fun c o n e => d1.extBut c o n e
  refine wpAny_bind (N1.item (N1.keep t1 fun c o e g => off1 c o (two e D.i1z D.l1z) g) hx fun g2 u1 d2 => wpAny_pure ?_)
  have off2 : ∀ c o, c ≠ z → c ≠ i1 → s.heap.get? c = some o → g2.get? c = some o := fun c o n m e => d2.extBut c o m (off1 c o n e)
  have o2 : IsPair g2 TO a b := off2 _ _ D.TOz D.TOi1 ho
  refine wpAny_bind (wpAny_seqItems o2 rfl (wpAny_bind (wpAny_updateSeq_pair o2 fun g3 o3 d3 => wpAny_bind (wpAny_letGo (wpAny_pure ?_)))))
  replace o3 : IsPair g3 TO x b := o3
  refine wpAny_bind (wpAny_bind (wpAny_onRaise ?_)); show wpAny _ _ (Builtin.SmallTypes.nextOf (.ref i2) >>= _) _ _ _
  have off3 : ∀ c o, c ≠ z → c ≠ i1 → c ≠ TO → s.heap.get? c = some o → g3.get? c = some o := fun c o n m r e => d3.extBut c o r (off2 c o n m e)
  refine wpAny_bind (N2.item (N2.keep t2 fun c o e g => off3 c o (two e D.i2z D.l2z) (two e D.i12.symm D.l2i1) (two e D.TOi2.symm D.l2TO) g) hy fun g4 u2 d4 => wpAny_pure ?_)
  have o4 : IsPair g4 TO x b := d4.extBut _ _ D.TOi2 o3
  refine wpAny_bind (wpAny_seqItems o4 rfl (wpAny_bind (wpAny_updateSeq_pair o4 fun g5 o5 d5 => wpAny_bind (wpAny_letGo (wpAny_pure (wpAny_pure ?_))))))
  replace o5 : IsPair g5 TO x y := o5
  refine wpAny_bind (wpAny_seqItems o5 rfl (wpAny_bind (wpAny_newTuple ?_)))
  have n5 : g5.objs.size = s.heap.objs.size := by rw [d5.1, d4.1, d3.1, d2.1, d1.1]
  have z5 : IsZip g5 z TI TO .ellipsis := d5.extBut _ _ D.TOz.symm (d4.extBut _ _ D.i2z.symm (d3.extBut _ _ D.TOz.symm (d2.extBut _ _ D.i1z.symm z1)))
  have off5 : Rest z TO i1 i2 s.heap g5 := fun c o c1 c2 c3 c4 e => d5.extBut _ _ c2 (d4.extBut _ _ c4 (off3 c o c1 c3 c2 e))
  have u15 : S1 g5 (k1 + 1) := N1.keep u1 fun c o e g => d5.extBut c o (two e D.TOi1.symm D.l1TO) (d4.extBut c o (two e D.i12 D.l1i2) (d3.extBut c o (two e D.TOi1.symm D.l1TO) g))
  have u25 : S2 g5 (k2 + 1) := N2.keep u2 fun c o e g => d5.extBut c o (two e D.TOi2.symm D.l2TO) g
  have zl : z < g5.objs.size := Heap.lt_size z5
  show wpAny _ _ (Builtin.SmallTypes.ownedTupleHandOut (.ref z) (.ref g5.objs.size) >>= _) _ _ _; refine wpAny_bind ?_; unfold Builtin.SmallTypes.ownedTupleHandOut
  have z6 : IsZip (g5.push { cls := .type "tuple", data := .seq #[x, y] }) z TI TO .ellipsis := Heap.get?_push_of_some _ z5
  refine wpAny_bind (wpAny_setField_rec z6 (by simp) fun g7 z7 d7 => ?_)
  replace z7 : IsZip g7 z TI TO (rawInt g5.objs.size) := z7
  refine wpAny_setField_rec z7 (by simp) fun g8 z8 d8 => ?_
  replace z8 : IsZip g8 z TI TO (rawInt g5.objs.size) := z8
  have off8 : ∀ c o, c ≠ z → g5.get? c = some o → g8.get? c = some o := fun c o n e => d8.extBut _ _ n (d7.extBut _ _ n (Heap.get?_push_of_some _ e))
  have p8 : IsPair g8 g5.objs.size x y := d8.extBut _ _ (Nat.ne_of_gt zl) (d7.extBut _ _ (Nat.ne_of_gt zl) (Heap.get?_push_size _ rfl))
  have n8 : g8.objs.size = g5.objs.size + 1 := by rw [d8.1, d7.1, Heap.size_push]
  rw [n5] at z8 p8 n8
  refine wpAny_pure ⟨_, rfl, ?_⟩; show Q (.ref g5.objs.size) _; rw [n5]
  exact q g8 z8 (off8 _ _ D.TOz o5) (N1.keep u15 fun c o e g => off8 c o (two e D.i1z D.l1z) g) (N2.keep u25 fun c o e g => off8 c o (two e D.i2z D.l2z) g) p8 n8 fun c o c1 c2 c3 c4 e => off8 c o c1 (off5 c o c1 c2 c3 c4 e)
theorem zip_stop {Q : Fin → Shared → Prop} (free : A.handled = none) (D : ZipApart z TI TO i1 i2 l1 l2) (N1 : Nx prog w S1 i1 l1 xs) (N2 : Nx prog w S2 i2 l2 ys) (hz : IsZip s.heap z TI TO .none) (hp : IsPair s.heap TI (.ref i1) (.ref i2)) (ho : IsPair s.heap TO a b)
    (t1 : S1 s.heap k1) (t2 : S2 s.heap k2) (out : xs[k1]? = none ∨ ys[k2]? = none) (q : ∀ h' e, Rest z TO i1 i2 s.heap h' → (∃ o, h'.get? e = some o ∧ o.cls = .type "StopIteration") → E (.ref e) { s with heap := h' }) : wpAny (model prog w) A (Builtin.«zip.__next__» ⟨[.ref z], []⟩) Q E s := by
  show wpAny _ _ (field (.ref z) 2 >>= _) _ _ _; refine wpAny_bind (wpAny_field hz rfl (x := .bool false) rfl ?_)
  show wpAny _ _ (field (.ref z) 3 >>= _) _ _ _; refine wpAny_bind (wpAny_field hz rfl (x := .ref TI) rfl (wpAny_bind (wpAny_seqItems hp rfl ?_)))
  show wpAny _ _ (Builtin.SmallTypes.ownedTupleIsFree (.ref z) >>= _) _ _ _; refine wpAny_bind ?_; unfold Builtin.SmallTypes.ownedTupleIsFree
  refine wpAny_bind (wpAny_field hz rfl (x := .none) rfl (wpAny_pure ?_)); simp only [if_true]
  refine wpAny_bind (wpAny_rule (wpAny_bind (wpAny_field hz rfl (x := .ref TO) rfl (wpAny_bind (wpAny_setField_rec hz (by simp) fun g1 z1 d1 => ?_)))))
  replace z1 : IsZip g1 z TI TO .ellipsis := z1
  refine wpAny_bind ?_; simp only [List.zipIdx_cons, List.zipIdx_nil, List.forIn_cons, List.forIn_nil]
  refine wpAny_bind (wpAny_bind (wpAny_onRaise ?_)); show wpAny _ _ (Builtin.SmallTypes.nextOf (.ref i1) >>= _) _ _ _
  have off1 : ∀ c o, c ≠ z → s.heap.get? c = some o → g1.get? c = some o := fun c o n e => d1.extBut c o n e
  have t1' := N1.keep t1 fun c o e g => off1 c o (two e D.i1z D.l1z) g
  cases hx : xs[k1]? with
  | none =>
    refine wpAny_bind (N1.stop free t1' hx fun g2 e d2 he => ?_)
    obtain ⟨oe, ge, ce⟩ := he
    have z2 : IsZip g2 z TI TO .ellipsis := d2 _ _ D.i1z.symm z1
    have ez : e ≠ z := fun r => by subst r; rw [z2] at ge; cases ge; simp at ce
    exact wpAny_setField_rec z2 (by simp) fun g3 _ d3 => q g3 e (fun c o c1 _ c3 _ g => d3.extBut _ _ c1 (d2 _ _ c3 (off1 c o c1 g))) ⟨oe, d3.extBut _ _ ez ge, ce⟩
  | some x =>
    have hy : ys[k2]? = none := out.elim (fun e => by rw [hx] at e; cases e) id
    refine wpAny_bind (N1.item t1' hx fun g2 u1 d2 => wpAny_pure ?_)
    have off2 : ∀ c o, c ≠ z → c ≠ i1 → s.heap.get? c = some o → g2.get? c = some o := fun c o n m e => d2.extBut c o m (off1 c o n e)
    have o2 : IsPair g2 TO a b := off2 _ _ D.TOz D.TOi1 ho
    refine wpAny_bind (wpAny_seqItems o2 rfl (wpAny_bind (wpAny_updateSeq_pair o2 fun g3 o3 d3 => wpAny_bind (wpAny_letGo (wpAny_pure ?_)))))
    refine wpAny_bind (wpAny_bind (wpAny_onRaise ?_)); show wpAny _ _ (Builtin.SmallTypes.nextOf (.ref i2) >>= _) _ _ _
    have off3 : ∀ c o, c ≠ z → c ≠ i1 → c ≠ TO → s.heap.get? c = some o → g3.get? c = some o := fun c o n m r e => d3.extBut c o r (off2 c o n m e)
    refine wpAny_bind (N2.stop free (N2.keep t2 fun c o e g => off3 c o (two e D.i2z D.l2z) (two e D.i12.symm D.l2i1) (two e D.TOi2.symm D.l2TO) g) hy fun g4 e d4 he => ?_)
    obtain ⟨oe, ge, ce⟩ := he
    have z4 : IsZip g4 z TI TO .ellipsis := d4 _ _ D.i2z.symm (d3.extBut _ _ D.TOz.symm (d2.extBut _ _ D.i1z.symm z1))
    have ez : e ≠ z := fun r => by subst r; rw [z4] at ge; cases ge; simp at ce
    exact wpAny_setField_rec z4 (by simp) fun g5 _ d5 => q g5 e (fun c o c1 c2 c3 c4 g => d5.extBut _ _ c1 (d4 _ _ c4 (off3 c o c1 c3 c2 g))) ⟨oe, d5.extBut _ _ ez ge, ce⟩
theorem py_go {x y : Value} {Q : Option Value → Shared → Prop} (D : ZipApart z TI TO i1 i2 l1 l2) (N1 : Nx prog w S1 i1 l1 xs) (N2 : Nx prog w S2 i2 l2 ys) (hz : IsZip s.heap z TI TO .none) (hp : IsPair s.heap TI (.ref i1) (.ref i2)) (ho : IsPair s.heap TO a b)
    (t1 : S1 s.heap k1) (t2 : S2 s.heap k2) (hx : xs[k1]? = some x) (hy : ys[k2]? = some y)
    (q : ∀ h', IsZip h' z TI TO (rawInt s.heap.objs.size) → IsPair h' TO x y → S1 h' (k1 + 1) → S2 h' (k2 + 1) → IsPair h' s.heap.objs.size x y → h'.objs.size = s.heap.objs.size + 1 → Rest z TO i1 i2 s.heap h' → Q (some (.ref s.heap.objs.size)) { s with heap := h' }) : wpAny (model prog w) A (pyNext (.ref z)) Q E s := by
  unfold pyNext
  exact wpAny_bind (wpAny_attempt (wpAny_callSpecial?_slot (name := Str.ofString "__next__") ⟨_, hz, rfl⟩ F.slot_zip_next (wpAny_call_entry F.slot_zip_next ⟨_, hz, rfl⟩ F.entry_zip_next (zip_go D N1 N2 hz hp ho t1 t2 hx hy fun h' a1 a2 a3 a4 a5 a6 a7 => wpAny_pure (q h' a1 a2 a3 a4 a5 a6 a7)) (F.args_zip_next_1 _))))
theorem py_stop {Q : Option Value → Shared → Prop} (free : A.handled = none) (D : ZipApart z TI TO i1 i2 l1 l2) (N1 : Nx prog w S1 i1 l1 xs) (N2 : Nx prog w S2 i2 l2 ys) (hz : IsZip s.heap z TI TO .none) (hp : IsPair s.heap TI (.ref i1) (.ref i2)) (ho : IsPair s.heap TO a b)
    (t1 : S1 s.heap k1) (t2 : S2 s.heap k2) (out : xs[k1]? = none ∨ ys[k2]? = none) (q : ∀ h', Rest z TO i1 i2 s.heap h' → Q none { s with heap := h' }) : wpAny (model prog w) A (pyNext (.ref z)) Q E s := by
  unfold pyNext
  refine wpAny_bind (wpAny_attempt (wpAny_callSpecial?_slot (name := Str.ofString "__next__") ⟨_, hz, rfl⟩ F.slot_zip_next (wpAny_call_entry F.slot_zip_next ⟨_, hz, rfl⟩ F.entry_zip_next (zip_stop free D N1 N2 hz hp ho t1 t2 out fun h' e r he => ?_) (F.args_zip_next_1 _))))
  obtain ⟨o, g, c⟩ := he
  exact wpAny_bind (wpAny_isInstance (T := "StopIteration") (b := true) ⟨o, g, c⟩ isSubtype_stop (wpAny_pure (q _ r)))
end
end
abbrev zA (h : Heap) (l : Addr) : Heap := h.push { cls := .type "list_iterator", data := .fields #[.ref l, .int 0 0] }
abbrev zB (h : Heap) (l m : Addr) : Heap := (zA h l).push { cls := .type "tuple_iterator", data := .fields #[.ref m, .int 0 0] }
abbrev zC (h : Heap) (l m : Addr) : Heap := (zB h l m).push { cls := .type "tuple", data := .seq #[.ref h.objs.size, .ref (zA h l).objs.size] }
abbrev zD (h : Heap) (l m : Addr) : Heap := (zC h l m).push { cls := .type "tuple", data := .seq #[.none, .none] }
abbrev zE (h : Heap) (l m : Addr) : Heap := (zD h l m).push { cls := .type "zip", data := .fields #[.none, .bool false, .bool false, .ref (zB h l m).objs.size, .ref (zC h l m).objs.size] }
theorem meets_zipM (l m : Addr) (xs ys : Array Value) :
    Meets (Builtin.«zip.__new__» ⟨[.type "zip", .ref l, .ref m], []⟩) (fun _ R s => s.heap.IsList l xs ∧ s.heap.IsTuple m ys ∧ R (.ok (.ret (.ref (zD s.heap l m).objs.size))) { s with heap := zE s.heap l m }) :=
  .of_wp fun prog w A R s h => by
    obtain ⟨hp, g, d, tk, os⟩ := s; obtain ⟨a1, a2, h⟩ := h; have hsub := sub_zip
    have b1 : Heap.IsList (Shared.heap ⟨hp, g, d, tk, os⟩) l xs := a1
    have b2 : Heap.IsTuple (Shared.heap ⟨hp.push { cls := .type "list_iterator", data := .fields #[.ref l, .int 0 0] }, g, d, tk, os⟩) m ys := Heap.IsTuple.push a2 _
    wp_walk using wpAny_pyIter_list b1, wpAny_pyIter_tuple b2
    exact ⟨_, rfl, h⟩
section
variable {prog : Program} {w : World} {A : Around} {E : Value → Shared → Prop} {s : Shared}
theorem call_zipM {l m : Addr} {xs ys : Array Value} {Q : Value → Shared → Prop} (a1 : s.heap.IsList l xs) (a2 : s.heap.IsTuple m ys)
    (q : ∀ h', IsZip h' (s.heap.objs.size + 4) (s.heap.objs.size + 2) (s.heap.objs.size + 3) .none → IsPair h' (s.heap.objs.size + 2) (.ref s.heap.objs.size) (.ref (s.heap.objs.size + 1)) → IsPair h' (s.heap.objs.size + 3) .none .none → h'.IsListIter s.heap.objs.size l 0 → h'.IsTupleIter (s.heap.objs.size + 1) m 0 →
      (∀ c o, s.heap.get? c = some o → h'.get? c = some o) → Q (.ref (s.heap.objs.size + 4)) { s with heap := h' }) : wpAny (model prog w) A (call (.type "zip") [.ref l, .ref m]) Q E s := by
  refine callType_new F.called_zip (by decide) (F.typeCall_zip_2 _ _) (F.newCall_zip_2 _ _) (fun obj => F.args_object_init_3 obj _ _) F.entry_zip_new (meets_zipM l m xs ys) ⟨a1, a2, ?_⟩
  have n1 : (zA s.heap l).objs.size = s.heap.objs.size + 1 := Heap.size_push ..
  have n2 : (zB s.heap l m).objs.size = s.heap.objs.size + 2 := by rw [Heap.size_push, n1]
  have n3 : (zC s.heap l m).objs.size = s.heap.objs.size + 3 := by rw [Heap.size_push, n2]
  have n4 : (zD s.heap l m).objs.size = s.heap.objs.size + 4 := by rw [Heap.size_push, n3]
  have up : ∀ c o, (zB s.heap l m).get? c = some o → (zE s.heap l m).get? c = some o := fun c o e => Heap.get?_push_of_some _ (Heap.get?_push_of_some _ (Heap.get?_push_of_some _ e))
  have e5 : (zE s.heap l m).get? (zD s.heap l m).objs.size = some _ := Heap.get?_push_size _ rfl
  have e4 : (zE s.heap l m).get? (zC s.heap l m).objs.size = some _ := Heap.get?_push_of_some _ (Heap.get?_push_size _ rfl)
  have e3 : (zE s.heap l m).get? (zB s.heap l m).objs.size = some _ := Heap.get?_push_of_some _ (Heap.get?_push_of_some _ (Heap.get?_push_size _ rfl))
  have e2 : (zE s.heap l m).get? (zA s.heap l).objs.size = some _ := up _ _ (Heap.get?_push_size _ rfl)
  have e1 : (zE s.heap l m).get? s.heap.objs.size = some _ := up _ _ (Heap.get?_push_of_some _ (Heap.get?_push_size _ rfl))
  show _ ∧ _; rw [n2, n3, n4] at e5; rw [n1, n2] at e3; rw [n3] at e4; rw [n1] at e2; rw [n4]
  exact ⟨⟨_, e5, rfl⟩, q _ e5 e3 e4 ⟨_, e1, rfl, rfl⟩ ⟨_, e2, rfl, rfl⟩ fun c o x => up c o (Heap.get?_push_of_some _ (Heap.get?_push_of_some _ x))⟩
end
end Zm
namespace Zm
open PySem PySem.Spec PyProof.Rows L2
/-- the list at a and the tuple at b as they stand at each turn, the items in new pairs -/
def ItzM (K : PySem.W.Frag) (a b : Addr) : It :=
  ⟨fun i H => ∃ (xs ys : List V) (x y : V), SqL K H a xs ∧ SqT K H b ys ∧ xs[i]? = some x ∧ ys[i]? = some y,
    fun i H v H' => ∃ T x y, v = .ref T ∧ H T = none ∧ H' = upd H T (.tup [x, y]) ∧ (∀ xs, SqL K H a xs → xs[i]? = some x) ∧ ∀ ys, SqT K H b ys → ys[i]? = some y,
    fun i H => ∃ xs ys : List V, SqL K H a xs ∧ SqT K H b ys ∧ (xs.length ≤ i ∨ ys.length ≤ i)⟩
abbrev five (z TI TO i1 i2 : Addr) : List Addr := [z, TI, TO, i1, i2]
theorem of_five {z TI TO i1 i2 c : Addr} (h : c ∈ five z TI TO i1 i2) : c = z ∨ c = TI ∨ c = TO ∨ c = i1 ∨ c = i2 := by simpa using h
theorem no_five {z TI TO i1 i2 c : Addr} (h : c ∉ five z TI TO i1 i2) : c ≠ z ∧ c ≠ TI ∧ c ≠ TO ∧ c ≠ i1 ∧ c ≠ i2 := by simpa using h
theorem turn_zipM {P : Program} {w : World} {K : PySem.W.Frag} {elts : List Expr} {kk : Nat} {tpos : Pos} {a b z TI TO i1 i2 : Addr} (D : ZipApart z TI TO i1 i2 a b) :
    Turn P w K (.Tuple elts kk tpos) (ItzM K a b) (five z TI TO i1 i2) z (fun i h => IsZip h z TI TO .none ∧ IsPair h TI (.ref i1) (.ref i2) ∧ (∃ x y, IsPair h TO x y) ∧ h.IsListIter i1 a i ∧ h.IsTupleIter i2 b i) where
  mem := by simp
  obj := fun i h st c hc => by
    obtain ⟨q1, q2, ⟨x, y, q3⟩, ⟨o1, e1, _, d1⟩, ⟨o2, e2, _, d2⟩⟩ := st
    rcases of_five hc with rfl | rfl | rfl | rfl | rfl
    · exact ⟨_, q1, fun v q => nomatch q⟩
    · exact ⟨_, q2, fun v q => nomatch q⟩
    · exact ⟨_, q3, fun v q => nomatch q⟩
    · exact ⟨o1, e1, fun v q => by rw [d1] at q; cases q⟩
    · exact ⟨o2, e2, fun v q => by rw [d2] at q; cases q⟩
  keep := fun i h h' st k => by
    obtain ⟨q1, q2, ⟨x, y, q3⟩, q4, q5⟩ := st
    exact ⟨k z (by simp) _ q1, k TI (by simp) _ q2, ⟨x, y, k TO (by simp) _ q3⟩, q4.at fun o q => k i1 (by simp) o q, q5.at fun o q => k i2 (by simp) o q⟩
  item := by
    intro X hP hw hK hc i pins s σ H E I hf st hg
    subst hP hw hK
    obtain ⟨q1, q2, ⟨x0, y0, q3⟩, q4, q5⟩ := st
    obtain ⟨xs, ys, x, y, hqx, hqy, hx, hy⟩ := hg
    obtain ⟨its, rv, p, _⟩ := I.list hqx
    obtain ⟨its2, rv2, p2, _⟩ := I.tuple hqy
    obtain ⟨u, hu, ru⟩ := rv.get hx
    obtain ⟨u2, hu2, ru2⟩ := rv2.get hy
    have zl : z < s.heap.objs.size := Heap.lt_size q1
    refine py_go (x := u) (y := u2) D (nx_list (items := its.toArray) D.l1i1) (nx_tup (items := its2.toArray) D.l2i2) q1 q2 q3 ⟨q4, p.isList⟩ ⟨q5, p2⟩ (by simpa using hu) (by simpa using hu2) fun h' z' o' t1 t2 pr n rest => ?_
    refine ⟨_, rfl, wpAny_letOwnedTupleGo_zip (s := { s with heap := h' }) z' fun h2 z2 sb => ?_⟩
    have T2 : h2.get? s.heap.objs.size = some { cls := .type "tuple", data := .seq #[u, u2] } := (sb.2 _ (Nat.ne_of_gt zl)).trans pr
    have I1 : Inv X pins σ (upd H s.heap.objs.size (.tup [x, y])) { s with heap := h2 } :=
      I.turnedNew (t' := s.toks) (ch := five z TI TO i1 i2) (fun c o hb q => (sb.2 c (no_five hb).1).trans (rest c o (no_five hb).1 (no_five hb).2.2.1 (no_five hb).2.2.2.1 (no_five hb).2.2.2.2 q)) hf (Nat.le_refl _) ⟨by show 2 ≤ sizeLine; decide, [u, u2], .cons ru (.cons ru2 .nil), ⟨_, T2, rfl, _, rfl⟩⟩
    refine ⟨.ref s.heap.objs.size, _, I1, rfl, ⟨_, x, y, rfl, I.hok.fresh (Nat.le_refl _), rfl, fun l hl => by rw [I.list_inj hl hqx]; exact hx, fun l hl => by rw [I.tuple_inj hl hqy]; exact hy⟩, ⟨z2, (sb.2 _ D.TIz).trans (rest _ _ D.TIz D.TITO D.TIi1 D.TIi2 q2), ⟨u, u2, (sb.2 _ D.TOz).trans o'⟩, t1.1.at fun o q => (sb.2 _ D.i1z).trans q, t2.1.at fun o q => (sb.2 _ D.i2z).trans q⟩, fun c hcm => ?_⟩
    have small : c < s.heap.objs.size := by
      rcases of_five hcm with rfl | rfl | rfl | rfl | rfl
      · exact zl
      · exact Heap.lt_size q2
      · exact Heap.lt_size q3
      · obtain ⟨_, e, _⟩ := q4; exact Heap.lt_size e
      · obtain ⟨_, e, _⟩ := q5; exact Heap.lt_size e
    rw [upd_ne (Nat.ne_of_lt small)]
    exact (hf c hcm).1
  done := by
    intro X hP hw hK hc i pins s σ H E I hf st hg
    subst hP hw hK
    obtain ⟨q1, q2, ⟨x0, y0, q3⟩, q4, q5⟩ := st
    obtain ⟨xs, ys, hqx, hqy, hend⟩ := hg
    obtain ⟨its, rv, p, _⟩ := I.list hqx
    obtain ⟨its2, rv2, p2, _⟩ := I.tuple hqy
    have e1 := rv.length
    have e2 := rv2.length
    exact py_stop (I.ok.hd hc) D (nx_list (items := its.toArray) D.l1i1) (nx_tup (items := its2.toArray) D.l2i2) q1 q2 q3 ⟨q4, p.isList⟩ ⟨q5, p2⟩ (hend.elim (fun q => .inl (by simp; omega)) fun q => .inr (by simp; omega)) fun h' rest => ⟨rfl, I.turnedL (t' := s.toks) (ch := five z TI TO i1 i2) (fun c o hb q => rest c o (no_five hb).1 (no_five hb).2.2.1 (no_five hb).2.2.2.1 (no_five hb).2.2.2.2 q) hf⟩
  self := fun A i s Q E st h => wpAny_pyIter_zip st.1 h
def iZipM (K : PySem.W.Frag) (ta : TA) : TI := fun σ H R => ta σ H fun vs H1 => ∃ a b xs ys, vs = [.ref a, .ref b] ∧ SqL K H1 a xs ∧ SqT K H1 b ys ∧ R (ItzM K a b) H1
theorem pi_zipM {X : Cx} {e e2 : Expr} {ta : TA} {p pos tpos : Pos} {elts : List Expr} {kk : Nat} (hg : Gl X "zip") (hm : X.mg "zip" = none) (ha : PA X [e, e2] ta) (hs : starEach [e, e2] X.env = (false, eval e X.env) :: starEach [e2] X.env := by rfl) (hpl : (backTo pos (starEach [e2] X.env)).any (·.1) = false := by rfl) :
    PI X (.Tuple elts kk tpos) (.Call (.Name "zip" p) [e, e2] [] pos) (iZipM X.K ta) := by
  refine ⟨fun pins s σ H R I h => Call_ (ld_blt I hg hm PyProof.Rows.boot_zip (PyProof.Rows.callWith_type1 (thn (ha.run pos pins s σ H _ I h) fun us s1 ⟨vs, H1, I1, r1, q1⟩ => ?_) hs hpl))⟩
  obtain ⟨a, b, xs, ys, ex, hqx, hqy, q⟩ := q1
  subst ex
  cases r1 with
  | cons r rr =>
    cases rr with
    | cons r' rr =>
      cases rr; cases r; cases r'
      obtain ⟨its, rv, p1, _⟩ := I1.list hqx
      obtain ⟨its2, rv2, p2, _⟩ := I1.tuple hqy
      obtain ⟨o2, ho2, _⟩ := id p2
      refine call_zipM p1.isList (show s1.heap.IsTuple b its2.toArray from p2) fun h' z1 z2 z3 z4 z5 hk => wpAny_pyIter_zip z1 ?_
      have I2 : Inv X pins σ H1 { s1 with heap := h' } := I1.kept (t' := s1.toks) hk
      refine ⟨s1.heap.objs.size + 4, five (s1.heap.objs.size + 4) (s1.heap.objs.size + 2) (s1.heap.objs.size + 3) s1.heap.objs.size (s1.heap.objs.size + 1), _, _, H1, rfl, I2, turn_zipM (PySem.W.ktu_apart s1.heap.objs.size a b p1.lt (Heap.lt_size ho2)), ⟨z1, z2, ⟨_, _, z3⟩, z4, z5⟩, fun c hcm => ?_, q⟩
      have big : s1.heap.objs.size ≤ c := by rcases of_five hcm with rfl | rfl | rfl | rfl | rfl <;> omega
      exact I1.fpOk big (I1.hok.fresh big)
end Zm
namespace Sy
open PySem PySem.Spec PyProof.Rows L2
/-- zip of a list and a tuple that stand still -/
def sZipM (sa : SA) : SI := fun SX δ m R => sa SX δ m fun vs m1 => match vs with
  | [.ref a, .tup ys] => ∃ xs, m1 a = some (.lst xs) ∧ R ((xs.zip ys).map fun p => .tup [p.1, p.2]) (fun m2 => m2 a = some (.lst xs)) m1
  | _ => False
theorem gi_zipM {K : PySem.W.Frag} {E : XK} {X : Cx} {e e2 : Expr} {ta : TA} {sa : SA} {p pos tpos : Pos} {elts : List Expr} {kk : Nat} (hg : Gl X "zip") (hm : X.mg "zip" = none) (ha : GA K E X [e, e2] ta sa) (hs : starEach [e, e2] X.env = (false, eval e X.env) :: starEach [e2] X.env := by rfl) (hpl : (backTo pos (starEach [e2] X.env)).any (·.1) = false := by rfl) (hK : X.K = K := by rfl) :
    GI K E X (.Tuple elts kk tpos) (.Call (.Name "zip" p) [e, e2] [] pos) (Zm.iZipM K ta) (sZipM sa) := by
  subst hK
  exact ⟨Zm.pi_zipM hg hm ha.pe hs hpl, fun σ F H δ m SX R R' r hh k => ha.sim σ F H δ m SX _ _ r hh fun vs F1 H1 svs m1 s1 M1 rv h1 => by
    unfold sZipM at hh
    split at h1
    · rename_i a ys
      obtain ⟨xs, e1, h2⟩ := h1
      obtain ⟨v, w, rfl, r1, r2⟩ := vrs_two rv
      obtain rfl := vr_ref r1
      cases r2 with
      | tup g1 g2 =>
      rename_i b us
      obtain ⟨ws, e2, g3⟩ := M1.lst_ e1
      refine ⟨a, b, ws, us, rfl, .inl (.inl e2), sqt_sub M1.sub g1, k _ _ _ F1 H1 m1 s1 M1 ⟨fun i F' H' m' x s' M' hk e => ?_, fun F' H' m' s' M' hk => ?_⟩ h2⟩
      · obtain ⟨ws', e3, g4⟩ := M'.lst_ hk
        rw [List.getElem?_map] at e
        obtain ⟨q, e4, rfl⟩ := Option.map_eq_some_iff.mp e
        obtain ⟨e5, e6⟩ := List.getElem?_zip_eq_some.mp e4
        obtain ⟨v1, f1, d1⟩ := vrs_get g4 e5
        obtain ⟨v2, f2, d2⟩ := vrs_get g2 e6
        have sT := sqt_sub (s'.trans M'.sub) g1
        refine ⟨⟨ws', us, v1, v2, .inl (.inl e3), sT, f1, f2⟩, fun v H'' ⟨T, x', y', e7, e8, e9, e10, e11⟩ => ?_⟩
        subst e7 e9
        have e12 := e10 ws' (.inl (.inl e3))
        have e13 := e11 us sT
        rw [f1] at e12
        rw [f2] at e13
        cases e12
        cases e13
        have sn := Sub.new (o := .tup [v1, v2]) (M'.sub.gone e8)
        exact ⟨upd F' T _, sn, M'.frz e8, .tup (.inl (.inl upd_same)) (.cons (vr_sub sn d1) (.cons (vr_sub (s'.trans sn) d2) .nil))⟩
      · obtain ⟨ws', e3, g4⟩ := M'.lst_ hk
        have l1 := vrs_length g4
        have l2 := vrs_length g2
        refine ⟨ws', us, .inl (.inl e3), sqt_sub (s'.trans M'.sub) g1, ?_⟩
        rw [List.length_map, List.length_zip]
        omega
    · exact h1.elim⟩
end Sy

set_option Elab.async false
set_option linter.all false
set_option maxRecDepth 100000
set_option maxHeartbeats 400000
/-! A dict of the top with text keys whose values are tuples. -/
namespace Sy
open PySem PySem.Spec PyProof.Rows L2
def TabV (K : PySem.W.Frag) (w : World) (d : Addr) (L : List (Str × List SV)) : Prop := ∃ es n, KDict K w d es n ∧ ∀ q ∈ L, ∃ t, PySem.W.nsIn K d q.1 = some (some (.ref t)) ∧ ∀ F, VR K F (.ref t) (.tup q.2)
def rTabIn (K : PySem.W.Frag) (d : Addr) (neg : Bool) : R2 := fun x y H Q => ∃ (z : Str) (r : Option Value), x = .str z ∧ y = .ref d ∧ PySem.W.nsIn K d z = some r ∧ Q (.bl (if neg then !r.isSome else r.isSome)) H
def sTabIn (d : Addr) (L : List (Str × List SV)) (neg : Bool) : SR2 := fun x y m S => match x, y with
  | .str z, .ref a => a = d ∧ ∃ xs, (z, xs) ∈ L ∧ S (.bl (!neg)) m
  | _, _ => False
theorem op_tabNotIn {X : Cx} {K : PySem.W.Frag} {w : World} {d : Addr} {L : List (Str × List SV)} (h : TabV K w d L) (hK : X.K = K := by rfl) (hw : X.w = w := by rfl) : OpR X (compareOp .NotIn) (rTabIn K d true) := by
  subst hK hw
  obtain ⟨es, n, D, _⟩ := h
  exact op_notIn_kd D
theorem sim_tabIn {K : PySem.W.Frag} {w : World} {d : Addr} {L : List (Str × List SV)} (t : TabV K w d L) (neg : Bool) : SimR K (rTabIn K d neg) (sTabIn d L neg) := fun F H m x y a b S Q M ra rb h c => by
  cases ra <;> cases rb <;> first
    | exact (show False from h).elim
    | skip
  obtain ⟨rfl, xs, hm, q⟩ := (show _ = _ ∧ ∃ xs, _ from h)
  obtain ⟨es, n, D, hl⟩ := t
  obtain ⟨t, h1, h2⟩ := hl _ hm
  exact ⟨_, _, rfl, rfl, h1, c _ F H _ m (.refl F) M (.bl _) (by cases neg <;> exact q)⟩
def sTabGet (d : Addr) (L : List (Str × List SV)) : SR2 := fun x y m S => match x, y with
  | .ref a, .str z => a = d ∧ ∃ xs, (z, xs) ∈ L ∧ S (.tup xs) m
  | _, _ => False
theorem ix_tab {X : Cx} {K : PySem.W.Frag} {w : World} (hK : X.K = K := by rfl) (hw : X.w = w := by rfl) : IxR X (rIxD K w) := by
  subst hK hw
  exact ix_kdict
theorem sim_tabGet {K : PySem.W.Frag} {w : World} {d : Addr} {L : List (Str × List SV)} (t : TabV K w d L) : SimR K (rIxD K w) (sTabGet d L) := fun F H m x y a b S Q M ra rb h c => by
  cases ra <;> cases rb <;> first
    | exact (show False from h).elim
    | skip
  obtain ⟨rfl, xs, hm, q⟩ := (show _ = _ ∧ ∃ xs, _ from h)
  obtain ⟨es, n, D, hl⟩ := t
  obtain ⟨t, h1, h2⟩ := hl _ hm
  exact ⟨_, _, .ref t, rfl, rfl, ⟨es, n, .ref t, D.at_, D.lit, h1, rfl⟩, c _ F H _ m (.refl F) M (h2 F) q⟩
theorem ge_gref {K : PySem.W.Frag} {E : XK} {X : Cx} {x : Str} {d : Addr} {pos : Pos} (hg : Gl X x) (h : X.mg x = some (.ref d)) (hd : (x == ("__debug__" : Str)) = false := by decide) : GE K E X (.Name x pos) (tC (.ref d)) (sC (.ref d)) := ⟨pe_glob (v := .ref d) hg h rfl hd, sim_c fun _ => .ref d⟩
/-! ### what K says of such a dict -/
def flatB : Value → SV → Bool
  | .none, .non => true
  | .bool b, .bl c => b == c
  | .str x _, .str y => x == y
  | _, _ => false
def flatsB : List Value → List SV → Bool
  | [], [] => true
  | u :: us, x :: xs => flatB u x && flatsB us xs
  | _, _ => false
def rowB (K : PySem.W.Frag) (d : Addr) (q : Str × List SV) : Bool := match PySem.W.nsIn K d q.1 with
  | some (some (.ref t)) => (match K.lookup t with
    | some ⟨.type c, _, .seq its _, _⟩ => decide (c = "tuple") && (decide (its.size ≤ 100) && flatsB its.toList q.2)
    | _ => false)
  | _ => false
theorem flatsB_ok {K : PySem.W.Frag} {F : Hp} : ∀ {us : List Value} {xs : List SV}, flatsB us xs = true → ∃ vs, Vals vs us ∧ VRs K F vs xs
  | [], [], _ => ⟨[], .nil, .nil⟩
  | u :: us, x :: xs, h => by
    obtain ⟨h1, h2⟩ := Bool.and_eq_true_iff.mp (show (flatB u x && flatsB us xs) = true from h)
    obtain ⟨vs, r1, r2⟩ := flatsB_ok (K := K) (F := F) h2
    unfold flatB at h1
    split at h1
    · exact ⟨.non :: vs, .cons rfl r1, .cons .non r2⟩
    · obtain rfl := eq_of_beq h1
      exact ⟨.bl _ :: vs, .cons rfl r1, .cons (.bl _) r2⟩
    · obtain rfl := eq_of_beq h1
      exact ⟨.str _ :: vs, .cons ⟨_, rfl⟩ r1, .cons (.str _) r2⟩
    · cases h1
  | [], _ :: _, h => by cases h
  | _ :: _, [], h => by cases h
theorem rowB_ok {K : PySem.W.Frag} {d : Addr} {q : Str × List SV} (h : rowB K d q = true) : ∃ t, PySem.W.nsIn K d q.1 = some (some (.ref t)) ∧ ∀ F, VR K F (.ref t) (.tup q.2) := by
  unfold rowB at h
  split at h
  · rename_i t e
    split at h
    · rename_i c od its n sl e2
      obtain ⟨h1, h3⟩ := Bool.and_eq_true_iff.mp h
      obtain ⟨h2, h3⟩ := Bool.and_eq_true_iff.mp h3
      have h1 := of_decide_eq_true h1
      have h2 := of_decide_eq_true h2
      subst h1
      refine ⟨t, e, fun F => ?_⟩
      obtain ⟨vs, r1, r2⟩ := flatsB_ok (K := K) (F := F) h3
      exact .tup (.inr ⟨_, its, n, e2, rfl, rfl, by rw [sizeLine_eq]; omega, r1⟩) r2
    · cases h
  · cases h
theorem tabV_of {K : PySem.W.Frag} {w : World} {d : Addr} {L : List (Str × List SV)} (D : ∃ es n, KDict K w d es n) (h : (L.all fun q => rowB K d q) = true) : TabV K w d L := by
  obtain ⟨es, n, D⟩ := D
  exact ⟨es, n, D, fun q hq => rowB_ok (List.all_eq_true.mp h q hq)⟩
end Sy

set_option Elab.async false
set_option linter.all false
set_option maxRecDepth 100000
set_option maxHeartbeats 4000000
namespace Hn
open PySem PySem.Spec PyProof.Rows L2 Sy
def top (i : Nat) : Stmt := PySem.Challenge.pw_hushnotice_k16_rules_written.main.body.getD i (.Pass ⟨0, 0, 0, 0⟩)
abbrev s_is_number : Stmt := top 19
abbrev s_is_whole : Stmt := top 20
abbrev s_is_tuple_of : Stmt := top 21
abbrev s_is_tuple_up_to : Stmt := top 22
abbrev s_is_stretch : Stmt := top 23
abbrev s_can_be_hushed : Stmt := top 24
abbrev s_can_be_gather : Stmt := top 25
abbrev s_first_bad_part : Stmt := top 26
abbrev s_refuse_bad_rules : Stmt := top 27
abbrev s_can_be_notice : Stmt := top 28
abbrev s_refuse_bad_notices : Stmt := top 29
abbrev s_row_of : Stmt := top 40
abbrev s_written : Stmt := top 41
abbrev s_is_written_number : Stmt := top 42
abbrev s_is_row : Stmt := top 43
abbrev s_judged_rows : Stmt := top 44
abbrev s_read_rules : Stmt := top 45
abbrev s_read : Stmt := top 46
abbrev s_law_begun : Stmt := top 48
abbrev s_law_take : Stmt := top 49
abbrev s_law_alike : Stmt := top 50
abbrev s_law_stretches : Stmt := top 51
abbrev s_law_rule : Stmt := top 52
abbrev s_law_rules : Stmt := top 53
abbrev s_law_notices : Stmt := top 54
abbrev s_law_text : Stmt := top 55
abbrev s_law : Stmt := top 56
theorem sc_is_number : FnScope ["x"] ["x"] (defScope s_is_number) := ⟨rfl, rfl, rfl, by decide +kernel, rfl, by decide +kernel, by decide +kernel⟩
theorem sc_is_whole : FnScope ["x", "low", "high"] ["x", "low", "high"] (defScope s_is_whole) := ⟨rfl, rfl, rfl, by decide +kernel, rfl, by decide +kernel, by decide +kernel⟩
theorem sc_is_tuple_of : FnScope ["x", "many"] ["x", "many"] (defScope s_is_tuple_of) := ⟨rfl, rfl, rfl, by decide +kernel, rfl, by decide +kernel, by decide +kernel⟩
theorem sc_is_tuple_up_to : FnScope ["x", "most"] ["x", "most"] (defScope s_is_tuple_up_to) := ⟨rfl, rfl, rfl, by decide +kernel, rfl, by decide +kernel, by decide +kernel⟩
theorem sc_is_stretch : FnScope ["x", "begin", "end"] ["x"] (defScope s_is_stretch) := ⟨rfl, rfl, rfl, by decide +kernel, rfl, by decide +kernel, by decide +kernel⟩
theorem sc_can_be_hushed : FnScope ["hushed", "x"] ["hushed"] (defScope s_can_be_hushed) := ⟨rfl, rfl, rfl, by decide +kernel, rfl, by decide +kernel, by decide +kernel⟩
theorem sc_can_be_gather : FnScope ["gather", "lowest", "pair", "kind", "span"] ["gather"] (defScope s_can_be_gather) := ⟨rfl, rfl, rfl, by decide +kernel, rfl, by decide +kernel, by decide +kernel⟩
theorem sc_first_bad_part : FnScope ["row", "many", "hushed", "least", "gather", "wait", "further", "fits"] ["row", "many"] (defScope s_first_bad_part) := ⟨rfl, rfl, rfl, by decide +kernel, rfl, by decide +kernel, by decide +kernel⟩
theorem sc_refuse_bad_rules : FnScope ["rules", "many", "person", "part"] ["rules"] (defScope s_refuse_bad_rules) := ⟨rfl, rfl, rfl, by decide +kernel, rfl, by decide +kernel, by decide +kernel⟩
theorem sc_can_be_notice : FnScope ["row", "many_persons", "earliest", "person", "rank", "kind", "born", "fits"] ["row", "many_persons", "earliest"] (defScope s_can_be_notice) := ⟨rfl, rfl, rfl, by decide +kernel, rfl, by decide +kernel, by decide +kernel⟩
theorem sc_refuse_bad_notices : FnScope ["rules", "notices", "earliest", "number", "row"] ["rules", "notices"] (defScope s_refuse_bad_notices) := ⟨rfl, rfl, rfl, by decide +kernel, rfl, by decide +kernel, by decide +kernel⟩
theorem sc_row_of : FnScope ["name", "numbers", "x"] ["name", "numbers"] (defScope s_row_of) := ⟨rfl, rfl, rfl, by decide +kernel, rfl, by decide +kernel, by decide +kernel⟩
theorem sc_written : FnScope ["rules", "notices", "rows", "hushed", "least", "gather", "wait", "further", "stretch", "pair", "notice"] ["rules", "notices"] (defScope s_written) := ⟨rfl, rfl, rfl, by decide +kernel, rfl, by decide +kernel, by decide +kernel⟩
theorem sc_is_written_number : FnScope ["word", "sign"] ["word"] (defScope s_is_written_number) := ⟨rfl, rfl, rfl, by decide +kernel, rfl, by decide +kernel, by decide +kernel⟩
theorem sc_is_row : FnScope ["words", "name", "rest", "word", "may_be_none"] ["words"] (defScope s_is_row) := ⟨rfl, rfl, rfl, by decide +kernel, rfl, by decide +kernel, by decide +kernel⟩
theorem sc_judged_rows : FnScope ["text", "rows", "last", "at", "line", "words", "rest", "word"] ["text"] (defScope s_judged_rows) := ⟨rfl, rfl, rfl, by decide +kernel, rfl, by decide +kernel, by decide +kernel⟩
theorem sc_read_rules : FnScope ["rows", "persons", "name", "numbers", "least", "wait", "further", "hushed", "gather"] ["rows"] (defScope s_read_rules) := ⟨rfl, rfl, rfl, by decide +kernel, rfl, by decide +kernel, by decide +kernel⟩
theorem sc_read : FnScope ["text", "rows", "rules", "notices", "name", "numbers"] ["text"] (defScope s_read) := ⟨rfl, rfl, rfl, by decide +kernel, rfl, by decide +kernel, by decide +kernel⟩
theorem sc_law_begun : FnScope ["_law_script", "_law_stirred", "_law_cell"] ["_law_script"] (defScope s_law_begun) := ⟨rfl, rfl, rfl, by decide +kernel, rfl, by decide +kernel, by decide +kernel⟩
theorem sc_law_take : FnScope ["_law_box", "_law_many", "_law_number"] ["_law_box", "_law_many"] (defScope s_law_take) := ⟨rfl, rfl, rfl, by decide +kernel, rfl, by decide +kernel, by decide +kernel⟩
theorem sc_law_alike : FnScope ["_law_found", "_law_due", "_law_k"] ["_law_found", "_law_due"] (defScope s_law_alike) := ⟨rfl, rfl, rfl, by decide +kernel, rfl, by decide +kernel, by decide +kernel⟩
theorem sc_law_stretches : FnScope ["_law_box", "_law_found", "_law_turn", "_law_begin"] ["_law_box"] (defScope s_law_stretches) := ⟨rfl, rfl, rfl, by decide +kernel, rfl, by decide +kernel, by decide +kernel⟩
theorem sc_law_rule : FnScope ["_law_box", "_law_many", "_law_gather", "_law_kind", "_law_wait", "_law_further"] ["_law_box", "_law_many"] (defScope s_law_rule) := ⟨rfl, rfl, rfl, by decide +kernel, rfl, by decide +kernel, by decide +kernel⟩
theorem sc_law_rules : FnScope ["_law_box", "_law_many", "_law_person"] ["_law_box"] (defScope s_law_rules) := ⟨rfl, rfl, rfl, by decide +kernel, rfl, by decide +kernel, by decide +kernel⟩
theorem sc_law_notices : FnScope ["_law_box", "_law_rules_here", "_law_most", "_law_found", "_law_born", "_law_few", "_law_turn"] ["_law_box", "_law_rules_here", "_law_most"] (defScope s_law_notices) := ⟨rfl, rfl, rfl, by decide +kernel, rfl, by decide +kernel, by decide +kernel⟩
theorem sc_law_text : FnScope ["_law_rules_here", "_law_notices_here", "_law_rows", "_law_hushed", "_law_least", "_law_gather", "_law_wait", "_law_further", "_law_some", "_law_part", "_law_begin", "_law_end", "_law_kind", "_law_span", "_law_notice"] ["_law_rules_here", "_law_notices_here"] (defScope s_law_text) := ⟨rfl, rfl, rfl, by decide +kernel, rfl, by decide +kernel, by decide +kernel⟩
theorem sc_law : FnScope ["_law_script", "_law_box", "_law_turn", "_law_rules_here", "_law_notices_here", "_law_text_here", "_law_handed", "_law_again", "_law_found"] ["_law_script"] (defScope s_law) := ⟨rfl, rfl, rfl, by decide +kernel, rfl, by decide +kernel, by decide +kernel⟩
open He in
structure Tx (K : PySem.W.Frag) (mg : Str → Option Value) where
  fd_is_number : FuncData
  F_is_number : FnP K "is_number" s_is_number (ga K "is_number") fd_is_number
  fd_is_whole : FuncData
  F_is_whole : FnP K "is_whole" s_is_whole (ga K "is_whole") fd_is_whole
  fd_is_tuple_of : FuncData
  F_is_tuple_of : FnP K "is_tuple_of" s_is_tuple_of (ga K "is_tuple_of") fd_is_tuple_of
  fd_is_tuple_up_to : FuncData
  F_is_tuple_up_to : FnP K "is_tuple_up_to" s_is_tuple_up_to (ga K "is_tuple_up_to") fd_is_tuple_up_to
  fd_is_stretch : FuncData
  F_is_stretch : FnP K "is_stretch" s_is_stretch (ga K "is_stretch") fd_is_stretch
  fd_can_be_hushed : FuncData
  F_can_be_hushed : FnP K "can_be_hushed" s_can_be_hushed (ga K "can_be_hushed") fd_can_be_hushed
  fd_can_be_gather : FuncData
  F_can_be_gather : FnP K "can_be_gather" s_can_be_gather (ga K "can_be_gather") fd_can_be_gather
  fd_first_bad_part : FuncData
  F_first_bad_part : FnP K "first_bad_part" s_first_bad_part (ga K "first_bad_part") fd_first_bad_part
  fd_refuse_bad_rules : FuncData
  F_refuse_bad_rules : FnP K "refuse_bad_rules" s_refuse_bad_rules (ga K "refuse_bad_rules") fd_refuse_bad_rules
  fd_can_be_notice : FuncData
  F_can_be_notice : FnP K "can_be_notice" s_can_be_notice (ga K "can_be_notice") fd_can_be_notice
  fd_refuse_bad_notices : FuncData
  F_refuse_bad_notices : FnP K "refuse_bad_notices" s_refuse_bad_notices (ga K "refuse_bad_notices") fd_refuse_bad_notices
  fd_row_of : FuncData
  F_row_of : FnP K "row_of" s_row_of (ga K "row_of") fd_row_of
  fd_written : FuncData
  F_written : FnP K "written" s_written (ga K "written") fd_written
  fd_is_written_number : FuncData
  F_is_written_number : FnP K "is_written_number" s_is_written_number (ga K "is_written_number") fd_is_written_number
  fd_is_row : FuncData
  F_is_row : FnP K "is_row" s_is_row (ga K "is_row") fd_is_row
  fd_judged_rows : FuncData
  F_judged_rows : FnP K "judged_rows" s_judged_rows (ga K "judged_rows") fd_judged_rows
  fd_read_rules : FuncData
  F_read_rules : FnP K "read_rules" s_read_rules (ga K "read_rules") fd_read_rules
  fd_read : FuncData
  F_read : FnP K "read" s_read (ga K "read") fd_read
  fd__law_begun : FuncData
  F__law_begun : FnP K "_law_begun" s_law_begun (ga K "_law_begun") fd__law_begun
  fd__law_take : FuncData
  F__law_take : FnP K "_law_take" s_law_take (ga K "_law_take") fd__law_take
  fd__law_alike : FuncData
  F__law_alike : FnP K "_law_alike" s_law_alike (ga K "_law_alike") fd__law_alike
  fd__law_stretches : FuncData
  F__law_stretches : FnP K "_law_stretches" s_law_stretches (ga K "_law_stretches") fd__law_stretches
  fd__law_rule : FuncData
  F__law_rule : FnP K "_law_rule" s_law_rule (ga K "_law_rule") fd__law_rule
  fd__law_rules : FuncData
  F__law_rules : FnP K "_law_rules" s_law_rules (ga K "_law_rules") fd__law_rules
  fd__law_notices : FuncData
  F__law_notices : FnP K "_law_notices" s_law_notices (ga K "_law_notices") fd__law_notices
  fd__law_text : FuncData
  F__law_text : FnP K "_law_text" s_law_text (ga K "_law_text") fd__law_text
  fd_law : FuncData
  F_law : FnP K "law" s_law (ga K "law") fd_law
  g_is_number : mg "is_number" = some (.ref (ga K "is_number"))
  k_is_number : PySem.W.keepIn K (.ref (ga K "is_number")) = true
  g_is_whole : mg "is_whole" = some (.ref (ga K "is_whole"))
  k_is_whole : PySem.W.keepIn K (.ref (ga K "is_whole")) = true
  g_is_tuple_of : mg "is_tuple_of" = some (.ref (ga K "is_tuple_of"))
  k_is_tuple_of : PySem.W.keepIn K (.ref (ga K "is_tuple_of")) = true
  g_is_tuple_up_to : mg "is_tuple_up_to" = some (.ref (ga K "is_tuple_up_to"))
  k_is_tuple_up_to : PySem.W.keepIn K (.ref (ga K "is_tuple_up_to")) = true
  g_is_stretch : mg "is_stretch" = some (.ref (ga K "is_stretch"))
  k_is_stretch : PySem.W.keepIn K (.ref (ga K "is_stretch")) = true
  g_can_be_hushed : mg "can_be_hushed" = some (.ref (ga K "can_be_hushed"))
  k_can_be_hushed : PySem.W.keepIn K (.ref (ga K "can_be_hushed")) = true
  g_can_be_gather : mg "can_be_gather" = some (.ref (ga K "can_be_gather"))
  k_can_be_gather : PySem.W.keepIn K (.ref (ga K "can_be_gather")) = true
  g_first_bad_part : mg "first_bad_part" = some (.ref (ga K "first_bad_part"))
  k_first_bad_part : PySem.W.keepIn K (.ref (ga K "first_bad_part")) = true
  g_refuse_bad_rules : mg "refuse_bad_rules" = some (.ref (ga K "refuse_bad_rules"))
  k_refuse_bad_rules : PySem.W.keepIn K (.ref (ga K "refuse_bad_rules")) = true
  g_can_be_notice : mg "can_be_notice" = some (.ref (ga K "can_be_notice"))
  k_can_be_notice : PySem.W.keepIn K (.ref (ga K "can_be_notice")) = true
  g_refuse_bad_notices : mg "refuse_bad_notices" = some (.ref (ga K "refuse_bad_notices"))
  k_refuse_bad_notices : PySem.W.keepIn K (.ref (ga K "refuse_bad_notices")) = true
  g_row_of : mg "row_of" = some (.ref (ga K "row_of"))
  k_row_of : PySem.W.keepIn K (.ref (ga K "row_of")) = true
  g_written : mg "written" = some (.ref (ga K "written"))
  k_written : PySem.W.keepIn K (.ref (ga K "written")) = true
  g_is_written_number : mg "is_written_number" = some (.ref (ga K "is_written_number"))
  k_is_written_number : PySem.W.keepIn K (.ref (ga K "is_written_number")) = true
  g_is_row : mg "is_row" = some (.ref (ga K "is_row"))
  k_is_row : PySem.W.keepIn K (.ref (ga K "is_row")) = true
  g_judged_rows : mg "judged_rows" = some (.ref (ga K "judged_rows"))
  k_judged_rows : PySem.W.keepIn K (.ref (ga K "judged_rows")) = true
  g_read_rules : mg "read_rules" = some (.ref (ga K "read_rules"))
  k_read_rules : PySem.W.keepIn K (.ref (ga K "read_rules")) = true
  g_read : mg "read" = some (.ref (ga K "read"))
  k_read : PySem.W.keepIn K (.ref (ga K "read")) = true
  g__law_begun : mg "_law_begun" = some (.ref (ga K "_law_begun"))
  k__law_begun : PySem.W.keepIn K (.ref (ga K "_law_begun")) = true
  g__law_take : mg "_law_take" = some (.ref (ga K "_law_take"))
  k__law_take : PySem.W.keepIn K (.ref (ga K "_law_take")) = true
  g__law_alike : mg "_law_alike" = some (.ref (ga K "_law_alike"))
  k__law_alike : PySem.W.keepIn K (.ref (ga K "_law_alike")) = true
  g__law_stretches : mg "_law_stretches" = some (.ref (ga K "_law_stretches"))
  k__law_stretches : PySem.W.keepIn K (.ref (ga K "_law_stretches")) = true
  g__law_rule : mg "_law_rule" = some (.ref (ga K "_law_rule"))
  k__law_rule : PySem.W.keepIn K (.ref (ga K "_law_rule")) = true
  g__law_rules : mg "_law_rules" = some (.ref (ga K "_law_rules"))
  k__law_rules : PySem.W.keepIn K (.ref (ga K "_law_rules")) = true
  g__law_notices : mg "_law_notices" = some (.ref (ga K "_law_notices"))
  k__law_notices : PySem.W.keepIn K (.ref (ga K "_law_notices")) = true
  g__law_text : mg "_law_text" = some (.ref (ga K "_law_text"))
  k__law_text : PySem.W.keepIn K (.ref (ga K "_law_text")) = true
  g_law : mg "law" = some (.ref (ga K "law"))
  k_law : PySem.W.keepIn K (.ref (ga K "law")) = true
  g_NoticeError : mg "NoticeError" = some (.ref (ga K "NoticeError"))
  k_NoticeError : PySem.W.keepIn K (.ref (ga K "NoticeError")) = true
  g_BadRules : mg "BadRules" = some (.ref (ga K "BadRules"))
  k_BadRules : PySem.W.keepIn K (.ref (ga K "BadRules")) = true
  g_BadNotices : mg "BadNotices" = some (.ref (ga K "BadNotices"))
  k_BadNotices : PySem.W.keepIn K (.ref (ga K "BadNotices")) = true
  g_BadText : mg "BadText" = some (.ref (ga K "BadText"))
  k_BadText : PySem.W.keepIn K (.ref (ga K "BadText")) = true
  x_NoticeError : PySem.W.excIn K (ga K "NoticeError") veBase "ValueError.__new__" = true
  e_NoticeError : PySem.W.subIn K (.ref (ga K "NoticeError")) (.type "BaseException") = some true
  t_NoticeError : PySem.W.typeIn K (.ref (ga K "NoticeError")) = some (.type "type")
  i_MOST_PERSONS : ∃ t, mg "MOST_PERSONS" = some (.int (6) t)
  i_MANY_PARTS : ∃ t, mg "MANY_PARTS" = some (.int (5) t)
  i_MOST_STRETCHES : ∃ t, mg "MOST_STRETCHES" = some (.int (3) t)
  i_LAST_HOUR : ∃ t, mg "LAST_HOUR" = some (.int (23) t)
  i_MOST_LEAST : ∃ t, mg "MOST_LEAST" = some (.int (4) t)
  i_MOST_GATHERED : ∃ t, mg "MOST_GATHERED" = some (.int (4) t)
  i_LAST_KIND : ∃ t, mg "LAST_KIND" = some (.int (7) t)
  i_MOST_SPAN : ∃ t, mg "MOST_SPAN" = some (.int (12) t)
  i_MOST_WAIT : ∃ t, mg "MOST_WAIT" = some (.int (24) t)
  i_MOST_NOTICES : ∃ t, mg "MOST_NOTICES" = some (.int (30) t)
  i_LAST_RANK : ∃ t, mg "LAST_RANK" = some (.int (3) t)
  i_LAST_BORN : ∃ t, mg "LAST_BORN" = some (.int (300) t)
  i_NO_PART : ∃ t, mg "NO_PART" = some (.int (-1) t)
  i_PERSON : ∃ t, mg "PERSON" = some (.str "person" t)
  i_HUSH : ∃ t, mg "HUSH" = some (.str "hush" t)
  i_GATHER : ∃ t, mg "GATHER" = some (.str "gather" t)
  i_NOTICE : ∃ t, mg "NOTICE" = some (.str "notice" t)
  i_NONE : ∃ t, mg "NONE" = some (.str "-" t)
  i_FIGURES : ∃ t, mg "FIGURES" = some (.str "0123456789" t)
  i_MOST_FIGURES : ∃ t, mg "MOST_FIGURES" = some (.int (3) t)
  z_isinstance : mg "isinstance" = none
  z_bool : mg "bool" = none
  z_int : mg "int" = none
  z_tuple : mg "tuple" = none
  z_list : mg "list" = none
  z_len : mg "len" = none
  z_all : mg "all" = none
  z_any : mg "any" = none
  z_range : mg "range" = none
  z_min : mg "min" = none
  z_max : mg "max" = none
  z_sum : mg "sum" = none
  z_str : mg "str" = none
  z_sorted : mg "sorted" = none
  z_enumerate : mg "enumerate" = none
  z_zip : mg "zip" = none
  z_dict : mg "dict" = none
  z_set : mg "set" = none
  z_ValueError : mg "ValueError" = none
section
variable {K : PySem.W.Frag} {mg : Str → Option Value}
theorem b_is_number (T : Tx K mg) : Binds K T.fd_is_number ["x"] [] := FunD.bindsN T.F_is_number fun _ _ _ _ _ _ us hl => match us, hl with | [_], _ => rfl
theorem b_is_whole (T : Tx K mg) : Binds K T.fd_is_whole ["x", "low", "high"] [] := FunD.bindsN T.F_is_whole fun _ _ _ _ _ _ us hl => match us, hl with | [_, _, _], _ => rfl
theorem b_is_tuple_of (T : Tx K mg) : Binds K T.fd_is_tuple_of ["x", "many"] [] := FunD.bindsN T.F_is_tuple_of fun _ _ _ _ _ _ us hl => match us, hl with | [_, _], _ => rfl
theorem b_is_tuple_up_to (T : Tx K mg) : Binds K T.fd_is_tuple_up_to ["x", "most"] [] := FunD.bindsN T.F_is_tuple_up_to fun _ _ _ _ _ _ us hl => match us, hl with | [_, _], _ => rfl
theorem b_is_stretch (T : Tx K mg) : Binds K T.fd_is_stretch ["x"] [] := FunD.bindsN T.F_is_stretch fun _ _ _ _ _ _ us hl => match us, hl with | [_], _ => rfl
theorem b_can_be_hushed (T : Tx K mg) : Binds K T.fd_can_be_hushed ["hushed"] [] := FunD.bindsN T.F_can_be_hushed fun _ _ _ _ _ _ us hl => match us, hl with | [_], _ => rfl
theorem b_can_be_gather (T : Tx K mg) : Binds K T.fd_can_be_gather ["gather"] [] := FunD.bindsN T.F_can_be_gather fun _ _ _ _ _ _ us hl => match us, hl with | [_], _ => rfl
theorem b_first_bad_part (T : Tx K mg) : Binds K T.fd_first_bad_part ["row", "many"] [] := FunD.bindsN T.F_first_bad_part fun _ _ _ _ _ _ us hl => match us, hl with | [_, _], _ => rfl
theorem b_refuse_bad_rules (T : Tx K mg) : Binds K T.fd_refuse_bad_rules ["rules"] [] := FunD.bindsN T.F_refuse_bad_rules fun _ _ _ _ _ _ us hl => match us, hl with | [_], _ => rfl
theorem b_can_be_notice (T : Tx K mg) : Binds K T.fd_can_be_notice ["row", "many_persons", "earliest"] [] := FunD.bindsN T.F_can_be_notice fun _ _ _ _ _ _ us hl => match us, hl with | [_, _, _], _ => rfl
theorem b_refuse_bad_notices (T : Tx K mg) : Binds K T.fd_refuse_bad_notices ["rules", "notices"] [] := FunD.bindsN T.F_refuse_bad_notices fun _ _ _ _ _ _ us hl => match us, hl with | [_, _], _ => rfl
theorem b_row_of (T : Tx K mg) : Binds K T.fd_row_of ["name", "numbers"] [] := FunD.bindsN T.F_row_of fun _ _ _ _ _ _ us hl => match us, hl with | [_, _], _ => rfl
theorem b_written (T : Tx K mg) : Binds K T.fd_written ["rules", "notices"] [] := FunD.bindsN T.F_written fun _ _ _ _ _ _ us hl => match us, hl with | [_, _], _ => rfl
theorem b_is_written_number (T : Tx K mg) : Binds K T.fd_is_written_number ["word"] [] := FunD.bindsN T.F_is_written_number fun _ _ _ _ _ _ us hl => match us, hl with | [_], _ => rfl
theorem b_is_row (T : Tx K mg) : Binds K T.fd_is_row ["words"] [] := FunD.bindsN T.F_is_row fun _ _ _ _ _ _ us hl => match us, hl with | [_], _ => rfl
theorem b_judged_rows (T : Tx K mg) : Binds K T.fd_judged_rows ["text"] [] := FunD.bindsN T.F_judged_rows fun _ _ _ _ _ _ us hl => match us, hl with | [_], _ => rfl
theorem b_read_rules (T : Tx K mg) : Binds K T.fd_read_rules ["rows"] [] := FunD.bindsN T.F_read_rules fun _ _ _ _ _ _ us hl => match us, hl with | [_], _ => rfl
theorem b_read (T : Tx K mg) : Binds K T.fd_read ["text"] [] := FunD.bindsN T.F_read fun _ _ _ _ _ _ us hl => match us, hl with | [_], _ => rfl
theorem b_law_begun (T : Tx K mg) : Binds K T.fd__law_begun ["_law_script"] [] := FunD.bindsN T.F__law_begun fun _ _ _ _ _ _ us hl => match us, hl with | [_], _ => rfl
theorem b_law_take (T : Tx K mg) : Binds K T.fd__law_take ["_law_box", "_law_many"] [] := FunD.bindsN T.F__law_take fun _ _ _ _ _ _ us hl => match us, hl with | [_, _], _ => rfl
theorem b_law_alike (T : Tx K mg) : Binds K T.fd__law_alike ["_law_found", "_law_due"] [] := FunD.bindsN T.F__law_alike fun _ _ _ _ _ _ us hl => match us, hl with | [_, _], _ => rfl
theorem b_law_stretches (T : Tx K mg) : Binds K T.fd__law_stretches ["_law_box"] [] := FunD.bindsN T.F__law_stretches fun _ _ _ _ _ _ us hl => match us, hl with | [_], _ => rfl
theorem b_law_rule (T : Tx K mg) : Binds K T.fd__law_rule ["_law_box", "_law_many"] [] := FunD.bindsN T.F__law_rule fun _ _ _ _ _ _ us hl => match us, hl with | [_, _], _ => rfl
theorem b_law_rules (T : Tx K mg) : Binds K T.fd__law_rules ["_law_box"] [] := FunD.bindsN T.F__law_rules fun _ _ _ _ _ _ us hl => match us, hl with | [_], _ => rfl
theorem b_law_notices (T : Tx K mg) : Binds K T.fd__law_notices ["_law_box", "_law_rules_here", "_law_most"] [] := FunD.bindsN T.F__law_notices fun _ _ _ _ _ _ us hl => match us, hl with | [_, _, _], _ => rfl
theorem b_law_text (T : Tx K mg) : Binds K T.fd__law_text ["_law_rules_here", "_law_notices_here"] [] := FunD.bindsN T.F__law_text fun _ _ _ _ _ _ us hl => match us, hl with | [_, _], _ => rfl
end
end Hn

set_option Elab.async false
set_option linter.all false
set_option maxRecDepth 100000
set_option maxHeartbeats 0
namespace Hn
open PySem PySem.Spec PyProof.Rows L2 Sy
def d_is_number : He.DefD := ⟨("is_number", none), "is_number", "is_number", defArgs s_is_number, defBody s_is_number, defScope s_is_number, [], []⟩
def d_is_whole : He.DefD := ⟨("is_whole", none), "is_whole", "is_whole", defArgs s_is_whole, defBody s_is_whole, defScope s_is_whole, [], []⟩
def d_is_tuple_of : He.DefD := ⟨("is_tuple_of", none), "is_tuple_of", "is_tuple_of", defArgs s_is_tuple_of, defBody s_is_tuple_of, defScope s_is_tuple_of, [], []⟩
def d_is_tuple_up_to : He.DefD := ⟨("is_tuple_up_to", none), "is_tuple_up_to", "is_tuple_up_to", defArgs s_is_tuple_up_to, defBody s_is_tuple_up_to, defScope s_is_tuple_up_to, [], []⟩
def d_is_stretch : He.DefD := ⟨("is_stretch", none), "is_stretch", "is_stretch", defArgs s_is_stretch, defBody s_is_stretch, defScope s_is_stretch, [], []⟩
def d_can_be_hushed : He.DefD := ⟨("can_be_hushed", none), "can_be_hushed", "can_be_hushed", defArgs s_can_be_hushed, defBody s_can_be_hushed, defScope s_can_be_hushed, [], []⟩
def d_can_be_gather : He.DefD := ⟨("can_be_gather", none), "can_be_gather", "can_be_gather", defArgs s_can_be_gather, defBody s_can_be_gather, defScope s_can_be_gather, [], []⟩
def d_first_bad_part : He.DefD := ⟨("first_bad_part", none), "first_bad_part", "first_bad_part", defArgs s_first_bad_part, defBody s_first_bad_part, defScope s_first_bad_part, [], []⟩
def d_refuse_bad_rules : He.DefD := ⟨("refuse_bad_rules", none), "refuse_bad_rules", "refuse_bad_rules", defArgs s_refuse_bad_rules, defBody s_refuse_bad_rules, defScope s_refuse_bad_rules, [], []⟩
def d_can_be_notice : He.DefD := ⟨("can_be_notice", none), "can_be_notice", "can_be_notice", defArgs s_can_be_notice, defBody s_can_be_notice, defScope s_can_be_notice, [], []⟩
def d_refuse_bad_notices : He.DefD := ⟨("refuse_bad_notices", none), "refuse_bad_notices", "refuse_bad_notices", defArgs s_refuse_bad_notices, defBody s_refuse_bad_notices, defScope s_refuse_bad_notices, [], []⟩
def d_row_of : He.DefD := ⟨("row_of", none), "row_of", "row_of", defArgs s_row_of, defBody s_row_of, defScope s_row_of, [], []⟩
def d_written : He.DefD := ⟨("written", none), "written", "written", defArgs s_written, defBody s_written, defScope s_written, [], []⟩
def d_is_written_number : He.DefD := ⟨("is_written_number", none), "is_written_number", "is_written_number", defArgs s_is_written_number, defBody s_is_written_number, defScope s_is_written_number, [], []⟩
def d_is_row : He.DefD := ⟨("is_row", none), "is_row", "is_row", defArgs s_is_row, defBody s_is_row, defScope s_is_row, [], []⟩
def d_judged_rows : He.DefD := ⟨("judged_rows", none), "judged_rows", "judged_rows", defArgs s_judged_rows, defBody s_judged_rows, defScope s_judged_rows, [], []⟩
def d_read_rules : He.DefD := ⟨("read_rules", none), "read_rules", "read_rules", defArgs s_read_rules, defBody s_read_rules, defScope s_read_rules, [], []⟩
def d_read : He.DefD := ⟨("read", none), "read", "read", defArgs s_read, defBody s_read, defScope s_read, [], []⟩
def d_law_begun : He.DefD := ⟨("_law_begun", none), "_law_begun", "_law_begun", defArgs s_law_begun, defBody s_law_begun, defScope s_law_begun, [], []⟩
def d_law_take : He.DefD := ⟨("_law_take", none), "_law_take", "_law_take", defArgs s_law_take, defBody s_law_take, defScope s_law_take, [], []⟩
def d_law_alike : He.DefD := ⟨("_law_alike", none), "_law_alike", "_law_alike", defArgs s_law_alike, defBody s_law_alike, defScope s_law_alike, [], []⟩
def d_law_stretches : He.DefD := ⟨("_law_stretches", none), "_law_stretches", "_law_stretches", defArgs s_law_stretches, defBody s_law_stretches, defScope s_law_stretches, [], []⟩
def d_law_rule : He.DefD := ⟨("_law_rule", none), "_law_rule", "_law_rule", defArgs s_law_rule, defBody s_law_rule, defScope s_law_rule, [], []⟩
def d_law_rules : He.DefD := ⟨("_law_rules", none), "_law_rules", "_law_rules", defArgs s_law_rules, defBody s_law_rules, defScope s_law_rules, [], []⟩
def d_law_notices : He.DefD := ⟨("_law_notices", none), "_law_notices", "_law_notices", defArgs s_law_notices, defBody s_law_notices, defScope s_law_notices, [], []⟩
def d_law_text : He.DefD := ⟨("_law_text", none), "_law_text", "_law_text", defArgs s_law_text, defBody s_law_text, defScope s_law_text, [], []⟩
def d_law : He.DefD := ⟨("law", none), "law", "law", defArgs s_law, defBody s_law, defScope s_law, [], []⟩
def fn_0 : List He.DefD := [d_is_number, d_is_whole, d_is_tuple_of, d_is_tuple_up_to, d_is_stretch, d_can_be_hushed, d_can_be_gather, d_first_bad_part, d_refuse_bad_rules, d_can_be_notice, d_refuse_bad_notices, d_row_of, d_written, d_is_written_number, d_is_row, d_judged_rows, d_read_rules, d_read, d_law_begun, d_law_take, d_law_alike, d_law_stretches, d_law_rule, d_law_rules, d_law_notices, d_law_text, d_law]
def fn : List He.DefD := fn_0
def fa_0 : List He.Fa := [.glo "is_number", .glo "is_whole", .glo "is_tuple_of", .glo "is_tuple_up_to", .glo "is_stretch", .glo "can_be_hushed", .glo "can_be_gather", .glo "first_bad_part", .glo "refuse_bad_rules", .glo "can_be_notice", .glo "refuse_bad_notices", .glo "row_of", .glo "written", .glo "is_written_number", .glo "is_row", .glo "judged_rows", .glo "read_rules", .glo "read", .glo "_law_begun", .glo "_law_take", .glo "_law_alike", .glo "_law_stretches", .glo "_law_rule", .glo "_law_rules", .glo "_law_notices", .glo "_law_text", .glo "law", .glo "NoticeError", .glo "BadRules", .glo "BadNotices"]
def fa_1 : List He.Fa := [.glo "BadText", .free "isinstance", .free "bool", .free "int", .free "tuple", .free "list", .free "len", .free "all", .free "any", .free "range", .free "min", .free "max", .free "sum", .free "str", .free "sorted", .free "enumerate", .free "zip", .free "dict", .free "set", .free "ValueError", .exc "NoticeError", .int "MOST_PERSONS" (6), .int "MANY_PARTS" (5), .int "MOST_STRETCHES" (3), .int "LAST_HOUR" (23), .int "MOST_LEAST" (4), .int "MOST_GATHERED" (4), .int "LAST_KIND" (7), .int "MOST_SPAN" (12), .int "MOST_WAIT" (24)]
def fa_2 : List He.Fa := [.int "MOST_NOTICES" (30), .int "LAST_RANK" (3), .int "LAST_BORN" (300), .int "NO_PART" (-1), .int "MOST_FIGURES" (3), .str "PERSON" "person", .str "HUSH" "hush", .str "GATHER" "gather", .str "NOTICE" "notice", .str "NONE" "-", .str "FIGURES" "0123456789", .keep "NoticeError", .keep "BadRules", .keep "BadNotices", .keep "BadText", .glo "FORMS", .glo "BEHIND", .exm "NoticeError" "NoticeError" true, .exm "BadRules" "NoticeError" true, .exm "BadNotices" "NoticeError" true, .exm "BadText" "NoticeError" true]
def fa : List He.Fa := fa_0 ++ fa_1 ++ fa_2
def tf : List He.Defn := []
def names_0 : List PySem.Str := ["NoticeError", "BadRules", "BadNotices", "BadText", "MOST_PERSONS", "MANY_PARTS", "MOST_STRETCHES", "LAST_HOUR", "MOST_LEAST", "MOST_GATHERED", "LAST_KIND", "MOST_SPAN", "MOST_WAIT", "MOST_NOTICES", "LAST_RANK", "LAST_BORN", "NO_PART", "is_number", "is_whole", "is_tuple_of", "is_tuple_up_to", "is_stretch", "can_be_hushed", "can_be_gather", "first_bad_part", "refuse_bad_rules", "can_be_notice", "refuse_bad_notices", "PERSON", "HUSH"]
def names_1 : List PySem.Str := ["GATHER", "NOTICE", "NONE", "FIGURES", "MOST_FIGURES", "FORMS", "BEHIND", "row_of", "written", "is_written_number", "is_row", "judged_rows", "read_rules", "read", "_law_begun", "_law_take", "_law_alike", "_law_stretches", "_law_rule", "_law_rules", "_law_notices", "_law_text"]
def names : List PySem.Str := names_0 ++ names_1
def exOne (K : PySem.W.Frag) (X : Str) (L : List (Str × Bool)) : Bool := He.eqO (PySem.W.findIn K (.ref (He.ga K X)) "__getattribute__") (some (some (.builtin "BaseException.__getattribute__"))) && (He.eqO (PySem.W.findIn K (.ref (He.ga K X)) "__getattr__") (some none) &&
  (decide (PySem.W.subIn K (.ref (He.ga K X)) (.type "BaseException") = some true) && (PySem.W.hasDictIn K (He.ga K X) && (He.eqO (PySem.W.findIn K (.ref (He.ga K X)) "__class__") (some (some (.builtin "object.__class__"))) && (He.eqO (PySem.W.specialIn K (.builtin "object.__class__") "__get__") (some (some (.builtin "getset_descriptor.__get__"))) &&
  (decide (PySem.W.takesIn K (.builtin "object.__class__") = some true) && (decide (PySem.W.mroIn K (He.ga K X) (.type "object") = some true) && (decide (PySem.W.kitOne K (.ref (He.ga K X)) (.type "ValueError") = some true) && L.all fun q => decide (PySem.W.kitOne K (.ref (He.ga K X)) (.ref (He.ga K q.1)) = some q.2)))))))))
def LB_FORMS : List (PySem.Str × List Sy.SV) := [("person", [.bl false, .bl true, .bl true]), ("hush", [.bl false, .bl false]), ("gather", [.bl false, .bl false]), ("notice", [.bl false, .bl false, .bl false, .bl false])]
def LB_BEHIND : List (PySem.Str × List Sy.SV) := [("person", [.non, .str "person", .str "hush", .str "gather"]), ("hush", [.str "person", .str "hush"]), ("gather", [.str "person", .str "hush", .str "gather"]), ("notice", [.str "person", .str "hush", .str "gather", .str "notice"])]
def tbs : List He.Tab := [(fun K => He.ga K "FORMS", ["person", "hush", "gather", "notice"]), (fun K => He.ga K "BEHIND", ["person", "hush", "gather", "notice"])]
def exb (K : PySem.W.Frag) : Bool := (LB_FORMS.all fun q => Sy.rowB K (He.ga K "FORMS") q) && (LB_BEHIND.all fun q => Sy.rowB K (He.ga K "BEHIND") q)
abbrev R : PySem.W.OpenRow := PySem.W.OpenLaw.row PySem.Challenge.rw_hushnotice_k16_rules_written
abbrev hk : PySem.W.Hook := He.hookX 5 fa fn tbs tf exb
def ob (s : PySem.W.SharedT) : He.AlX := He.obsX 5 fa fn tbs tf exb (HandSHeadRun.getT s)
theorem ob_eq (s : PySem.W.SharedT) : ob s = hk.obs s.abs := He.obsX_eq (HandSHeadRun.getT_eq s)
def wB (w : World) (b : Bool) : World := { w with params := { w.params with followText := fun s => match decide (s = "special-get-raises") with | true => b | false => w.params.followText s } }
theorem wB_eq (w : World) : w = wB w (w.params.followText "special-get-raises") := by
  obtain ⟨d, p⟩ := w
  obtain ⟨a1, a2, a3, a4, a5, f, a7⟩ := p
  have e : f = fun s => match decide (s = "special-get-raises") with | true => f "special-get-raises" | false => f s := funext fun s => by
    by_cases h : s = "special-get-raises"
    · rw [h]; rfl
    · rw [decide_eq_false h]
  show World.mk d _ = World.mk d _
  congr 1
  show Params.mk a1 a2 a3 a4 a5 f .. = Params.mk a1 a2 a3 a4 a5 (fun s => match decide (s = "special-get-raises") with | true => f "special-get-raises" | false => f s) ..
  rw [← e]
theorem run_t (w : World) : HandSHeadRun.RunEq R (PySem.W.view R.prog [56]) hk ob 9000 names (wB w true) := by
  intro os
  kernel_rfl
theorem run_f (w : World) : HandSHeadRun.RunEq R (PySem.W.view R.prog [56]) hk ob 9000 names (wB w false) := by
  intro os
  kernel_rfl
theorem run (w : World) : HandSHeadRun.RunEq R (PySem.W.view R.prog [56]) hk ob 9000 names w := by
  have key : ∀ b, HandSHeadRun.RunEq R (PySem.W.view R.prog [56]) hk ob 9000 names (wB w b) := fun b => by
    cases b
    · exact run_f w
    · exact run_t w
  have z := key (w.params.followText "special-get-raises")
  rw [← wB_eq w] at z
  exact z
end Hn
set_option Elab.async false
set_option linter.all false
set_option maxRecDepth 100000
set_option maxHeartbeats 8000000
namespace Hn
open PySem PySem.Spec PyProof.Rows L2 Sy Lm
section
variable {P : Program} {w : World} {K : PySem.W.Frag} {mg : Str → Option Value} {base : Heap}
local macro_rules | `(tactic| walk_at "r") => `(tactic| (conv => whnf))
local macro_rules | `(tactic| walk_at "sp") => `(tactic| (first | rfl | contradiction | exact (False.elim ‹_›)))
local macro_rules | `(tactic| walk_at "len") => `(tactic| (exact Nat.le_trans (show _ ≤ 100000 by first | (simp; done) | (rw [rngS_length]; decide)) (by decide)))
local macro_rules | `(tactic| walk_at "f") => `(tactic| (refine Br_i (fun hb => Bool.noConfusion (show false = true from hb)) (fun _ => ?_)))
local macro_rules | `(tactic| walk_at "t") => `(tactic| (refine Br_i (fun _ => ?_) (fun hb => Bool.noConfusion (show true = false from hb))))
local macro_rules | `(tactic| walk_at "le") => `(tactic| first | exact Le.refl _ | (refine Le.put ?_; walk_at "le") | (refine Le.new ?_ (by assumption); walk_at "le"))
def spNum : SpS := fun vs m _ S => match vs with
  | [x] => Dat m x ∧ S (.bl (isInt x)) m
  | _ => False
def isWh (x : SV) (lo hi : Int) : Bool := match x with
  | .int i => decide (lo ≤ i) && decide (i ≤ hi)
  | _ => false
def spWhole : SpS := fun vs m _ S => match vs with
  | [x, .int lo, .int hi] => Dat m x ∧ S (.bl (isWh x lo hi)) m
  | _ => False
def isTupN (x : SV) (n : Int) : Bool := match x with
  | .tup xs => decide ((xs.length : Int) = n)
  | _ => false
def isTupU (x : SV) (n : Int) : Bool := match x with
  | .tup xs => decide ((xs.length : Int) ≤ n)
  | _ => false
def spTupN : SpS := fun vs m _ S => match vs with
  | [x, .int n] => Dat m x ∧ S (.bl (isTupN x n)) m
  | _ => False
def spTupU : SpS := fun vs m _ S => match vs with
  | [x, .int n] => Dat m x ∧ S (.bl (isTupU x n)) m
  | _ => False
theorem ok_is_number (T : Tx K mg) : FnOk P w K mg base CX0 1 (He.ga K "is_number") T.fd_is_number ["x"] (lift K spNum) := by
  refine fn_sy T.F_is_number sc_is_number (fun svs m SX Sv h => ?_) (fun cdv A outer s H E hr => ⟨_, _, (gss_one (gs_ret (ge_and (ge_callB (cr_isi K) sim_isi (by rfl) T.z_isinstance (by decide +kernel) (ga_cons (gv 0) (ga_cons (ge_ty (n := "int") (by rfl) T.z_int (by decide +kernel)) ga_nil))) (ge_one (ge_not (ge_callB (cr_isi K) sim_isi (by rfl) T.z_isinstance (by decide +kernel) (ga_cons (gv 0) (ga_cons (ge_ty (n := "bool") (by rfl) T.z_bool (by decide +kernel)) ga_nil)))))))), fun svs m SX Sv h => ?_⟩)
  · unfold spNum at h
    split at h <;> first | rfl | exact h.elim
  · unfold spNum at h
    split at h
    · obtain ⟨⟨t, ht⟩, q⟩ := h
      have e := tyS_int ht
      walk_at "r"
      refine ⟨by decide, t, ht, ?_⟩
      walk_at "r"
      refine Br_i (fun h1 => ?_) (fun h1 => ?_)
      · walk_at "r"
        refine ⟨by decide, t, ht, ?_⟩
        walk_at "r"
        rw [← e, h1, Bool.true_and] at q
        exact .of q
      · rw [← e, h1, Bool.false_and] at q
        exact .of q
    · exact h.elim
theorem ok_is_whole (T : Tx K mg) : FnOk P w K mg base CX0 2 (He.ga K "is_whole") T.fd_is_whole ["x", "low", "high"] (lift K spWhole) := by
  have G_is_number := ok_is_number (P := P) (w := w) (base := base) T
  have b_is_number := b_is_number T
  refine fn_sy T.F_is_whole sc_is_whole (fun svs m SX Sv h => ?_) (fun cdv A outer s H E hr => ⟨_, _, (gss_one (gs_ret (ge_and (ge_call G_is_number (hr) (by rfl) T.g_is_number T.k_is_number b_is_number .nil (fun _ => .nil) pass0 (ga_cons (gv 0) ga_nil)) (ge_one (ge_chain op_le op_le sim_le sim_le (gv 1) (gv 0) (gv 2)))))), fun svs m SX Sv h => ?_⟩)
  · unfold spWhole at h
    split at h <;> first | rfl | exact h.elim
  · unfold spWhole at h
    split at h
    · obtain ⟨ht, q⟩ := h
      walk_at "r"
      refine ⟨ht, ?_⟩
      walk_at "r"
      refine Br_i (fun h1 => ?_) (fun h1 => ?_)
      · rename_i x _ _
        cases x <;> first | (cases h1; done) | skip
        walk_at "r"
        refine Br_i (fun h2 => ?_) (fun h2 => ?_)
        · walk_at "r"
          unfold isWh at q
          simp only at q
          rw [h2, Bool.true_and] at q
          exact .of q
        · unfold isWh at q
          simp only at q
          rw [h2, Bool.false_and] at q
          exact .of q
      · rename_i x _ _
        cases x <;> first | exact .of q | (cases h1; done)
    · exact h.elim
theorem ok_is_tuple_of (T : Tx K mg) : FnOk P w K mg base CX0 1 (He.ga K "is_tuple_of") T.fd_is_tuple_of ["x", "many"] (lift K spTupN) := by
  refine fn_sy T.F_is_tuple_of sc_is_tuple_of (fun svs m SX Sv h => ?_) (fun cdv A outer s H E hr => ⟨_, _, (gss_one (gs_ret (ge_and (ge_callB (cr_isi K) sim_isi (by rfl) T.z_isinstance (by decide +kernel) (ga_cons (gv 0) (ga_cons (ge_ty (n := "tuple") (by rfl) T.z_tuple (by decide +kernel)) ga_nil))) (ge_one (ge_cmp (op_eqG K hr.units) sim_eq (ge_callB (cr_len K) sim_len (by rfl) T.z_len (by decide +kernel) (ga_cons (gv 0) ga_nil)) (gv 1) (nomark _)))))), fun svs m SX Sv h => ?_⟩)
  · unfold spTupN at h
    split at h <;> first | rfl | exact h.elim
  · unfold spTupN at h
    split at h
    · obtain ⟨⟨t, ht⟩, q⟩ := h
      walk_at "r"
      refine ⟨by decide, t, ht, ?_⟩
      walk_at "r"
      refine Br_i (fun h1 => ?_) (fun h1 => ?_)
      · rename_i x n
        cases x <;> first
          | (exact (show False from ht).elim)
          | (cases (show t = _ from ht); first | (cases h1; done) | skip)
          | (obtain ⟨rfl, _⟩ := (show t = "list" ∧ _ from ht); cases h1; done)
        walk_at "r"
        refine ⟨_, rfl, ?_⟩
        walk_at "r"
        exact .of q
      · rename_i x n
        cases x <;> first
          | exact .of q
          | (cases (show t = _ from ht); cases h1; done)
    · exact h.elim
theorem ok_is_tuple_up_to (T : Tx K mg) : FnOk P w K mg base CX0 1 (He.ga K "is_tuple_up_to") T.fd_is_tuple_up_to ["x", "most"] (lift K spTupU) := by
  refine fn_sy T.F_is_tuple_up_to sc_is_tuple_up_to (fun svs m SX Sv h => ?_) (fun cdv A outer s H E hr => ⟨_, _, (gss_one (gs_ret (ge_and (ge_callB (cr_isi K) sim_isi (by rfl) T.z_isinstance (by decide +kernel) (ga_cons (gv 0) (ga_cons (ge_ty (n := "tuple") (by rfl) T.z_tuple (by decide +kernel)) ga_nil))) (ge_one (ge_cmp op_le sim_le (ge_callB (cr_len K) sim_len (by rfl) T.z_len (by decide +kernel) (ga_cons (gv 0) ga_nil)) (gv 1) (nomark _)))))), fun svs m SX Sv h => ?_⟩)
  · unfold spTupU at h
    split at h <;> first | rfl | exact h.elim
  · unfold spTupU at h
    split at h
    · obtain ⟨⟨t, ht⟩, q⟩ := h
      walk_at "r"
      refine ⟨by decide, t, ht, ?_⟩
      walk_at "r"
      refine Br_i (fun h1 => ?_) (fun h1 => ?_)
      · rename_i x n
        cases x <;> first
          | (exact (show False from ht).elim)
          | (cases (show t = _ from ht); first | (cases h1; done) | skip)
          | (obtain ⟨rfl, _⟩ := (show t = "list" ∧ _ from ht); cases h1; done)
        walk_at "r"
        refine ⟨_, rfl, ?_⟩
        walk_at "r"
        exact .of q
      · rename_i x n
        cases x <;> first
          | exact .of q
          | (cases (show t = _ from ht); cases h1; done)
    · exact h.elim
end
end Hn

set_option Elab.async false
set_option linter.all false
set_option maxRecDepth 100000
set_option maxHeartbeats 8000000
namespace Hn
open PySem PySem.Spec PyProof.Rows L2 Sy Lm
section
variable {P : Program} {w : World} {K : PySem.W.Frag} {mg : Str → Option Value} {base : Heap}
local macro_rules | `(tactic| walk_at "r") => `(tactic| (conv => whnf))
local macro_rules | `(tactic| walk_at "sp") => `(tactic| (first | rfl | contradiction | exact (False.elim ‹_›)))
local macro_rules | `(tactic| walk_at "len") => `(tactic| (exact Nat.le_trans (show _ ≤ 100000 by first | (simp; done) | (rw [rngS_length]; decide)) (by decide)))
local macro_rules | `(tactic| walk_at "f") => `(tactic| (refine Br_i (fun hb => Bool.noConfusion (show false = true from hb)) (fun _ => ?_)))
local macro_rules | `(tactic| walk_at "t") => `(tactic| (refine Br_i (fun _ => ?_) (fun hb => Bool.noConfusion (show true = false from hb))))
local macro_rules | `(tactic| walk_at "le") => `(tactic| first | exact Le.refl _ | (refine Le.put ?_; walk_at "le") | (refine Le.new ?_ (by assumption); walk_at "le"))
def neI : SV → SV → Bool
  | .int a, .int b => !decide (a = b)
  | _, _ => false
def isStr : SV → Bool
  | .tup [x, y] => isWh x 0 23 && (isWh y 0 23 && neI x y)
  | _ => false
theorem wh_int {d : SV} {lo hi : Int} (h : isWh d lo hi = true) : ∃ i, d = .int i ∧ lo ≤ i ∧ i ≤ hi := by
  cases d with
  | int i =>
    simp [isWh] at h
    exact ⟨i, rfl, h.1, h.2⟩
  | _ => cases h
theorem tup2 {x : SV} (h : isTupN x 2 = true) : ∃ a b, x = .tup [a, b] := by
  cases x with
  | tup xs => rcases xs with _ | ⟨a, _ | ⟨b, _ | ⟨c, r⟩⟩⟩ <;> first | exact ⟨_, _, rfl⟩ | (simp [isTupN] at h; done) | (simp [isTupN] at h; omega)
  | _ => cases h
theorem not_tup2 {x : SV} (h : isTupN x 2 = false) : isStr x = false := by
  cases x with
  | tup xs => rcases xs with _ | ⟨a, _ | ⟨b, _ | ⟨c, r⟩⟩⟩ <;> first | rfl | (simp [isTupN] at h; done)
  | _ => rfl
def spStr : SpS := fun vs m _ S => match vs with
  | [x] => DD m x ∧ S (.bl (isStr x)) m
  | _ => False
def canHush : SV → Bool
  | .tup xs => decide ((xs.length : Int) ≤ 3) && xs.all isStr
  | _ => false
def spHush : SpS := fun vs m _ S => match vs with
  | [x] => DD m x ∧ S (.bl (canHush x)) m
  | _ => False
def gath : Int → List SV → Bool
  | _, [] => true
  | lo, .tup [.int k, s] :: r => isWh (.int k) lo 7 && isWh s 1 12 && gath (k + 1) r
  | _, _ :: _ => false
def canGath : SV → Bool
  | .tup ds => decide ((ds.length : Int) ≤ 4) && gath 0 ds
  | _ => false
def spGath : SpS := fun vs m _ S => match vs with
  | [x] => DD m x ∧ S (.bl (canGath x)) m
  | _ => False
theorem line_le {n : Nat} (h : n ≤ 100000) : n ≤ sizeLine := Nat.le_trans h (by decide)
theorem ok_is_stretch (T : Tx K mg) : FnOk P w K mg base CX0 3 (He.ga K "is_stretch") T.fd_is_stretch ["x"] (lift K spStr) := by
  have G_is_tuple_of := ok_is_tuple_of (P := P) (w := w) (base := base) T
  have b_is_tuple_of := b_is_tuple_of T
  have G_is_whole := ok_is_whole (P := P) (w := w) (base := base) T
  have b_is_whole := b_is_whole T
  refine fn_sy T.F_is_stretch sc_is_stretch (fun svs m SX Sv h => ?_) (fun cdv A outer s H E hr => ⟨_, _, (gss_cons (gs_if (gt_not (gt_val (ge_call G_is_tuple_of (hr.mono (by decide)) (by rfl) T.g_is_tuple_of T.k_is_tuple_of b_is_tuple_of .nil (fun _ => .nil) pass0 (ga_cons (gv 0) (ga_cons ge_int ga_nil))))) (gss_one (gs_ret ge_bl)) gss_nil)
      (gss_cons (gs_asg (gv 0) (gg_tup 2 (by rfl) (ggs_cons (gg_name (i := 1) sc_is_stretch.nd rfl (.inl rfl)) (ggs_cons (gg_name (i := 2) sc_is_stretch.nd rfl (.inl rfl)) ggs_nil))))
      (gss_one (gs_ret (ge_and (ge_call G_is_whole (hr) (by rfl) T.g_is_whole T.k_is_whole b_is_whole .nil (fun _ => .nil) pass0 (ga_cons (gv 1) (ga_cons ge_int (ga_cons (ge_gi (by rfl) T.i_LAST_HOUR) ga_nil)))) (ge_and (ge_call G_is_whole (hr) (by rfl) T.g_is_whole T.k_is_whole b_is_whole .nil (fun _ => .nil) pass0 (ga_cons (gv 2) (ga_cons ge_int (ga_cons (ge_gi (by rfl) T.i_LAST_HOUR) ga_nil)))) (ge_one (ge_cmp (op_neG K hr.units) sim_ne (gv 1) (gv 2) (nomark _))))))))), fun svs m SX Sv h => ?_⟩)
  · unfold spStr at h
    split at h <;> first | rfl | exact h.elim
  · unfold spStr at h
    split at h
    · rename_i x
      obtain ⟨hd, q⟩ := h
      walk_at "r"
      refine ⟨hd.dat, ?_⟩
      walk_at "r"
      refine Br_i (fun h1 => ?_) (fun h1 => ?_)
      · walk_at "r"
        rw [not_tup2 (by simpa using h1)] at q
        exact .of q
      · obtain ⟨a, b, rfl⟩ := tup2 (by simpa using h1)
        cases hd with
        | tup hd =>
          walk_at "r"
          refine ⟨rfl, ?_⟩
          walk_at "r"
          refine ⟨(hd.mem (by simp)).dat, ?_⟩
          walk_at "r"
          refine Br_i (fun h2 => ?_) (fun h2 => ?_)
          · walk_at "r"
            refine ⟨(hd.mem (by simp)).dat, ?_⟩
            walk_at "r"
            refine Br_i (fun h3 => ?_) (fun h3 => ?_)
            · obtain ⟨i, rfl, _⟩ := wh_int h2
              obtain ⟨j, rfl, _⟩ := wh_int h3
              walk_at "r"
              rw [show isStr (.tup [.int i, .int j]) = !decide (i = j) by simp only [isStr, h2, h3, Bool.true_and, neI]] at q
              exact .of q
            · rw [show isStr (.tup [a, b]) = false by simp only [isStr, h2, h3, Bool.true_and, Bool.false_and]] at q
              exact .of q
          · rw [show isStr (.tup [a, b]) = false by simp only [isStr, h2, Bool.false_and]] at q
            exact .of q
    · exact h.elim
theorem ok_can_be_hushed (T : Tx K mg) : FnOk P w K mg base CX0 4 (He.ga K "can_be_hushed") T.fd_can_be_hushed ["hushed"] (lift K spHush) := by
  have G_is_stretch := ok_is_stretch (P := P) (w := w) (base := base) T
  have b_is_stretch := b_is_stretch T
  have G_is_tuple_up_to := ok_is_tuple_up_to (P := P) (w := w) (base := base) T
  have b_is_tuple_up_to := b_is_tuple_up_to T
  refine fn_sy T.F_can_be_hushed sc_can_be_hushed (fun svs m SX Sv h => ?_) (fun cdv A outer s H E hr => ⟨_, _, (gss_one (gs_ret (ge_and (ge_call G_is_tuple_up_to (hr.mono (by decide)) (by rfl) T.g_is_tuple_up_to T.k_is_tuple_up_to b_is_tuple_up_to .nil (fun _ => .nil) pass0 (ga_cons (gv 0) (ga_cons (ge_gi (by rfl) T.i_MOST_STRETCHES) ga_nil))) (ge_one (ge_callB (cr_allG K) sim_all (by rfl) T.z_all (by decide +kernel) (ga_cons (ge_lc (own := [("x", 1)]) (by rfl) sc_can_be_hushed.nd (gi_seq (gv 0)) (blkOk_by (own := [("x", 1)]) (N := ["hushed", "x"]) (sc := (defScope s_can_be_hushed)) (by decide +kernel)) (fun _ _ _ _ _ => (gg_name (i := 1) sc_can_be_hushed.nd rfl (.inl rfl))) (wp_name (by decide)) (fun _ _ _ _ _ => gts_nil) (fun _ _ _ _ _ => (ge_call G_is_stretch (hr) (by rfl) T.g_is_stretch T.k_is_stretch b_is_stretch .nil (fun _ => .nil) pass0 (ga_cons (gv 1) ga_nil)))) ga_nil)))))), fun svs m SX Sv h => ?_⟩)
  · unfold spHush at h
    split at h <;> first | rfl | exact h.elim
  · unfold spHush at h
    split at h
    · rename_i x
      obtain ⟨hd, q⟩ := h
      walk_at "r"
      refine ⟨hd.dat, ?_⟩
      walk_at "r"
      refine Br_i (fun h1 => ?_) (fun h1 => ?_)
      · cases x with
        | tup xs =>
          have hl : xs.length ≤ 3 := by simp [isTupU] at h1; omega
          cases hd with
          | tup hd =>
            walk_at "r"
            refine ⟨xs, rfl, line_le (by omega), fun p hp => ?_⟩
            refine lc_map (fun x => .bl (isStr x)) (fun _ => trivial) (fun x hx acc K1 k => ?_) ?_
            · walk_at "r"
              exact ⟨(hd.mem hx).le (Le.new (.refl m) hp), k _ (.refl _)⟩
            · walk_at "r"
              refine ⟨xs.map isStr, ?_, ?_⟩
              · walk_at "r"
                rw [up_same, List.map_map]
                rfl
              · refine ⟨m, Le.new (.refl m) hp, ?_⟩
                rw [show canHush (.tup xs) = (xs.map isStr).all id by
                  show (decide ((xs.length : Int) ≤ 3) && xs.all isStr) = _
                  rw [decide_eq_true (by omega), Bool.true_and, List.all_map]
                  rfl] at q
                exact q
        | _ => cases h1
      · rw [show canHush x = false by
          cases x <;> first | rfl | (show (decide _ && _) = false; rw [show decide _ = false from h1, Bool.false_and])] at q
        exact .of q
    · exact h.elim
end
end Hn

set_option Elab.async false
set_option linter.all false
set_option maxRecDepth 100000
set_option maxHeartbeats 8000000
namespace Hn
open PySem PySem.Spec PyProof.Rows L2 Sy Lm
section
variable {P : Program} {w : World} {K : PySem.W.Frag} {mg : Str → Option Value} {base : Heap}
local macro_rules | `(tactic| walk_at "r") => `(tactic| (conv => whnf))
local macro_rules | `(tactic| walk_at "sp") => `(tactic| (first | rfl | contradiction | exact (False.elim ‹_›)))
local macro_rules | `(tactic| walk_at "len") => `(tactic| (exact Nat.le_trans (show _ ≤ 100000 by first | (simp; done) | (rw [rngS_length]; decide)) (by decide)))
local macro_rules | `(tactic| walk_at "f") => `(tactic| (refine Br_i (fun hb => Bool.noConfusion (show false = true from hb)) (fun _ => ?_)))
local macro_rules | `(tactic| walk_at "t") => `(tactic| (refine Br_i (fun _ => ?_) (fun hb => Bool.noConfusion (show true = false from hb))))
local macro_rules | `(tactic| walk_at "le") => `(tactic| first | exact Le.refl _ | (refine Le.put ?_; walk_at "le") | (refine Le.new ?_ (by assumption); walk_at "le"))
theorem gath_tup {lo : Int} {x : SV} {r : List SV} (h : isTupN x 2 = false) : gath lo (x :: r) = false := by
  cases x with
  | tup xs => rcases xs with _ | ⟨a, _ | ⟨b, _ | ⟨c, q⟩⟩⟩ <;> first | rfl | (simp [isTupN] at h; done) | (cases a <;> rfl)
  | _ => rfl
theorem ok_can_be_gather (T : Tx K mg) : FnOk P w K mg base CX0 3 (He.ga K "can_be_gather") T.fd_can_be_gather ["gather"] (lift K spGath) := by
  have G_is_tuple_of := ok_is_tuple_of (P := P) (w := w) (base := base) T
  have b_is_tuple_of := b_is_tuple_of T
  have G_is_tuple_up_to := ok_is_tuple_up_to (P := P) (w := w) (base := base) T
  have b_is_tuple_up_to := b_is_tuple_up_to T
  have G_is_whole := ok_is_whole (P := P) (w := w) (base := base) T
  have b_is_whole := b_is_whole T
  refine fn_sy T.F_can_be_gather sc_can_be_gather (fun svs m SX Sv h => ?_) (fun cdv A outer s H E hr => ⟨_, _, (gss_cons (gs_if (gt_not (gt_val (ge_call G_is_tuple_up_to (hr.mono (by decide)) (by rfl) T.g_is_tuple_up_to T.k_is_tuple_up_to b_is_tuple_up_to .nil (fun _ => .nil) pass0 (ga_cons (gv 0) (ga_cons (ge_gi (by rfl) T.i_MOST_GATHERED) ga_nil))))) (gss_one (gs_ret ge_bl)) gss_nil)
      (gss_cons (gs_set (i := 1) sc_can_be_gather.nd rfl (.inl rfl) ge_int)
      (gss_cons (gs_for PassesOwn.never rfl (gi_seq (gv 0)) (gg_name (i := 2) sc_can_be_gather.nd rfl (.inl rfl))
      (gss_cons (gs_if (gt_not (gt_val (ge_call G_is_tuple_of (hr.mono (by decide)) (by rfl) T.g_is_tuple_of T.k_is_tuple_of b_is_tuple_of .nil (fun _ => .nil) pass0 (ga_cons (gv 2) (ga_cons ge_int ga_nil))))) (gss_one (gs_ret ge_bl)) gss_nil)
      (gss_cons (gs_asg (gv 2) (gg_tup 2 (by rfl) (ggs_cons (gg_name (i := 3) sc_can_be_gather.nd rfl (.inl rfl)) (ggs_cons (gg_name (i := 4) sc_can_be_gather.nd rfl (.inl rfl)) ggs_nil))))
      (gss_cons (gs_if (gw_pt (gw_or (gt_not (gt_val (ge_call G_is_whole (hr) (by rfl) T.g_is_whole T.k_is_whole b_is_whole .nil (fun _ => .nil) pass0 (ga_cons (gv 3) (ga_cons (gv 1) (ga_cons (ge_gi (by rfl) T.i_LAST_KIND) ga_nil)))))) (gw_or1 (gt_not (gt_val (ge_call G_is_whole (hr) (by rfl) T.g_is_whole T.k_is_whole b_is_whole .nil (fun _ => .nil) pass0 (ga_cons (gv 4) (ga_cons ge_int (ga_cons (ge_gi (by rfl) T.i_MOST_SPAN) ga_nil))))))))) (gss_one (gs_ret ge_bl)) gss_nil)
      (gss_one (gs_set (i := 1) sc_can_be_gather.nd rfl (.inl rfl) (ge_op (op_addG K) sim_add (gv 3) ge_int)))))))
      (gss_one (gs_ret ge_bl))))), fun svs m SX Sv h => ?_⟩)
  · unfold spGath at h
    split at h <;> first | rfl | exact h.elim
  · unfold spGath at h
    split at h
    · rename_i x
      obtain ⟨hd, q⟩ := h
      walk_at "r"
      refine ⟨hd.dat, ?_⟩
      walk_at "r"
      refine Br_i (fun h1 => ?_) (fun h1 => ?_)
      · walk_at "r"
        rw [show canGath x = false by
          cases x <;> first | rfl | (show (decide _ && _) = false; rw [show decide _ = false by simpa [isTupU] using h1, Bool.false_and])] at q
        exact .of q
      · obtain ⟨xs, rfl⟩ : ∃ xs, x = .tup xs := by cases x <;> first | exact ⟨_, rfl⟩ | (cases h1; done)
        have hl : xs.length ≤ 4 := by simp [isTupU] at h1; omega
        have hg : canGath (.tup xs) = gath 0 xs := by
          show (decide ((xs.length : Int) ≤ 4) && gath 0 xs) = _
          rw [decide_eq_true (by omega), Bool.true_and]
        cases hd with
        | tup hd =>
          walk_at "r"
          refine ⟨xs, rfl, ?_⟩
          walk_at "r"
          refine for_inv (fun r δ m' => m' = m ∧ ∃ lo a b c, δ = [some (.tup xs), some (.int lo), a, b, c] ∧ gath lo r = gath 0 xs ∧ DDs m r) ⟨rfl, 0, none, none, none, rfl, rfl, hd⟩ (fun x r δ m' h => ?_) (fun δ m' h => ?_)
          · obtain ⟨rfl, lo, a, b, c, rfl, hr, hdr⟩ := h
            refine ⟨trivial, ?_⟩
            cases hdr with
            | cons hdx hdr =>
              walk_at "r"
              refine ⟨hdx.dat, ?_⟩
              walk_at "r"
              refine Br_i (fun h2 => ?_) (fun h2 => ?_)
              · walk_at "r"
                rw [hg, ← hr, gath_tup (by simpa using h2)] at q
                exact .of q
              · obtain ⟨k, s, rfl⟩ := tup2 (by simpa using h2)
                cases hdx with
                | tup hks =>
                  walk_at "r"
                  refine ⟨rfl, ?_⟩
                  walk_at "r"
                  refine ⟨(hks.mem (by simp)).dat, ?_⟩
                  have stop : (isWh k lo 7 && isWh s 1 12) = false → Fg (Sv (.bl false)) m' := fun e => by
                    rw [hg, ← hr, show gath lo (.tup [k, s] :: r) = false by
                      cases k <;> first | rfl | (show (isWh _ lo 7 && isWh s 1 12 && _) = false; rw [e, Bool.false_and])] at q
                    exact .of q
                  walk_at "r"
                  refine Br_i (fun h3 => ?_) (fun h3 => ?_)
                  · walk_at "r"
                    exact Br_t (by walk_at "r"; exact stop (by rw [show isWh k lo 7 = false by simpa using h3, Bool.false_and]))
                  · walk_at "r"
                    refine ⟨(hks.mem (by simp)).dat, ?_⟩
                    walk_at "r"
                    refine Br_i (fun h4 => ?_) (fun h4 => ?_)
                    · walk_at "r"
                      exact stop (by rw [show isWh s 1 12 = false by simpa using h4, Bool.and_false])
                    · have h3 : isWh k lo 7 = true := by simpa using h3
                      have h4 : isWh s 1 12 = true := by simpa using h4
                      obtain ⟨i, rfl, _⟩ := wh_int h3
                      walk_at "r"
                      refine .of ⟨rfl, i + 1, _, _, _, rfl, ?_, hdr⟩
                      rw [← hr]
                      show _ = (isWh (.int i) lo 7 && isWh s 1 12 && gath (i + 1) r)
                      rw [h3, h4]
                      rfl
          · obtain ⟨rfl, lo, a, b, c, rfl, hr, hdr⟩ := h
            refine ⟨trivial, ?_⟩
            walk_at "r"
            rw [hg, ← hr] at q
            exact .of q
    · exact h.elim
end
end Hn

set_option Elab.async false
set_option linter.all false
set_option maxRecDepth 100000
set_option maxHeartbeats 8000000
namespace Hn
open PySem PySem.Spec PyProof.Rows L2 Sy Lm
section
variable {P : Program} {w : World} {K : PySem.W.Frag} {mg : Str → Option Value} {base : Heap}
local macro_rules | `(tactic| walk_at "r") => `(tactic| (conv => whnf))
local macro_rules | `(tactic| walk_at "sp") => `(tactic| (first | rfl | contradiction | exact (False.elim ‹_›)))
local macro_rules | `(tactic| walk_at "len") => `(tactic| (exact Nat.le_trans (show _ ≤ 100000 by first | (simp; done) | (rw [rngS_length]; decide)) (by decide)))
local macro_rules | `(tactic| walk_at "f") => `(tactic| (refine Br_i (fun hb => Bool.noConfusion (show false = true from hb)) (fun _ => ?_)))
local macro_rules | `(tactic| walk_at "t") => `(tactic| (refine Br_i (fun _ => ?_) (fun hb => Bool.noConfusion (show true = false from hb))))
local macro_rules | `(tactic| walk_at "le") => `(tactic| first | exact Le.refl _ | (refine Le.put ?_; walk_at "le") | (refine Le.new ?_ (by assumption); walk_at "le"))
def firstF : List Bool → Option Nat
  | [] => none
  | false :: _ => some 0
  | true :: r => (firstF r).map (· + 1)
theorem firstF_none : ∀ {bs : List Bool}, firstF bs = none ↔ bs.all id = true
  | [] => by simp [firstF]
  | false :: r => by simp [firstF]
  | true :: r => by simp [firstF, firstF_none (bs := r)]
theorem firstF_some : ∀ {bs : List Bool} {j : Nat}, firstF bs = some j → bs[j]? = some false ∧ ∀ i, i < j → bs[i]? = some true
  | [], _, h => by simp [firstF] at h
  | false :: r, j, h => by
    simp [firstF] at h
    subst h
    exact ⟨rfl, fun i hi => absurd hi (Nat.not_lt_zero _)⟩
  | true :: r, j, h => by
    simp only [firstF, Option.map_eq_some_iff] at h
    obtain ⟨k, h1, rfl⟩ := h
    obtain ⟨h2, h3⟩ := firstF_some h1
    refine ⟨by simpa using h2, fun i hi => ?_⟩
    cases i with
    | zero => rfl
    | succ i => simpa using h3 i (by omega)
def optV : Option Int → SV
  | none => .non
  | some i => .int i
def fitsOf (h l g w f : SV) (many : Int) : List Bool := [canHush h, isWh l 0 4, canGath g, isNon w || isWh w 1 24, isNon f || isWh f 0 (many - 1)]
def firstB (x : SV) (many : Int) : Option Int := match x with
  | .tup [h, l, g, w, f] => (firstF (fitsOf h l g w f many)).map fun (j : Nat) => (j : Int)
  | _ => some (-1)
def spFirst : SpS := fun vs m _ S => match vs with
  | [x, .int many] => DD m x ∧ S (optV (firstB x many)) m
  | _ => False
theorem tup5 {x : SV} (h : isTupN x 5 = true) : ∃ a b c d e, x = .tup [a, b, c, d, e] := by
  cases x with
  | tup xs => rcases xs with _ | ⟨a, _ | ⟨b, _ | ⟨c, _ | ⟨d, _ | ⟨e, _ | ⟨f, r⟩⟩⟩⟩⟩⟩ <;> first | exact ⟨_, _, _, _, _, rfl⟩ | (simp [isTupN] at h; done) | (simp [isTupN] at h; omega)
  | _ => cases h
theorem not_tup5 {x : SV} {many : Int} (h : isTupN x 5 = false) : firstB x many = some (-1) := by
  cases x with
  | tup xs => rcases xs with _ | ⟨a, _ | ⟨b, _ | ⟨c, _ | ⟨d, _ | ⟨e, _ | ⟨f, r⟩⟩⟩⟩⟩⟩ <;> first | rfl | (simp [isTupN] at h; done)
  | _ => rfl
theorem flat_bls : ∀ bs : List Bool, (bs.map SV.bl).all flatS = true
  | [] => rfl
  | _ :: r => by rw [List.map_cons, List.all_cons, flat_bls r]; rfl
theorem ok_first_bad_part (T : Tx K mg) : FnOk P w K mg base CX0 5 (He.ga K "first_bad_part") T.fd_first_bad_part ["row", "many"] (lift K spFirst) := by
  have G_can_be_gather := ok_can_be_gather (P := P) (w := w) (base := base) T
  have b_can_be_gather := b_can_be_gather T
  have G_can_be_hushed := ok_can_be_hushed (P := P) (w := w) (base := base) T
  have b_can_be_hushed := b_can_be_hushed T
  have G_is_tuple_of := ok_is_tuple_of (P := P) (w := w) (base := base) T
  have b_is_tuple_of := b_is_tuple_of T
  have G_is_whole := ok_is_whole (P := P) (w := w) (base := base) T
  have b_is_whole := b_is_whole T
  refine fn_sy T.F_first_bad_part sc_first_bad_part (fun svs m SX Sv h => ?_) (fun cdv A outer s H E hr => ⟨_, _, (gss_cons (gs_if (gt_not (gt_val (ge_call G_is_tuple_of (hr.mono (by decide)) (by rfl) T.g_is_tuple_of T.k_is_tuple_of b_is_tuple_of .nil (fun _ => .nil) pass0 (ga_cons (gv 0) (ga_cons (ge_gi (by rfl) T.i_MANY_PARTS) ga_nil))))) (gss_one (gs_ret (ge_gi (by rfl) T.i_NO_PART))) gss_nil)
      (gss_cons (gs_asg (gv 0) (gg_tup 5 (by rfl) (ggs_cons (gg_name (i := 2) sc_first_bad_part.nd rfl (.inl rfl)) (ggs_cons (gg_name (i := 3) sc_first_bad_part.nd rfl (.inl rfl)) (ggs_cons (gg_name (i := 4) sc_first_bad_part.nd rfl (.inl rfl)) (ggs_cons (gg_name (i := 5) sc_first_bad_part.nd rfl (.inl rfl)) (ggs_cons (gg_name (i := 6) sc_first_bad_part.nd rfl (.inl rfl)) ggs_nil)))))))
      (gss_cons (gs_set (i := 7) sc_first_bad_part.nd rfl (.inl rfl) (ge_lst (ga_cons (ge_call G_can_be_hushed (hr) (by rfl) T.g_can_be_hushed T.k_can_be_hushed b_can_be_hushed .nil (fun _ => .nil) pass0 (ga_cons (gv 2) ga_nil)) (ga_cons (ge_call G_is_whole (hr.mono (by decide)) (by rfl) T.g_is_whole T.k_is_whole b_is_whole .nil (fun _ => .nil) pass0 (ga_cons (gv 3) (ga_cons ge_int (ga_cons (ge_gi (by rfl) T.i_MOST_LEAST) ga_nil)))) (ga_cons (ge_call G_can_be_gather (hr.mono (by decide)) (by rfl) T.g_can_be_gather T.k_can_be_gather b_can_be_gather .nil (fun _ => .nil) pass0 (ga_cons (gv 4) ga_nil)) (ga_cons (ge_or (ge_cmp op_isN sim_isN (gv 5) ge_non (nomark _)) (ge_one (ge_call G_is_whole (hr.mono (by decide)) (by rfl) T.g_is_whole T.k_is_whole b_is_whole .nil (fun _ => .nil) pass0 (ga_cons (gv 5) (ga_cons ge_int (ga_cons (ge_gi (by rfl) T.i_MOST_WAIT) ga_nil)))))) (ga_cons (ge_or (ge_cmp op_isN sim_isN (gv 6) ge_non (nomark _)) (ge_one (ge_call G_is_whole (hr.mono (by decide)) (by rfl) T.g_is_whole T.k_is_whole b_is_whole .nil (fun _ => .nil) pass0 (ga_cons (gv 6) (ga_cons ge_int (ga_cons (ge_op op_sub sim_sub (gv 1) ge_int) ga_nil)))))) ga_nil)))))))
      (gss_cons (gs_if (gt_val (ge_callB (cr_allG K) sim_all (by rfl) T.z_all (by decide +kernel) (ga_cons (gv 7) ga_nil))) (gss_one (gs_ret ge_non)) gss_nil)
      (gss_one (gs_ret (ge_bm PySem.F.plainAttrs_list PySem.F.slot_list_index PySem.F.type_list_index (mt_indexG K) simk_L sim_index (gv 7) (ga_cons ge_bl ga_nil)))))))), fun svs m SX Sv h => ?_⟩)
  · unfold spFirst at h
    split at h <;> first | rfl | exact h.elim
  · unfold spFirst at h
    split at h
    · rename_i x many
      obtain ⟨hd, q⟩ := h
      walk_at "r"
      refine ⟨hd.dat, ?_⟩
      walk_at "r"
      refine Br_i (fun h1 => ?_) (fun h1 => ?_)
      · walk_at "r"
        rw [not_tup5 (by simpa using h1)] at q
        exact .of q
      · obtain ⟨a, b, c, d, e, rfl⟩ := tup5 (by simpa using h1)
        cases hd with
        | tup hd =>
          have da := hd.mem (x := a) (by simp)
          have db := hd.mem (x := b) (by simp)
          have dc := hd.mem (x := c) (by simp)
          have dd := hd.mem (x := d) (by simp)
          have de := hd.mem (x := e) (by simp)
          have q : Sv (optV ((firstF (fitsOf a b c d e many)).map fun (j : Nat) => (j : Int))) m := q
          walk_at "r"
          refine ⟨rfl, ?_⟩
          walk_at "r"
          refine ⟨da, ?_⟩
          walk_at "r"
          refine ⟨db.dat, ?_⟩
          walk_at "r"
          refine ⟨dc, ?_⟩
          have last : ∀ (bw bf : Bool), bw = (isNon d || isWh d 1 24) → bf = (isNon e || isWh e 0 (many - 1)) → ∀ p, m p = none → ∀ (bs : List Bool), bs = [canHush a, isWh b 0 4, canGath c, bw, bf] → (bs.all id = true → Fg (Sv .non) (up m p (.lst (bs.map .bl)))) ∧ (bs.all id = false → ∃ j : Nat, bs[j]? = some false ∧ (∀ i, i < j → bs[i]? = some true) ∧ Fg (Sv (.int j)) (up m p (.lst (bs.map .bl)))) := by
            intro bw bf e1 e2 p hp bs e3
            have e4 : fitsOf a b c d e many = bs := by rw [e3, e1, e2]; rfl
            rw [e4] at q
            refine ⟨fun ha => ?_, fun ha => ?_⟩
            · rw [firstF_none.mpr ha] at q
              exact ⟨m, .new (.refl m) hp, q⟩
            · cases hj : firstF bs with
              | none => rw [firstF_none.mp hj] at ha; cases ha
              | some j =>
                obtain ⟨h2, h3⟩ := firstF_some hj
                rw [hj] at q
                exact ⟨j, h2, h3, m, .new (.refl m) hp, q⟩
          refine Br_i (fun h2 => ?_) (fun h2 => ?_)
          · walk_at "r"
            refine Br_i (fun h3 => ?_) (fun h3 => ?_)
            · walk_at "r"
              refine ⟨by walk_at "len", fun p hp => ?_⟩
              obtain ⟨l1, l2⟩ := last (true) (true) (by rw [h2]; rfl) (by rw [h3]; rfl) p hp _ rfl
              walk_at "r"
              refine ⟨[canHush a, isWh b 0 4, canGath c, true, true], ?_, ?_⟩
              · walk_at "r"
                rw [up_same]
                rfl
              walk_at "r"
              refine Br_i (fun h4 => ?_) (fun h4 => ?_)
              · walk_at "r"
                exact l1 h4
              · obtain ⟨j, h5, h6, h7⟩ := l2 h4
                walk_at "r"
                refine ⟨⟨_, up_same⟩, ?_⟩
                walk_at "r"
                refine ⟨_, j, .bl false, up_same, rfl, flat_bls [canHush a, isWh b 0 4, canGath c, true, true], ?_, rfl, fun i z hi hz => ?_, ?_⟩
                · show ([canHush a, isWh b 0 4, canGath c, true, true].map SV.bl)[j]? = _
                  rw [List.getElem?_map, h5]
                  rfl
                · have hz : ([canHush a, isWh b 0 4, canGath c, true, true].map SV.bl)[i]? = some z := hz
                  rw [List.getElem?_map, h6 i hi] at hz
                  cases hz
                  rfl
                · walk_at "r"
                  exact h7
            · walk_at "r"
              refine ⟨de.dat, ?_⟩
              walk_at "r"
              refine ⟨by walk_at "len", fun p hp => ?_⟩
              obtain ⟨l1, l2⟩ := last (true) (isWh e 0 (many - 1)) (by rw [h2]; rfl) (by rw [h3]; rfl) p hp _ rfl
              walk_at "r"
              refine ⟨[canHush a, isWh b 0 4, canGath c, true, isWh e 0 (many - 1)], ?_, ?_⟩
              · walk_at "r"
                rw [up_same]
                rfl
              walk_at "r"
              refine Br_i (fun h4 => ?_) (fun h4 => ?_)
              · walk_at "r"
                exact l1 h4
              · obtain ⟨j, h5, h6, h7⟩ := l2 h4
                walk_at "r"
                refine ⟨⟨_, up_same⟩, ?_⟩
                walk_at "r"
                refine ⟨_, j, .bl false, up_same, rfl, flat_bls [canHush a, isWh b 0 4, canGath c, true, isWh e 0 (many - 1)], ?_, rfl, fun i z hi hz => ?_, ?_⟩
                · show ([canHush a, isWh b 0 4, canGath c, true, isWh e 0 (many - 1)].map SV.bl)[j]? = _
                  rw [List.getElem?_map, h5]
                  rfl
                · have hz : ([canHush a, isWh b 0 4, canGath c, true, isWh e 0 (many - 1)].map SV.bl)[i]? = some z := hz
                  rw [List.getElem?_map, h6 i hi] at hz
                  cases hz
                  rfl
                · walk_at "r"
                  exact h7
          · walk_at "r"
            refine ⟨dd.dat, ?_⟩
            walk_at "r"
            refine Br_i (fun h3 => ?_) (fun h3 => ?_)
            · walk_at "r"
              refine ⟨by walk_at "len", fun p hp => ?_⟩
              obtain ⟨l1, l2⟩ := last (isWh d 1 24) (true) (by rw [h2]; rfl) (by rw [h3]; rfl) p hp _ rfl
              walk_at "r"
              refine ⟨[canHush a, isWh b 0 4, canGath c, isWh d 1 24, true], ?_, ?_⟩
              · walk_at "r"
                rw [up_same]
                rfl
              walk_at "r"
              refine Br_i (fun h4 => ?_) (fun h4 => ?_)
              · walk_at "r"
                exact l1 h4
              · obtain ⟨j, h5, h6, h7⟩ := l2 h4
                walk_at "r"
                refine ⟨⟨_, up_same⟩, ?_⟩
                walk_at "r"
                refine ⟨_, j, .bl false, up_same, rfl, flat_bls [canHush a, isWh b 0 4, canGath c, isWh d 1 24, true], ?_, rfl, fun i z hi hz => ?_, ?_⟩
                · show ([canHush a, isWh b 0 4, canGath c, isWh d 1 24, true].map SV.bl)[j]? = _
                  rw [List.getElem?_map, h5]
                  rfl
                · have hz : ([canHush a, isWh b 0 4, canGath c, isWh d 1 24, true].map SV.bl)[i]? = some z := hz
                  rw [List.getElem?_map, h6 i hi] at hz
                  cases hz
                  rfl
                · walk_at "r"
                  exact h7
            · walk_at "r"
              refine ⟨de.dat, ?_⟩
              walk_at "r"
              refine ⟨by walk_at "len", fun p hp => ?_⟩
              obtain ⟨l1, l2⟩ := last (isWh d 1 24) (isWh e 0 (many - 1)) (by rw [h2]; rfl) (by rw [h3]; rfl) p hp _ rfl
              walk_at "r"
              refine ⟨[canHush a, isWh b 0 4, canGath c, isWh d 1 24, isWh e 0 (many - 1)], ?_, ?_⟩
              · walk_at "r"
                rw [up_same]
                rfl
              walk_at "r"
              refine Br_i (fun h4 => ?_) (fun h4 => ?_)
              · walk_at "r"
                exact l1 h4
              · obtain ⟨j, h5, h6, h7⟩ := l2 h4
                walk_at "r"
                refine ⟨⟨_, up_same⟩, ?_⟩
                walk_at "r"
                refine ⟨_, j, .bl false, up_same, rfl, flat_bls [canHush a, isWh b 0 4, canGath c, isWh d 1 24, isWh e 0 (many - 1)], ?_, rfl, fun i z hi hz => ?_, ?_⟩
                · show ([canHush a, isWh b 0 4, canGath c, isWh d 1 24, isWh e 0 (many - 1)].map SV.bl)[j]? = _
                  rw [List.getElem?_map, h5]
                  rfl
                · have hz : ([canHush a, isWh b 0 4, canGath c, isWh d 1 24, isWh e 0 (many - 1)].map SV.bl)[i]? = some z := hz
                  rw [List.getElem?_map, h6 i hi] at hz
                  cases hz
                  rfl
                · walk_at "r"
                  exact h7
    · exact h.elim
end
end Hn

set_option Elab.async false
set_option linter.all false
set_option maxRecDepth 100000
set_option maxHeartbeats 8000000
namespace Hn
open PySem PySem.Spec PyProof.Rows L2 Sy Lm
section
variable {P : Program} {w : World} {K : PySem.W.Frag} {mg : Str → Option Value} {base : Heap}
local macro_rules | `(tactic| walk_at "r") => `(tactic| (conv => whnf))
local macro_rules | `(tactic| walk_at "sp") => `(tactic| (first | rfl | contradiction | exact (False.elim ‹_›)))
local macro_rules | `(tactic| walk_at "len") => `(tactic| (exact Nat.le_trans (show _ ≤ 100000 by first | (simp; done) | (rw [rngS_length]; decide)) (by decide)))
local macro_rules | `(tactic| walk_at "f") => `(tactic| (refine Br_i (fun hb => Bool.noConfusion (show false = true from hb)) (fun _ => ?_)))
local macro_rules | `(tactic| walk_at "t") => `(tactic| (refine Br_i (fun _ => ?_) (fun hb => Bool.noConfusion (show true = false from hb))))
local macro_rules | `(tactic| walk_at "le") => `(tactic| first | exact Le.refl _ | (refine Le.put ?_; walk_at "le") | (refine Le.new ?_ (by assumption); walk_at "le"))
structure PR where
  hs : List (Int × Int)
  least : Int
  gs : List (Int × Int)
  wait : Option Int
  fur : Option Int
def pairV (p : Int × Int) : SV := .tup [.int p.1, .int p.2]
def PR.sv (r : PR) : SV := .tup [.tup (r.hs.map pairV), .int r.least, .tup (r.gs.map pairV), optV r.wait, optV r.fur]
def gOk : Int → List (Int × Int) → Prop
  | _, [] => True
  | lo, p :: r => lo ≤ p.1 ∧ p.1 ≤ 7 ∧ 1 ≤ p.2 ∧ p.2 ≤ 12 ∧ gOk (p.1 + 1) r
structure PR.Ok (many : Nat) (r : PR) : Prop where
  hl : r.hs.length ≤ 3
  hs : ∀ p ∈ r.hs, (0 ≤ p.1 ∧ p.1 ≤ 23) ∧ (0 ≤ p.2 ∧ p.2 ≤ 23) ∧ p.1 ≠ p.2
  le : 0 ≤ r.least ∧ r.least ≤ 4
  gl : r.gs.length ≤ 4
  gs : gOk 0 r.gs
  wt : ∀ i, r.wait = some i → 1 ≤ i ∧ i ≤ 24
  fu : ∀ i, r.fur = some i → 0 ≤ i ∧ i < many
def RV (R : List PR) : SV := .tup (R.map PR.sv)
structure RulesOk (R : List PR) : Prop where
  one : 1 ≤ R.length
  six : R.length ≤ 6
  all : ∀ r ∈ R, r.Ok R.length
theorem wh_of {i lo hi : Int} (h1 : lo ≤ i) (h2 : i ≤ hi) : isWh (.int i) lo hi = true := by
  show (decide (lo ≤ i) && decide (i ≤ hi)) = true
  rw [decide_eq_true h1, decide_eq_true h2]
  rfl
theorem gath_of : ∀ (gs : List (Int × Int)) (lo : Int), gOk lo gs → gath lo (gs.map pairV) = true
  | [], _, _ => rfl
  | p :: r, lo, h => by
    obtain ⟨h1, h2, h3, h4, h5⟩ := h
    show (isWh (.int p.1) lo 7 && isWh (.int p.2) 1 12 && gath (p.1 + 1) (r.map pairV)) = true
    rw [wh_of h1 h2, wh_of h3 h4, gath_of r _ h5]
    rfl
theorem PR.Ok.good {many : Nat} {r : PR} (h : r.Ok many) : firstB r.sv (many : Int) = none := by
  have h1 : canHush (.tup (r.hs.map pairV)) = true := by
    have hl := h.hl
    show (decide (((r.hs.map pairV).length : Int) ≤ 3) && (r.hs.map pairV).all isStr) = true
    rw [decide_eq_true (by rw [List.length_map]; omega), Bool.true_and, List.all_map, List.all_eq_true]
    intro p hp
    obtain ⟨a, b, c⟩ := h.hs p hp
    show (isWh (.int p.1) 0 23 && (isWh (.int p.2) 0 23 && !decide (p.1 = p.2))) = true
    rw [wh_of a.1 a.2, wh_of b.1 b.2, decide_eq_false c]
    rfl
  have h2 : canGath (.tup (r.gs.map pairV)) = true := by
    have hl := h.gl
    show (decide (((r.gs.map pairV).length : Int) ≤ 4) && gath 0 (r.gs.map pairV)) = true
    rw [decide_eq_true (by rw [List.length_map]; omega), Bool.true_and]
    exact gath_of _ _ h.gs
  have h3 : isWh (.int r.least) 0 4 = true := wh_of h.le.1 h.le.2
  have h4 : (isNon (optV r.wait) || isWh (optV r.wait) 1 24) = true := by
    cases e : r.wait with
    | none => rfl
    | some i =>
      obtain ⟨a, b⟩ := h.wt i e
      show (false || isWh (.int i) 1 24) = true
      rw [wh_of a b]
      rfl
  have h5 : (isNon (optV r.fur) || isWh (optV r.fur) 0 ((many : Int) - 1)) = true := by
    cases e : r.fur with
    | none => rfl
    | some i =>
      obtain ⟨a, b⟩ := h.fu i e
      show (false || isWh (.int i) 0 ((many : Int) - 1)) = true
      rw [wh_of a (by omega)]
      rfl
  show ((firstF (fitsOf _ _ _ _ _ _)).map fun (j : Nat) => (j : Int)) = none
  rw [firstF_none.mpr]
  · rfl
  · unfold fitsOf
    rw [h1, h2, h3, h4, h5]
    rfl
theorem dd_opt {m : Mem} (o : Option Int) : DD m (optV o) := by cases o <;> constructor
theorem dd_pairs {m : Mem} (ps : List (Int × Int)) : DD m (.tup (ps.map pairV)) := .tup (.of fun x hx => by
  obtain ⟨p, _, rfl⟩ := List.mem_map.mp hx
  exact .tup (.cons (.int _) (.cons (.int _) .nil)))
theorem PR.dd {m : Mem} (r : PR) : DD m r.sv := .tup (.cons (dd_pairs _) (.cons (.int _) (.cons (dd_pairs _) (.cons (dd_opt _) (.cons (dd_opt _) .nil)))))
def spRules : SpS := fun vs m _ S => ∃ R, vs = [RV R] ∧ RulesOk R ∧ S .non m
theorem rv_get {R : List PR} {i : Nat} (h : i < R.length) : atI (R.map PR.sv) (i : Int) = some (R[i]).sv := atI_nat (by rw [List.getElem?_map, List.getElem?_eq_getElem h]; rfl)
theorem ok_refuse_bad_rules (T : Tx K mg) : FnOk P w K mg base CX0 6 (He.ga K "refuse_bad_rules") T.fd_refuse_bad_rules ["rules"] (lift K spRules) := by
  have G_first_bad_part := ok_first_bad_part (P := P) (w := w) (base := base) T
  have b_first_bad_part := b_first_bad_part T
  refine fn_sy T.F_refuse_bad_rules sc_refuse_bad_rules (fun svs m SX Sv h => ?_) (fun cdv A outer s H E hr => ⟨_, _, (gss_cons (gs_if (gw_pt (gw_or (gt_not (gt_val (ge_callB (cr_isi K) sim_isi (by rfl) T.z_isinstance (by decide +kernel) (ga_cons (gv 0) (ga_cons (ge_ty (n := "tuple") (by rfl) T.z_tuple (by decide +kernel)) ga_nil))))) (gw_or1 (gt_cmp (op_eqG K hr.units) sim_eq (ge_callB (cr_len K) sim_len (by rfl) T.z_len (by decide +kernel) (ga_cons (gv 0) ga_nil)) ge_int (nomark _))))) (gss_one gs_never) gss_nil)
      (gss_cons (gs_set (i := 1) sc_refuse_bad_rules.nd rfl (.inl rfl) (ge_callB (call_min2 rfl) sim_min2 (by rfl) T.z_min (by decide +kernel) (ga_cons (ge_callB (cr_len K) sim_len (by rfl) T.z_len (by decide +kernel) (ga_cons (gv 0) ga_nil)) (ga_cons (ge_gi (by rfl) T.i_MOST_PERSONS) ga_nil))))
      (gss_cons (gs_for PassesOwn.never rfl (gi_range1 (by rfl) T.z_range (ga_cons (gv 1) ga_nil)) (gg_name (i := 2) sc_refuse_bad_rules.nd rfl (.inl rfl))
      (gss_cons (gs_set (i := 3) sc_refuse_bad_rules.nd rfl (.inl rfl) (ge_call G_first_bad_part (hr) (by rfl) T.g_first_bad_part T.k_first_bad_part b_first_bad_part .nil (fun _ => .nil) pass0 (ga_cons (ge_ix (ix_G K) sim_ix (gv 0) (gv 2) (fun _ _ => rfl)) (ga_cons (gv 1) ga_nil))))
      (gss_one (gs_if (gt_cmp op_notN sim_notN (gv 3) ge_non (nomark _)) (gss_one gs_never) gss_nil))))
      (gss_one (gs_if (gt_cmp op_gt sim_gt (ge_callB (cr_len K) sim_len (by rfl) T.z_len (by decide +kernel) (ga_cons (gv 0) ga_nil)) (ge_gi (by rfl) T.i_MOST_PERSONS) (nomark _)) (gss_one gs_never) gss_nil))))), fun svs m SX Sv h => ?_⟩)
  · obtain ⟨R, rfl, _⟩ := h
    rfl
  · obtain ⟨R, rfl, ok, q⟩ := h
    have h1 := ok.one
    have h6 := ok.six
    walk_at "r"
    refine ⟨by decide, _, rfl, ?_⟩
    walk_at "r"
    walk_at "f"
    walk_at "r"
    refine ⟨_, rfl, ?_⟩
    walk_at "r"
    refine Br_i (fun h2 => ?_) (fun h2 => ?_)
    · have := of_decide_eq_true h2
      rw [List.length_map] at this
      omega
    walk_at "r"
    refine ⟨_, rfl, ?_⟩
    walk_at "r"
    rw [List.length_map, if_neg (by omega)]
    refine ⟨⟨by omega, by omega⟩, ?_⟩
    walk_at "r"
    refine for_inv (fun r δ m' => m' = m ∧ ∃ a b, δ = [some (RV R), some (.int R.length), a, b] ∧ ∀ x ∈ r, ∃ i : Nat, x = .int i ∧ i < R.length) ⟨rfl, none, none, rfl, fun x hx => ?_⟩ (fun x r δ m' h => ?_) (fun δ m' h => ?_)
    · obtain ⟨i, hi⟩ := List.getElem?_of_mem hx
      obtain ⟨h3, h4⟩ := rngS_get _ _ _ _ hi
      exact ⟨i, by rw [h4]; simp, by omega⟩
    · obtain ⟨rfl, a, b, rfl, hr⟩ := h
      obtain ⟨i, rfl, hi⟩ := hr x List.mem_cons_self
      refine ⟨trivial, ?_⟩
      walk_at "r"
      refine ⟨_, rv_get hi, ?_⟩
      walk_at "r"
      refine ⟨PR.dd _, ?_⟩
      rw [(ok.all _ (List.getElem_mem hi)).good]
      walk_at "r"
      refine Br_f ?_
      walk_at "r"
      exact .of ⟨rfl, _, _, rfl, fun x hx => hr x (List.mem_cons_of_mem _ hx)⟩
    · obtain ⟨rfl, a, b, rfl, _⟩ := h
      refine ⟨trivial, ?_⟩
      walk_at "r"
      refine ⟨_, rfl, ?_⟩
      walk_at "r"
      refine Br_i (fun h2 => ?_) (fun h2 => ?_)
      · have := of_decide_eq_true h2
        rw [List.length_map] at this
        omega
      · exact .of q
/-- the same with plain tuples for what dict() takes -/
def PR.pv (r : PR) : SV := .tup [.tup (r.hs.map pairV), .int r.least, .ptup (r.gs.map pairV), optV r.wait, optV r.fur]
def PV (R : List PR) : SV := .tup (R.map PR.pv)
theorem pv_wk (r : PR) : Wk r.pv r.sv := .tup (.cons (.refl _) (.cons (.refl _) (.cons (.ptup (Wks.same _)) (Wks.same _))))
theorem PV_wk (R : List PR) : Wk (PV R) (RV R) := .tup (Wks.map pv_wk R)
def spRulesP : SpS := fun vs m _ S => ∃ R, vs = [PV R] ∧ RulesOk R ∧ S .non m
theorem ok_refuse_bad_rulesP (T : Tx K mg) : FnOk P w K mg base CX0 6 (He.ga K "refuse_bad_rules") T.fd_refuse_bad_rules ["rules"] (lift K spRulesP) := fn_wk (ok_refuse_bad_rules T) fun vs m SX S ⟨R, e, ok, q⟩ => ⟨[RV R], by rw [e]; exact .cons (PV_wk R) .nil, R, rfl, ok, q⟩
end
end Hn

set_option Elab.async false
set_option linter.all false
set_option maxRecDepth 100000
set_option maxHeartbeats 8000000
namespace Hn
open PySem PySem.Spec PyProof.Rows L2 Sy Lm
section
variable {P : Program} {w : World} {K : PySem.W.Frag} {mg : Str → Option Value} {base : Heap}
local macro_rules | `(tactic| walk_at "r") => `(tactic| (conv => whnf))
local macro_rules | `(tactic| walk_at "sp") => `(tactic| (first | rfl | contradiction | exact (False.elim ‹_›)))
local macro_rules | `(tactic| walk_at "len") => `(tactic| (exact Nat.le_trans (show _ ≤ 100000 by first | (simp; done) | (rw [rngS_length]; decide)) (by decide)))
local macro_rules | `(tactic| walk_at "f") => `(tactic| (refine Br_i (fun hb => Bool.noConfusion (show false = true from hb)) (fun _ => ?_)))
local macro_rules | `(tactic| walk_at "t") => `(tactic| (refine Br_i (fun _ => ?_) (fun hb => Bool.noConfusion (show true = false from hb))))
local macro_rules | `(tactic| walk_at "le") => `(tactic| first | exact Le.refl _ | (refine Le.put ?_; walk_at "le") | (refine Le.new ?_ (by assumption); walk_at "le"))
theorem lay_ints : ∀ ns : List Int, PyData.canLayAll0 (ns.map PyData.int) = true ∧ PyData.depthAll (ns.map PyData.int) ≤ 1
  | [] => ⟨by simp [PyData.canLayAll0], by simp [PyData.depthAll]⟩
  | n :: r => by
    have h := lay_ints r
    have h2 := h.2
    refine ⟨by simp [PyData.canLayAll0, PyData.canLay0, h.1], ?_⟩
    simp only [List.map_cons, PyData.depthAll, PyData.depth]
    omega
theorem shaped_ints : ∀ ns : List Int, SeqAt.shaped (.list (ns.map PyData.int)) = true := fun ns => by
  have h := lay_ints ns
  have h2 := h.2
  unfold SeqAt.shaped
  have h3 : (1 + PyData.depthAll (ns.map PyData.int)) ≤ 64 := by omega
  simp only [PyData.canLay0, PyData.depth, h.1, Bool.true_and]
  exact decide_eq_true (by first | exact h3 | (rw [Nat.add_comm]; exact h3))
theorem rds_ints {m : Mem} : ∀ ns : List Int, Rds m (ns.map SV.int) (ns.map PyData.int)
  | [] => .nil
  | _ :: r => .cons (.int _) (rds_ints r)
def spTakeO : SpS := fun vs m _ S => ∃ b c sv ns k, vs = [.ref b, .int k] ∧ m b = some (.lst [.ref c, .int sv]) ∧ m c = some (.lst (List.map SV.int ns)) ∧ ns.length ≤ 63 ∧ 0 < k ∧ k.natAbs < 2 ^ 8000 ∧
  ∀ (n : Int) (ns' : List Int) (sv' : Int), 0 ≤ n → n < k → ns'.length ≤ 63 → S (.int n) (up (up m c (.lst (ns'.map .int))) b (.lst [.ref c, .int sv']))
def IsBox (m : Mem) (b : Addr) : Prop := ∃ c, m b = some (.box c) ∧ m c = some .bxi
def spTake : SpS := fun vs m _ S => match vs with
  | [.ref b, .int k] => IsBox m b ∧ (0 < k ∧ k.natAbs < 2 ^ 8000) ∧ ∀ n : Int, 0 ≤ n → n < k → S (.int n) m
  | _ => False
theorem take_imp {vs : List V} {H : Hp} {Q : VK} {E : XK} (h : lift K spTake vs H Q E) : lift K spTakeO vs H Q E := by
  obtain ⟨F, svs, m, SX, S, M, r, h, hx, c⟩ := h
  unfold spTake at h
  split at h
  · rename_i b k
    obtain ⟨⟨c0, hb, hc⟩, ⟨k0, k1⟩, q⟩ := h
    have ne : c0 ≠ b := fun e => by rw [e, hb] at hc; cases hc
    obtain ⟨sv, eb⟩ := (M.at_ b _ hb).2
    obtain ⟨ns, ec, hl⟩ := (M.at_ c0 _ hc).2
    have M1 : MR K F H (up m c0 (.lst (ns.map .int))) := M.reab hc (fun u e x => by rw [ec] at e; cases e; exact x) ⟨_, ec, vrs_of_ints ns⟩
    have M2 : MR K F H (up (up m c0 (.lst (ns.map .int))) b (.lst [.ref c0, .int sv])) := M1.reab (by rw [up_ne (Ne.symm ne)]; exact hb) (fun u e x => by rw [eb] at e; cases e; exact x) ⟨_, eb, .cons (.ref _) (.cons (.int _) .nil)⟩
    refine ⟨F, _, _, SX, fun v m' => ∃ (n : Int) (ns' : List Int) (sv' : Int), v = .int n ∧ ns'.length ≤ 63 ∧ 0 ≤ n ∧ n < k ∧ m' = up (up m c0 (.lst (ns'.map .int))) b (.lst [.ref c0, .int sv']), M2, r, ⟨b, c0, sv, ns, k, rfl, up_same, by rw [up_ne ne]; exact up_same, hl, k0, k1, fun n ns' sv' n0 n1 hl' => ⟨n, ns', sv', rfl, hl', n0, n1, ?_⟩⟩, hx, fun v F' H' sv2 m2 s2 M3 v3 h3 => ?_⟩
    · rw [up_comm (a := b) (b := c0) (Ne.symm ne), up_up, up_up]
    · obtain ⟨n, ns', sv', rfl, hl', n0, n1, rfl⟩ := h3
      refine c v F' H' (.int n) m s2 ?_ v3 (q n n0 n1)
      obtain ⟨ws, e1, r1⟩ := M3.lst_ up_same
      obtain ⟨us, e2, r2⟩ := M3.lst_ (show (up (up m c0 (.lst (ns'.map .int))) b (.lst [.ref c0, .int sv'])) c0 = _ by rw [up_ne ne]; exact up_same)
      obtain rfl := vrs_ints r2
      obtain ⟨w1, w2, rfl, r3, r4⟩ := vrs_two r1
      obtain rfl := vr_ref r3
      obtain rfl := vr_int r4
      have M4 := M3.reab (o := .box c0) up_same (fun u e x => by rw [e1] at e; cases e; exact x) ⟨sv', e1⟩
      have M5 := M4.reab (a := c0) (o := .bxi) (o0 := .lst (ns'.map .int)) (by rw [up_ne ne, up_ne ne, up_same]) (fun u e x => by rw [e2] at e; cases e; exact x) ⟨ns', e2, hl'⟩
      rw [up_up, up_comm (Ne.symm ne), up_up] at M5
      rwa [up_id hc, up_id hb] at M5
  · exact h.elim
theorem okO_law_take (T : Tx K mg) : FnOk P w K mg base CX0 1 (He.ga K "_law_take") T.fd__law_take ["_law_box", "_law_many"] (lift K spTakeO) := by
  refine fn_sy T.F__law_take sc_law_take (fun svs m SX Sv h => ?_) (fun cdv A outer s H E hr => ⟨_, _, (gss_cons (gs_if (gt_cmp (op_eqG K hr.units) sim_eq (ge_ix (ix_G K) sim_ix (gv 0) ge_int (fun _ _ => rfl)) (ge_lst ga_nil) (nomark _)) (gss_cons (gs_asg (ge_op op_mod sim_mod (ge_op op_mulG sim_mul (ge_ix (ix_G K) sim_ix (gv 0) ge_int (fun _ _ => rfl)) ge_int) ge_int) (gg_subL (gv 0) ge_int))
      (gss_one (gs_ret (ge_op op_mod sim_mod (ge_op op_fdivG sim_fdiv (ge_ix (ix_G K) sim_ix (gv 0) ge_int (fun _ _ => rfl)) ge_int) (gv 1))))) gss_nil)
      (gss_cons (gs_set (i := 2) sc_law_take.nd rfl (.inl rfl) (ge_ix (ix_G K) sim_ix (ge_ix (ix_G K) sim_ix (gv 0) ge_int (fun _ _ => rfl)) ge_int (fun _ _ => rfl)))
      (gss_cons (gs_asg (ge_op op_fdivG sim_fdiv (gv 2) (gv 1)) (gg_subL (ge_ix (ix_G K) sim_ix (gv 0) ge_int (fun _ _ => rfl)) ge_int))
      (gss_cons (gs_if (gw_pt (gw_or (gt_cmp (op_eqG K hr.units) sim_eq (ge_ix (ix_G K) sim_ix (ge_ix (ix_G K) sim_ix (gv 0) ge_int (fun _ _ => rfl)) ge_int (fun _ _ => rfl)) ge_int (nomark _)) (gw_or1 (gt_cmp (op_eqG K hr.units) sim_eq (ge_ix (ix_G K) sim_ix (ge_ix (ix_G K) sim_ix (gv 0) ge_int (fun _ _ => rfl)) ge_int (fun _ _ => rfl)) (ge_un un_neg sim_neg ge_int) (nomark _))))) (gss_one (gs_expr (ge_bm PySem.F.plainAttrs_list PySem.F.slot_list_pop PySem.F.type_list_pop mt_popAt simk_L sim_popAt (ge_ix (ix_G K) sim_ix (gv 0) ge_int (fun _ _ => rfl)) (ga_cons ge_int ga_nil)))) gss_nil)
      (gss_one (gs_ret (ge_op op_mod sim_mod (gv 2) (gv 1)))))))), fun svs m SX Sv h => ?_⟩)
  · obtain ⟨b, c, sv, ns, k, rfl, _⟩ := h
    rfl
  · obtain ⟨b, c, sv, ns, k, rfl, hb, hc, hl, k0, k1, q⟩ := h
    have ne : c ≠ b := fun e => by
      rw [e, hb] at hc
      cases ns with
      | nil => cases hc
      | cons a r => injection (Option.some.inj hc) with z; injection z with z _; cases z
    walk_at "r"
    refine ⟨_, _, hb, rfl, ?_⟩
    walk_at "r"
    refine ⟨by walk_at "len", fun p hp => ?_⟩
    have hbp : up m p (.lst []) b = some (.lst [.ref c, .int sv]) := by rw [up_ne (mne hb hp)]; exact hb
    have hcp : up m p (.lst []) c = some (.lst (List.map SV.int ns)) := by rw [up_ne (mne hc hp)]; exact hc
    walk_at "r"
    refine ⟨_, _, .ref hcp (rds_ints ns), .ref up_same .nil, shaped_ints ns, rfl, ?_⟩
    have fin : ∀ (n : Int) (ns' : List Int) (sv' : Int) (m' : Mem), 0 ≤ n → n < k → ns'.length ≤ 63 → Le (up (up m c (.lst (ns'.map .int))) b (.lst [.ref c, .int sv'])) m' → Fg (Sv (.int n)) m' := fun n ns' sv' m' n0 n1 hl' le => ⟨_, le, q n ns' sv' n0 n1 hl'⟩
    have le0 : ∀ (X : List SV) (Y : List SV), Le (up (up m c (.lst X)) b (.lst Y)) (up (up (up m p (.lst [])) c (.lst X)) b (.lst Y)) := fun X Y => Le.put (Le.put (Le.new (.refl m) hp))
    cases ns with
    | nil =>
      refine Br_i (fun _ => ?_) (fun hb => by cases hb)
      walk_at "r"
      refine ⟨_, _, hbp, rfl, ?_⟩
      walk_at "r"
      refine ⟨.inl (.inr ⟨by decide, by decide⟩), ?_⟩
      walk_at "r"
      refine ⟨(by decide : (0 : Int) < 2147483647), ?_⟩
      walk_at "r"
      refine ⟨_, 1, hbp, rfl, ?_⟩
      walk_at "r"
      refine ⟨_, _, up_same, rfl, ?_⟩
      walk_at "r"
      refine ⟨.inl ⟨by decide, by decide⟩, ?_⟩
      walk_at "r"
      refine ⟨k0, ?_⟩
      refine fin _ [] _ _ (Int.emod_nonneg _ (by omega)) (Int.emod_lt_of_pos _ k0) (by simp) (Le.put ?_)
      rw [up_id (by exact hc)]
      exact Le.new (.refl m) hp
    | cons n r =>
      refine Br_i (fun hb => by cases hb) (fun _ => ?_)
      have ix0 : ∀ m : Nat, ixN (m + 1) 0 = some 0 := fun m => by
        unfold ixN
        rw [if_pos (by decide), if_pos (by omega)]
        rfl
      have at0 : ∀ (x : SV) (xs : List SV), atI (x :: xs) 0 = some x := fun x xs => atI_nat (j := 0) rfl
      walk_at "r"
      refine ⟨_, _, hbp, rfl, ?_⟩
      walk_at "r"
      refine ⟨_, _, hcp, at0 _ _, ?_⟩
      walk_at "r"
      refine ⟨.inr (wide_div k0 k1 (by decide) (by decide)), ?_⟩
      walk_at "r"
      refine ⟨_, _, hbp, rfl, ?_⟩
      walk_at "r"
      refine ⟨_, 0, hcp, ix0 _, ?_⟩
      have hbq : ∀ o, up (up m p (.lst [])) c o b = some (.lst [.ref c, .int sv]) := fun o => by rw [up_ne (Ne.symm ne)]; exact hbp
      walk_at "r"
      refine ⟨_, _, hbq _, rfl, ?_⟩
      walk_at "r"
      refine ⟨_, _, up_same, at0 _ _, ?_⟩
      have leb : ∀ X : List SV, Le (up (up m c (.lst X)) b (.lst [.ref c, .int sv])) (up (up m p (.lst [])) c (.lst X)) := fun X => by
        rw [up_id (by rw [up_ne (Ne.symm ne)]; exact hb)]
        exact Le.put (Le.new (.refl m) hp)
      have pop : ∀ SX' : SXK, sSeq (sDrop (sBM ckL sPopAt (sOp sIx (sVar 0) (sC (.int 0))) (sCons (sC (.int 0)) sNil))) (sRet (sOp sMod (sVar 2) (sVar 1))) SX' { nx := fun x m' => Fg (Sv .non) m', rt := fun v => Fg (Sv v) } [some (.ref b), some (.int k), some (.int n)] (up (up m p (.lst [])) c (.lst (List.set (List.map SV.int (n :: r)) 0 (.int (n / k))))) := fun SX' => by
        walk_at "r"
        refine ⟨_, _, hbq _, rfl, ?_⟩
        walk_at "r"
        refine ⟨⟨_, up_same⟩, ?_⟩
        walk_at "r"
        refine ⟨_, 0, _, up_same, by decide, by decide, (ixN_seq (ix0 _)).1, rfl, ?_⟩
        walk_at "r"
        refine ⟨k0, ?_⟩
        rw [up_up]
        exact fin _ r sv _ (Int.emod_nonneg _ (by omega)) (Int.emod_lt_of_pos _ k0) (by rw [List.length_cons] at hl; omega) (leb _)
      walk_at "r"
      refine Br_i (fun _ => Br_t (pop _)) (fun _ => ?_)
      walk_at "r"
      refine ⟨_, _, hbq _, rfl, ?_⟩
      walk_at "r"
      refine ⟨_, _, up_same, at0 _ _, ?_⟩
      walk_at "r"
      refine Br_i (fun _ => pop _) (fun _ => ?_)
      walk_at "r"
      refine ⟨k0, ?_⟩
      exact fin _ (n / k :: r) sv _ (Int.emod_nonneg _ (by omega)) (Int.emod_lt_of_pos _ k0) (by rw [List.length_cons] at hl ⊢; omega) (leb _)
theorem ok_law_take (T : Tx K mg) : FnOk P w K mg base CX0 1 (He.ga K "_law_take") T.fd__law_take ["_law_box", "_law_many"] (lift K spTake) := (okO_law_take T).imp fun _ _ _ _ h => take_imp h
end
end Hn

set_option Elab.async false
set_option linter.all false
set_option maxRecDepth 100000
set_option maxHeartbeats 8000000
namespace Hn
open PySem PySem.Spec PyProof.Rows L2 Sy Lm
section
variable {P : Program} {w : World} {K : PySem.W.Frag} {mg : Str → Option Value} {base : Heap}
local macro_rules | `(tactic| walk_at "r") => `(tactic| (conv => whnf))
local macro_rules | `(tactic| walk_at "sp") => `(tactic| (first | rfl | contradiction | exact (False.elim ‹_›)))
local macro_rules | `(tactic| walk_at "len") => `(tactic| (exact Nat.le_trans (show _ ≤ 100000 by first | (simp; done) | (rw [rngS_length]; decide)) (by decide)))
local macro_rules | `(tactic| walk_at "f") => `(tactic| (refine Br_i (fun hb => Bool.noConfusion (show false = true from hb)) (fun _ => ?_)))
local macro_rules | `(tactic| walk_at "t") => `(tactic| (refine Br_i (fun _ => ?_) (fun hb => Bool.noConfusion (show true = false from hb))))
local macro_rules | `(tactic| walk_at "le") => `(tactic| first | exact Le.refl _ | (refine Le.put ?_; walk_at "le") | (refine Le.new ?_ (by assumption); walk_at "le"))
def spBegunO : SpS := fun vs m _ S => ∃ ns : List Int, vs = [.lst (ns.map .int)] ∧ ns.length ≤ 63 ∧ ∀ (b c : Addr) (sv : Int), m c = none → m b = none → b ≠ c → S (.ref b) (up (up m c (.lst (ns.map .int))) b (.lst [.ref c, .int sv]))
def spBegun : SpS := fun vs m _ S => ∃ ns : List Int, vs = [.lst (ns.map .int)] ∧ ns.length ≤ 63 ∧ ∀ (b c : Addr), m c = none → m b = none → b ≠ c → S (.ref b) (up (up m c .bxi) b (.box c))
theorem begun_imp {vs : List V} {H : Hp} {Q : VK} {E : XK} (h : lift K spBegun vs H Q E) : lift K spBegunO vs H Q E := by
  obtain ⟨F, svs, m, SX, S, M, r, ⟨ns, rfl, hl, q⟩, hx, c⟩ := h
  refine ⟨F, _, m, SX, fun v m' => ∃ (b c : Addr) (sv : Int), v = .ref b ∧ m c = none ∧ m b = none ∧ b ≠ c ∧ m' = up (up m c (.lst (ns.map .int))) b (.lst [.ref c, .int sv]), M, r, ⟨ns, rfl, hl, fun b c sv h1 h2 h3 => ⟨b, c, sv, rfl, h1, h2, h3, rfl⟩⟩, hx, fun v F' H' sv2 m2 s2 M3 v3 h3 => ?_⟩
  obtain ⟨b, c0, sv', rfl, h1, h2, ne, rfl⟩ := h3
  refine c v F' H' (.ref b) _ s2 ?_ v3 (q b c0 h1 h2 ne)
  obtain ⟨ws, e1, r1⟩ := M3.lst_ up_same
  obtain ⟨us, e2, r2⟩ := M3.lst_ (show (up (up m c0 (.lst (ns.map .int))) b (.lst [.ref c0, .int sv'])) c0 = _ by rw [up_ne (Ne.symm ne)]; exact up_same)
  obtain rfl := vrs_ints r2
  obtain ⟨w1, w2, rfl, r3, r4⟩ := vrs_two r1
  obtain rfl := vr_ref r3
  obtain rfl := vr_int r4
  have M4 := M3.reab (o := .box c0) up_same (fun u e x => by rw [e1] at e; cases e; exact x) ⟨sv', e1⟩
  have M5 := M4.reab (a := c0) (o := .bxi) (o0 := .lst (ns.map .int)) (by rw [up_ne (Ne.symm ne), up_ne (Ne.symm ne), up_same]) (fun u e x => by rw [e2] at e; cases e; exact x) ⟨ns, e2, hl⟩
  rw [up_up, up_comm ne, up_up] at M5
  exact M5
theorem okO_law_begun (T : Tx K mg) : FnOk P w K mg base CX0 1 (He.ga K "_law_begun") T.fd__law_begun ["_law_script"] (lift K spBegunO) := by
  refine fn_sy T.F__law_begun sc_law_begun (fun svs m SX Sv h => ?_) (fun cdv A outer s H E hr => ⟨_, _, (gss_cons (gs_set (i := 1) sc_law_begun.nd rfl (.inl rfl) ge_int)
      (gss_cons (gs_for PassesOwn.never rfl (gi_seq (gv 0)) (gg_name (i := 2) sc_law_begun.nd rfl (.inl rfl))
      (gss_one (gs_set (i := 1) sc_law_begun.nd rfl (.inl rfl) (ge_op op_mod sim_mod (ge_op (op_addG K) sim_add (ge_op (op_addG K) sim_add (ge_op op_mulG sim_mul (gv 1) ge_int) (ge_op op_mulG sim_mul (gv 2) ge_int)) ge_int) ge_int))))
      (gss_one (gs_ret (ge_lst (ga_cons (ge_callTy (cr_lst K) sim_lstOf (by rfl) T.z_list (by decide +kernel) (ga_cons (gv 0) ga_nil)) (ga_cons (ge_op op_mulG sim_mul (gv 1) (ge_callTy call_int1 sim_int1 (by rfl) T.z_int (by decide +kernel) (ga_cons (ge_cmp op_gt sim_gt (ge_callB (cr_len K) sim_len (by rfl) T.z_len (by decide +kernel) (ga_cons (gv 0) ga_nil)) ge_int (nomark _)) ga_nil))) ga_nil))))))), fun svs m SX Sv h => ?_⟩)
  · obtain ⟨ns, rfl, _⟩ := h
    rfl
  · obtain ⟨ns, rfl, hl, q⟩ := h
    walk_at "r"
    refine ⟨_, rfl, ?_⟩
    refine for_inv (fun r δ m' => m' = m ∧ ∃ (st : Int) (a : Option SV), δ = [some (.lst (ns.map .int)), some (.int st), a] ∧ ∀ x ∈ r, ∃ i : Int, x = .int i) ⟨rfl, 0, none, rfl, fun x hx => by
      obtain ⟨i, _, e⟩ := List.mem_map.mp hx
      exact ⟨i, e.symm⟩⟩ (fun x r δ m' h => ?_) (fun δ m' h => ?_)
    · obtain ⟨rfl, st, a, rfl, hr⟩ := h
      obtain ⟨i, rfl⟩ := hr x List.mem_cons_self
      refine ⟨trivial, ?_⟩
      walk_at "r"
      refine ⟨.inl (.inr ⟨by decide, by decide⟩), ?_⟩
      walk_at "r"
      refine ⟨.inl (.inr ⟨by decide, by decide⟩), ?_⟩
      walk_at "r"
      refine ⟨(by decide : (0 : Int) < 2147483647), ?_⟩
      walk_at "r"
      exact .of ⟨rfl, _, _, rfl, fun x hx => hr x (List.mem_cons_of_mem _ hx)⟩
    · obtain ⟨rfl, st, a, rfl, _⟩ := h
      refine ⟨trivial, ?_⟩
      walk_at "r"
      refine ⟨_, rfl, fun c hc => ?_⟩
      walk_at "r"
      refine ⟨_, rfl, ?_⟩
      walk_at "r"
      refine ⟨.inl (.inr ?_), ?_⟩
      · split
        · exact ⟨by decide, by decide⟩
        · exact ⟨by decide, by decide⟩
      walk_at "r"
      refine ⟨by walk_at "len", fun b hb => ?_⟩
      have ne : c ≠ b := mne up_same hb
      rw [up_ne (Ne.symm ne)] at hb
      exact .of (q b c _ hc hb (Ne.symm ne))
theorem ok_law_begun (T : Tx K mg) : FnOk P w K mg base CX0 1 (He.ga K "_law_begun") T.fd__law_begun ["_law_script"] (lift K spBegun) := (okO_law_begun T).imp fun _ _ _ _ h => begun_imp h
end
end Hn

set_option Elab.async false
set_option linter.all false
set_option maxRecDepth 100000
set_option maxHeartbeats 8000000
namespace Hn
open PySem PySem.Spec PyProof.Rows L2 Sy Lm
section
variable {P : Program} {w : World} {K : PySem.W.Frag} {mg : Str → Option Value} {base : Heap}
local macro_rules | `(tactic| walk_at "r") => `(tactic| (conv => whnf))
local macro_rules | `(tactic| walk_at "sp") => `(tactic| (first | rfl | contradiction | exact (False.elim ‹_›)))
local macro_rules | `(tactic| walk_at "len") => `(tactic| (exact Nat.le_trans (show _ ≤ 100000 by first | (simp; done) | (rw [rngS_length]; decide)) (by decide)))
local macro_rules | `(tactic| walk_at "f") => `(tactic| (refine Br_i (fun hb => Bool.noConfusion (show false = true from hb)) (fun _ => ?_)))
local macro_rules | `(tactic| walk_at "t") => `(tactic| (refine Br_i (fun _ => ?_) (fun hb => Bool.noConfusion (show true = false from hb))))
local macro_rules | `(tactic| walk_at "le") => `(tactic| first | exact Le.refl _ | (refine Le.put ?_; walk_at "le") | (refine Le.new ?_ (by assumption); walk_at "le"))
theorem IsBox.le {a m : Mem} {b : Addr} (h : IsBox a b) (l : Le a m) : IsBox m b := by
  obtain ⟨c, h1, h2⟩ := h
  exact ⟨c, l _ _ h1, l _ _ h2⟩
theorem IsBox.new {m : Mem} {b p : Addr} {o : MO} (h : IsBox m b) (hp : m p = none) : IsBox (up m p o) b := h.le (Le.new (.refl m) hp)
theorem _root_.Sy.Le.over {a m : Mem} {f : Addr} {o : MO} (h : Le a m) (n : a f = none) : Le a (up m f o) := fun x u e => by rw [up_ne (mne e n)]; exact h x u e
theorem kp {m : Mem} {a p : Addr} {o u : MO} (h : m a = some o) (n : m p = none) : up m p u a = some o := by rw [up_ne (mne h n)]; exact h
theorem pick2 {a b : SV} {n : Int} (h0 : 0 ≤ n) (h1 : n < 2) : atI [a, b] n = some (if n = 0 then a else b) := by
  rcases (by omega : n = 0 ∨ n = 1) with rfl | rfl
  · exact atI_nat (j := 0) rfl
  · exact atI_nat (j := 1) rfl
theorem pick3 {a b c : SV} {n : Int} (h0 : 0 ≤ n) (h1 : n < 3) : atI [a, b, c] n = some (if n = 0 then a else if n = 1 then b else c) := by
  rcases (by omega : n = 0 ∨ n = 1 ∨ n = 2) with rfl | rfl | rfl
  · exact atI_nat (j := 0) rfl
  · exact atI_nat (j := 1) rfl
  · exact atI_nat (j := 2) rfl
theorem ite_int {c : Prop} [Decidable c] {a b : Int} : (if c then SV.int a else .int b) = .int (if c then a else b) := by split <;> rfl
theorem small {k : Int} (h0 : 0 < k) (h : k ≤ 10 ^ 30) : 0 < k ∧ k.natAbs < 2 ^ 8000 := ⟨h0, Nat.lt_of_le_of_lt (m := 10 ^ 30) (by omega) (by decide +kernel)⟩
def stOk (p : Int × Int) : Prop := (0 ≤ p.1 ∧ p.1 ≤ 23) ∧ (0 ≤ p.2 ∧ p.2 ≤ 23) ∧ p.1 ≠ p.2
def spStretches : SpS := fun vs m _ S => match vs with
  | [.ref b] => IsBox m b ∧ ∀ hs : List (Int × Int), hs.length ≤ 3 → (∀ p ∈ hs, stOk p) → S (.tup (hs.map pairV)) m
  | _ => False
theorem ok_law_stretches (T : Tx K mg) : FnOk P w K mg base CX0 2 (He.ga K "_law_stretches") T.fd__law_stretches ["_law_box"] (lift K spStretches) := by
  have G_law_take := ok_law_take (P := P) (w := w) (base := base) T
  have b_law_take := b_law_take T
  refine fn_sy T.F__law_stretches sc_law_stretches (fun svs m SX Sv h => ?_) (fun cdv A outer s H E hr => ⟨_, _, (gss_cons (gs_set (i := 1) sc_law_stretches.nd rfl (.inl rfl) (ge_lst ga_nil))
      (gss_cons (gs_for PassesOwn.never rfl (gi_range1 (by rfl) T.z_range (ga_cons (ge_call G_law_take (hr) (by rfl) T.g__law_take T.k__law_take b_law_take .nil (fun _ => .nil) pass0 (ga_cons (gv 0) (ga_cons ge_int ga_nil))) ga_nil)) (gg_name (i := 2) sc_law_stretches.nd rfl (.inl rfl))
      (gss_cons (gs_set (i := 3) sc_law_stretches.nd rfl (.inl rfl) (ge_call G_law_take (hr) (by rfl) T.g__law_take T.k__law_take b_law_take .nil (fun _ => .nil) pass0 (ga_cons (gv 0) (ga_cons ge_int ga_nil))))
      (gss_one (gs_expr (ge_bm PySem.F.plainAttrs_list PySem.F.slot_list_append PySem.F.type_list_append mt_append simk_L sim_append (gv 1) (ga_cons (ge_tup (ga_cons (gv 3) (ga_cons (ge_op op_mod sim_mod (ge_op (op_addG K) sim_add (ge_op (op_addG K) sim_add (gv 3) ge_int) (ge_call G_law_take (hr) (by rfl) T.g__law_take T.k__law_take b_law_take .nil (fun _ => .nil) pass0 (ga_cons (gv 0) (ga_cons (ge_ix (ix_G K) sim_ix (ge_lst (ga_cons ge_int (ga_cons ge_int ga_nil))) (ge_call G_law_take (hr) (by rfl) T.g__law_take T.k__law_take b_law_take .nil (fun _ => .nil) pass0 (ga_cons (gv 0) (ga_cons ge_int ga_nil))) (fun _ _ => rfl)) ga_nil)))) ge_int) ga_nil))) ga_nil))))))
      (gss_one (gs_ret (ge_callTy (cr_tup K) sim_tupOf (by rfl) T.z_tuple (by decide +kernel) (ga_cons (gv 1) ga_nil)))))), fun svs m SX Sv h => ?_⟩)
  · unfold spStretches at h
    split at h <;> first | rfl | exact h.elim
  · unfold spStretches at h
    split at h
    · rename_i b
      obtain ⟨hb, q⟩ := h
      walk_at "r"
      refine ⟨by walk_at "len", fun p hp => ?_⟩
      walk_at "r"
      refine ⟨hb.new hp, small (by decide) (by decide), fun n n0 n1 => ?_⟩
      walk_at "r"
      refine ⟨⟨by omega, by omega⟩, ?_⟩
      refine for_inv (fun r δ m' => ∃ (hs : List (Int × Int)) (a c : Option SV), m' = up m p (.lst (hs.map pairV)) ∧ δ = [some (.ref b), some (.ref p), a, c] ∧ hs.length + r.length ≤ 3 ∧ ∀ p ∈ hs, stOk p) ⟨[], none, none, rfl, rfl, by rw [rngS_length]; simp; omega, fun p h => by cases h⟩ (fun x r δ m' h => ?_) (fun δ m' h => ?_)
      · obtain ⟨hs, a, c, rfl, rfl, hl, ok⟩ := h
        refine ⟨trivial, ?_⟩
        walk_at "r"
        refine ⟨hb.new hp, small (by decide) (by decide), fun g g0 g1 => ?_⟩
        walk_at "r"
        refine ⟨⟨_, up_same⟩, ?_⟩
        walk_at "r"
        refine ⟨by walk_at "len", fun p2 hp2 => ?_⟩
        have bx : IsBox (up (up m p (.lst (hs.map pairV))) p2 (.lst [.int 23, .int 9])) b := (hb.new hp).new hp2
        walk_at "r"
        refine ⟨bx, small (by decide) (by decide), fun i i0 i1 => ?_⟩
        walk_at "r"
        refine ⟨_, _, up_same, pick2 i0 i1, ?_⟩
        rw [ite_int]
        walk_at "r"
        refine ⟨bx, small (by split <;> decide) (by split <;> decide), fun e e0 e1 => ?_⟩
        have e2 : e < 23 := by split at e1 <;> omega
        walk_at "r"
        refine ⟨(by decide : (0 : Int) < 24), ?_⟩
        walk_at "r"
        refine ⟨by walk_at "len", ?_⟩
        walk_at "r"
        refine ⟨_, by rw [up_ne (mne up_same hp2), up_same], line_le (by simp at hl ⊢; omega), ?_⟩
        walk_at "r"
        refine ⟨up m p (.lst ((hs ++ [(g, (g + 1 + e) % 24)]).map pairV)), by rw [List.map_append]; walk_at "le", hs ++ [(g, (g + 1 + e) % 24)], _, _, rfl, rfl, by rw [List.length_append]; simp at hl ⊢; omega, fun y hy => ?_⟩
        rcases List.mem_append.mp hy with hy | hy
        · exact ok y hy
        · obtain rfl := List.mem_singleton.mp hy
          refine ⟨⟨g0, by show g ≤ 23; omega⟩, ⟨?_, ?_⟩, ?_⟩
          · show 0 ≤ (g + 1 + e) % 24; omega
          · show (g + 1 + e) % 24 ≤ 23; omega
          · show g ≠ (g + 1 + e) % 24; omega
      · obtain ⟨hs, a, c, rfl, rfl, hl, ok⟩ := h
        refine ⟨trivial, ?_⟩
        walk_at "r"
        refine ⟨_, up_same, ?_⟩
        walk_at "r"
        exact ⟨m, by walk_at "le", q hs (by simpa using hl) ok⟩
    · exact h.elim
theorem gOk_snoc {k s : Int} (hk : k ≤ 7) (h1 : 1 ≤ s) (h2 : s ≤ 12) : ∀ {gs : List (Int × Int)} {lo : Int}, gOk lo gs → (∀ p ∈ gs, p.1 < k) → lo ≤ k → gOk lo (gs ++ [(k, s)])
  | [], lo, _, _, h => ⟨h, hk, h1, h2, trivial⟩
  | p :: r, lo, ⟨a, b, c, d, e⟩, hp, h => ⟨a, b, c, d, gOk_snoc hk h1 h2 e (fun q hq => hp q (List.mem_cons_of_mem _ hq)) (by have := hp p List.mem_cons_self; omega)⟩
def spRule : SpS := fun vs m _ S => match vs with
  | [.ref b, .int many] => IsBox m b ∧ (1 ≤ many ∧ many ≤ 6) ∧ ∀ r : PR, r.Ok many.toNat → S r.pv m
  | _ => False
theorem ok_law_rule (T : Tx K mg) : FnOk P w K mg base CX0 3 (He.ga K "_law_rule") T.fd__law_rule ["_law_box", "_law_many"] (lift K spRule) := by
  have G_law_stretches := ok_law_stretches (P := P) (w := w) (base := base) T
  have b_law_stretches := b_law_stretches T
  have G_law_take := ok_law_take (P := P) (w := w) (base := base) T
  have b_law_take := b_law_take T
  refine fn_sy T.F__law_rule sc_law_rule (fun svs m SX Sv h => ?_) (fun cdv A outer s H E hr => ⟨_, _, (gss_cons (gs_set (i := 2) sc_law_rule.nd rfl (.inl rfl) (ge_lst ga_nil))
      (gss_cons (gs_for PassesOwn.never rfl (gi_range1 (by rfl) T.z_range (ga_cons ge_int ga_nil)) (gg_name (i := 3) sc_law_rule.nd rfl (.inl rfl))
      (gss_one (gs_if (gw_pt (gw_and (gt_cmp op_lt sim_lt (ge_callB (cr_len K) sim_len (by rfl) T.z_len (by decide +kernel) (ga_cons (gv 2) ga_nil)) ge_int (nomark _)) (gw_and1 (gt_cmp (op_eqG K hr.units) sim_eq (ge_call G_law_take (hr.mono (by decide)) (by rfl) T.g__law_take T.k__law_take b_law_take .nil (fun _ => .nil) pass0 (ga_cons (gv 0) (ga_cons ge_int ga_nil))) ge_int (nomark _))))) (gss_one (gs_expr (ge_bm PySem.F.plainAttrs_list PySem.F.slot_list_append PySem.F.type_list_append mt_append simk_L sim_append (gv 2) (ga_cons (ge_tup (ga_cons (gv 3) (ga_cons (ge_op (op_addG K) sim_add ge_int (ge_call G_law_take (hr.mono (by decide)) (by rfl) T.g__law_take T.k__law_take b_law_take .nil (fun _ => .nil) pass0 (ga_cons (gv 0) (ga_cons (ge_ix (ix_G K) sim_ix (ge_lst (ga_cons ge_int (ga_cons ge_int ga_nil))) (ge_call G_law_take (hr.mono (by decide)) (by rfl) T.g__law_take T.k__law_take b_law_take .nil (fun _ => .nil) pass0 (ga_cons (gv 0) (ga_cons ge_int ga_nil))) (fun _ _ => rfl)) ga_nil)))) ga_nil))) ga_nil)))) gss_nil)))
      (gss_cons (gs_set (i := 4) sc_law_rule.nd rfl (.inl rfl) (ge_ix (ix_G K) sim_ix (ge_lst (ga_cons ge_non (ga_cons (ge_op (op_addG K) sim_add ge_int (ge_call G_law_take (hr.mono (by decide)) (by rfl) T.g__law_take T.k__law_take b_law_take .nil (fun _ => .nil) pass0 (ga_cons (gv 0) (ga_cons (ge_ix (ix_G K) sim_ix (ge_lst (ga_cons ge_int (ga_cons ge_int ga_nil))) (ge_call G_law_take (hr.mono (by decide)) (by rfl) T.g__law_take T.k__law_take b_law_take .nil (fun _ => .nil) pass0 (ga_cons (gv 0) (ga_cons ge_int ga_nil))) (fun _ _ => rfl)) ga_nil)))) (ga_cons ge_int ga_nil)))) (ge_call G_law_take (hr.mono (by decide)) (by rfl) T.g__law_take T.k__law_take b_law_take .nil (fun _ => .nil) pass0 (ga_cons (gv 0) (ga_cons ge_int ga_nil))) (fun _ _ => rfl)))
      (gss_cons (gs_set (i := 5) sc_law_rule.nd rfl (.inl rfl) (ge_ix (ix_G K) sim_ix (ge_lst (ga_cons ge_non (ga_cons (ge_call G_law_take (hr.mono (by decide)) (by rfl) T.g__law_take T.k__law_take b_law_take .nil (fun _ => .nil) pass0 (ga_cons (gv 0) (ga_cons (gv 1) ga_nil))) (ga_cons (ge_call G_law_take (hr.mono (by decide)) (by rfl) T.g__law_take T.k__law_take b_law_take .nil (fun _ => .nil) pass0 (ga_cons (gv 0) (ga_cons (gv 1) ga_nil))) ga_nil)))) (ge_call G_law_take (hr.mono (by decide)) (by rfl) T.g__law_take T.k__law_take b_law_take .nil (fun _ => .nil) pass0 (ga_cons (gv 0) (ga_cons ge_int ga_nil))) (fun _ _ => rfl)))
      (gss_one (gs_ret (ge_tup (ga_cons (ge_call G_law_stretches (hr) (by rfl) T.g__law_stretches T.k__law_stretches b_law_stretches .nil (fun _ => .nil) pass0 (ga_cons (gv 0) ga_nil)) (ga_cons (ge_call G_law_take (hr.mono (by decide)) (by rfl) T.g__law_take T.k__law_take b_law_take .nil (fun _ => .nil) pass0 (ga_cons (gv 0) (ga_cons ge_int ga_nil))) (ga_cons (ge_callTy (cr_tupP K) sim_tupP (by rfl) T.z_tuple (by decide +kernel) (ga_cons (gv 2) ga_nil)) (ga_cons (gv 4) (ga_cons (gv 5) ga_nil)))))))))))), fun svs m SX Sv h => ?_⟩)
  · unfold spRule at h
    split at h <;> first | rfl | exact h.elim
  · unfold spRule at h
    split at h
    · rename_i b many
      obtain ⟨hb, ⟨m1, m6⟩, q⟩ := h
      walk_at "r"
      refine ⟨by walk_at "len", fun p hp => ?_⟩
      walk_at "r"
      refine ⟨⟨by decide, by decide⟩, ?_⟩
      refine for_inv (fun r δ m' => ∃ (gs : List (Int × Int)) (k : Nat) (a : Option SV), m' = up m p (.lst (gs.map pairV)) ∧ δ = [some (.ref b), some (.int many), some (.ref p), a, none, none] ∧ r = rngS k (8 - k) ∧ k ≤ 8 ∧ gs.length ≤ 4 ∧ gOk 0 gs ∧ ∀ p ∈ gs, p.1 < k) ⟨[], 0, none, rfl, rfl, rfl, by omega, by simp, trivial, fun p h => by cases h⟩ (fun x r δ m' h => ?_) (fun δ m' h => ?_)
      · obtain ⟨gs, k, a, rfl, rfl, hr, hk, hl, hg, hlt⟩ := h
        have hk8 : k < 8 := by
          by_cases e : k < 8
          · exact e
          · rw [show 8 - k = 0 by omega] at hr; cases hr
        rw [show 8 - k = (8 - (k + 1)) + 1 by omega] at hr
        obtain ⟨rfl, rfl⟩ := List.cons.inj hr
        refine ⟨trivial, ?_⟩
        have stay : Fg (fun m' => ∃ (gs : List (Int × Int)) (k' : Nat) (a : Option SV), m' = up m p (.lst (gs.map pairV)) ∧ [some (.ref b), some (.int many), some (.ref p), some (.int k), none, none] = [some (SV.ref b), some (.int many), some (.ref p), a, none, none] ∧ rngS ((k : Int) + 1) (8 - (k + 1)) = rngS k' (8 - k') ∧ k' ≤ 8 ∧ gs.length ≤ 4 ∧ gOk 0 gs ∧ ∀ p ∈ gs, p.1 < k') (up m p (.lst (gs.map pairV))) :=
          .of ⟨gs, k + 1, _, rfl, rfl, rfl, by omega, hl, hg, fun y hy => by have := hlt y hy; push_cast; omega⟩
        walk_at "r"
        refine ⟨_, up_same, ?_⟩
        walk_at "r"
        refine Br_i (fun h2 => ?_) (fun h2 => ?_)
        · have hl4 : gs.length < 4 := by
            have := of_decide_eq_true h2
            rw [List.length_map] at this
            omega
          walk_at "r"
          refine ⟨hb.new hp, small (by decide) (by decide), fun g g0 g1 => ?_⟩
          walk_at "r"
          refine Br_i (fun h3 => ?_) (fun h3 => ?_)
          · walk_at "r"
            refine ⟨⟨_, up_same⟩, ?_⟩
            walk_at "r"
            refine ⟨by walk_at "len", fun p2 hp2 => ?_⟩
            have bx : IsBox (up (up m p (.lst (gs.map pairV))) p2 (.lst [.int 3, .int 12])) b := (hb.new hp).new hp2
            walk_at "r"
            refine ⟨bx, small (by decide) (by decide), fun i i0 i1 => ?_⟩
            walk_at "r"
            refine ⟨_, _, up_same, pick2 i0 i1, ?_⟩
            rw [ite_int]
            walk_at "r"
            refine ⟨bx, small (by split <;> decide) (by split <;> decide), fun e e0 e1 => ?_⟩
            have e2 : e < 12 := by split at e1 <;> omega
            walk_at "r"
            refine ⟨by walk_at "len", ?_⟩
            walk_at "r"
            refine ⟨_, by rw [up_ne (mne up_same hp2), up_same], line_le (by simp; omega), ?_⟩
            walk_at "r"
            refine ⟨up m p (.lst ((gs ++ [((k : Int), 1 + e)]).map pairV)), by rw [List.map_append]; walk_at "le", gs ++ [((k : Int), 1 + e)], k + 1, _, rfl, rfl, rfl, by omega, by rw [List.length_append]; simp; omega, gOk_snoc (by omega) (by omega) (by omega) hg hlt (by omega), fun y hy => ?_⟩
            rcases List.mem_append.mp hy with hy | hy
            · have := hlt y hy; push_cast; omega
            · obtain rfl := List.mem_singleton.mp hy
              show (k : Int) < _
              push_cast
              omega
          · exact stay
        · walk_at "f"
          exact stay
      · obtain ⟨gs, k, a, rfl, rfl, hr, hk, hl, hg, hlt⟩ := h
        refine ⟨trivial, ?_⟩
        walk_at "r"
        refine ⟨by walk_at "len", fun p2 hp2 => ?_⟩
        have bx := (hb.new (o := .lst (gs.map pairV)) hp).new (o := .lst [.int 6, .int 24]) hp2
        walk_at "r"
        refine ⟨bx, small (by decide) (by decide), fun i i0 i1 => ?_⟩
        walk_at "r"
        refine ⟨_, _, up_same, pick2 i0 i1, ?_⟩
        rw [ite_int]
        walk_at "r"
        refine ⟨bx, small (by split <;> decide) (by split <;> decide), fun e e0 e1 => ?_⟩
        have e2 : e < 24 := by split at e1 <;> omega
        walk_at "r"
        refine ⟨by walk_at "len", fun p3 hp3 => ?_⟩
        have bx3 := bx.new (o := .lst [.non, .int (1 + e), .int 2]) hp3
        walk_at "r"
        refine ⟨bx3, small (by decide) (by decide), fun j j0 j1 => ?_⟩
        walk_at "r"
        refine ⟨_, _, up_same, pick3 j0 j1, ?_⟩
        obtain ⟨wt, hw, hwt⟩ : ∃ wt : Option Int, (if j = 0 then SV.non else if j = 1 then .int (1 + e) else .int 2) = optV wt ∧ ∀ i, wt = some i → 1 ≤ i ∧ i ≤ 24 := by
          split
          · exact ⟨none, rfl, fun i h => by cases h⟩
          · split
            · exact ⟨some (1 + e), rfl, fun i h => by cases h; omega⟩
            · exact ⟨some 2, rfl, fun i h => by cases h; omega⟩
        rw [hw]
        walk_at "r"
        refine ⟨bx3, small (by omega) (by omega), fun f1 f10 f11 => ?_⟩
        walk_at "r"
        refine ⟨bx3, small (by omega) (by omega), fun f2 f20 f21 => ?_⟩
        walk_at "r"
        refine ⟨by walk_at "len", fun p4 hp4 => ?_⟩
        have bx4 := bx3.new (o := .lst [.non, .int f1, .int f2]) hp4
        walk_at "r"
        refine ⟨bx4, small (by decide) (by decide), fun j' j0' j1' => ?_⟩
        walk_at "r"
        refine ⟨_, _, up_same, pick3 j0' j1', ?_⟩
        obtain ⟨fu, hf, hfu⟩ : ∃ fu : Option Int, (if j' = 0 then SV.non else if j' = 1 then .int f1 else .int f2) = optV fu ∧ ∀ i, fu = some i → 0 ≤ i ∧ i < many.toNat := by
          split
          · exact ⟨none, rfl, fun i h => by cases h⟩
          · split
            · exact ⟨some f1, rfl, fun i h => by cases h; omega⟩
            · exact ⟨some f2, rfl, fun i h => by cases h; omega⟩
        rw [hf]
        walk_at "r"
        refine ⟨bx4, fun hs hsl hso => ?_⟩
        walk_at "r"
        refine ⟨bx4, small (by decide) (by decide), fun le le0 le1 => ?_⟩
        walk_at "r"
        refine ⟨_, kp (kp (kp up_same hp2) hp3) hp4, ?_⟩
        walk_at "r"
        refine ⟨by walk_at "len", ?_⟩
        exact ⟨m, by walk_at "le", q ⟨hs, le, gs, wt, fu⟩ ⟨hsl, hso, ⟨le0, by show le ≤ 4; omega⟩, hl, hg, hwt, hfu⟩⟩
    · exact h.elim
def spDrawn : SpS := fun vs m _ S => match vs with
  | [.ref b] => IsBox m b ∧ ∀ R : List PR, RulesOk R → S (PV R) m
  | _ => False
theorem ok_law_rules (T : Tx K mg) : FnOk P w K mg base CX0 4 (He.ga K "_law_rules") T.fd__law_rules ["_law_box"] (lift K spDrawn) := by
  have G_law_rule := ok_law_rule (P := P) (w := w) (base := base) T
  have b_law_rule := b_law_rule T
  have G_law_take := ok_law_take (P := P) (w := w) (base := base) T
  have b_law_take := b_law_take T
  refine fn_sy T.F__law_rules sc_law_rules (fun svs m SX Sv h => ?_) (fun cdv A outer s H E hr => ⟨_, _, (gss_cons (gs_set (i := 1) sc_law_rules.nd rfl (.inr rfl) (ge_op (op_addG K) sim_add ge_int (ge_call G_law_take (hr.mono (by decide)) (by rfl) T.g__law_take T.k__law_take b_law_take .nil (fun _ => .nil) pass0 (ga_cons (gv 0) (ga_cons ge_int ga_nil)))))
      (gss_one (gs_ret (ge_callTy (cr_tup K) sim_tupOf (by rfl) T.z_tuple (by decide +kernel) (ga_cons (ge_lc (own := [("_law_person", 2)]) (by rfl) sc_law_rules.nd (gi_range1 (by rfl) T.z_range (ga_cons (gv 1) ga_nil)) (blkOk_by (own := [("_law_person", 2)]) (N := ["_law_box", "_law_many", "_law_person"]) (sc := (defScope s_law_rules)) (by decide +kernel)) (fun _ _ _ _ _ => (gg_name (i := 2) sc_law_rules.nd rfl (.inl rfl))) (wp_name (by decide)) (fun _ _ _ _ _ => gts_nil) (fun _ _ _ _ _ => (ge_call G_law_rule (hr) (by rfl) T.g__law_rule T.k__law_rule b_law_rule .nil (fun _ => .nil) pass0 (ga_cons (gv 0) (ga_cons (gv 1) ga_nil))))) ga_nil))))), fun svs m SX Sv h => ?_⟩)
  · unfold spDrawn at h
    split at h <;> first | rfl | exact h.elim
  · unfold spDrawn at h
    split at h
    · rename_i b
      obtain ⟨hb, q⟩ := h
      walk_at "r"
      refine ⟨hb, small (by decide) (by decide), fun n n0 n1 => ?_⟩
      walk_at "r"
      refine ⟨⟨by omega, by omega⟩, by rw [rngS_length]; exact line_le (by omega), fun p hp => ?_⟩
      refine lc_inv (fun r acc m' => m' = up m p (.lst acc) ∧ ∃ R : List PR, acc = R.map PR.pv ∧ R.length + r.length = (1 + n).toNat ∧ ∀ x ∈ R, x.Ok (1 + n).toNat) ⟨rfl, [], rfl, by rw [rngS_length]; simp, fun x h => by cases h⟩ (fun x r acc m' h => ?_) (fun acc m' h => ?_)
      · obtain ⟨rfl, R, rfl, hl, ok⟩ := h
        refine ⟨trivial, ?_⟩
        walk_at "r"
        walk_at "t"
        walk_at "r"
        refine ⟨hb.new hp, ⟨by omega, by omega⟩, fun y hy => ?_⟩
        refine ⟨up_same, .of ⟨by rw [up_up], R ++ [y], by rw [List.map_append]; rfl, by rw [List.length_append]; simp at hl ⊢; omega, fun z hz => ?_⟩⟩
        rcases List.mem_append.mp hz with hz | hz
        · exact ok z hz
        · obtain rfl := List.mem_singleton.mp hz
          exact hy
      · obtain ⟨rfl, R, rfl, hl, ok⟩ := h
        have hl : R.length = (1 + n).toNat := by simpa using hl
        refine ⟨trivial, ?_⟩
        walk_at "r"
        refine ⟨_, up_same, ?_⟩
        exact ⟨m, by walk_at "le", q R ⟨by omega, by omega, fun r hr => by rw [hl]; exact ok r hr⟩⟩
    · exact h.elim
end
end Hn

set_option Elab.async false
set_option linter.all false
set_option maxRecDepth 100000
set_option maxHeartbeats 8000000
namespace Hn
open PySem PySem.Spec PyProof.Rows L2 Sy Lm
section
variable {P : Program} {w : World} {K : PySem.W.Frag} {mg : Str → Option Value} {base : Heap}
local macro_rules | `(tactic| walk_at "r") => `(tactic| (conv => whnf))
local macro_rules | `(tactic| walk_at "sp") => `(tactic| (first | rfl | contradiction | exact (False.elim ‹_›)))
local macro_rules | `(tactic| walk_at "len") => `(tactic| (exact Nat.le_trans (show _ ≤ 100000 by first | (simp; done) | (rw [rngS_length]; decide)) (by decide)))
local macro_rules | `(tactic| walk_at "f") => `(tactic| (refine Br_i (fun hb => Bool.noConfusion (show false = true from hb)) (fun _ => ?_)))
local macro_rules | `(tactic| walk_at "t") => `(tactic| (refine Br_i (fun _ => ?_) (fun hb => Bool.noConfusion (show true = false from hb))))
local macro_rules | `(tactic| walk_at "le") => `(tactic| first | exact Le.refl _ | (refine Le.put ?_; walk_at "le") | (refine Le.new ?_ (by assumption); walk_at "le"))
mutual
def eqD : PyData → PyData → Bool
  | .none, .none => true
  | .bool a, .bool b => decide (a = b)
  | .int a, .int b => decide (a = b)
  | .str a, .str b => decide (a = b)
  | .list a, .list b => eqDs a b
  | .tuple a, .tuple b => eqDs a b
  | _, _ => false
def eqDs : List PyData → List PyData → Bool
  | [], [] => true
  | a :: r, b :: s => eqD a b && eqDs r s
  | _, _ => false
end
mutual
def dpt : PyData → Nat
  | .list a => 1 + dpts a
  | .tuple a => 1 + dpts a
  | _ => 0
def dpts : List PyData → Nat
  | [] => 0
  | a :: r => max (dpt a) (dpts r)
end
theorem dpts_get : ∀ {ds : List PyData} {i : Nat} {d : PyData}, ds[i]? = some d → dpt d ≤ dpts ds
  | [], _, _, h => by simp at h
  | a :: r, 0, d, h => by
    simp at h
    subst h
    simp only [dpts]
    omega
  | a :: r, i + 1, d, h => by
    have := dpts_get (ds := r) (i := i) (by simpa using h)
    simp only [dpts]
    omega
theorem eqDs_get : ∀ {a b : List PyData}, a.length = b.length → ((∀ (i : Nat) x y, a[i]? = some x → b[i]? = some y → eqD x y = true) ↔ eqDs a b = true)
  | [], [], _ => by simp [eqDs]
  | [], _ :: _, h => by cases h
  | _ :: _, [], h => by cases h
  | x :: a, y :: b, h => by
    have ih := eqDs_get (a := a) (b := b) (by simpa using h)
    simp only [eqDs, Bool.and_eq_true]
    constructor
    · intro q
      exact ⟨q 0 x y rfl rfl, ih.mp fun i u v hu hv => q (i + 1) u v (by simpa using hu) (by simpa using hv)⟩
    · rintro ⟨q1, q2⟩ i u v hu hv
      cases i with
      | zero => simp at hu hv; subst hu; subst hv; exact q1
      | succ i => exact ih.mpr q2 i u v (by simpa using hu) (by simpa using hv)
theorem eqDs_len : ∀ {a b : List PyData}, eqDs a b = true → a.length = b.length
  | [], [], _ => rfl
  | [], _ :: _, h => by simp [eqDs] at h
  | _ :: _, [], h => by simp [eqDs] at h
  | x :: a, y :: b, h => by
    simp only [eqDs, Bool.and_eq_true] at h
    simp [eqDs_len h.2]
mutual
/-- no list is too long -/
def smD : PyData → Prop
  | .list a => a.length ≤ 100000 ∧ smDs a
  | .tuple a => a.length ≤ 100000 ∧ smDs a
  | _ => True
def smDs : List PyData → Prop
  | [] => True
  | a :: r => smD a ∧ smDs r
end
theorem smDs_get : ∀ {ds : List PyData} {i : Nat} {d : PyData}, smDs ds → ds[i]? = some d → smD d
  | [], _, _, _, h => by simp at h
  | a :: r, 0, d, ⟨h1, _⟩, h => by
    simp at h
    subst h
    exact h1
  | a :: r, i + 1, d, ⟨_, h2⟩, h => smDs_get (ds := r) (i := i) h2 (by simpa using h)
def spAlike : Nat → SpS
  | n => fun vs m _ S => ∃ x y d e, vs = [x, y] ∧ Rd m x d ∧ Rd m y e ∧ dpt e < n ∧ smD e ∧ S (.bl (eqD d e)) m
theorem fn_never {k : Nat} {f : Addr} {fd : FuncData} {ps : List Str} {sp : SpS} {CX : CXT} (h : ∀ vs m SX S, ¬ sp vs m SX S) : FnOk P w K mg base CX k f fd ps (lift K sp) :=
  ⟨fun vs H Q E ⟨F, svs, m, SX, S, _, _, z, _⟩ => (h _ _ _ _ z).elim, fun A outer s H args us vs Q E _ _ _ _ ⟨F, svs, m, SX, S, _, _, z, _⟩ => (h _ _ _ _ z).elim⟩
/-- the kind of a datum -/
def tyP : PyData → String
  | .none => "NoneType"
  | .bool _ => "bool"
  | .int _ => "int"
  | .str _ => "str"
  | .list _ => "list"
  | .tuple _ => "tuple"
  | .dict _ => "dict"
theorem rd_ty {m : Mem} {x : SV} {d : PyData} (h : Rd m x d) : tyS m x (tyP d) := by
  cases h with
  | ref e _ => exact ⟨rfl, _, e⟩
  | _ => rfl
theorem rds_len {m : Mem} : ∀ {xs : List SV} {ds : List PyData}, Rds m xs ds → xs.length = ds.length
  | _, _, .nil => rfl
  | _, _, .cons _ t => by rw [List.length_cons, List.length_cons, rds_len t]
theorem rds_get {m : Mem} : ∀ {xs : List SV} {ds : List PyData} {i : Nat} {d : PyData}, Rds m xs ds → ds[i]? = some d → ∃ x, xs[i]? = some x ∧ Rd m x d
  | _, _, _, _, .nil, h => by simp at h
  | _, _, 0, _, .cons a _, h => by simp at h; subst h; exact ⟨_, rfl, a⟩
  | _, _, i + 1, _, .cons _ t, h => by
    obtain ⟨x, h1, h2⟩ := rds_get (i := i) t (by simpa using h)
    exact ⟨x, by simpa using h1, h2⟩
theorem ok_law_alike (T : Tx K mg) : ∀ n, FnOk P w K mg base CX0 n (He.ga K "_law_alike") T.fd__law_alike ["_law_found", "_law_due"] (lift K (spAlike n)) := by
  intro n
  induction n with
  | zero => exact fn_never fun vs m SX S ⟨_, _, _, _, _, _, _, z, _⟩ => Nat.not_lt_zero _ z
  | succ n G_law_alike =>
  have b_law_alike := b_law_alike T
  refine fn_sy T.F__law_alike sc_law_alike (fun svs m SX Sv h => ?_) (fun cdv A outer s H E hr => ⟨_, _, (gss_cons (gs_if (gt_cmp op_isN sim_isN (gv 1) ge_non (nomark _)) (gss_one (gs_ret (ge_cmp op_isN sim_isN (gv 0) ge_non (nomark _)))) gss_nil)
      (gss_cons (gs_if (gt_val (ge_callB (cr_isi K) sim_isi (by rfl) T.z_isinstance (by decide +kernel) (ga_cons (gv 1) (ga_cons (ge_ty (n := "bool") (by rfl) T.z_bool (by decide +kernel)) ga_nil)))) (gss_one (gs_ret (ge_and (ge_callB (cr_isi K) sim_isi (by rfl) T.z_isinstance (by decide +kernel) (ga_cons (gv 0) (ga_cons (ge_ty (n := "bool") (by rfl) T.z_bool (by decide +kernel)) ga_nil))) (ge_one (ge_cmp (op_eqG K hr.units) sim_eq (gv 0) (gv 1) (nomark _)))))) gss_nil)
      (gss_cons (gs_if (gt_val (ge_callB (cr_isi K) sim_isi (by rfl) T.z_isinstance (by decide +kernel) (ga_cons (gv 1) (ga_cons (ge_ty (n := "int") (by rfl) T.z_int (by decide +kernel)) ga_nil)))) (gss_one (gs_ret (ge_and (ge_callB (cr_isi K) sim_isi (by rfl) T.z_isinstance (by decide +kernel) (ga_cons (gv 0) (ga_cons (ge_ty (n := "int") (by rfl) T.z_int (by decide +kernel)) ga_nil))) (ge_and (ge_not (ge_callB (cr_isi K) sim_isi (by rfl) T.z_isinstance (by decide +kernel) (ga_cons (gv 0) (ga_cons (ge_ty (n := "bool") (by rfl) T.z_bool (by decide +kernel)) ga_nil)))) (ge_one (ge_cmp (op_eqG K hr.units) sim_eq (gv 0) (gv 1) (nomark _))))))) gss_nil)
      (gss_cons (gs_if (gt_val (ge_callB (cr_isi K) sim_isi (by rfl) T.z_isinstance (by decide +kernel) (ga_cons (gv 1) (ga_cons (ge_ty (n := "str") (by rfl) T.z_str (by decide +kernel)) ga_nil)))) (gss_one (gs_ret (ge_and (ge_callB (cr_isi K) sim_isi (by rfl) T.z_isinstance (by decide +kernel) (ga_cons (gv 0) (ga_cons (ge_ty (n := "str") (by rfl) T.z_str (by decide +kernel)) ga_nil))) (ge_one (ge_cmp (op_eqG K hr.units) sim_eq (gv 0) (gv 1) (nomark _)))))) gss_nil)
      (gss_cons (gs_if (gw_pt (gw_or (gt_cmp (op_neG K hr.units) sim_ne (ge_callB (cr_isi K) sim_isi (by rfl) T.z_isinstance (by decide +kernel) (ga_cons (gv 1) (ga_cons (ge_ty (n := "tuple") (by rfl) T.z_tuple (by decide +kernel)) ga_nil))) (ge_callB (cr_isi K) sim_isi (by rfl) T.z_isinstance (by decide +kernel) (ga_cons (gv 0) (ga_cons (ge_ty (n := "tuple") (by rfl) T.z_tuple (by decide +kernel)) ga_nil))) (nomark _)) (gw_or1 (gt_cmp (op_neG K hr.units) sim_ne (ge_callB (cr_isi K) sim_isi (by rfl) T.z_isinstance (by decide +kernel) (ga_cons (gv 1) (ga_cons (ge_ty (n := "list") (by rfl) T.z_list (by decide +kernel)) ga_nil))) (ge_callB (cr_isi K) sim_isi (by rfl) T.z_isinstance (by decide +kernel) (ga_cons (gv 0) (ga_cons (ge_ty (n := "list") (by rfl) T.z_list (by decide +kernel)) ga_nil))) (nomark _))))) (gss_one (gs_ret ge_bl)) gss_nil)
      (gss_cons (gs_if (gt_cmp (op_neG K hr.units) sim_ne (ge_callB (cr_len K) sim_len (by rfl) T.z_len (by decide +kernel) (ga_cons (gv 0) ga_nil)) (ge_callB (cr_len K) sim_len (by rfl) T.z_len (by decide +kernel) (ga_cons (gv 1) ga_nil)) (nomark _)) (gss_one (gs_ret ge_bl)) gss_nil)
      (gss_cons (gs_for PassesOwn.never rfl (gi_range1 (by rfl) T.z_range (ga_cons (ge_callB (cr_len K) sim_len (by rfl) T.z_len (by decide +kernel) (ga_cons (gv 1) ga_nil)) ga_nil)) (gg_name (i := 2) sc_law_alike.nd rfl (.inl rfl))
      (gss_one (gs_if (gt_not (gt_val (ge_call G_law_alike (hr) (by rfl) T.g__law_alike T.k__law_alike b_law_alike .nil (fun _ => .nil) pass0 (ga_cons (ge_ix (ix_G K) sim_ix (gv 0) (gv 2) (fun _ _ => rfl)) (ga_cons (ge_ix (ix_G K) sim_ix (gv 1) (gv 2) (fun _ _ => rfl)) ga_nil))))) (gss_one (gs_ret ge_bl)) gss_nil)))
      (gss_one (gs_ret ge_bl))))))))), fun svs m SX Sv h => ?_⟩)
  · obtain ⟨x, y, d, e, rfl, _⟩ := h
    rfl
  · obtain ⟨x, y, d, e, rfl, hx, hy, hlt, hsm, q⟩ := h
    have tx := rd_ty hx
    have ty := rd_ty hy
    have qf : ∀ b, eqD d e = b → Fg (Sv (.bl b)) m := fun b hb => by rw [hb] at q; exact .of q
    walk_at "r"
    cases hy with
    | non =>
      walk_at "t"
      walk_at "r"
      exact qf _ (by cases hx <;> rfl)
    | bl b =>
      walk_at "f"
      walk_at "r"
      refine ⟨by decide, _, rfl, ?_⟩
      walk_at "r"
      walk_at "t"
      walk_at "r"
      refine ⟨by decide, _, tx, ?_⟩
      walk_at "r"
      cases hx with
      | bl a =>
        walk_at "t"
        walk_at "r"
        exact qf _ rfl
      | _ =>
        walk_at "f"
        exact qf _ rfl
    | int b =>
      walk_at "f"
      walk_at "r"
      refine ⟨by decide, _, rfl, ?_⟩
      walk_at "r"
      walk_at "f"
      walk_at "r"
      refine ⟨by decide, _, rfl, ?_⟩
      walk_at "r"
      walk_at "t"
      walk_at "r"
      refine ⟨by decide, _, tx, ?_⟩
      walk_at "r"
      cases hx with
      | int a =>
        walk_at "t"
        walk_at "r"
        refine ⟨by decide, _, rfl, ?_⟩
        walk_at "r"
        walk_at "t"
        walk_at "r"
        exact qf _ rfl
      | bl a =>
        walk_at "t"
        walk_at "r"
        refine ⟨by decide, _, rfl, ?_⟩
        walk_at "r"
        walk_at "f"
        exact qf _ rfl
      | _ =>
        walk_at "f"
        exact qf _ rfl
    | str b =>
      walk_at "f"
      walk_at "r"
      refine ⟨by decide, _, rfl, ?_⟩
      walk_at "r"
      walk_at "f"
      walk_at "r"
      refine ⟨by decide, _, rfl, ?_⟩
      walk_at "r"
      walk_at "f"
      walk_at "r"
      refine ⟨by decide, _, rfl, ?_⟩
      walk_at "r"
      walk_at "t"
      walk_at "r"
      refine ⟨by decide, _, tx, ?_⟩
      walk_at "r"
      cases hx with
      | str a =>
        walk_at "t"
        walk_at "r"
        exact qf _ rfl
      | _ =>
        walk_at "f"
        exact qf _ rfl
    | @tup ys es ry =>
      walk_at "f"
      walk_at "r"
      refine ⟨by decide, _, rfl, ?_⟩
      walk_at "r"
      walk_at "f"
      walk_at "r"
      refine ⟨by decide, _, rfl, ?_⟩
      walk_at "r"
      walk_at "f"
      walk_at "r"
      refine ⟨by decide, _, rfl, ?_⟩
      walk_at "r"
      walk_at "f"
      walk_at "r"
      refine ⟨by decide, _, rfl, ?_⟩
      walk_at "r"
      refine ⟨by decide, _, tx, ?_⟩
      walk_at "r"
      cases hx with
      | @tup xs ds rx =>
        walk_at "f"
        walk_at "r"
        refine ⟨by decide, _, rfl, ?_⟩
        walk_at "r"
        refine ⟨by decide, _, rfl, ?_⟩
        walk_at "r"
        walk_at "f"
        walk_at "r"
        refine ⟨_, rfl, ?_⟩
        walk_at "r"
        refine ⟨_, rfl, ?_⟩
        walk_at "r"
        have lx := rds_len rx
        have ly := rds_len ry
        refine Br_i (fun hl => ?_) (fun hl => ?_)
        · walk_at "r"
          refine qf _ ?_
          show eqDs ds es = false
          cases hq : eqDs ds es with
          | false => rfl
          | true =>
            have := eqDs_len hq
            have hl : (!decide ((xs.length : Int) = ys.length)) = true := hl
            simp at hl
            omega
        · have hll : ds.length = es.length := by
            have hl : (!decide ((xs.length : Int) = ys.length)) = false := hl
            simp at hl
            omega
          walk_at "r"
          refine ⟨_, rfl, ?_⟩
          walk_at "r"
          have hsm : es.length ≤ 100000 ∧ smDs es := hsm
          refine ⟨⟨by omega, by omega⟩, ?_⟩
          have hlt : 1 + dpts es < n + 1 := hlt
          refine for_inv (fun r δ m' => m' = m ∧ ∃ (k : Nat) (a : Option SV), δ = [some (SV.tup xs), some (SV.tup ys), a] ∧ r = rngS k (ys.length - k) ∧ k ≤ ys.length ∧ (∀ (i : Nat) u v, i < k → ds[i]? = some u → es[i]? = some v → eqD u v = true)) ⟨rfl, 0, none, rfl, rfl, Nat.zero_le _, fun i u v h => absurd h (Nat.not_lt_zero _)⟩ (fun x r δ m' h => ?_) (fun δ m' h => ?_)
          · obtain ⟨rfl, k, a, rfl, hr, hk, hall⟩ := h
            refine ⟨trivial, ?_⟩
            have hk1 : k < ys.length := by
              by_cases e : k < ys.length
              · exact e
              · rw [show ys.length - k = 0 by omega] at hr; cases hr
            rw [show ys.length - k = (ys.length - (k + 1)) + 1 by omega] at hr
            obtain ⟨rfl, rfl⟩ := List.cons.inj hr
            obtain ⟨u, hu⟩ : ∃ u, ds[k]? = some u := ⟨_, List.getElem?_eq_getElem (by omega)⟩
            obtain ⟨v, hv⟩ : ∃ v, es[k]? = some v := ⟨_, List.getElem?_eq_getElem (by omega)⟩
            obtain ⟨su, hsu, ru⟩ := rds_get rx hu
            obtain ⟨sv, hsv, rv⟩ := rds_get ry hv
            walk_at "r"
            refine ⟨_, atI_nat hsu, ?_⟩
            walk_at "r"
            refine ⟨_, atI_nat hsv, ?_⟩
            walk_at "r"
            refine ⟨_, _, _, _, rfl, ru, rv, by have := dpts_get hv; omega, smDs_get hsm.2 hv, ?_⟩
            walk_at "r"
            refine Br_i (fun hb => ?_) (fun hb => ?_)
            · walk_at "r"
              refine qf _ ?_
              show eqDs ds es = false
              cases hq : eqDs ds es with
              | false => rfl
              | true =>
                have hb : (!eqD u v) = true := hb
                rw [(eqDs_get hll).mpr hq k u v hu hv] at hb
                cases hb
            · have hb : (!eqD u v) = false := hb
              walk_at "r"
              refine .of ⟨rfl, k + 1, _, rfl, rfl, hk1, fun i u' v' hi h1 h2 => ?_⟩
              by_cases e : i = k
              · subst e
                rw [hu] at h1
                rw [hv] at h2
                cases h1
                cases h2
                simpa using hb
              · exact hall i u' v' (by omega) h1 h2
          · obtain ⟨rfl, k, a, rfl, hr, hk, hall⟩ := h
            refine ⟨trivial, ?_⟩
            walk_at "r"
            have hk1 : k = ys.length := by
              by_cases e : k < ys.length
              · rw [show ys.length - k = (ys.length - (k + 1)) + 1 by omega] at hr; cases hr
              · omega
            refine qf _ ?_
            show eqDs ds es = true
            exact (eqDs_get hll).mp fun i u v h1 h2 => hall i u v (by have := (List.getElem?_eq_some_iff.mp h2).1; omega) h1 h2
      | _ =>
        walk_at "t"
        walk_at "r"
        walk_at "t"
        walk_at "r"
        exact qf _ rfl
    | @lst ys es ry =>
      walk_at "f"
      walk_at "r"
      refine ⟨by decide, _, rfl, ?_⟩
      walk_at "r"
      walk_at "f"
      walk_at "r"
      refine ⟨by decide, _, rfl, ?_⟩
      walk_at "r"
      walk_at "f"
      walk_at "r"
      refine ⟨by decide, _, rfl, ?_⟩
      walk_at "r"
      walk_at "f"
      walk_at "r"
      refine ⟨by decide, _, rfl, ?_⟩
      walk_at "r"
      refine ⟨by decide, _, tx, ?_⟩
      walk_at "r"
      cases hx with
      | @lst xs ds rx =>
        walk_at "f"
        walk_at "r"
        refine ⟨by decide, _, rfl, ?_⟩
        walk_at "r"
        refine ⟨by decide, _, rfl, ?_⟩
        walk_at "r"
        walk_at "f"
        walk_at "r"
        refine ⟨_, rfl, ?_⟩
        walk_at "r"
        refine ⟨_, rfl, ?_⟩
        walk_at "r"
        have lx := rds_len rx
        have ly := rds_len ry
        refine Br_i (fun hl => ?_) (fun hl => ?_)
        · walk_at "r"
          refine qf _ ?_
          show eqDs ds es = false
          cases hq : eqDs ds es with
          | false => rfl
          | true =>
            have := eqDs_len hq
            have hl : (!decide ((xs.length : Int) = ys.length)) = true := hl
            simp at hl
            omega
        · have hll : ds.length = es.length := by
            have hl : (!decide ((xs.length : Int) = ys.length)) = false := hl
            simp at hl
            omega
          walk_at "r"
          refine ⟨_, rfl, ?_⟩
          walk_at "r"
          have hsm : es.length ≤ 100000 ∧ smDs es := hsm
          refine ⟨⟨by omega, by omega⟩, ?_⟩
          have hlt : 1 + dpts es < n + 1 := hlt
          refine for_inv (fun r δ m' => m' = m ∧ ∃ (k : Nat) (a : Option SV), δ = [some (SV.lst xs), some (SV.lst ys), a] ∧ r = rngS k (ys.length - k) ∧ k ≤ ys.length ∧ (∀ (i : Nat) u v, i < k → ds[i]? = some u → es[i]? = some v → eqD u v = true)) ⟨rfl, 0, none, rfl, rfl, Nat.zero_le _, fun i u v h => absurd h (Nat.not_lt_zero _)⟩ (fun x r δ m' h => ?_) (fun δ m' h => ?_)
          · obtain ⟨rfl, k, a, rfl, hr, hk, hall⟩ := h
            refine ⟨trivial, ?_⟩
            have hk1 : k < ys.length := by
              by_cases e : k < ys.length
              · exact e
              · rw [show ys.length - k = 0 by omega] at hr; cases hr
            rw [show ys.length - k = (ys.length - (k + 1)) + 1 by omega] at hr
            obtain ⟨rfl, rfl⟩ := List.cons.inj hr
            obtain ⟨u, hu⟩ : ∃ u, ds[k]? = some u := ⟨_, List.getElem?_eq_getElem (by omega)⟩
            obtain ⟨v, hv⟩ : ∃ v, es[k]? = some v := ⟨_, List.getElem?_eq_getElem (by omega)⟩
            obtain ⟨su, hsu, ru⟩ := rds_get rx hu
            obtain ⟨sv, hsv, rv⟩ := rds_get ry hv
            walk_at "r"
            refine ⟨_, atI_nat hsu, ?_⟩
            walk_at "r"
            refine ⟨_, atI_nat hsv, ?_⟩
            walk_at "r"
            refine ⟨_, _, _, _, rfl, ru, rv, by have := dpts_get hv; omega, smDs_get hsm.2 hv, ?_⟩
            walk_at "r"
            refine Br_i (fun hb => ?_) (fun hb => ?_)
            · walk_at "r"
              refine qf _ ?_
              show eqDs ds es = false
              cases hq : eqDs ds es with
              | false => rfl
              | true =>
                have hb : (!eqD u v) = true := hb
                rw [(eqDs_get hll).mpr hq k u v hu hv] at hb
                cases hb
            · have hb : (!eqD u v) = false := hb
              walk_at "r"
              refine .of ⟨rfl, k + 1, _, rfl, rfl, hk1, fun i u' v' hi h1 h2 => ?_⟩
              by_cases e : i = k
              · subst e
                rw [hu] at h1
                rw [hv] at h2
                cases h1
                cases h2
                simpa using hb
              · exact hall i u' v' (by omega) h1 h2
          · obtain ⟨rfl, k, a, rfl, hr, hk, hall⟩ := h
            refine ⟨trivial, ?_⟩
            walk_at "r"
            have hk1 : k = ys.length := by
              by_cases e : k < ys.length
              · rw [show ys.length - k = (ys.length - (k + 1)) + 1 by omega] at hr; cases hr
              · omega
            refine qf _ ?_
            show eqDs ds es = true
            exact (eqDs_get hll).mp fun i u v h1 h2 => hall i u v (by have := (List.getElem?_eq_some_iff.mp h2).1; omega) h1 h2
      | @ref ax xs ds e2 rx =>
        walk_at "f"
        walk_at "r"
        refine ⟨by decide, _, rfl, ?_⟩
        walk_at "r"
        refine ⟨by decide, _, ⟨rfl, _, e2⟩, ?_⟩
        walk_at "r"
        walk_at "f"
        walk_at "r"
        refine ⟨_, e2, ?_⟩
        walk_at "r"
        refine ⟨_, rfl, ?_⟩
        walk_at "r"
        have lx := rds_len rx
        have ly := rds_len ry
        refine Br_i (fun hl => ?_) (fun hl => ?_)
        · walk_at "r"
          refine qf _ ?_
          show eqDs ds es = false
          cases hq : eqDs ds es with
          | false => rfl
          | true =>
            have := eqDs_len hq
            have hl : (!decide ((xs.length : Int) = ys.length)) = true := hl
            simp at hl
            omega
        · have hll : ds.length = es.length := by
            have hl : (!decide ((xs.length : Int) = ys.length)) = false := hl
            simp at hl
            omega
          walk_at "r"
          refine ⟨_, rfl, ?_⟩
          walk_at "r"
          have hsm : es.length ≤ 100000 ∧ smDs es := hsm
          refine ⟨⟨by omega, by omega⟩, ?_⟩
          have hlt : 1 + dpts es < n + 1 := hlt
          refine for_inv (fun r δ m' => m' = m ∧ ∃ (k : Nat) (a : Option SV), δ = [some (SV.ref ax), some (SV.lst ys), a] ∧ r = rngS k (ys.length - k) ∧ k ≤ ys.length ∧ (∀ (i : Nat) u v, i < k → ds[i]? = some u → es[i]? = some v → eqD u v = true)) ⟨rfl, 0, none, rfl, rfl, Nat.zero_le _, fun i u v h => absurd h (Nat.not_lt_zero _)⟩ (fun x r δ m' h => ?_) (fun δ m' h => ?_)
          · obtain ⟨rfl, k, a, rfl, hr, hk, hall⟩ := h
            refine ⟨trivial, ?_⟩
            have hk1 : k < ys.length := by
              by_cases e : k < ys.length
              · exact e
              · rw [show ys.length - k = 0 by omega] at hr; cases hr
            rw [show ys.length - k = (ys.length - (k + 1)) + 1 by omega] at hr
            obtain ⟨rfl, rfl⟩ := List.cons.inj hr
            obtain ⟨u, hu⟩ : ∃ u, ds[k]? = some u := ⟨_, List.getElem?_eq_getElem (by omega)⟩
            obtain ⟨v, hv⟩ : ∃ v, es[k]? = some v := ⟨_, List.getElem?_eq_getElem (by omega)⟩
            obtain ⟨su, hsu, ru⟩ := rds_get rx hu
            obtain ⟨sv, hsv, rv⟩ := rds_get ry hv
            walk_at "r"
            refine ⟨_, _, e2, atI_nat hsu, ?_⟩
            walk_at "r"
            refine ⟨_, atI_nat hsv, ?_⟩
            walk_at "r"
            refine ⟨_, _, _, _, rfl, ru, rv, by have := dpts_get hv; omega, smDs_get hsm.2 hv, ?_⟩
            walk_at "r"
            refine Br_i (fun hb => ?_) (fun hb => ?_)
            · walk_at "r"
              refine qf _ ?_
              show eqDs ds es = false
              cases hq : eqDs ds es with
              | false => rfl
              | true =>
                have hb : (!eqD u v) = true := hb
                rw [(eqDs_get hll).mpr hq k u v hu hv] at hb
                cases hb
            · have hb : (!eqD u v) = false := hb
              walk_at "r"
              refine .of ⟨rfl, k + 1, _, rfl, rfl, hk1, fun i u' v' hi h1 h2 => ?_⟩
              by_cases e : i = k
              · subst e
                rw [hu] at h1
                rw [hv] at h2
                cases h1
                cases h2
                simpa using hb
              · exact hall i u' v' (by omega) h1 h2
          · obtain ⟨rfl, k, a, rfl, hr, hk, hall⟩ := h
            refine ⟨trivial, ?_⟩
            walk_at "r"
            have hk1 : k = ys.length := by
              by_cases e : k < ys.length
              · rw [show ys.length - k = (ys.length - (k + 1)) + 1 by omega] at hr; cases hr
              · omega
            refine qf _ ?_
            show eqDs ds es = true
            exact (eqDs_get hll).mp fun i u v h1 h2 => hall i u v (by have := (List.getElem?_eq_some_iff.mp h2).1; omega) h1 h2
      | tup rx =>
        walk_at "t"
        walk_at "r"
        walk_at "t"
        walk_at "r"
        exact qf _ rfl
      | _ =>
        walk_at "f"
        walk_at "r"
        refine ⟨by decide, _, rfl, ?_⟩
        walk_at "r"
        refine ⟨by decide, _, rfl, ?_⟩
        walk_at "r"
        walk_at "t"
        walk_at "r"
        exact qf _ rfl
    | @ref ay ys es e1 ry =>
      walk_at "f"
      walk_at "r"
      refine ⟨by decide, _, ⟨rfl, _, e1⟩, ?_⟩
      walk_at "r"
      walk_at "f"
      walk_at "r"
      refine ⟨by decide, _, ⟨rfl, _, e1⟩, ?_⟩
      walk_at "r"
      walk_at "f"
      walk_at "r"
      refine ⟨by decide, _, ⟨rfl, _, e1⟩, ?_⟩
      walk_at "r"
      walk_at "f"
      walk_at "r"
      refine ⟨by decide, _, ⟨rfl, _, e1⟩, ?_⟩
      walk_at "r"
      refine ⟨by decide, _, tx, ?_⟩
      walk_at "r"
      cases hx with
      | @lst xs ds rx =>
        walk_at "f"
        walk_at "r"
        refine ⟨by decide, _, ⟨rfl, _, e1⟩, ?_⟩
        walk_at "r"
        refine ⟨by decide, _, rfl, ?_⟩
        walk_at "r"
        walk_at "f"
        walk_at "r"
        refine ⟨_, rfl, ?_⟩
        walk_at "r"
        refine ⟨_, e1, ?_⟩
        walk_at "r"
        have lx := rds_len rx
        have ly := rds_len ry
        refine Br_i (fun hl => ?_) (fun hl => ?_)
        · walk_at "r"
          refine qf _ ?_
          show eqDs ds es = false
          cases hq : eqDs ds es with
          | false => rfl
          | true =>
            have := eqDs_len hq
            have hl : (!decide ((xs.length : Int) = ys.length)) = true := hl
            simp at hl
            omega
        · have hll : ds.length = es.length := by
            have hl : (!decide ((xs.length : Int) = ys.length)) = false := hl
            simp at hl
            omega
          walk_at "r"
          refine ⟨_, e1, ?_⟩
          walk_at "r"
          have hsm : es.length ≤ 100000 ∧ smDs es := hsm
          refine ⟨⟨by omega, by omega⟩, ?_⟩
          have hlt : 1 + dpts es < n + 1 := hlt
          refine for_inv (fun r δ m' => m' = m ∧ ∃ (k : Nat) (a : Option SV), δ = [some (SV.lst xs), some (SV.ref ay), a] ∧ r = rngS k (ys.length - k) ∧ k ≤ ys.length ∧ (∀ (i : Nat) u v, i < k → ds[i]? = some u → es[i]? = some v → eqD u v = true)) ⟨rfl, 0, none, rfl, rfl, Nat.zero_le _, fun i u v h => absurd h (Nat.not_lt_zero _)⟩ (fun x r δ m' h => ?_) (fun δ m' h => ?_)
          · obtain ⟨rfl, k, a, rfl, hr, hk, hall⟩ := h
            refine ⟨trivial, ?_⟩
            have hk1 : k < ys.length := by
              by_cases e : k < ys.length
              · exact e
              · rw [show ys.length - k = 0 by omega] at hr; cases hr
            rw [show ys.length - k = (ys.length - (k + 1)) + 1 by omega] at hr
            obtain ⟨rfl, rfl⟩ := List.cons.inj hr
            obtain ⟨u, hu⟩ : ∃ u, ds[k]? = some u := ⟨_, List.getElem?_eq_getElem (by omega)⟩
            obtain ⟨v, hv⟩ : ∃ v, es[k]? = some v := ⟨_, List.getElem?_eq_getElem (by omega)⟩
            obtain ⟨su, hsu, ru⟩ := rds_get rx hu
            obtain ⟨sv, hsv, rv⟩ := rds_get ry hv
            walk_at "r"
            refine ⟨_, atI_nat hsu, ?_⟩
            walk_at "r"
            refine ⟨_, _, e1, atI_nat hsv, ?_⟩
            walk_at "r"
            refine ⟨_, _, _, _, rfl, ru, rv, by have := dpts_get hv; omega, smDs_get hsm.2 hv, ?_⟩
            walk_at "r"
            refine Br_i (fun hb => ?_) (fun hb => ?_)
            · walk_at "r"
              refine qf _ ?_
              show eqDs ds es = false
              cases hq : eqDs ds es with
              | false => rfl
              | true =>
                have hb : (!eqD u v) = true := hb
                rw [(eqDs_get hll).mpr hq k u v hu hv] at hb
                cases hb
            · have hb : (!eqD u v) = false := hb
              walk_at "r"
              refine .of ⟨rfl, k + 1, _, rfl, rfl, hk1, fun i u' v' hi h1 h2 => ?_⟩
              by_cases e : i = k
              · subst e
                rw [hu] at h1
                rw [hv] at h2
                cases h1
                cases h2
                simpa using hb
              · exact hall i u' v' (by omega) h1 h2
          · obtain ⟨rfl, k, a, rfl, hr, hk, hall⟩ := h
            refine ⟨trivial, ?_⟩
            walk_at "r"
            have hk1 : k = ys.length := by
              by_cases e : k < ys.length
              · rw [show ys.length - k = (ys.length - (k + 1)) + 1 by omega] at hr; cases hr
              · omega
            refine qf _ ?_
            show eqDs ds es = true
            exact (eqDs_get hll).mp fun i u v h1 h2 => hall i u v (by have := (List.getElem?_eq_some_iff.mp h2).1; omega) h1 h2
      | @ref ax xs ds e2 rx =>
        walk_at "f"
        walk_at "r"
        refine ⟨by decide, _, ⟨rfl, _, e1⟩, ?_⟩
        walk_at "r"
        refine ⟨by decide, _, ⟨rfl, _, e2⟩, ?_⟩
        walk_at "r"
        walk_at "f"
        walk_at "r"
        refine ⟨_, e2, ?_⟩
        walk_at "r"
        refine ⟨_, e1, ?_⟩
        walk_at "r"
        have lx := rds_len rx
        have ly := rds_len ry
        refine Br_i (fun hl => ?_) (fun hl => ?_)
        · walk_at "r"
          refine qf _ ?_
          show eqDs ds es = false
          cases hq : eqDs ds es with
          | false => rfl
          | true =>
            have := eqDs_len hq
            have hl : (!decide ((xs.length : Int) = ys.length)) = true := hl
            simp at hl
            omega
        · have hll : ds.length = es.length := by
            have hl : (!decide ((xs.length : Int) = ys.length)) = false := hl
            simp at hl
            omega
          walk_at "r"
          refine ⟨_, e1, ?_⟩
          walk_at "r"
          have hsm : es.length ≤ 100000 ∧ smDs es := hsm
          refine ⟨⟨by omega, by omega⟩, ?_⟩
          have hlt : 1 + dpts es < n + 1 := hlt
          refine for_inv (fun r δ m' => m' = m ∧ ∃ (k : Nat) (a : Option SV), δ = [some (SV.ref ax), some (SV.ref ay), a] ∧ r = rngS k (ys.length - k) ∧ k ≤ ys.length ∧ (∀ (i : Nat) u v, i < k → ds[i]? = some u → es[i]? = some v → eqD u v = true)) ⟨rfl, 0, none, rfl, rfl, Nat.zero_le _, fun i u v h => absurd h (Nat.not_lt_zero _)⟩ (fun x r δ m' h => ?_) (fun δ m' h => ?_)
          · obtain ⟨rfl, k, a, rfl, hr, hk, hall⟩ := h
            refine ⟨trivial, ?_⟩
            have hk1 : k < ys.length := by
              by_cases e : k < ys.length
              · exact e
              · rw [show ys.length - k = 0 by omega] at hr; cases hr
            rw [show ys.length - k = (ys.length - (k + 1)) + 1 by omega] at hr
            obtain ⟨rfl, rfl⟩ := List.cons.inj hr
            obtain ⟨u, hu⟩ : ∃ u, ds[k]? = some u := ⟨_, List.getElem?_eq_getElem (by omega)⟩
            obtain ⟨v, hv⟩ : ∃ v, es[k]? = some v := ⟨_, List.getElem?_eq_getElem (by omega)⟩
            obtain ⟨su, hsu, ru⟩ := rds_get rx hu
            obtain ⟨sv, hsv, rv⟩ := rds_get ry hv
            walk_at "r"
            refine ⟨_, _, e2, atI_nat hsu, ?_⟩
            walk_at "r"
            refine ⟨_, _, e1, atI_nat hsv, ?_⟩
            walk_at "r"
            refine ⟨_, _, _, _, rfl, ru, rv, by have := dpts_get hv; omega, smDs_get hsm.2 hv, ?_⟩
            walk_at "r"
            refine Br_i (fun hb => ?_) (fun hb => ?_)
            · walk_at "r"
              refine qf _ ?_
              show eqDs ds es = false
              cases hq : eqDs ds es with
              | false => rfl
              | true =>
                have hb : (!eqD u v) = true := hb
                rw [(eqDs_get hll).mpr hq k u v hu hv] at hb
                cases hb
            · have hb : (!eqD u v) = false := hb
              walk_at "r"
              refine .of ⟨rfl, k + 1, _, rfl, rfl, hk1, fun i u' v' hi h1 h2 => ?_⟩
              by_cases e : i = k
              · subst e
                rw [hu] at h1
                rw [hv] at h2
                cases h1
                cases h2
                simpa using hb
              · exact hall i u' v' (by omega) h1 h2
          · obtain ⟨rfl, k, a, rfl, hr, hk, hall⟩ := h
            refine ⟨trivial, ?_⟩
            walk_at "r"
            have hk1 : k = ys.length := by
              by_cases e : k < ys.length
              · rw [show ys.length - k = (ys.length - (k + 1)) + 1 by omega] at hr; cases hr
              · omega
            refine qf _ ?_
            show eqDs ds es = true
            exact (eqDs_get hll).mp fun i u v h1 h2 => hall i u v (by have := (List.getElem?_eq_some_iff.mp h2).1; omega) h1 h2
      | tup rx =>
        walk_at "t"
        walk_at "r"
        walk_at "t"
        walk_at "r"
        exact qf _ rfl
      | _ =>
        walk_at "f"
        walk_at "r"
        refine ⟨by decide, _, ⟨rfl, _, e1⟩, ?_⟩
        walk_at "r"
        refine ⟨by decide, _, rfl, ?_⟩
        walk_at "r"
        walk_at "t"
        walk_at "r"
        exact qf _ rfl
end
end Hn

set_option Elab.async false
set_option linter.all false
set_option maxRecDepth 100000
set_option maxHeartbeats 8000000
namespace Hn
open PySem PySem.Spec PyProof.Rows L2 Sy Lm
section
variable {P : Program} {w : World} {K : PySem.W.Frag} {mg : Str → Option Value} {base : Heap}
local macro_rules | `(tactic| walk_at "r") => `(tactic| (conv => whnf))
local macro_rules | `(tactic| walk_at "sp") => `(tactic| (first | rfl | contradiction | exact (False.elim ‹_›)))
local macro_rules | `(tactic| walk_at "len") => `(tactic| (exact Nat.le_trans (show _ ≤ 100000 by first | (simp; done) | (rw [rngS_length]; decide)) (by decide)))
local macro_rules | `(tactic| walk_at "f") => `(tactic| (refine Br_i (fun hb => Bool.noConfusion (show false = true from hb)) (fun _ => ?_)))
local macro_rules | `(tactic| walk_at "t") => `(tactic| (refine Br_i (fun _ => ?_) (fun hb => Bool.noConfusion (show true = false from hb))))
local macro_rules | `(tactic| walk_at "le") => `(tactic| first | exact Le.refl _ | (refine Le.put ?_; walk_at "le") | (refine Le.new ?_ (by assumption); walk_at "le"))
def inStr (b e h : Int) : Bool := if b < e then decide (b ≤ h) && decide (h < e) else decide (b ≤ h) || decide (h < e)
def spInStr : SpS := fun vs m _ S => match vs with
  | [.int h, .int b, .int e] => S (.bl (inStr b e h)) m
  | _ => False
/-- whether one of the stretches holds the hour -/
def inSome (hs : List (Int × Int)) (h : Int) : Bool := hs.any fun p => inStr p.1 p.2 h
def hoursB (hs : List (Int × Int)) : List Bool := (List.range 24).map fun i => inSome hs (i : Nat)
def svInt (f : Int → SV) : SV → SV
  | .int i => f i
  | x => x
def spHours : SpS := fun vs m _ S => ∃ hs : List (Int × Int), vs = [.tup (hs.map pairV)] ∧ hs.length ≤ 1000 ∧ ∀ p, m p = none → S (.ref p) (up m p (.lst ((hoursB hs).map .bl)))
def spJudged (C : Addr) : SpS := fun vs m SX S => ∃ R x, vs = [RV R, x] ∧ RulesOk R ∧ Dat m x ∧ (∀ (i : Nat) (h : i < R.length), x = .int i → ∀ p, m p = none → S (.ref p) (up m p (.lst ((hoursB R[i].hs).map .bl)))) ∧ (isWh x 0 (R.length - 1) = false → SX ⟨C, none⟩ m)
def ffGo (bs : Int → Bool) : Nat → Int → Option Int
  | 0, _ => none
  | n + 1, t => if bs (t % 24) = true then ffGo bs n (t + 1) else some t
/-- the first moment from this one on that isn't hushed -/
def firstFree (hs : List (Int × Int)) (t : Int) : Option Int := ffGo (inSome hs) 24 t
def spFree : SpS := fun vs m _ S => ∃ p hs mo, vs = [.ref p, .int mo] ∧ m p = some (.lst ((hoursB hs).map .bl)) ∧ -(10 ^ 9) ≤ mo ∧ mo ≤ 10 ^ 9 ∧ S (optV (firstFree hs mo)) m
end
end Hn

set_option Elab.async false
set_option linter.all false
set_option maxRecDepth 100000
set_option maxHeartbeats 8000000
namespace Hn
open PySem PySem.Spec PyProof.Rows L2 Sy Lm
section
variable {P : Program} {w : World} {K : PySem.W.Frag} {mg : Str → Option Value} {base : Heap}
local macro_rules | `(tactic| walk_at "r") => `(tactic| (conv => whnf))
local macro_rules | `(tactic| walk_at "sp") => `(tactic| (first | rfl | contradiction | exact (False.elim ‹_›)))
local macro_rules | `(tactic| walk_at "len") => `(tactic| (exact Nat.le_trans (show _ ≤ 100000 by first | (simp; done) | (rw [rngS_length]; decide)) (by decide)))
local macro_rules | `(tactic| walk_at "f") => `(tactic| (refine Br_i (fun hb => Bool.noConfusion (show false = true from hb)) (fun _ => ?_)))
local macro_rules | `(tactic| walk_at "t") => `(tactic| (refine Br_i (fun _ => ?_) (fun hb => Bool.noConfusion (show true = false from hb))))
local macro_rules | `(tactic| walk_at "le") => `(tactic| first | exact Le.refl _ | (refine Le.put ?_; walk_at "le") | (refine Le.new ?_ (by assumption); walk_at "le"))
/-! ### notices on their way: the plain model -/
structure Pl where
  per : Int
  key : Option Int
  at_ : Int
  deriving DecidableEq
structure NW where
  rank : Int
  went : List Int
  told : List Int
  due : Option Int
  heard : Option (Int × Int)
  gone : Bool
  place : Option Pl
structure NR where
  per : Int
  rank : Int
  kind : Int
  born : Int
abbrev RowT := Sy.Row
abbrev Hr := Int × Int × Int
abbrev WS := Nat → NW
def setW (W : WS) (j : Nat) (x : NW) : WS := fun i => if i = j then x else W i
def dfR : PR := ⟨[], 0, [], none, none⟩
def pr (R : List PR) (p : Int) : PR := R.getD p.toNat dfR
def dfN : NR := ⟨0, 0, 0, 0⟩
def ntc (N : List NR) (j : Nat) : NR := N.getD j dfN
def spanOf (gs : List (Int × Int)) (k : Int) : Option Int := (gs.find? fun g => decide (g.1 = k)).map (·.2)
def openAt (n : Nat) (W : WS) (p k t : Int) : Option Int := (List.range n).findSome? fun j => match (W j).place with
  | some pl => if pl.per = p ∧ pl.key = some k ∧ t < pl.at_ then some pl.at_ else none
  | none => none
def placeOf (R : List PR) (n : Nat) (W : WS) (p k rank t : Int) : Pl := match spanOf (pr R p).gs k with
  | none => ⟨p, none, t⟩
  | some s => if rank = 3 then ⟨p, none, t⟩ else ⟨p, some k, (openAt n W p k t).getD (t + s)⟩
def xGone (x : NW) : NW := ⟨x.rank, x.went, x.told, none, x.heard, true, x.place⟩
def xUp (x : NW) : NW := ⟨min (x.rank + 1) 3, x.went, x.told, none, x.heard, x.gone, x.place⟩
def xHear (x : NW) (p t : Int) : NW := ⟨x.rank, x.went, x.told, none, some (p, t), x.gone, x.place⟩
def xPut (x : NW) (p : Int) (pl : Pl) : NW := ⟨x.rank, x.went ++ [p], x.told, x.due, x.heard, x.gone, some pl⟩
def bringW (R : List PR) (N : List NR) (W : WS) (j : Nat) (p t : Int) : WS := setW W j (xPut (W j) p (placeOf R N.length W p (ntc N j).kind (W j).rank t))
def sendW (R : List PR) (N : List NR) (W : WS) (j : Nat) (t : Int) : WS := match (pr R ((W j).went.getLastD 0)).fur with
  | none => setW W j (xGone (W j))
  | some q => if q ∈ (W j).went then setW W j (xGone (W j))
    else bringW R N (setW W j (xUp (W j))) j q t
def moveW (R : List PR) (N : List NR) (W : WS) (t : Int) : WS := (List.range N.length).foldl (fun W j => if (W j).due = some t then sendW R N W j t else W) W
def bornW (R : List PR) (N : List NR) (W : WS) (t : Int) : WS := (List.range N.length).foldl (fun W j => if (ntc N j).born = t then bringW R N W j (ntc N j).per t else W) W
def hear1 (W : WS) (t : Int) (h : Hr) : WS := if h.1 = t ∧ h.2.1 ∈ (W h.2.2.toNat).told ∧ (W h.2.2.toNat).heard = none then setW W h.2.2.toNat (xHear (W h.2.2.toNat) h.2.1 t) else W
def hearW (hs : List Hr) (W : WS) (t : Int) : WS := hs.foldl (fun W h => hear1 W t h) W
def unh (W : WS) (ms : List Nat) : List Nat := ms.filter fun j => (W j).heard.isNone
def topOf (W : WS) : List Nat → Int
  | [] => 0
  | j :: r => max (W j).rank (topOf W r)
def letsBy (r : PR) (top t : Int) : Bool := !inSome r.hs (t % 24) || decide (r.least ≤ top)
def mates (n : Nat) (W : WS) (j : Nat) : List Nat := (List.range n).filter fun i => (W i).heard.isNone && (decide ((W i).place = (W j).place) && (decide (i = j) || match (W j).place with
  | some pl => pl.key.isSome
  | none => false))
def toldNow (R : List PR) (n : Nat) (W : WS) (t : Int) (j : Nat) : Bool := match (W j).place with
  | none => false
  | some pl => (W j).heard.isNone && (decide (pl.at_ ≤ t) && letsBy (pr R pl.per) (topOf W (mates n W j)) t)
def tell1 (R : List PR) (t p : Int) (x : NW) : NW := ⟨x.rank, x.went, x.told ++ [p], (match (pr R p).wait with
  | none => x.due
  | some w => some (t + w)), x.heard, x.gone, none⟩
def perOf (x : NW) : Int := match x.place with
  | some pl => pl.per
  | none => 0
def tellW (R : List PR) (n : Nat) (W : WS) (t : Int) : WS := fun j => if (decide (j < n) && toldNow R n W t j) = true then tell1 R t (perOf (W j)) (W j) else W j
def natI (ms : List Nat) : List Int := ms.map fun j : Nat => (j : Int)
def rowsW (R : List PR) (n : Nat) (W : WS) (t : Int) : List RowT := (List.range n).filterMap fun j => if (toldNow R n W t j && decide ((mates n W j).head? = some j)) = true then some (t, perOf (W j), natI (mates n W j)) else none
def ini (N : List NR) : WS := fun j => ⟨(ntc N j).rank, [], [], none, none, false, none⟩
def beforeTell (R : List PR) (N : List NR) (hs : List Hr) (W : WS) (t : Int) : WS := bornW R N (moveW R N (hearW hs W t) t) t
def stepW (R : List PR) (N : List NR) (hs : List Hr) (W : WS) (t : Int) : WS := tellW R N.length (beforeTell R N hs W t) t
/-- ahead of moment t -/
def stW (R : List PR) (N : List NR) (hs : List Hr) : Nat → WS
  | 0 => ini N
  | t + 1 => stepW R N hs (stW R N hs t) t
def rowLe (a b : RowT) : Bool := !HT.lexLt (keyR b) (keyR a)
def srtR (rs : List RowT) : List RowT := rs.mergeSort rowLe
/-- the rows of moment t -/
def rowsAt (R : List PR) (N : List NR) (hs : List Hr) (t : Nat) : List RowT := srtR (rowsW R N.length (beforeTell R N hs (stW R N hs t) t) t)
def rowsUp (R : List PR) (N : List NR) (hs : List Hr) : Nat → List RowT
  | 0 => []
  | t + 1 => rowsUp R N hs t ++ rowsAt R N hs t
/-! sorted rows -/
end
end Hn

set_option Elab.async false
set_option linter.all false
set_option maxRecDepth 100000
set_option maxHeartbeats 8000000
namespace Hn
open PySem PySem.Spec PyProof.Rows L2 Sy Lm
section
variable {P : Program} {w : World} {K : PySem.W.Frag} {mg : Str → Option Value} {base : Heap}
local macro_rules | `(tactic| walk_at "r") => `(tactic| (conv => whnf))
local macro_rules | `(tactic| walk_at "sp") => `(tactic| (first | rfl | contradiction | exact (False.elim ‹_›)))
local macro_rules | `(tactic| walk_at "len") => `(tactic| (exact Nat.le_trans (show _ ≤ 100000 by first | (simp; done) | (rw [rngS_length]; decide)) (by decide)))
local macro_rules | `(tactic| walk_at "f") => `(tactic| (refine Br_i (fun hb => Bool.noConfusion (show false = true from hb)) (fun _ => ?_)))
local macro_rules | `(tactic| walk_at "t") => `(tactic| (refine Br_i (fun _ => ?_) (fun hb => Bool.noConfusion (show true = false from hb))))
local macro_rules | `(tactic| walk_at "le") => `(tactic| first | exact Le.refl _ | (refine Le.put ?_; walk_at "le") | (refine Le.new ?_ (by assumption); walk_at "le"))
/-! what holds of notices on their way -/
structure Good (R : List PR) (N : List NR) (W : WS) (t : Int) (U : Nat → Prop) : Prop where
  nd : ∀ j, j < N.length → (W j).went.Nodup
  rg : ∀ j, j < N.length → ∀ p ∈ (W j).went, 0 ≤ p ∧ p < R.length
  tl : ∀ j, j < N.length → (W j).told.length + (if (W j).place.isSome = true then 1 else 0) ≤ (W j).went.length
  ti : ∀ j, j < N.length → ∀ p ∈ (W j).told, p ∈ (W j).went
  pl : ∀ j, j < N.length → ∀ pl, (W j).place = some pl → (W j).went.getLast? = some pl.per ∧ pl.per ∉ (W j).told
  du : ∀ j, j < N.length → ∀ d, (W j).due = some d → (W j).place = none ∧ (W j).heard = none ∧ (W j).went ≠ []
  rk : ∀ j, j < N.length → 0 ≤ (W j).rank ∧ (W j).rank ≤ 3
  uq : ∀ i j, i < N.length → j < N.length → ∀ p k r r', (W i).place = some ⟨p, some k, r⟩ → (W j).place = some ⟨p, some k, r'⟩ → t < r → t < r' → r = r'
  un : ∀ j, j < N.length → U j → W j = ini N j
/-! open heaps -/
end
end Hn

set_option Elab.async false
set_option linter.all false
set_option maxRecDepth 100000
set_option maxHeartbeats 8000000
namespace Hn
open PySem PySem.Spec PyProof.Rows L2 Sy Lm
section
variable {P : Program} {w : World} {K : PySem.W.Frag} {mg : Str → Option Value} {base : Heap}
local macro_rules | `(tactic| walk_at "r") => `(tactic| (conv => whnf))
local macro_rules | `(tactic| walk_at "sp") => `(tactic| (first | rfl | contradiction | exact (False.elim ‹_›)))
local macro_rules | `(tactic| walk_at "len") => `(tactic| (exact Nat.le_trans (show _ ≤ 100000 by first | (simp; done) | (rw [rngS_length]; decide)) (by decide)))
local macro_rules | `(tactic| walk_at "f") => `(tactic| (refine Br_i (fun hb => Bool.noConfusion (show false = true from hb)) (fun _ => ?_)))
local macro_rules | `(tactic| walk_at "t") => `(tactic| (refine Br_i (fun _ => ?_) (fun hb => Bool.noConfusion (show true = false from hb))))
local macro_rules | `(tactic| walk_at "le") => `(tactic| first | exact Le.refl _ | (refine Le.put ?_; walk_at "le") | (refine Le.new ?_ (by assumption); walk_at "le"))
structure NtOk (R : List PR) (N : List NR) : Prop where
  len : N.length ≤ 30
  all : ∀ x ∈ N, (0 ≤ x.per ∧ x.per < R.length) ∧ (0 ≤ x.rank ∧ x.rank ≤ 3) ∧ (0 ≤ x.kind ∧ x.kind ≤ 7) ∧ (0 ≤ x.born ∧ x.born ≤ 300)
  rise : N.Pairwise fun a b => a.born ≤ b.born
/-- who is still to be born at moment t, behind which are those of l -/
def Yet (N : List NR) (t : Int) (l : List Nat) : Nat → Prop := fun j => t < (ntc N j).born ∨ ((ntc N j).born = t ∧ j ∈ l)
end
end Hn

set_option Elab.async false
set_option linter.all false
set_option maxRecDepth 100000
set_option maxHeartbeats 8000000
namespace Hn
open PySem PySem.Spec PyProof.Rows L2 Sy Lm
section
variable {P : Program} {w : World} {K : PySem.W.Frag} {mg : Str → Option Value} {base : Heap}
local macro_rules | `(tactic| walk_at "r") => `(tactic| (conv => whnf))
local macro_rules | `(tactic| walk_at "sp") => `(tactic| (first | rfl | contradiction | exact (False.elim ‹_›)))
local macro_rules | `(tactic| walk_at "len") => `(tactic| (exact Nat.le_trans (show _ ≤ 100000 by first | (simp; done) | (rw [rngS_length]; decide)) (by decide)))
local macro_rules | `(tactic| walk_at "f") => `(tactic| (refine Br_i (fun hb => Bool.noConfusion (show false = true from hb)) (fun _ => ?_)))
local macro_rules | `(tactic| walk_at "t") => `(tactic| (refine Br_i (fun _ => ?_) (fun hb => Bool.noConfusion (show true = false from hb))))
local macro_rules | `(tactic| walk_at "le") => `(tactic| first | exact Le.refl _ | (refine Le.put ?_; walk_at "le") | (refine Le.new ?_ (by assumption); walk_at "le"))
/-! heaps and what is ready, as entries -/
structure Ent where
  pl : Pl
  ms : List Nat
structure Bat (n : Nat) (W : WS) (t : Int) (es : List Ent) : Prop where
  ne : ∀ e ∈ es, e.ms ≠ []
  nd : ∀ e ∈ es, e.ms.Nodup
  at_ : ∀ e ∈ es, ∀ j ∈ e.ms, j < n ∧ (W j).place = some e.pl
  one : ∀ e ∈ es, e.pl.key = none → ∃ j, e.ms = [j]
  pw : es.Pairwise fun e f => e.pl ≠ f.pl ∨ (e.pl.key = none ∧ ∀ j ∈ e.ms, j ∉ f.ms)
  all : ∀ j, j < n → ∀ pl, (W j).place = some pl → (W j).heard = none ∨ t < pl.at_ → ∃ e ∈ es, e.pl = pl ∧ j ∈ e.ms
end
end Hn

set_option Elab.async false
set_option linter.all false
set_option maxRecDepth 100000
set_option maxHeartbeats 8000000
namespace Hn
open PySem PySem.Spec PyProof.Rows L2 Sy Lm
section
variable {P : Program} {w : World} {K : PySem.W.Frag} {mg : Str → Option Value} {base : Heap}
local macro_rules | `(tactic| walk_at "r") => `(tactic| (conv => whnf))
local macro_rules | `(tactic| walk_at "sp") => `(tactic| (first | rfl | contradiction | exact (False.elim ‹_›)))
local macro_rules | `(tactic| walk_at "len") => `(tactic| (exact Nat.le_trans (show _ ≤ 100000 by first | (simp; done) | (rw [rngS_length]; decide)) (by decide)))
local macro_rules | `(tactic| walk_at "f") => `(tactic| (refine Br_i (fun hb => Bool.noConfusion (show false = true from hb)) (fun _ => ?_)))
local macro_rules | `(tactic| walk_at "t") => `(tactic| (refine Br_i (fun _ => ?_) (fun hb => Bool.noConfusion (show true = false from hb))))
local macro_rules | `(tactic| walk_at "le") => `(tactic| first | exact Le.refl _ | (refine Le.put ?_; walk_at "le") | (refine Le.new ?_ (by assumption); walk_at "le"))
/-! what is told, by entries -/
def leftOf (W : WS) (e : Ent) : List Nat := unh W e.ms
def tells (R : List PR) (W : WS) (t : Int) (e : Ent) : Bool := decide (e.pl.at_ ≤ t) && (!(leftOf W e).isEmpty && letsBy (pr R e.pl.per) (topOf W (leftOf W e)) t)
def stays (R : List PR) (W : WS) (t : Int) (e : Ent) : Bool := decide (t < e.pl.at_) || (!(leftOf W e).isEmpty && !letsBy (pr R e.pl.per) (topOf W (leftOf W e)) t)
def rowOf (W : WS) (t : Int) (e : Ent) : RowT := (t, e.pl.per, srtI (natI (leftOf W e)))
section
variable {R : List PR} {n : Nat} {W : WS} {t : Int} {es : List Ent}
end
end
end Hn

set_option Elab.async false
set_option linter.all false
set_option maxRecDepth 100000
set_option maxHeartbeats 8000000
namespace Hn
open PySem PySem.Spec PyProof.Rows L2 Sy Lm
section
variable {P : Program} {w : World} {K : PySem.W.Frag} {mg : Str → Option Value} {base : Heap}
local macro_rules | `(tactic| walk_at "r") => `(tactic| (conv => whnf))
local macro_rules | `(tactic| walk_at "sp") => `(tactic| (first | rfl | contradiction | exact (False.elim ‹_›)))
local macro_rules | `(tactic| walk_at "len") => `(tactic| (exact Nat.le_trans (show _ ≤ 100000 by first | (simp; done) | (rw [rngS_length]; decide)) (by decide)))
local macro_rules | `(tactic| walk_at "f") => `(tactic| (refine Br_i (fun hb => Bool.noConfusion (show false = true from hb)) (fun _ => ?_)))
local macro_rules | `(tactic| walk_at "t") => `(tactic| (refine Br_i (fun _ => ?_) (fun hb => Bool.noConfusion (show true = false from hb))))
local macro_rules | `(tactic| walk_at "le") => `(tactic| first | exact Le.refl _ | (refine Le.put ?_; walk_at "le") | (refine Le.new ?_ (by assumption); walk_at "le"))
def NR.sv (x : NR) : SV := .tup [.int x.per, .int x.rank, .int x.kind, .int x.born]
def hrS (h : Hr) : SV := .tup [.int h.1, .int h.2.1, .int h.2.2]
/-- whether this can be a notice, born at this moment at the earliest -/
def canNt (x : SV) (many lo : Int) : Bool := match x with
  | .tup [a, b, c, d] => isWh a 0 (many - 1) && (isWh b 0 3 && (isWh c 0 7 && isWh d lo 300))
  | _ => false
def canHr (x : SV) (mp mn lo : Int) : Bool := match x with
  | .tup [a, b, c] => isWh a lo 600 && (isWh b 0 (mp - 1) && isWh c 0 (mn - 1))
  | _ => false
def spCanNt : SpS := fun vs m _ S => match vs with
  | [x, .int many, .int lo] => DD m x ∧ S (.bl (canNt x many lo)) m
  | _ => False
def spCanHr : SpS := fun vs m _ S => match vs with
  | [x, .int mp, .int mn, .int lo] => DD m x ∧ S (.bl (canHr x mp mn lo)) m
  | _ => False
theorem tup4 {x : SV} (h : isTupN x 4 = true) : ∃ a b c d, x = .tup [a, b, c, d] := by
  cases x with
  | tup xs => rcases xs with _ | ⟨a, _ | ⟨b, _ | ⟨c, _ | ⟨d, _ | ⟨e, r⟩⟩⟩⟩⟩ <;> first | exact ⟨_, _, _, _, rfl⟩ | (simp [isTupN] at h; done) | (simp [isTupN] at h; omega)
  | _ => cases h
theorem not_tup4 {x : SV} {many lo : Int} (h : isTupN x 4 = false) : canNt x many lo = false := by
  cases x with
  | tup xs => rcases xs with _ | ⟨a, _ | ⟨b, _ | ⟨c, _ | ⟨d, _ | ⟨e, r⟩⟩⟩⟩⟩ <;> first | rfl | (simp [isTupN] at h; done)
  | _ => rfl
theorem ok_can_be_notice (T : Tx K mg) : FnOk P w K mg base CX0 3 (He.ga K "can_be_notice") T.fd_can_be_notice ["row", "many_persons", "earliest"] (lift K spCanNt) := by
  have G_is_tuple_of := ok_is_tuple_of (P := P) (w := w) (base := base) T
  have b_is_tuple_of := b_is_tuple_of T
  have G_is_whole := ok_is_whole (P := P) (w := w) (base := base) T
  have b_is_whole := b_is_whole T
  refine fn_sy T.F_can_be_notice sc_can_be_notice (fun svs m SX Sv h => ?_) (fun cdv A outer s H E hr => ⟨_, _, (gss_cons (gs_if (gt_not (gt_val (ge_call G_is_tuple_of (hr.mono (by decide)) (by rfl) T.g_is_tuple_of T.k_is_tuple_of b_is_tuple_of .nil (fun _ => .nil) pass0 (ga_cons (gv 0) (ga_cons ge_int ga_nil))))) (gss_one (gs_ret ge_bl)) gss_nil)
      (gss_cons (gs_asg (gv 0) (gg_tup 4 (by rfl) (ggs_cons (gg_name (i := 3) sc_can_be_notice.nd rfl (.inl rfl)) (ggs_cons (gg_name (i := 4) sc_can_be_notice.nd rfl (.inl rfl)) (ggs_cons (gg_name (i := 5) sc_can_be_notice.nd rfl (.inl rfl)) (ggs_cons (gg_name (i := 6) sc_can_be_notice.nd rfl (.inl rfl)) ggs_nil))))))
      (gss_cons (gs_set (i := 7) sc_can_be_notice.nd rfl (.inl rfl) (ge_lst (ga_cons (ge_call G_is_whole (hr) (by rfl) T.g_is_whole T.k_is_whole b_is_whole .nil (fun _ => .nil) pass0 (ga_cons (gv 3) (ga_cons ge_int (ga_cons (ge_op op_sub sim_sub (gv 1) ge_int) ga_nil)))) (ga_cons (ge_call G_is_whole (hr) (by rfl) T.g_is_whole T.k_is_whole b_is_whole .nil (fun _ => .nil) pass0 (ga_cons (gv 4) (ga_cons ge_int (ga_cons (ge_gi (by rfl) T.i_LAST_RANK) ga_nil)))) (ga_cons (ge_call G_is_whole (hr) (by rfl) T.g_is_whole T.k_is_whole b_is_whole .nil (fun _ => .nil) pass0 (ga_cons (gv 5) (ga_cons ge_int (ga_cons (ge_gi (by rfl) T.i_LAST_KIND) ga_nil)))) (ga_cons (ge_call G_is_whole (hr) (by rfl) T.g_is_whole T.k_is_whole b_is_whole .nil (fun _ => .nil) pass0 (ga_cons (gv 6) (ga_cons (gv 2) (ga_cons (ge_gi (by rfl) T.i_LAST_BORN) ga_nil)))) ga_nil))))))
      (gss_one (gs_ret (ge_callB (cr_allG K) sim_all (by rfl) T.z_all (by decide +kernel) (ga_cons (gv 7) ga_nil))))))), fun svs m SX Sv h => ?_⟩)
  · unfold spCanNt at h
    split at h <;> first | rfl | exact h.elim
  · unfold spCanNt at h
    split at h
    · rename_i x many lo
      obtain ⟨hd, q⟩ := h
      walk_at "r"
      refine ⟨hd.dat, ?_⟩
      walk_at "r"
      refine Br_i (fun h1 => ?_) (fun h1 => ?_)
      · walk_at "r"
        rw [not_tup4 (by simpa using h1)] at q
        exact .of q
      · obtain ⟨a, b, c, d, rfl⟩ := tup4 (by simpa using h1)
        cases hd with
        | tup hd =>
          have q : Sv (.bl (isWh a 0 (many - 1) && (isWh b 0 3 && (isWh c 0 7 && isWh d lo 300)))) m := q
          walk_at "r"
          refine ⟨rfl, ?_⟩
          walk_at "r"
          refine ⟨(hd.mem (by simp)).dat, ?_⟩
          walk_at "r"
          refine ⟨(hd.mem (by simp)).dat, ?_⟩
          walk_at "r"
          refine ⟨(hd.mem (by simp)).dat, ?_⟩
          walk_at "r"
          refine ⟨(hd.mem (by simp)).dat, ?_⟩
          walk_at "r"
          refine ⟨by walk_at "len", fun p hp => ?_⟩
          walk_at "r"
          refine ⟨[isWh a 0 (many - 1), isWh b 0 3, isWh c 0 7, isWh d lo 300], up_same, ?_⟩
          have e : [isWh a 0 (many - 1), isWh b 0 3, isWh c 0 7, isWh d lo 300].all id = (isWh a 0 (many - 1) && (isWh b 0 3 && (isWh c 0 7 && isWh d lo 300))) := by simp
          rw [e]
          exact ⟨m, .new (.refl m) hp, q⟩
    · exact h.elim
theorem nr_dd {m : Mem} (x : NR) : DD m x.sv := .tup (.cons (.int _) (.cons (.int _) (.cons (.int _) (.cons (.int _) .nil))))
structure HrOk (R : List PR) (N : List NR) (H : List Hr) : Prop where
  len : H.length ≤ 60
  all : ∀ h ∈ H, (0 ≤ h.1 ∧ h.1 ≤ 600) ∧ (0 ≤ h.2.1 ∧ h.2.1 < R.length) ∧ (0 ≤ h.2.2 ∧ h.2.2 < N.length)
  rise : H.Pairwise fun a b => a.1 ≤ b.1
def spNtOk : SpS := fun vs m _ S => ∃ R N a, vs = [PV R, .ref a] ∧ m a = some (.lst (N.map NR.sv)) ∧ NtOk R N ∧ S .non m
def spHrOk : SpS := fun vs m _ S => ∃ R N H a x, vs = [PV R, .ref a, x] ∧ m a = some (.lst (N.map NR.sv)) ∧ Its m x (H.map hrS) ∧ HrOk R N H ∧ (∃ t, tyS m x t ∧ (isB t "list" || isB t "tuple") = true) ∧ S .non m
theorem enS_cons {i : Int} {x : SV} {r : List SV} : enS i (x :: r) = .tup [.int i, x] :: enS (i + 1) r := rfl
theorem drop_cons' {α : Type} {l : List α} {j : Nat} {x : α} {r : List α} (h : l.drop j = x :: r) : l[j]? = some x ∧ l.drop (j + 1) = r := by
  have e : l[j]? = some x := by
    have z := congrArg (fun l => l[0]?) h
    simpa using z
  refine ⟨e, ?_⟩
  rw [← List.drop_drop, h]
  rfl
theorem ok_refuse_bad_notices (T : Tx K mg) : FnOk P w K mg base CX0 4 (He.ga K "refuse_bad_notices") T.fd_refuse_bad_notices ["rules", "notices"] (lift K spNtOk) := by
  have G_can_be_notice := ok_can_be_notice (P := P) (w := w) (base := base) T
  have b_can_be_notice := b_can_be_notice T
  refine fn_sy T.F_refuse_bad_notices sc_refuse_bad_notices (fun svs m SX Sv h => ?_) (fun cdv A outer s H E hr => ⟨_, _, (gss_cons (gs_if (gt_not (gt_val (ge_callB (cr_isi K) sim_isi (by rfl) T.z_isinstance (by decide +kernel) (ga_cons (gv 1) (ga_cons (ge_ty (n := "list") (by rfl) T.z_list (by decide +kernel)) ga_nil))))) (gss_one gs_never) gss_nil)
      (gss_cons (gs_set (i := 2) sc_refuse_bad_notices.nd rfl (.inl rfl) ge_int)
      (gss_one (gs_for PassesOwn.never rfl (gi_enumerate (by rfl) T.z_enumerate (ga_cons (gv 1) ga_nil)) (gg_tup 2 (by rfl) (ggs_cons (gg_name (i := 3) sc_refuse_bad_notices.nd rfl (.inl rfl)) (ggs_cons (gg_name (i := 4) sc_refuse_bad_notices.nd rfl (.inl rfl)) ggs_nil)))
      (gss_cons (gs_if (gw_pt (gw_or (gt_cmp (op_eqG K hr.units) sim_eq (gv 3) (ge_gi (by rfl) T.i_MOST_NOTICES) (nomark _)) (gw_or1 (gt_not (gt_val (ge_call G_can_be_notice (hr) (by rfl) T.g_can_be_notice T.k_can_be_notice b_can_be_notice .nil (fun _ => .nil) pass0 (ga_cons (gv 4) (ga_cons (ge_callB (cr_len K) sim_len (by rfl) T.z_len (by decide +kernel) (ga_cons (gv 0) ga_nil)) (ga_cons (gv 2) ga_nil))))))))) (gss_one gs_never) gss_nil)
      (gss_one (gs_set (i := 2) sc_refuse_bad_notices.nd rfl (.inl rfl) (ge_ix (ix_G K) sim_ix (gv 4) ge_int (fun _ _ => rfl))))))))), fun svs m SX Sv h => ?_⟩)
  · obtain ⟨R, N, a, rfl, _⟩ := h
    rfl
  · obtain ⟨R, N, a, rfl, ha, ok, q⟩ := h
    have hl := ok.len
    walk_at "r"
    refine ⟨by decide, _, ⟨rfl, _, ha⟩, ?_⟩
    walk_at "r"
    walk_at "f"
    walk_at "r"
    refine ⟨_, ha, ?_⟩
    refine for_inv (fun r δ m' => m' = m ∧ ∃ (j : Nat) (lo : Int) (x y : Option SV), δ = [some (PV R), some (.ref a), some (.int lo), x, y] ∧ r = enS j ((N.drop j).map NR.sv) ∧ j ≤ N.length ∧ (∀ z ∈ N.drop j, lo ≤ z.born)) ⟨rfl, 0, 0, none, none, rfl, rfl, Nat.zero_le _, fun z hz => (ok.all z hz).2.2.2.1⟩ (fun x r δ m' h => ?_) (fun δ m' h => ?_)
    · obtain ⟨rfl, j, lo, a3, a4, rfl, hr, hj, hlo⟩ := h
      cases hd : N.drop j with
      | nil => rw [hd] at hr; cases hr
      | cons z zs =>
        obtain ⟨hz, hd2⟩ := drop_cons' hd
        have hj2 := (List.getElem?_eq_some_iff.mp hz).1
        rw [hd, List.map_cons, enS_cons] at hr
        obtain ⟨rfl, rfl⟩ := List.cons.inj hr
        have hm : z ∈ N := List.mem_of_getElem? hz
        obtain ⟨⟨p0, p1⟩, ⟨r0, r1⟩, ⟨k0, k1⟩, ⟨b0, b1⟩⟩ := ok.all z hm
        have hlz := hlo z (by rw [hd]; exact List.mem_cons_self)
        refine ⟨ha, ?_⟩
        walk_at "r"
        refine ⟨rfl, ?_⟩
        walk_at "r"
        refine Br_i (fun h2 => ?_) (fun _ => ?_)
        · have := of_decide_eq_true h2
          omega
        walk_at "r"
        refine ⟨_, rfl, ?_⟩
        walk_at "r"
        refine ⟨nr_dd z, ?_⟩
        have cn : canNt z.sv ((R.map PR.pv).length : Int) lo = true := by
          show (isWh (.int z.per) 0 _ && (isWh (.int z.rank) 0 3 && (isWh (.int z.kind) 0 7 && isWh (.int z.born) lo 300))) = true
          rw [wh_of p0 (by rw [List.length_map]; omega), wh_of r0 r1, wh_of k0 k1, wh_of hlz b1]
          rfl
        rw [cn]
        walk_at "r"
        walk_at "f"
        walk_at "r"
        refine ⟨_, atI_nat (j := 3) rfl, ?_⟩
        walk_at "r"
        refine .of ⟨rfl, j + 1, z.born, _, _, rfl, by rw [hd2]; push_cast; rfl, hj2, fun y hy => ?_⟩
        rw [hd2] at hy
        have pw := ok.rise.drop (i := j)
        rw [hd] at pw
        exact (List.pairwise_cons.mp pw).1 y hy
    · obtain ⟨rfl, j, lo, a3, a4, rfl, hr, hj, hlo⟩ := h
      refine ⟨ha, ?_⟩
      walk_at "r"
      exact .of q
def spMoOk : SpS := fun vs m _ S => ∃ t u : Int, vs = [.int t, .int u] ∧ 0 ≤ t ∧ t ≤ u ∧ S .non m
end
end Hn

set_option Elab.async false
set_option linter.all false
set_option maxRecDepth 100000
set_option maxHeartbeats 8000000
namespace Hn
open PySem PySem.Spec PyProof.Rows L2 Sy Lm
section
variable {P : Program} {w : World} {K : PySem.W.Frag} {mg : Str → Option Value} {base : Heap}
local macro_rules | `(tactic| walk_at "r") => `(tactic| (conv => whnf))
local macro_rules | `(tactic| walk_at "sp") => `(tactic| (first | rfl | contradiction | exact (False.elim ‹_›)))
local macro_rules | `(tactic| walk_at "len") => `(tactic| (exact Nat.le_trans (show _ ≤ 100000 by first | (simp; done) | (rw [rngS_length]; decide)) (by decide)))
local macro_rules | `(tactic| walk_at "f") => `(tactic| (refine Br_i (fun hb => Bool.noConfusion (show false = true from hb)) (fun _ => ?_)))
local macro_rules | `(tactic| walk_at "t") => `(tactic| (refine Br_i (fun _ => ?_) (fun hb => Bool.noConfusion (show true = false from hb))))
local macro_rules | `(tactic| walk_at "le") => `(tactic| first | exact Le.refl _ | (refine Le.put ?_; walk_at "le") | (refine Le.new ?_ (by assumption); walk_at "le"))
theorem put_le {a m' : Mem} {p : Addr} {o o' : MO} (l : Le (up a p o) m') : Le (up a p o') (up m' p o') := by
  have z := Le.put (p := p) (o := o') l
  rwa [up_up] at z
theorem le_new {a m' : Mem} {p q : Addr} {o o' : MO} (l : Le (up a p o) m') (h : m' q = none) : Le (up a p o) (up m' q o') := l.new h
theorem len_pv (R : List PR) : (R.map PR.pv).length = R.length := List.length_map _
theorem ntok_snoc {R : List PR} {N : List NR} {x : NR} (no : NtOk R N) (hl : N.length < 30) (hx : (0 ≤ x.per ∧ x.per < R.length) ∧ (0 ≤ x.rank ∧ x.rank ≤ 3) ∧ (0 ≤ x.kind ∧ x.kind ≤ 7) ∧ (0 ≤ x.born ∧ x.born ≤ 300)) (hb : ∀ y ∈ N, y.born ≤ x.born) : NtOk R (N ++ [x]) :=
  ⟨by rw [List.length_append]; simp; omega, fun y hy => by
    rcases List.mem_append.mp hy with hy | hy
    · exact no.all y hy
    · rw [List.mem_singleton.mp hy]; exact hx, by
    rw [List.pairwise_append]
    exact ⟨no.rise, List.pairwise_singleton _ _, fun a ha b hb2 => by rw [List.mem_singleton.mp hb2]; exact hb a ha⟩⟩
def spNotices : SpS := fun vs m _ S => ∃ (b : Addr) (R : List PR) (most : Int), vs = [.ref b, PV R, .int most] ∧ IsBox m b ∧ RulesOk R ∧ (0 ≤ most ∧ most ≤ 30) ∧ ∀ N p, NtOk R N → (N.length : Int) ≤ most → m p = none → S (.ref p) (up m p (.lst (N.map NR.sv)))
theorem ok_law_notices (T : Tx K mg) : FnOk P w K mg base CX0 2 (He.ga K "_law_notices") T.fd__law_notices ["_law_box", "_law_rules_here", "_law_most"] (lift K spNotices) := by
  have G_law_take := ok_law_take (P := P) (w := w) (base := base) T
  have b_law_take := b_law_take T
  refine fn_sy T.F__law_notices sc_law_notices (fun svs m SX Sv h => ?_) (fun cdv A outer s H E hr => ⟨_, _, (gss_cons (gs_par3 (i := 3) (j := 4) (l := 5) (by rfl) sc_law_notices.nd rfl rfl rfl (by decide) (by decide) (by decide) rfl rfl rfl (ga_cons (ge_lst ga_nil) (ga_cons (ge_call G_law_take (hr) (by rfl) T.g__law_take T.k__law_take b_law_take .nil (fun _ => .nil) pass0 (ga_cons (gv 0) (ga_cons ge_int ga_nil))) (ga_cons (ge_ix (ix_G K) sim_ix (ge_lst (ga_cons ge_int (ga_cons ge_int ga_nil))) (ge_call G_law_take (hr) (by rfl) T.g__law_take T.k__law_take b_law_take .nil (fun _ => .nil) pass0 (ga_cons (gv 0) (ga_cons ge_int ga_nil))) (fun _ _ => rfl)) ga_nil))))
      (gss_cons (gs_for PassesOwn.never rfl (gi_range1 (by rfl) T.z_range (ga_cons (ge_call G_law_take (hr) (by rfl) T.g__law_take T.k__law_take b_law_take .nil (fun _ => .nil) pass0 (ga_cons (gv 0) (ga_cons (ge_op (op_addG K) sim_add (gv 2) ge_int) ga_nil))) ga_nil)) (gg_name (i := 6) sc_law_notices.nd rfl (.inl rfl))
      (gss_cons (gs_set (i := 4) sc_law_notices.nd rfl (.inl rfl) (ge_callB (call_min2 rfl) sim_min2 (by rfl) T.z_min (by decide +kernel) (ga_cons ge_int (ga_cons (ge_op (op_addG K) sim_add (gv 4) (ge_call G_law_take (hr) (by rfl) T.g__law_take T.k__law_take b_law_take .nil (fun _ => .nil) pass0 (ga_cons (gv 0) (ga_cons (ge_ix (ix_G K) sim_ix (ge_lst (ga_cons ge_int (ga_cons ge_int (ga_cons ge_int ga_nil)))) (ge_call G_law_take (hr) (by rfl) T.g__law_take T.k__law_take b_law_take .nil (fun _ => .nil) pass0 (ga_cons (gv 0) (ga_cons ge_int ga_nil))) (fun _ _ => rfl)) ga_nil)))) ga_nil))))
      (gss_one (gs_expr (ge_bm PySem.F.plainAttrs_list PySem.F.slot_list_append PySem.F.type_list_append mt_append simk_L sim_append (gv 3) (ga_cons (ge_tup (ga_cons (ge_call G_law_take (hr) (by rfl) T.g__law_take T.k__law_take b_law_take .nil (fun _ => .nil) pass0 (ga_cons (gv 0) (ga_cons (ge_callB (cr_len K) sim_len (by rfl) T.z_len (by decide +kernel) (ga_cons (gv 1) ga_nil)) ga_nil))) (ga_cons (ge_call G_law_take (hr) (by rfl) T.g__law_take T.k__law_take b_law_take .nil (fun _ => .nil) pass0 (ga_cons (gv 0) (ga_cons ge_int ga_nil))) (ga_cons (ge_call G_law_take (hr) (by rfl) T.g__law_take T.k__law_take b_law_take .nil (fun _ => .nil) pass0 (ga_cons (gv 0) (ga_cons (gv 5) ga_nil))) (ga_cons (gv 4) ga_nil))))) ga_nil))))))
      (gss_one (gs_ret (gv 3))))), fun svs m SX Sv h => ?_⟩)
  · obtain ⟨b, R, most, rfl, _⟩ := h
    rfl
  · obtain ⟨b, R, most, rfl, hb, ok, hm, q⟩ := h
    have r1 := ok.one
    have r6 := ok.six
    walk_at "r"
    refine ⟨by walk_at "len", fun p hp => ?_⟩
    walk_at "r"
    refine ⟨hb.new hp, small (by decide) (by decide), fun bn b0 b1 => ?_⟩
    walk_at "r"
    refine ⟨by walk_at "len", fun p2 hp2 => ?_⟩
    walk_at "r"
    refine ⟨(hb.new hp).new hp2, small (by decide) (by decide), fun i i0 i1 => ?_⟩
    walk_at "r"
    refine ⟨_, _, up_same, pick2 i0 i1, ?_⟩
    rw [ite_int]
    obtain ⟨few, ef, f1, f8⟩ : ∃ few : Int, (if i = 0 then (2 : Int) else 8) = few ∧ 1 ≤ few ∧ few ≤ 8 := by
      split
      · exact ⟨2, rfl, by decide, by decide⟩
      · exact ⟨8, rfl, by decide, by decide⟩
    rw [ef]
    walk_at "r"
    refine ⟨(hb.new hp).new hp2, small (by omega) (by omega), fun n n0 n1 => ?_⟩
    walk_at "r"
    refine ⟨⟨by omega, by omega⟩, ?_⟩
    refine for_inv (fun r δ m' => ∃ (N : List NR) (bn : Int) (x : Option SV), Le (up m p (.lst (N.map NR.sv))) m' ∧ δ = [some (.ref b), some (PV R), some (.int most), some (.ref p), some (.int bn), some (.int few), x] ∧ NtOk R N ∧ (N.length : Int) + r.length ≤ n ∧ (0 ≤ bn ∧ bn ≤ 300) ∧ ∀ y ∈ N, y.born ≤ bn) ⟨[], bn, none, Le.new (.refl _) hp2, rfl, ⟨Nat.zero_le _, fun x h => (nomatch h), .nil⟩, by rw [rngS_length]; simp; omega, ⟨b0, by omega⟩, fun y h => nomatch h⟩ (fun x r δ m' h => ?_) (fun δ m' h => ?_)
    · obtain ⟨N, bn, x0, l, rfl, no, hl, hbn, hy⟩ := h
      have hb' : IsBox m' b := (hb.new hp).le l
      rw [List.length_cons] at hl
      have hN : N.length < 30 := by push_cast at hl; omega
      refine ⟨trivial, ?_⟩
      walk_at "r"
      refine ⟨by walk_at "len", fun p3 hp3 => ?_⟩
      have b3 := hb'.new (o := .lst [.int 2, .int 9, .int 40]) hp3
      have l3 := le_new (o' := .lst [.int 2, .int 9, .int 40]) l hp3
      have e3 : up m' p3 (.lst [.int 2, .int 9, .int 40]) p3 = _ := up_same
      generalize up m' p3 (.lst [.int 2, .int 9, .int 40]) = m3 at *
      walk_at "r"
      refine ⟨b3, small (by decide) (by decide), fun j j0 j1 => ?_⟩
      walk_at "r"
      refine ⟨_, _, e3, pick3 j0 j1, ?_⟩
      rw [show (if j = 0 then SV.int 2 else if j = 1 then .int 9 else .int 40) = .int (if j = 0 then 2 else if j = 1 then 9 else 40) by split <;> first | rfl | (split <;> rfl)]
      walk_at "r"
      refine ⟨b3, small (by split <;> first | decide | (split <;> decide)) (by split <;> first | decide | (split <;> decide)), fun d d0 d1 => ?_⟩
      walk_at "r"
      have em : (if bn + d < 300 then bn + d else 300) = min 300 (bn + d) := by split <;> omega
      rw [em]
      refine ⟨⟨_, l3 _ _ up_same⟩, ?_⟩
      walk_at "r"
      refine ⟨_, rfl, ?_⟩
      walk_at "r"
      rw [len_pv]
      refine ⟨b3, small (by omega) (by omega), fun a1 a10 a11 => ?_⟩
      walk_at "r"
      refine ⟨b3, small (by decide) (by decide), fun a2 a20 a21 => ?_⟩
      walk_at "r"
      refine ⟨b3, small (by omega) (by omega), fun a3 a30 a31 => ?_⟩
      walk_at "r"
      refine ⟨by walk_at "len", ?_⟩
      walk_at "r"
      refine ⟨_, l3 _ _ up_same, line_le (by rw [List.length_map]; omega), ?_⟩
      have l4 := put_le (o' := .lst ((N ++ [(⟨a1, a2, a3, min 300 (bn + d)⟩ : NR)]).map NR.sv)) l3
      have e4 : (N ++ [(⟨a1, a2, a3, min 300 (bn + d)⟩ : NR)]).map NR.sv = N.map NR.sv ++ [.tup [.int a1, .int a2, .int a3, .int (min 300 (bn + d))]] := by rw [List.map_append]; rfl
      rw [e4] at l4
      walk_at "r"
      refine .of ⟨N ++ [⟨a1, a2, a3, min 300 (bn + d)⟩], min 300 (bn + d), _, by rw [e4]; exact l4, rfl, ntok_snoc no hN ⟨⟨a10, a11⟩, ⟨a20, by show a2 ≤ 3; omega⟩, ⟨a30, by show a3 ≤ 7; omega⟩, by show 0 ≤ min 300 (bn + d); omega, by show min 300 (bn + d) ≤ 300; omega⟩ fun y h => by have := hy y h; show y.born ≤ min 300 (bn + d); have := (no.all y h).2.2.2; omega, by rw [List.length_append]; simp; omega, ⟨by omega, by omega⟩, fun y h => ?_⟩
      rcases List.mem_append.mp h with h | h
      · have := hy y h
        have := (no.all y h).2.2.2
        omega
      · rw [List.mem_singleton.mp h]
        exact Int.le_refl _
    · obtain ⟨N, bn, x0, l, rfl, no, hl, hbn, hy⟩ := h
      refine ⟨trivial, ?_⟩
      walk_at "r"
      exact ⟨_, l, q N p no (by simp at hl; omega) hp⟩
end
end Hn

set_option Elab.async false
set_option linter.all false
set_option maxRecDepth 100000
set_option maxHeartbeats 8000000
namespace Hn
open PySem PySem.Spec PyProof.Rows L2 Sy Lm
section
variable {P : Program} {w : World} {K : PySem.W.Frag} {mg : Str → Option Value} {base : Heap}
local macro_rules | `(tactic| walk_at "r") => `(tactic| (conv => whnf))
local macro_rules | `(tactic| walk_at "sp") => `(tactic| (first | rfl | contradiction | exact (False.elim ‹_›)))
local macro_rules | `(tactic| walk_at "len") => `(tactic| (exact Nat.le_trans (show _ ≤ 100000 by first | (simp; done) | (rw [rngS_length]; decide)) (by decide)))
local macro_rules | `(tactic| walk_at "f") => `(tactic| (refine Br_i (fun hb => Bool.noConfusion (show false = true from hb)) (fun _ => ?_)))
local macro_rules | `(tactic| walk_at "t") => `(tactic| (refine Br_i (fun _ => ?_) (fun hb => Bool.noConfusion (show true = false from hb))))
local macro_rules | `(tactic| walk_at "le") => `(tactic| first | exact Le.refl _ | (refine Le.put ?_; walk_at "le") | (refine Le.new ?_ (by assumption); walk_at "le"))
open TL in
/-- a row: its name, its numbers -/
abbrev RowD := Str × List (Option Int)
def cellT : Option Int → Str
  | none => "-"
  | some i => Str.ofString (toString i)
def wordsT (q : RowD) : List Str := q.1 :: q.2.map cellT
def rowT (q : RowD) : Str := Txt.join " " (wordsT q)
def textT (qs : List RowD) : Str := Txt.join "\n" (qs.map rowT)
def FORM : List (Str × List Bool) := [("person", [false, true, true]), ("hush", [false, false]), ("gather", [false, false]), ("notice", [false, false, false, false])]
/-- numbers as rows have them -/
def CellOk (x : Option Int) : Prop := ∀ i, x = some i → 0 ≤ i ∧ i ≤ 999
structure RowOk (q : RowD) : Prop where
  form : ∃ f, (q.1, f) ∈ FORM ∧ q.2.length = f.length ∧ ∀ (i : Nat) (x : Option Int) (b : Bool), q.2[i]? = some x → f[i]? = some b → x = none → b = true
  cell : ∀ x ∈ q.2, CellOk x
theorem cell_nat {i : Int} (h : 0 ≤ i) : ∃ n : Nat, i = (n : Int) := ⟨i.toNat, by omega⟩
theorem tl_cell {i : Int} {n : Nat} (e : i = (n : Int)) : TL.tl (cellT (some i)) = TL.numL n := by
  subst e
  exact TL.tl_num n
theorem num_small : ∀ n < 1000, (TL.numL n).length ≤ 3 ∧ 1 ≤ (TL.numL n).length ∧ ((TL.numL n).length = 1 ∨ (TL.numL n)[0]? ≠ some 48) := by decide +kernel
theorem cell_free {x : Option Int} (h : CellOk x) : (32 : Nat) ∉ TL.tl (cellT x) ∧ (10 : Nat) ∉ TL.tl (cellT x) ∧ (cellT x).length ≤ 3 := by
  cases x with
  | none => exact ⟨by decide +kernel, by decide +kernel, by decide +kernel⟩
  | some i =>
    obtain ⟨h0, h1⟩ := h i rfl
    obtain ⟨n, rfl⟩ := cell_nat h0
    rw [tl_cell rfl]
    refine ⟨TL.numL_free (.inl (by decide)), TL.numL_free (.inl (by decide)), ?_⟩
    rw [TL.len_tl, tl_cell rfl]
    exact (num_small n (by omega)).1
theorem name_free {s : Str} {f : List Bool} (h : (s, f) ∈ FORM) : (32 : Nat) ∉ TL.tl s ∧ (10 : Nat) ∉ TL.tl s ∧ s.length ≤ 6 ∧ f.length ≤ 4 := by
  simp only [FORM, List.mem_cons, List.not_mem_nil, or_false, Prod.mk.injEq] at h
  rcases h with ⟨rfl, rfl⟩ | ⟨rfl, rfl⟩ | ⟨rfl, rfl⟩ | ⟨rfl, rfl⟩ <;> exact ⟨by decide +kernel, by decide +kernel, by decide +kernel, by decide⟩
theorem mem_joinL {S : List Nat} {c : Nat} : ∀ {ps : List (List Nat)}, c ∈ TL.joinL S ps → c ∈ S ∨ ∃ p ∈ ps, c ∈ p
  | [], h => by cases h
  | [p], h => .inr ⟨p, List.mem_singleton.mpr rfl, h⟩
  | p :: q :: r, h => by
    have h : c ∈ p ++ (S ++ TL.joinL S (q :: r)) := h
    rcases List.mem_append.mp h with h | h
    · exact .inr ⟨p, List.mem_cons_self, h⟩
    rcases List.mem_append.mp h with h | h
    · exact .inl h
    rcases mem_joinL h with h | ⟨p', h1, h2⟩
    · exact .inl h
    · exact .inr ⟨p', List.mem_cons_of_mem _ h1, h2⟩
theorem words_free {q : RowD} (h : RowOk q) : ∀ w ∈ wordsT q, (32 : Nat) ∉ TL.tl w ∧ (10 : Nat) ∉ TL.tl w ∧ w.length ≤ 6 := fun w hw => by
  obtain ⟨f, h1, _⟩ := h.form
  rcases List.mem_cons.mp hw with rfl | hw
  · obtain ⟨a, b, c, _⟩ := name_free h1
    exact ⟨a, b, c⟩
  · obtain ⟨x, hx, rfl⟩ := List.mem_map.mp hw
    obtain ⟨a, b, c⟩ := cell_free (h.cell x hx)
    exact ⟨a, b, by omega⟩
theorem words_len {q : RowD} (h : RowOk q) : (wordsT q).length ≤ 5 ∧ q.2.length ≤ 4 := by
  obtain ⟨f, h1, h2, _⟩ := h.form
  have := (name_free h1).2.2.2
  unfold wordsT
  rw [List.length_cons, List.length_map]
  omega
theorem row_free {q : RowD} (h : RowOk q) : (10 : Nat) ∉ TL.tl (rowT q) := by
  unfold rowT
  rw [TL.join_eq, TL.tl_join]
  intro hm
  rcases mem_joinL hm with hm | ⟨p, hp, hm⟩
  · exact absurd hm (by decide +kernel)
  · obtain ⟨w, hw, rfl⟩ := List.mem_map.mp hp
    exact (words_free h w hw).2.1 hm
theorem row_split {q : RowD} (h : RowOk q) : Txt.split (rowT q) " " = wordsT q := TL.split_join (y := " ") (s := 32) (S := []) (by decide +kernel) (by decide +kernel) (by simp [wordsT]) fun w hw => (words_free h w hw).1
theorem text_split {qs : List RowD} (hne : qs ≠ []) (h : ∀ q ∈ qs, RowOk q) : Txt.split (textT qs) "\n" = qs.map rowT := TL.split_join (y := "\n") (s := 10) (S := []) (by decide +kernel) (by decide +kernel) (fun e => hne (List.map_eq_nil_iff.mp e)) fun w hw => by
  obtain ⟨q, hq, rfl⟩ := List.mem_map.mp hw
  exact row_free (h q hq)
theorem cell_int {i : Int} (h0 : 0 ≤ i) (h1 : i ≤ 999) : PySem.intText? (cellT (some i)) = some i := by
  obtain ⟨n, rfl⟩ := cell_nat h0
  exact TL.int_num (Nat.le_trans (num_small n (by omega)).1 (by decide))
theorem sum_le {k : Nat} : ∀ {l : List Nat}, (∀ x ∈ l, x ≤ k) → l.sum ≤ l.length * k
  | [], _ => by simp
  | a :: r, h => by
    have h1 := sum_le (l := r) fun x hx => h x (List.mem_cons_of_mem _ hx)
    have h2 := h a List.mem_cons_self
    rw [List.sum_cons, List.length_cons, Nat.succ_mul]
    omega
theorem row_len {q : RowD} (h : RowOk q) : (rowT q).length ≤ 40 ∧ ((wordsT q).map (·.length)).sum + (wordsT q).length * (" " : Str).length ≤ 16777216 := by
  have hw := words_len h
  have hs : ((wordsT q).map (·.length)).sum ≤ (wordsT q).length * 6 := by
    have z := sum_le (l := (wordsT q).map (·.length)) (k := 6) fun x hx => by
      obtain ⟨w, hw, rfl⟩ := List.mem_map.mp hx
      exact (words_free h w hw).2.2
    rw [List.length_map] at z
    exact z
  have e1 : (" " : Str).length = 1 := by decide +kernel
  have z := PySem.StrLaws.join_length_le " " (wordsT q)
  rw [e1] at z ⊢
  unfold rowT
  rw [TL.join_eq]
  omega
/-! ### the rows of rules and notices -/
def prRows (r : PR) : List RowD := (("person", [some r.least, r.wait, r.fur]) : RowD) :: (r.hs.map fun p => (("hush", [some p.1, some p.2]) : RowD)) ++ r.gs.map fun p => (("gather", [some p.1, some p.2]) : RowD)
def ntRow (z : NR) : RowD := ("notice", [some z.per, some z.rank, some z.kind, some z.born])
def allRows (R : List PR) (N : List NR) : List RowD := R.flatMap prRows ++ N.map ntRow
def rowV (q : RowD) : SV := .tup [.str q.1, .tup (q.2.map optV)]
theorem cell_some {i : Int} (h0 : 0 ≤ i) (h1 : i ≤ 999) : CellOk (some i) := fun j e => by cases e; exact ⟨h0, h1⟩
theorem rowOk_two {s : Str} {a b : Int} (h : (s, [false, false]) ∈ FORM) (ha : 0 ≤ a ∧ a ≤ 999) (hb : 0 ≤ b ∧ b ≤ 999) : RowOk (s, [some a, some b]) where
  form := ⟨_, h, rfl, fun i x c e _ z => by
    subst z
    rcases i with _ | _ | i <;> cases e⟩
  cell := fun x hx => by
    simp only [List.mem_cons, List.not_mem_nil, or_false] at hx
    rcases hx with rfl | rfl
    · exact cell_some ha.1 ha.2
    · exact cell_some hb.1 hb.2
theorem gOk_all : ∀ {g : List (Int × Int)} {lo : Int}, 0 ≤ lo → gOk lo g → ∀ p ∈ g, (0 ≤ p.1 ∧ p.1 ≤ 7) ∧ 1 ≤ p.2 ∧ p.2 ≤ 12
  | [], _, _, _, _, h => nomatch h
  | q :: r, lo, h0, ⟨h1, h2, h3, h4, h5⟩, p, h => by
    rcases List.mem_cons.mp h with rfl | h
    · exact ⟨⟨by omega, h2⟩, h3, h4⟩
    · exact gOk_all (by omega) h5 p h
theorem prRows_ok {n : Nat} {r : PR} (h : r.Ok n) (hn : n ≤ 6) : ∀ q ∈ prRows r, RowOk q := fun q hq => by
  rcases List.mem_append.mp hq with hq | hq
  · rcases List.mem_cons.mp hq with rfl | hq
    · refine ⟨⟨_, List.mem_cons_self, rfl, fun i x b e e2 z => ?_⟩, fun x hx => ?_⟩
      · subst z
        rcases i with _ | _ | _ | i
        · cases e
        · cases e2; rfl
        · cases e2; rfl
        · cases e
      · simp only [List.mem_cons, List.not_mem_nil, or_false] at hx
        rcases hx with rfl | rfl | rfl
        · exact cell_some h.le.1 (by have := h.le.2; omega)
        · intro i e
          have := h.wt i e
          omega
        · intro i e
          have := h.fu i e
          omega
    · obtain ⟨p, hp, rfl⟩ := List.mem_map.mp hq
      obtain ⟨h1, h2, _⟩ := h.hs p hp
      exact rowOk_two (by decide) ⟨h1.1, by omega⟩ ⟨h2.1, by omega⟩
  · obtain ⟨p, hp, rfl⟩ := List.mem_map.mp hq
    obtain ⟨h1, h2, h3⟩ := gOk_all (Int.le_refl 0) h.gs p hp
    exact rowOk_two (by decide) ⟨h1.1, by omega⟩ ⟨by omega, by omega⟩
theorem ntRow_ok {R : List PR} {N : List NR} (no : NtOk R N) (h6 : R.length ≤ 6) {z : NR} (hz : z ∈ N) : RowOk (ntRow z) := by
  obtain ⟨⟨a0, a1⟩, ⟨b0, b1⟩, ⟨c0, c1⟩, ⟨d0, d1⟩⟩ := no.all z hz
  refine ⟨⟨[false, false, false, false], by show (("notice" : Str), _) ∈ FORM; decide, rfl, fun i x b e _ w => ?_⟩, fun x hx => ?_⟩
  · subst w
    have e : ([some z.per, some z.rank, some z.kind, some z.born] : List (Option Int))[i]? = some none := e
    rcases i with _ | _ | _ | _ | i <;> cases e
  · have hx : x ∈ ([some z.per, some z.rank, some z.kind, some z.born] : List (Option Int)) := hx
    simp only [List.mem_cons, List.not_mem_nil, or_false] at hx
    rcases hx with rfl | rfl | rfl | rfl
    · exact cell_some a0 (by omega)
    · exact cell_some b0 (by omega)
    · exact cell_some c0 (by omega)
    · exact cell_some d0 (by omega)
theorem all_ok {R : List PR} {N : List NR} (ok : RulesOk R) (no : NtOk R N) : ∀ q ∈ allRows R N, RowOk q := fun q hq => by
  rcases List.mem_append.mp hq with hq | hq
  · obtain ⟨r, hr, hq⟩ := List.mem_flatMap.mp hq
    exact prRows_ok (ok.all r hr) ok.six q hq
  · obtain ⟨z, hz, rfl⟩ := List.mem_map.mp hq
    exact ntRow_ok no ok.six hz
theorem prRows_len {n : Nat} {r : PR} (h : r.Ok n) : 1 ≤ (prRows r).length ∧ (prRows r).length ≤ 8 := by
  have h1 := h.hl
  have h2 := h.gl
  unfold prRows
  rw [List.length_append, List.length_cons, List.length_map, List.length_map]
  omega
theorem flat_len {n : Nat} : ∀ {R : List PR}, (∀ r ∈ R, r.Ok n) → (R.flatMap prRows).length ≤ 8 * R.length
  | [], _ => Nat.zero_le _
  | r :: R, h => by
    have h1 := (prRows_len (h r List.mem_cons_self)).2
    have h2 := flat_len (R := R) fun x hx => h x (List.mem_cons_of_mem _ hx)
    rw [List.flatMap_cons, List.length_append, List.length_cons]
    omega
theorem all_len {R : List PR} {N : List NR} (ok : RulesOk R) (no : NtOk R N) : (allRows R N).length ≤ 78 ∧ allRows R N ≠ [] := by
  have h1 := flat_len ok.all
  have h6 := ok.six
  have h30 := no.len
  have h2 := ok.one
  unfold allRows
  refine ⟨by rw [List.length_append, List.length_map]; omega, fun e => ?_⟩
  have z := congrArg List.length e
  match R, h2 with
  | r :: R, _ =>
    have := (prRows_len (ok.all r List.mem_cons_self)).1
    rw [List.flatMap_cons, List.length_append, List.length_append] at z
    have z : _ = 0 := z
    omega
theorem text_len {qs : List RowD} (h : ∀ q ∈ qs, RowOk q) (hl : qs.length ≤ 100) : (textT qs).length ≤ 5000 ∧ ((qs.map rowT).map (·.length)).sum + (qs.map rowT).length * ("\n" : Str).length ≤ 16777216 := by
  have e1 : ("\n" : Str).length = 1 := by decide +kernel
  have hs := sum_le (l := (qs.map rowT).map (·.length)) (k := 40) fun x hx => by
    obtain ⟨w, hw, rfl⟩ := List.mem_map.mp hx
    obtain ⟨q, hq, rfl⟩ := List.mem_map.mp hw
    exact (row_len (h q hq)).1
  rw [List.length_map, List.length_map] at hs
  have z := PySem.StrLaws.join_length_le "\n" (qs.map rowT)
  rw [e1, List.length_map] at z
  rw [e1, List.length_map]
  unfold textT
  rw [TL.join_eq]
  omega
end
end Hn

set_option Elab.async false
set_option linter.all false
set_option maxRecDepth 100000
set_option maxHeartbeats 8000000
namespace Hn
open PySem PySem.Spec PyProof.Rows L2 Sy Lm
section
variable {P : Program} {w : World} {K : PySem.W.Frag} {mg : Str → Option Value} {base : Heap}
local macro_rules | `(tactic| walk_at "r") => `(tactic| (conv => whnf))
local macro_rules | `(tactic| walk_at "sp") => `(tactic| (first | rfl | contradiction | exact (False.elim ‹_›)))
local macro_rules | `(tactic| walk_at "len") => `(tactic| (exact Nat.le_trans (show _ ≤ 100000 by first | (simp; done) | (rw [rngS_length]; decide)) (by decide)))
local macro_rules | `(tactic| walk_at "f") => `(tactic| (refine Br_i (fun hb => Bool.noConfusion (show false = true from hb)) (fun _ => ?_)))
local macro_rules | `(tactic| walk_at "t") => `(tactic| (refine Br_i (fun _ => ?_) (fun hb => Bool.noConfusion (show true = false from hb))))
local macro_rules | `(tactic| walk_at "le") => `(tactic| first | exact Le.refl _ | (refine Le.put ?_; walk_at "le") | (refine Le.new ?_ (by assumption); walk_at "le"))
abbrev L_FORMS : List (Str × List SV) := [("person", [.bl false, .bl true, .bl true]), ("hush", [.bl false, .bl false]), ("gather", [.bl false, .bl false]), ("notice", [.bl false, .bl false, .bl false, .bl false])]
abbrev L_BEHIND : List (Str × List SV) := [("person", [.non, .str "person", .str "hush", .str "gather"]), ("hush", [.str "person", .str "hush"]), ("gather", [.str "person", .str "hush", .str "gather"]), ("notice", [.str "person", .str "hush", .str "gather", .str "notice"])]
class Tabs (K : PySem.W.Frag) (mg : Str → Option Value) (w : World) : Prop where
  g_FORMS : mg "FORMS" = some (.ref (He.ga K "FORMS"))
  t_FORMS : TabV K w (He.ga K "FORMS") L_FORMS
  g_BEHIND : mg "BEHIND" = some (.ref (He.ga K "BEHIND"))
  t_BEHIND : TabV K w (He.ga K "BEHIND") L_BEHIND
def cellV : SV → SV
  | .int i => .str (cellT (some i))
  | _ => .str (cellT none)
theorem cellV_opt (x : Option Int) : cellV (optV x) = .str (cellT x) := by cases x <;> rfl
def spRow : SpS := fun vs m _ S => ∃ q : RowD, vs = [.str q.1, .tup (q.2.map optV)] ∧ RowOk q ∧ S (.str (rowT q)) m
theorem ok_row_of (T : Tx K mg) : FnOk P w K mg base CX0 1 (He.ga K "row_of") T.fd_row_of ["name", "numbers"] (lift K spRow) := by
  refine fn_sy T.F_row_of sc_row_of (fun svs m SX Sv h => ?_) (fun cdv A outer s H E hr => ⟨_, _, (gss_one (gs_ret (ge_bm PySem.F.plainAttrs_str PySem.F.slot_str_join PySem.F.type_str_join (mt_joinG K) simk_S sim_join ge_str (ga_cons (ge_lst (ga_cons (gv 0) (ga_star (ge_lc (own := [("x", 2)]) (by rfl) sc_row_of.nd (gi_seq (gv 1)) (blkOk_by (own := [("x", 2)]) (N := ["name", "numbers", "x"]) (sc := (defScope s_row_of)) (by decide +kernel)) (fun _ _ _ _ _ => (gg_name (i := 2) sc_row_of.nd rfl (.inl rfl))) (wp_name (by decide)) (fun _ _ _ _ _ => gts_nil) (fun _ _ _ _ _ => (ge_ifE (gt_cmp op_isN sim_isN (gv 2) ge_non (nomark _)) (ge_gs (by rfl) T.i_NONE) (ge_callTy call_str_int sim_strI (by rfl) T.z_str (by decide +kernel) (ga_cons (gv 2) ga_nil))))) ga_nil))) ga_nil)))), fun svs m SX Sv h => ?_⟩)
  · obtain ⟨q, rfl, _⟩ := h
    rfl
  · obtain ⟨q, rfl, ok, hq⟩ := h
    walk_at "r"
    refine ⟨trivial, ?_⟩
    walk_at "r"
    refine ⟨_, rfl, ?_⟩
    have hw := words_len ok
    refine ⟨by rw [List.length_map]; exact line_le (by omega), fun p hp => ?_⟩
    refine lc_map cellV (fun _ => trivial) (fun x hx acc K1 k => ?_) ?_
    · obtain ⟨o, ho, rfl⟩ := List.mem_map.mp hx
      cases o with
      | none =>
        walk_at "r"
        walk_at "t"
        exact k _ (.refl _)
      | some i =>
        obtain ⟨i0, i1⟩ := ok.cell _ ho i rfl
        walk_at "r"
        walk_at "f"
        walk_at "r"
        refine ⟨Nat.lt_of_le_of_lt (Nat.log2_le_self _) (by omega), ?_⟩
        exact k _ (.refl _)
    · refine ⟨_, up_same, ?_⟩
      walk_at "r"
      refine ⟨by rw [List.map_map]; simp; exact line_le (by omega), fun p2 hp2 => ?_⟩
      walk_at "r"
      refine ⟨wordsT q, ?_, (row_len ok).2, ?_⟩
      · show up _ p2 _ p2 = _
        rw [up_same]
        unfold wordsT
        rw [List.map_map, List.map_cons, List.map_map]
        simp only [List.cons_append, List.nil_append, List.append_nil]
        congr 3
        refine List.map_congr_left fun x _ => cellV_opt x
      · exact ⟨m, .new (.new (.refl m) hp) hp2, hq⟩
def numB (z : Str) : Bool := decide (1 ≤ z.length ∧ z.length ≤ 3) && (z.cps.toList.all fun c => decide (c ∈ (Str.ofString "0123456789").cps.toList)) && (decide (z.length = 1) || decide (z.cps.toList[0]? ≠ some 48))
def inFig : SV → SV
  | .str a => .bl (decide (a.cps.toList.headD 0 ∈ (Str.ofString "0123456789").cps.toList))
  | _ => .non
def spNumB : SpS := fun vs m _ S => ∃ z : Str, vs = [.str z] ∧ z.length ≤ 1000 ∧ S (.bl (numB z)) m
theorem ok_is_written_number (T : Tx K mg) : FnOk P w K mg base CX0 1 (He.ga K "is_written_number") T.fd_is_written_number ["word"] (lift K spNumB) := by
  refine fn_sy T.F_is_written_number sc_is_written_number (fun svs m SX Sv h => ?_) (fun cdv A outer s H E hr => ⟨_, _, (gss_cons (gs_if (gw_pt (gw_or (gt_not (gt_chain op_le op_le sim_le sim_le ge_int (ge_callB (cr_len K) sim_len (by rfl) T.z_len (by decide +kernel) (ga_cons (gv 0) ga_nil)) (ge_gi (by rfl) T.i_MOST_FIGURES))) (gw_or1 (gt_not (gt_val (ge_callB (cr_allG K) sim_all (by rfl) T.z_all (by decide +kernel) (ga_cons (ge_lc (own := [("sign", 1)]) (by rfl) sc_is_written_number.nd (gi_str (gv 0)) (blkOk_by (own := [("sign", 1)]) (N := ["word", "sign"]) (sc := (defScope s_is_written_number)) (by decide +kernel)) (fun _ _ _ _ _ => (gg_name (i := 1) sc_is_written_number.nd rfl (.inl rfl))) (wp_name (by decide)) (fun _ _ _ _ _ => gts_nil) (fun _ _ _ _ _ => (ge_cmp op_inSg (sim_inSg false) (gv 1) (ge_gs (by rfl) T.i_FIGURES) (by with_unfolding_all rfl)))) ga_nil))))))) (gss_one (gs_ret ge_bl)) gss_nil)
      (gss_one (gs_ret (ge_or (ge_cmp (op_eqG K hr.units) sim_eq (ge_callB (cr_len K) sim_len (by rfl) T.z_len (by decide +kernel) (ga_cons (gv 0) ga_nil)) ge_int (nomark _)) (ge_one (ge_cmp (op_neG K hr.units) sim_ne (ge_ix (ix_G K) sim_ix (gv 0) ge_int (fun _ _ => rfl)) ge_str (nomark _))))))), fun svs m SX Sv h => ?_⟩)
  · obtain ⟨z, rfl, _⟩ := h
    rfl
  · obtain ⟨z, rfl, hl, hq⟩ := h
    walk_at "r"
    refine ⟨line_le (by omega), ?_⟩
    walk_at "r"
    refine Br_i (fun h1 => ?_) (fun h1 => ?_)
    · have h1 := of_decide_eq_true h1
      walk_at "r"
      refine Br_i (fun h2 => ?_) (fun h2 => ?_)
      · have e : numB z = false := by
          unfold numB
          rw [decide_eq_false (by simp at h2; omega), Bool.false_and, Bool.false_and]
        rw [e] at hq
        walk_at "r"
        walk_at "t"
        walk_at "r"
        exact .of hq
      · have e : numB z = ((z.cps.toList.all fun c => decide (c ∈ (Str.ofString "0123456789").cps.toList)) && (decide (z.length = 1) || decide (z.cps.toList[0]? ≠ some 48))) := by
          unfold numB
          rw [decide_eq_true (p := 1 ≤ z.length ∧ z.length ≤ 3) (by simp at h2; omega), Bool.true_and]
        rw [e] at hq
        have hz : z.cps.toList.length = z.length := by simp [Str.length]
        walk_at "r"
        refine ⟨by unfold signS; rw [List.length_map]; exact line_le (by omega), fun p hp => ?_⟩
        refine lc_map inFig (fun _ => trivial) (fun x hx acc K1 k => ?_) ?_
        · obtain ⟨g, hg, rfl⟩ := List.mem_map.mp hx
          walk_at "r"
          exact ⟨g, rfl, k _ (.refl _)⟩
        · walk_at "r"
          refine ⟨z.cps.toList.map fun c => decide (c ∈ (Str.ofString "0123456789").cps.toList), ?_, ?_⟩
          · show up _ p _ p = _
            rw [up_same]
            unfold signS
            rw [List.map_map, List.map_map]
            rfl
          · have ea : (z.cps.toList.map fun c => decide (c ∈ (Str.ofString "0123456789").cps.toList)).all id = z.cps.toList.all fun c => decide (c ∈ (Str.ofString "0123456789").cps.toList) := by rw [List.all_map]; rfl
            rw [ea]
            cases hb : z.cps.toList.all fun c => decide (c ∈ (Str.ofString "0123456789").cps.toList) with
            | false =>
              rw [hb, Bool.false_and] at hq
              walk_at "r"
              walk_at "t"
              walk_at "r"
              exact ⟨m, .new (.refl m) hp, hq⟩
            | true =>
              rw [hb, Bool.true_and] at hq
              walk_at "r"
              walk_at "f"
              walk_at "r"
              refine ⟨line_le (by omega), ?_⟩
              walk_at "r"
              refine Br_i (fun h3 => ?_) (fun h3 => ?_)
              · have h3 : z.length = 1 := by have := of_decide_eq_true h3; omega
                rw [decide_eq_true h3, Bool.true_or] at hq
                exact ⟨m, .new (.refl m) hp, hq⟩
              · have h3 : ¬ z.length = 1 := by have := of_decide_eq_false h3; omega
                rw [decide_eq_false h3, Bool.false_or] at hq
                have h0 : 0 < z.cps.toList.length := by omega
                have eg : z.cps.toList[0]? = some z.cps.toList[0] := List.getElem?_eq_getElem h0
                rw [eg] at hq
                generalize z.cps.toList[0] = g at hq eg
                walk_at "r"
                refine ⟨g, line_le (by omega), atI_nat (j := 0) eg, ?_⟩
                walk_at "r"
                have e0 : (Str.ofString "0") = ⟨#[48]⟩ := by decide +kernel
                have e4 : (!decide ((⟨#[g]⟩ : Str) = Str.ofString "0")) = decide (some g ≠ some 48) := by
                  rw [e0]
                  by_cases c : g = 48
                  · subst c; rfl
                  · rw [decide_eq_false (fun e => c (by injection e with e; simpa using e)), decide_eq_true (p := some g ≠ some 48) (fun e => c (Option.some.inj e))]
                    rfl
                rw [e4]
                exact ⟨m, .new (.refl m) hp, hq⟩
    · have h1 := of_decide_eq_false h1
      have e : numB z = false := by
        unfold numB
        rw [decide_eq_false (by omega), Bool.false_and, Bool.false_and]
      rw [e] at hq
      walk_at "r"
      walk_at "t"
      walk_at "r"
      walk_at "t"
      walk_at "r"
      exact .of hq
theorem numB_cell {i : Int} (h0 : 0 ≤ i) (h1 : i ≤ 999) : numB (cellT (some i)) = true := by
  obtain ⟨n, rfl⟩ := cell_nat h0
  obtain ⟨a, b, c⟩ := num_small n (by omega)
  have et : (cellT (some (n : Int))).cps.toList = TL.numL n := tl_cell rfl
  have el : (cellT (some (n : Int))).length = (TL.numL n).length := by
    rw [TL.len_tl]
    exact congrArg List.length et
  unfold numB
  rw [el, et, decide_eq_true (p := 1 ≤ (TL.numL n).length ∧ (TL.numL n).length ≤ 3) ⟨b, a⟩, Bool.true_and, Bool.and_eq_true]
  refine ⟨List.all_eq_true.mpr fun c hc => decide_eq_true ?_, ?_⟩
  · have := TL.numL_digits n c hc
    have e : (Str.ofString "0123456789").cps.toList = [48, 49, 50, 51, 52, 53, 54, 55, 56, 57] := by decide +kernel
    rw [e]
    simp only [List.mem_cons, List.not_mem_nil, or_false]
    omega
  · rw [Bool.or_eq_true]
    exact c.imp (fun h => decide_eq_true h) fun h => decide_eq_true h
theorem numB_none : numB (cellT none) = false := by decide +kernel
theorem form_tab {s : Str} {f : List Bool} (h : (s, f) ∈ FORM) : (s, f.map SV.bl) ∈ L_FORMS := by
  simp only [FORM, List.mem_cons, List.not_mem_nil, or_false, Prod.mk.injEq] at h
  rcases h with ⟨rfl, rfl⟩ | ⟨rfl, rfl⟩ | ⟨rfl, rfl⟩ | ⟨rfl, rfl⟩
  · exact List.mem_cons_self
  · exact List.mem_cons_of_mem _ List.mem_cons_self
  · exact List.mem_cons_of_mem _ (List.mem_cons_of_mem _ List.mem_cons_self)
  · exact List.mem_cons_of_mem _ (List.mem_cons_of_mem _ (List.mem_cons_of_mem _ List.mem_cons_self))
/-- a row's words -/
def spIsRow : SpS := fun vs m _ S => ∃ (p : Addr) (q : RowD), vs = [.ref p] ∧ m p = some (.lst ((wordsT q).map .str)) ∧ RowOk q ∧ S (.bl true) m
theorem ok_is_row (T : Tx K mg) [TBS : Tabs K mg w] : FnOk P w K mg base CX0 2 (He.ga K "is_row") T.fd_is_row ["words"] (lift K spIsRow) := by
  have G_is_written_number := ok_is_written_number (P := P) (w := w) (base := base) T
  have b_is_written_number := b_is_written_number T
  refine fn_sy T.F_is_row sc_is_row (fun svs m SX Sv h => ?_) (fun cdv A outer s H E hr => ⟨_, _, (gss_cons (gs_asg (gv 0) (gg_starl rfl (ggs_cons (gg_name (i := 1) sc_is_row.nd rfl (.inl rfl)) (ggs_last (gg_name (i := 2) sc_is_row.nd rfl (.inl rfl))))))
      (gss_cons (gs_if (gw_pt (gw_or (gt_cmp (op_tabNotIn TBS.t_FORMS) (sim_tabIn TBS.t_FORMS true) (gv 1) (ge_gref (by rfl) TBS.g_FORMS) (by with_unfolding_all rfl)) (gw_or1 (gt_cmp (op_neG K hr.units) sim_ne (ge_callB (cr_len K) sim_len (by rfl) T.z_len (by decide +kernel) (ga_cons (gv 2) ga_nil)) (ge_callB (cr_len K) sim_len (by rfl) T.z_len (by decide +kernel) (ga_cons (ge_ix ix_tab (sim_tabGet TBS.t_FORMS) (ge_gref (by rfl) TBS.g_FORMS) (gv 1) (fun _ _ => rfl)) ga_nil)) (nomark _))))) (gss_one (gs_ret ge_bl)) gss_nil)
      (gss_one (gs_ret (ge_callB (cr_allG K) sim_all (by rfl) T.z_all (by decide +kernel) (ga_cons (ge_lc (own := [("word", 3), ("may_be_none", 4)]) (by rfl) sc_is_row.nd (gi_zipM (by rfl) T.z_zip (ga_cons (gv 2) (ga_cons (ge_ix ix_tab (sim_tabGet TBS.t_FORMS) (ge_gref (by rfl) TBS.g_FORMS) (gv 1) (fun _ _ => rfl)) ga_nil))) (blkOk_by (own := [("word", 3), ("may_be_none", 4)]) (N := ["words", "name", "rest", "word", "may_be_none"]) (sc := (defScope s_is_row)) (by decide +kernel)) (fun _ _ _ _ _ => (gg_tup 2 (by rfl) (ggs_cons (gg_name (i := 3) sc_is_row.nd rfl (.inl rfl)) (ggs_cons (gg_name (i := 4) sc_is_row.nd rfl (.inl rfl)) ggs_nil)))) (wp_tup (wps_cons (wp_name (by decide)) (wps_cons (wp_name (by decide)) wps_nil))) (fun _ _ _ _ _ => gts_nil) (fun _ _ _ _ _ => (ge_or (ge_call G_is_written_number (hr) (by rfl) T.g_is_written_number T.k_is_written_number b_is_written_number .nil (fun _ => .nil) pass0 (ga_cons (gv 3) ga_nil)) (ge_one (ge_and (gv 4) (ge_one (ge_cmp (op_eqG K hr.units) sim_eq (gv 3) (ge_gs (by rfl) T.i_NONE) (nomark _)))))))) ga_nil)))))), fun svs m SX Sv h => ?_⟩)
  · obtain ⟨p, q, rfl, _⟩ := h
    rfl
  · obtain ⟨p, q, rfl, hp, ok, hq⟩ := h
    obtain ⟨f, hf, hlen, hnone⟩ := ok.form
    have hw := words_len ok
    walk_at "r"
    refine ⟨_, _, hp, by rw [List.length_map, List.length_map]; omega, fun p1 hp1 => ?_⟩
    walk_at "r"
    have hfl : (q.1, f.map SV.bl) ∈ L_FORMS := form_tab hf
    refine ⟨rfl, _, hfl, ?_⟩
    walk_at "r"
    walk_at "f"
    walk_at "r"
    refine ⟨_, up_same, ?_⟩
    walk_at "r"
    refine ⟨rfl, _, hfl, ?_⟩
    walk_at "r"
    refine ⟨_, rfl, ?_⟩
    walk_at "r"
    rw [decide_eq_true (by rw [List.length_map, List.length_map, List.length_map, hlen])]
    walk_at "r"
    walk_at "f"
    walk_at "r"
    refine ⟨rfl, _, hfl, ?_⟩
    walk_at "r"
    refine ⟨_, up_same, ?_⟩
    refine ⟨by rw [List.length_map, List.length_zip, List.length_map, List.length_map]; exact line_le (by omega), fun p2 hp2 => ?_⟩
    refine lc_map (fun _ => .bl true) (fun acc => kp up_same hp2) (fun x hx acc K1 k => ?_) ?_
    · obtain ⟨pr, hpr, rfl⟩ := List.mem_map.mp hx
      obtain ⟨i, hi⟩ := List.mem_iff_getElem?.mp hpr
      obtain ⟨e1, e2⟩ := List.getElem?_zip_eq_some.mp hi
      rw [List.map_map, List.getElem?_map] at e1
      obtain ⟨o, e3, e4⟩ := Option.map_eq_some_iff.mp e1
      rw [List.getElem?_map] at e2
      obtain ⟨b, e5, e6⟩ := Option.map_eq_some_iff.mp e2
      have hn := hnone i o b e3 e5
      obtain ⟨x1, x2⟩ := pr
      have e4 : SV.str (cellT o) = x1 := e4
      have e6 : SV.bl b = x2 := e6
      subst e4 e6
      have hc := ok.cell o (List.mem_of_getElem? e3)
      walk_at "r"
      refine ⟨rfl, ?_⟩
      walk_at "r"
      refine ⟨_, rfl, by have := (cell_free hc).2.2; omega, ?_⟩
      cases o with
      | some j =>
        obtain ⟨j0, j1⟩ := hc j rfl
        rw [numB_cell j0 j1]
        walk_at "r"
        walk_at "t"
        exact k _ (.refl _)
      | none =>
        rw [numB_none, hn rfl]
        walk_at "r"
        walk_at "f"
        walk_at "r"
        walk_at "t"
        walk_at "r"
        rw [show decide (cellT none = Str.ofString "-") = true from decide_eq_true rfl]
        exact k _ (.refl _)
    · walk_at "r"
      refine ⟨(((q.2.map cellT).map SV.str).zip (f.map SV.bl)).map fun _ => true, ?_, ?_⟩
      · show up _ p2 _ p2 = _
        rw [up_same]
        generalize ((q.2.map cellT).map SV.str).zip (f.map SV.bl) = zs
        rw [List.map_map, List.map_map]
        rfl
      · rw [show ((((q.2.map cellT).map SV.str).zip (f.map SV.bl)).map fun _ => true).all id = true by rw [List.all_map]; simp]
        exact ⟨m, .new (.new (.refl m) hp1) hp2, hq⟩
end
end Hn

set_option Elab.async false
set_option linter.all false
set_option maxRecDepth 100000
set_option maxHeartbeats 8000000
namespace Hn
open PySem PySem.Spec PyProof.Rows L2 Sy Lm
section
variable {P : Program} {w : World} {K : PySem.W.Frag} {mg : Str → Option Value} {base : Heap}
local macro_rules | `(tactic| walk_at "r") => `(tactic| (conv => whnf))
local macro_rules | `(tactic| walk_at "sp") => `(tactic| (first | rfl | contradiction | exact (False.elim ‹_›)))
local macro_rules | `(tactic| walk_at "len") => `(tactic| (exact Nat.le_trans (show _ ≤ 100000 by first | (simp; done) | (rw [rngS_length]; decide)) (by decide)))
local macro_rules | `(tactic| walk_at "f") => `(tactic| (refine Br_i (fun hb => Bool.noConfusion (show false = true from hb)) (fun _ => ?_)))
local macro_rules | `(tactic| walk_at "t") => `(tactic| (refine Br_i (fun _ => ?_) (fun hb => Bool.noConfusion (show true = false from hb))))
local macro_rules | `(tactic| walk_at "le") => `(tactic| first | exact Le.refl _ | (refine Le.put ?_; walk_at "le") | (refine Le.new ?_ (by assumption); walk_at "le"))
def lastV : Option Str → SV
  | none => .non
  | some s => .str s
/-- a row that may stand at once behind another one -/
def Behind (l : Option Str) (s : Str) : Prop := ∃ xs, (s, xs) ∈ L_BEHIND ∧ inS (lastV l) xs = true ∧ flatS (lastV l) = true ∧ xs.all flatS = true
def SeqOk : Option Str → List RowD → Prop
  | _, [] => True
  | l, q :: r => Behind l q.1 ∧ SeqOk (some q.1) r
theorem behind_person {l : Option Str} (h : l = none ∨ l = some "person" ∨ l = some "hush" ∨ l = some "gather") : Behind l "person" := by
  refine ⟨_, List.mem_cons_self, ?_⟩
  rcases h with rfl | rfl | rfl | rfl <;> decide +kernel
theorem behind_hush {l : Option Str} (h : l = some "person" ∨ l = some "hush") : Behind l "hush" := by
  refine ⟨_, List.mem_cons_of_mem _ List.mem_cons_self, ?_⟩
  rcases h with rfl | rfl <;> decide +kernel
theorem behind_gather {l : Option Str} (h : l = some "person" ∨ l = some "hush" ∨ l = some "gather") : Behind l "gather" := by
  refine ⟨_, List.mem_cons_of_mem _ (List.mem_cons_of_mem _ List.mem_cons_self), ?_⟩
  rcases h with rfl | rfl | rfl <;> decide +kernel
theorem behind_notice {l : Option Str} (h : l = some "person" ∨ l = some "hush" ∨ l = some "gather" ∨ l = some "notice") : Behind l "notice" := by
  refine ⟨_, List.mem_cons_of_mem _ (List.mem_cons_of_mem _ (List.mem_cons_of_mem _ List.mem_cons_self)), ?_⟩
  rcases h with rfl | rfl | rfl | rfl <;> decide +kernel
def midSt (l : Option Str) : Prop := l = some "person" ∨ l = some "hush" ∨ l = some "gather"
theorem seq_gs {rest : List RowD} (h : ∀ l, midSt l → SeqOk l rest) : ∀ (gs : List (Int × Int)) {l : Option Str}, midSt l → SeqOk l ((gs.map fun p => (("gather", [some p.1, some p.2]) : RowD)) ++ rest)
  | [], l, hl => h l hl
  | p :: r, l, hl => ⟨behind_gather hl, seq_gs h r (.inr (.inr rfl))⟩
theorem seq_hs {rest : List RowD} (h : ∀ l, midSt l → SeqOk l rest) : ∀ (hs : List (Int × Int)) {l : Option Str}, l = some "person" ∨ l = some "hush" → SeqOk l ((hs.map fun p => (("hush", [some p.1, some p.2]) : RowD)) ++ rest)
  | [], l, hl => h l (hl.elim .inl fun e => .inr (.inl e))
  | p :: r, l, hl => ⟨behind_hush hl, seq_hs h r (.inr rfl)⟩
theorem seq_pr {r : PR} {rest : List RowD} (h : ∀ l, midSt l → SeqOk l rest) {l : Option Str} (hl : l = none ∨ midSt l) : SeqOk l (prRows r ++ rest) := by
  unfold prRows
  rw [List.cons_append, List.cons_append, List.append_assoc]
  exact ⟨behind_person hl, seq_hs (fun l hl => seq_gs h r.gs hl) r.hs (.inl rfl)⟩
theorem seq_nts : ∀ (N : List NR) {l : Option Str}, midSt l ∨ l = some "notice" → SeqOk l (N.map ntRow)
  | [], _, _ => trivial
  | z :: N, l, hl => ⟨behind_notice (by rcases hl with (h | h | h) | h <;> simp [h]), seq_nts N (.inr rfl)⟩
theorem seq_all {N : List NR} : ∀ (R : List PR) {l : Option Str}, l = none ∨ midSt l → (R = [] → midSt l) → SeqOk l (R.flatMap prRows ++ N.map ntRow)
  | [], l, _, h => seq_nts N (.inl (h rfl))
  | r :: R, l, hl, _ => by
    rw [List.flatMap_cons, List.append_assoc]
    exact seq_pr (fun l hl => seq_all R (.inr hl) fun _ => hl) hl
theorem seq_ok {R : List PR} {N : List NR} (ok : RulesOk R) : SeqOk none (allRows R N) := seq_all R (.inl rfl) fun e => by
  have := ok.one
  rw [e] at this
  cases this
def spJRows : SpS := fun vs m _ S => ∃ qs : List RowD, vs = [.str (textT qs)] ∧ qs ≠ [] ∧ (∀ q ∈ qs, RowOk q) ∧ qs.length ≤ 100 ∧ SeqOk none qs ∧ ∀ p, m p = none → S (.ref p) (up m p (.lst (qs.map rowV)))
theorem cell_none {x : Option Int} (h : CellOk x) : decide (cellT x = Str.ofString "-") = x.isNone := by
  cases x with
  | none => exact decide_eq_true rfl
  | some i =>
    obtain ⟨h0, h1⟩ := h i rfl
    refine decide_eq_false fun e => ?_
    have z := numB_cell h0 h1
    rw [e] at z
    exact absurd z (by rw [show numB (Str.ofString "-") = false from numB_none]; simp)
/-- a word as a number -/
def wordV : SV → SV
  | .str w => if w = Str.ofString "-" then .non else match PySem.intText? w with
    | some i => .int i
    | none => .non
  | x => x
theorem wordV_cell {x : Option Int} (h : CellOk x) : wordV (.str (cellT x)) = optV x := by
  cases x with
  | none => rfl
  | some i =>
    obtain ⟨h0, h1⟩ := h i rfl
    have z : ¬ cellT (some i) = Str.ofString "-" := of_decide_eq_false (cell_none h)
    show (if cellT (some i) = Str.ofString "-" then SV.non else match PySem.intText? (cellT (some i)) with | some i => SV.int i | none => .non) = _
    rw [if_neg z, cell_int h0 h1]
    rfl
theorem ok_judged_rows (T : Tx K mg) [TBS : Tabs K mg w] : FnOk P w K mg base CX0 3 (He.ga K "judged_rows") T.fd_judged_rows ["text"] (lift K spJRows) := by
  have G_is_row := ok_is_row (P := P) (w := w) (base := base) T
  have b_is_row := b_is_row T
  refine fn_sy T.F_judged_rows sc_judged_rows (fun svs m SX Sv h => ?_) (fun cdv A outer s H E hr => ⟨_, _, (gss_cons (gs_set (i := 1) sc_judged_rows.nd rfl (.inl rfl) (ge_lst ga_nil))
      (gss_cons (gs_set (i := 2) sc_judged_rows.nd rfl (.inl rfl) ge_non)
      (gss_cons (gs_for PassesOwn.never rfl (gi_enumerate (by rfl) T.z_enumerate (ga_cons (ge_bm PySem.F.plainAttrs_str PySem.F.slot_str_split PySem.F.type_str_split mt_splitG simk_S sim_split (gv 0) (ga_cons ge_str ga_nil)) ga_nil)) (gg_tup 2 (by rfl) (ggs_cons (gg_name (i := 3) sc_judged_rows.nd rfl (.inl rfl)) (ggs_cons (gg_name (i := 4) sc_judged_rows.nd rfl (.inl rfl)) ggs_nil)))
      (gss_cons (gs_set (i := 5) sc_judged_rows.nd rfl (.inl rfl) (ge_bm PySem.F.plainAttrs_str PySem.F.slot_str_split PySem.F.type_str_split mt_splitG simk_S sim_split (gv 4) (ga_cons ge_str ga_nil)))
      (gss_cons (gs_if (gw_pt (gw_or (gt_not (gt_val (ge_call G_is_row (hr) (by rfl) T.g_is_row T.k_is_row b_is_row .nil (fun _ => .nil) pass0 (ga_cons (gv 5) ga_nil)))) (gw_or1 (gt_cmp (op_notInG K) (sim_in true) (gv 2) (ge_ix ix_tab (sim_tabGet TBS.t_BEHIND) (ge_gref (by rfl) TBS.g_BEHIND) (ge_ix (ix_G K) sim_ix (gv 5) ge_int (fun _ _ => rfl)) (fun _ _ => rfl)) (by with_unfolding_all rfl))))) (gss_one gs_never) gss_nil)
      (gss_cons (gs_asg (gv 5) (gg_starl rfl (ggs_cons (gg_name (i := 2) sc_judged_rows.nd rfl (.inl rfl)) (ggs_last (gg_name (i := 6) sc_judged_rows.nd rfl (.inl rfl))))))
      (gss_one (gs_expr (ge_bm PySem.F.plainAttrs_list PySem.F.slot_list_append PySem.F.type_list_append mt_append simk_L sim_append (gv 1) (ga_cons (ge_tup (ga_cons (gv 2) (ga_cons (ge_callTy (cr_tup K) sim_tupOf (by rfl) T.z_tuple (by decide +kernel) (ga_cons (ge_lc (own := [("word", 7)]) (by rfl) sc_judged_rows.nd (gi_seq (gv 6)) (blkOk_by (own := [("word", 7)]) (N := ["text", "rows", "last", "at", "line", "words", "rest", "word"]) (sc := (defScope s_judged_rows)) (by decide +kernel)) (fun _ _ _ _ _ => (gg_name (i := 7) sc_judged_rows.nd rfl (.inl rfl))) (wp_name (by decide)) (fun _ _ _ _ _ => gts_nil) (fun _ _ _ _ _ => (ge_ifE (gt_cmp (op_eqG K hr.units) sim_eq (gv 7) (ge_gs (by rfl) T.i_NONE) (nomark _)) ge_non (ge_callTy call_int_str sim_intS (by rfl) T.z_int (by decide +kernel) (ga_cons (gv 7) ga_nil))))) ga_nil)) ga_nil))) ga_nil))))))))
      (gss_one (gs_ret (gv 1)))))), fun svs m SX Sv h => ?_⟩)
  · obtain ⟨qs, rfl, _⟩ := h
    rfl
  · obtain ⟨qs, rfl, ne, ok, hl, hs, hq⟩ := h
    walk_at "r"
    refine ⟨by walk_at "len", fun p hp => ?_⟩
    have tl := text_len ok hl
    walk_at "r"
    refine ⟨trivial, ?_⟩
    walk_at "r"
    refine ⟨by decide +kernel, line_le (by omega), fun p1 hp1 => ?_⟩
    rw [text_split ne ok]
    walk_at "r"
    refine ⟨_, up_same, ?_⟩
    dsimp only [List.set]
    have np : p ≠ p1 := mne up_same hp1
    rw [up_comm np]
    refine for_inv (fun r δ m' => ∃ (j : Nat) (l : Option Str) (x3 x4 x5 x6 x7 : Option SV), Le (up (up m p1 (.lst ((qs.map rowT).map .str))) p (.lst ((qs.take j).map rowV))) m' ∧ δ = [some (.str (textT qs)), some (.ref p), some (lastV l), x3, x4, x5, x6, x7] ∧ r = enS j (((qs.drop j).map rowT).map .str) ∧ j ≤ qs.length ∧ SeqOk l (qs.drop j)) ⟨0, none, none, none, none, none, none, .refl _, rfl, rfl, Nat.zero_le _, hs⟩ (fun x r δ m' h => ?_) (fun δ m' h => ?_)
    · obtain ⟨j, l, x3, x4, x5, x6, x7, lm, rfl, hr, hj, hseq⟩ := h
      have e1 : m' p1 = some (.lst ((qs.map rowT).map .str)) := lm _ _ ((up_ne (Ne.symm np)).trans up_same)
      have ep : m' p = some (.lst ((qs.take j).map rowV)) := lm _ _ up_same
      cases hd : qs.drop j with
      | nil => rw [hd] at hr; cases hr
      | cons q rest =>
        obtain ⟨hz, hd2⟩ := drop_cons' hd
        have hj2 := (List.getElem?_eq_some_iff.mp hz).1
        rw [hd, List.map_cons, List.map_cons, enS_cons] at hr
        obtain ⟨rfl, rfl⟩ := List.cons.inj hr
        have oq := ok q (List.mem_of_getElem? hz)
        have hw := words_len oq
        rw [hd] at hseq
        obtain ⟨⟨xs, hx1, hx2, hx3, hx4⟩, hseq⟩ := hseq
        refine ⟨e1, ?_⟩
        walk_at "r"
        refine ⟨rfl, ?_⟩
        walk_at "r"
        refine ⟨trivial, ?_⟩
        walk_at "r"
        refine ⟨by decide +kernel, line_le (by have := (row_len oq).1; omega), fun p2 hp2 => ?_⟩
        rw [row_split oq]
        generalize hm2 : up m' p2 _ = m2
        have e2 : m2 p2 = some (.lst ((wordsT q).map .str)) := by rw [← hm2]; exact up_same
        have l2 : Le m' m2 := by rw [← hm2]; exact .new (.refl _) hp2
        clear hm2
        walk_at "r"
        refine ⟨p2, q, rfl, e2, oq, ?_⟩
        walk_at "r"
        walk_at "f"
        walk_at "r"
        refine ⟨_, _, e2, atI_nat (j := 0) rfl, ?_⟩
        walk_at "r"
        refine ⟨rfl, _, hx1, ?_⟩
        walk_at "r"
        refine ⟨xs, rfl, hx3, hx4, ?_⟩
        rw [hx2]
        walk_at "r"
        walk_at "f"
        walk_at "r"
        refine ⟨_, _, e2, by rw [List.length_map, List.length_map]; omega, fun p3 hp3 => ?_⟩
        walk_at "r"
        refine ⟨⟨_, kp (l2 _ _ ep) hp3⟩, ?_⟩
        walk_at "r"
        refine ⟨_, up_same, ?_⟩
        refine ⟨by rw [List.length_map, List.length_map]; exact line_le (by omega), fun p4 hp4 => ?_⟩
        refine lc_map wordV (fun acc => kp up_same hp4) (fun x hx acc K1 k => ?_) ?_
        · obtain ⟨w0, hw0, rfl⟩ := List.mem_map.mp hx
          obtain ⟨o, ho, rfl⟩ := List.mem_map.mp hw0
          have hc := oq.cell o ho
          have k : ∀ m', Le _ m' → K1 (wordV (.str (cellT o))) m' := k
          rw [wordV_cell hc] at k
          walk_at "r"
          rw [cell_none hc]
          cases o with
          | none =>
            walk_at "r"
            walk_at "t"
            exact k _ (.refl _)
          | some i =>
            obtain ⟨i0, i1⟩ := hc i rfl
            walk_at "r"
            walk_at "f"
            walk_at "r"
            refine ⟨i, cell_int i0 i1, by have := (cell_free hc).2.2; omega, ?_⟩
            exact k _ (.refl _)
        · have ew : (((q.2.map cellT).map SV.str).map wordV) = q.2.map optV := by
            rw [List.map_map, List.map_map]
            exact List.map_congr_left fun o ho => wordV_cell (oq.cell o ho)
          rw [ew]
          walk_at "r"
          refine ⟨_, up_same, ?_⟩
          walk_at "r"
          repeat (refine ⟨by walk_at "len", ?_⟩; walk_at "r")
          refine ⟨_, kp (kp (l2 _ _ ep) hp3) hp4, by rw [List.length_map, List.length_take, sizeLine_eq]; omega, ?_⟩
          have l4 : Le m' (up (up m2 p3 (.lst ((q.2.map cellT).map .str))) p4 (.lst (q.2.map optV))) := .new (.new l2 hp3) hp4
          have e5 : (qs.take (j + 1)).map rowV = (qs.take j).map rowV ++ [.tup [.str q.1, .tup (q.2.map optV)]] := by
            rw [List.take_succ, hz, List.map_append]
            rfl
          walk_at "r"
          refine .of ⟨j + 1, some q.1, _, _, _, _, _, by rw [e5]; exact put_le (lm.trans l4), rfl, by rw [hd2]; push_cast; rfl, hj2, by rw [hd2]; exact hseq⟩
    · obtain ⟨j, l, x3, x4, x5, x6, x7, lm, rfl, hr, hj, hseq⟩ := h
      have ej : j = qs.length := by
        cases hd : qs.drop j with
        | nil => have := List.drop_eq_nil_iff.mp hd; omega
        | cons q rest => rw [hd] at hr; cases hr
      rw [ej, List.take_length] at lm
      refine ⟨lm _ _ ((up_ne (Ne.symm np)).trans up_same), ?_⟩
      walk_at "r"
      rw [← up_comm np] at lm
      have hp1' : up m p (.lst (qs.map rowV)) p1 = none := by
        rw [up_ne (Ne.symm np)]
        rwa [up_ne (Ne.symm np)] at hp1
      exact ⟨_, Le.trans (.new (.refl _) hp1') lm, hq p hp⟩
end
end Hn

set_option Elab.async false
set_option linter.all false
set_option maxRecDepth 100000
set_option maxHeartbeats 8000000
namespace Hn
open PySem PySem.Spec PyProof.Rows L2 Sy Lm
section
variable {P : Program} {w : World} {K : PySem.W.Frag} {mg : Str → Option Value} {base : Heap}
local macro_rules | `(tactic| walk_at "r") => `(tactic| (conv => whnf))
local macro_rules | `(tactic| walk_at "sp") => `(tactic| (first | rfl | contradiction | exact (False.elim ‹_›)))
local macro_rules | `(tactic| walk_at "len") => `(tactic| (exact Nat.le_trans (show _ ≤ 100000 by first | (simp; done) | (rw [rngS_length]; decide)) (by decide)))
local macro_rules | `(tactic| walk_at "f") => `(tactic| (refine Br_i (fun hb => Bool.noConfusion (show false = true from hb)) (fun _ => ?_)))
local macro_rules | `(tactic| walk_at "t") => `(tactic| (refine Br_i (fun _ => ?_) (fun hb => Bool.noConfusion (show true = false from hb))))
local macro_rules | `(tactic| walk_at "le") => `(tactic| first | exact Le.refl _ | (refine Le.put ?_; walk_at "le") | (refine Le.new ?_ (by assumption); walk_at "le"))
/-- the rows that rules and notices make -/
inductive RowK : RowD → Prop
  | person (l : Int) (w f : Option Int) : RowK ("person", [some l, w, f])
  | hush (a b : Int) : RowK ("hush", [some a, some b])
  | gather (a b : Int) : RowK ("gather", [some a, some b])
  | notice (z : NR) : RowK (ntRow z)
theorem all_kind {R : List PR} {N : List NR} : ∀ q ∈ allRows R N, RowK q := fun q hq => by
  rcases List.mem_append.mp hq with hq | hq
  · obtain ⟨r, _, hq⟩ := List.mem_flatMap.mp hq
    rcases List.mem_append.mp hq with hq | hq
    · rcases List.mem_cons.mp hq with rfl | hq
      · exact .person _ _ _
      · obtain ⟨p, _, rfl⟩ := List.mem_map.mp hq
        exact .hush _ _
    · obtain ⟨p, _, rfl⟩ := List.mem_map.mp hq
      exact .gather _ _
  · obtain ⟨z, _, rfl⟩ := List.mem_map.mp hq
    exact .notice z
def lastUp (g : PR → PR) : List PR → List PR
  | [] => []
  | [r] => [g r]
  | r :: s :: t => r :: lastUp g (s :: t)
theorem lastUp_snoc (g : PR → PR) : ∀ (L : List PR) (r : PR), lastUp g (L ++ [r]) = L ++ [g r]
  | [], r => rfl
  | [x], r => rfl
  | x :: y :: t, r => by
    show x :: lastUp g (y :: t ++ [r]) = _
    rw [lastUp_snoc g (y :: t) r]
    rfl
/-- what a row does to the persons so far -/
def stepP (L : List PR) (q : RowD) : List PR := match q with
  | (s, [a, b, c]) => if s = Str.ofString "person" then L ++ [⟨[], a.getD 0, [], b, c⟩] else L
  | (s, [a, b]) => if s = Str.ofString "hush" then lastUp (fun r => { r with hs := r.hs ++ [(a.getD 0, b.getD 0)] }) L else if s = Str.ofString "gather" then lastUp (fun r => { r with gs := r.gs ++ [(a.getD 0, b.getD 0)] }) L else L
  | _ => L
theorem step_person {L : List PR} {x w f : Option Int} : stepP L (("person", [x, w, f]) : RowD) = L ++ [⟨[], x.getD 0, [], w, f⟩] := by
  show (if (Str.ofString "person" = Str.ofString "person") then (L ++ [⟨[], x.getD 0, [], w, f⟩] : List PR) else L) = _
  rw [if_pos rfl]
theorem step_hush {L : List PR} {x w : Option Int} : stepP L (("hush", [x, w]) : RowD) = lastUp (fun r => { r with hs := r.hs ++ [(x.getD 0, w.getD 0)] }) L := by
  show (if (Str.ofString "hush" = Str.ofString "hush") then lastUp (fun r => { r with hs := r.hs ++ [(x.getD 0, w.getD 0)] }) L else if (Str.ofString "hush" = Str.ofString "gather") then lastUp (fun r => { r with gs := r.gs ++ [(x.getD 0, w.getD 0)] }) L else L) = _
  rw [if_pos rfl]
theorem step_gather {L : List PR} {x w : Option Int} : stepP L (("gather", [x, w]) : RowD) = lastUp (fun r => { r with gs := r.gs ++ [(x.getD 0, w.getD 0)] }) L := by
  show (if (Str.ofString "gather" = Str.ofString "hush") then lastUp (fun r => { r with hs := r.hs ++ [(x.getD 0, w.getD 0)] }) L else if (Str.ofString "gather" = Str.ofString "gather") then lastUp (fun r => { r with gs := r.gs ++ [(x.getD 0, w.getD 0)] }) L else L) = _
  rw [if_neg (by decide +kernel), if_pos rfl]
theorem snoc_of {α : Type} {L : List α} (h : L ≠ []) : ∃ I t, L = I ++ [t] := ⟨L.dropLast, L.getLast h, (List.dropLast_concat_getLast h).symm⟩
theorem fold_gs : ∀ (gs : List (Int × Int)) (L : List PR) (r : PR), (gs.map fun p => (("gather", [some p.1, some p.2]) : RowD)).foldl stepP (L ++ [r]) = L ++ [{ r with gs := r.gs ++ gs }]
  | [], L, r => by rw [List.append_nil]; rfl
  | p :: g, L, r => by
    rw [List.map_cons, List.foldl_cons]
    have e : stepP (L ++ [r]) (("gather", [some p.1, some p.2]) : RowD) = L ++ [{ r with gs := r.gs ++ [p] }] := by
      rw [step_gather, lastUp_snoc]
      rfl
    rw [e, fold_gs g L _]
    show L ++ [{ r with gs := (r.gs ++ [p]) ++ g }] = _
    rw [List.append_assoc]
    rfl
theorem fold_hs : ∀ (hs : List (Int × Int)) (L : List PR) (r : PR), (hs.map fun p => (("hush", [some p.1, some p.2]) : RowD)).foldl stepP (L ++ [r]) = L ++ [{ r with hs := r.hs ++ hs }]
  | [], L, r => by rw [List.append_nil]; rfl
  | p :: g, L, r => by
    rw [List.map_cons, List.foldl_cons]
    have e : stepP (L ++ [r]) (("hush", [some p.1, some p.2]) : RowD) = L ++ [{ r with hs := r.hs ++ [p] }] := by
      rw [step_hush, lastUp_snoc]
      rfl
    rw [e, fold_hs g L _]
    show L ++ [{ r with hs := (r.hs ++ [p]) ++ g }] = _
    rw [List.append_assoc]
    rfl
theorem fold_pr (r : PR) (L : List PR) : (prRows r).foldl stepP L = L ++ [r] := by
  unfold prRows
  rw [List.cons_append, List.foldl_cons, List.foldl_append]
  have e : stepP L (("person", [some r.least, r.wait, r.fur]) : RowD) = L ++ [⟨[], r.least, [], r.wait, r.fur⟩] := by
    rw [step_person]
    rfl
  rw [e, fold_hs, fold_gs]
  rfl
theorem fold_nt : ∀ (N : List NR) (L : List PR), (N.map ntRow).foldl stepP L = L
  | [], L => rfl
  | z :: N, L => by
    rw [List.map_cons, List.foldl_cons]
    exact fold_nt N L
theorem fold_rows (N : List NR) : ∀ (R L : List PR), (R.flatMap prRows ++ N.map ntRow).foldl stepP L = L ++ R
  | [], L => by
    rw [List.append_nil]
    exact fold_nt N L
  | r :: R, L => by
    rw [List.flatMap_cons, List.append_assoc, List.foldl_append, fold_pr, fold_rows N R, List.append_assoc]
    rfl
theorem fold_all (R : List PR) (N : List NR) : (allRows R N).foldl stepP [] = R := fold_rows N R []
/-- persons under way: what stands of each, where its lists stand -/
abbrev PT := PR × Addr × Addr
def ptV (t : PT) : SV := .tup [.tup [.int t.1.least, optV t.1.wait, optV t.1.fur], .ref t.2.1, .ref t.2.2]
structure PMem (m : Mem) (a p : Addr) (L : List PT) : Prop where
  at_ : ∀ t ∈ L, m t.2.1 = some (.lst (t.1.hs.map pairV)) ∧ m t.2.2 = some (.lst (t.1.gs.map pairV))
  nd : (L.flatMap fun t => [t.2.1, t.2.2]).Nodup
  off : ∀ t ∈ L, t.2.1 ≠ p ∧ t.2.2 ≠ p ∧ t.2.1 ≠ a ∧ t.2.2 ≠ a
theorem PMem.push {m : Mem} {a p p1 p2 : Addr} {oa op o : MO} {L : List PT} {r : PR} (h : PMem m a p L) (ha : m a = some oa) (hp : m p = some op) (h1 : m p1 = none) (h2 : up m p1 (.lst []) p2 = none) (e1 : r.hs = []) (e2 : r.gs = []) : PMem (up (up (up m p1 (.lst [])) p2 (.lst [])) p o) a p (L ++ [(r, p1, p2)]) := by
  have n12 : p1 ≠ p2 := mne up_same h2
  have h2' : m p2 = none := by rwa [up_ne (Ne.symm n12)] at h2
  have np1 : p1 ≠ p := Ne.symm (mne hp h1)
  have np2 : p2 ≠ p := Ne.symm (mne hp h2')
  have old : ∀ b u, m b = some u → b ≠ p → up (up (up m p1 (.lst [])) p2 (.lst [])) p o b = some u := fun b u e n => by
    rw [up_ne n, up_ne (mne e h2'), up_ne (mne e h1)]
    exact e
  refine ⟨fun t ht => ?_, ?_, fun t ht => ?_⟩
  · rcases List.mem_append.mp ht with ht | ht
    · obtain ⟨q1, q2⟩ := h.at_ t ht
      obtain ⟨o1, o2, _, _⟩ := h.off t ht
      exact ⟨old _ _ q1 o1, old _ _ q2 o2⟩
    · obtain rfl := List.mem_singleton.mp ht
      refine ⟨?_, ?_⟩
      · show up _ p o p1 = some (.lst (r.hs.map pairV))
        rw [up_ne np1, up_ne n12, up_same, e1]
        rfl
      · show up _ p o p2 = some (.lst (r.gs.map pairV))
        rw [up_ne np2, up_same, e2]
        rfl
  · rw [List.flatMap_append]
    refine List.nodup_append.mpr ⟨h.nd, by simp [n12], fun x hx y hy => ?_⟩
    obtain ⟨t, ht, hx⟩ := List.mem_flatMap.mp hx
    obtain ⟨q1, q2⟩ := h.at_ t ht
    have hy : y = p1 ∨ y = p2 := by simpa using hy
    have hx : x = t.2.1 ∨ x = t.2.2 := by simpa using hx
    have key : ∀ u, m x = some u → x ≠ y := fun u e z => by
      rcases hy with rfl | rfl
      · rw [z, h1] at e; cases e
      · rw [z, h2'] at e; cases e
    rcases hx with rfl | rfl
    · exact key _ q1
    · exact key _ q2
  · rcases List.mem_append.mp ht with ht | ht
    · exact h.off t ht
    · obtain rfl := List.mem_singleton.mp ht
      exact ⟨np1, np2, Ne.symm (mne ha h1), Ne.symm (mne ha h2')⟩
theorem PMem.mod {m : Mem} {a p : Addr} {I : List PT} {r r' : PR} {x y : Addr} (h : PMem m a p (I ++ [(r, x, y)])) {z : Addr} {xs : List (Int × Int)} (hz : (z = x ∧ r'.hs = xs ∧ r'.gs = r.gs) ∨ (z = y ∧ r'.gs = xs ∧ r'.hs = r.hs)) : PMem (up m z (.lst (xs.map pairV))) a p (I ++ [(r', x, y)]) := by
  have hn := h.nd
  rw [List.flatMap_append] at hn
  obtain ⟨n1, n2, n3⟩ := List.nodup_append.mp hn
  have nxy : x ≠ y := by
    intro e
    subst e
    simp at n2
  have hl : (r, x, y) ∈ I ++ [(r, x, y)] := List.mem_append.mpr (.inr (List.mem_singleton.mpr rfl))
  obtain ⟨q1, q2⟩ := h.at_ _ hl
  have zxy : z = x ∨ z = y := hz.elim (fun q => .inl q.1) fun q => .inr q.1
  refine ⟨fun t ht => ?_, ?_, fun t ht => ?_⟩
  · rcases List.mem_append.mp ht with ht | ht
    · obtain ⟨a1, a2⟩ := h.at_ t (List.mem_append.mpr (.inl ht))
      have d1 : t.2.1 ≠ z := n3 t.2.1 (List.mem_flatMap.mpr ⟨t, ht, by simp⟩) z (by rcases zxy with rfl | rfl <;> simp)
      have d2 : t.2.2 ≠ z := n3 t.2.2 (List.mem_flatMap.mpr ⟨t, ht, by simp⟩) z (by rcases zxy with rfl | rfl <;> simp)
      exact ⟨(up_ne d1).trans a1, (up_ne d2).trans a2⟩
    · obtain rfl := List.mem_singleton.mp ht
      rcases hz with ⟨rfl, e1, e2⟩ | ⟨rfl, e1, e2⟩
      · exact ⟨by rw [up_same, ← e1], (up_ne (Ne.symm nxy)).trans (by rw [q2, e2])⟩
      · exact ⟨(up_ne nxy).trans (by rw [q1, e2]), by rw [up_same, ← e1]⟩
  · rw [List.flatMap_append]
    exact hn
  · rcases List.mem_append.mp ht with ht | ht
    · exact h.off t (List.mem_append.mpr (.inl ht))
    · obtain rfl := List.mem_singleton.mp ht
      exact h.off (r, x, y) hl
theorem behind_some {l : Option Str} {s : Str} (h : Behind l s) (hs : s ≠ Str.ofString "person") : l ≠ none := fun e => by
  subst e
  obtain ⟨xs, h1, h2, _⟩ := h
  simp only [L_BEHIND, List.mem_cons, List.not_mem_nil, or_false, Prod.mk.injEq] at h1
  rcases h1 with ⟨rfl, rfl⟩ | ⟨rfl, rfl⟩ | ⟨rfl, rfl⟩ | ⟨rfl, rfl⟩
  · exact hs rfl
  · exact absurd h2 (by decide +kernel)
  · exact absurd h2 (by decide +kernel)
  · exact absurd h2 (by decide +kernel)
theorem lc_nth {keep : Mem → Prop} {g : SG} {SX : SXK} {items : List SV} {δ : DS} {m : Mem} {p : Addr} {te : SE} {vs : List Nat} {S : SV → Mem → Prop} (ys : List SV) (hl : items.length = ys.length) (hk : ∀ acc, keep (up m p (.lst acc)))
    (step : ∀ (j : Nat) x y, items[j]? = some x → ys[j]? = some y → ∀ acc (K1 : SV → Mem → Prop), (∀ m', Le (up m p (.lst acc)) m' → K1 y m') → g SX x (wipeD δ vs) (up m p (.lst acc)) fun δ1 m1 => te SX δ1 m1 K1)
    (done : S (.ref p) (up m p (.lst ys))) : LcGo p keep g sYes te vs SX δ items m S := by
  refine lc_inv (fun r acc m' => m' = up m p (.lst acc) ∧ ∃ j, items.drop j = r ∧ j ≤ items.length ∧ acc = ys.take j) ⟨rfl, 0, rfl, Nat.zero_le _, rfl⟩ (fun x r acc m' h => ?_) (fun acc m' h => ?_)
  · obtain ⟨rfl, j, hd, hj, rfl⟩ := h
    obtain ⟨hx, hd2⟩ := drop_cons' hd
    have hj1 := (List.getElem?_eq_some_iff.mp hx).1
    obtain ⟨y, hy⟩ : ∃ y, ys[j]? = some y := ⟨_, List.getElem?_eq_getElem (by omega)⟩
    refine ⟨hk _, ?_⟩
    have e : ∀ K1 : SV → Mem → Prop, ∀ K0 : Mem → Prop, (fun δ1 m1 => sYes SX δ1 m1 fun b m2 => Br b (te SX δ1 m2 K1) (K0 m2)) = fun δ1 m1 => te SX δ1 m1 K1 := fun K1 K0 => by
      funext δ1 m1
      exact Br_true
    rw [e]
    refine step j x y hx hy _ _ fun m' l => ⟨l _ _ up_same, _, (by rw [← up_up (m := m)]; exact Le.put l), rfl, j + 1, hd2, hj1, ?_⟩
    rw [List.take_succ, hy]
    rfl
  · obtain ⟨rfl, j, hd, hj, rfl⟩ := h
    have ej : j = items.length := by
      have := List.drop_eq_nil_iff.mp hd
      omega
    refine ⟨hk _, ?_⟩
    rw [ej, hl, List.take_length]
    exact done
def spReadR : SpS := fun vs m _ S => ∃ (a : Addr) (R : List PR) (N : List NR), vs = [.ref a] ∧ m a = some (.lst ((allRows R N).map rowV)) ∧ RulesOk R ∧ NtOk R N ∧ S (RV R) m
theorem ok_read_rules (T : Tx K mg) : FnOk P w K mg base CX0 1 (He.ga K "read_rules") T.fd_read_rules ["rows"] (lift K spReadR) := by
  refine fn_sy T.F_read_rules sc_read_rules (fun svs m SX Sv h => ?_) (fun cdv A outer s H E hr => ⟨_, _, (gss_cons (gs_set (i := 1) sc_read_rules.nd rfl (.inl rfl) (ge_lst ga_nil))
      (gss_cons (gs_for PassesOwn.never rfl (gi_seq (gv 0)) (gg_tup 2 (by rfl) (ggs_cons (gg_name (i := 2) sc_read_rules.nd rfl (.inl rfl)) (ggs_cons (gg_name (i := 3) sc_read_rules.nd rfl (.inl rfl)) ggs_nil)))
      (gss_one (gs_if (gt_cmp (op_eqG K hr.units) sim_eq (gv 2) (ge_gs (by rfl) T.i_PERSON) (nomark _)) (gss_one (gs_expr (ge_bm PySem.F.plainAttrs_list PySem.F.slot_list_append PySem.F.type_list_append mt_append simk_L sim_append (gv 1) (ga_cons (ge_tup (ga_cons (gv 3) (ga_cons (ge_lst ga_nil) (ga_cons (ge_lst ga_nil) ga_nil)))) ga_nil)))) (gss_one (gs_if (gt_cmp (op_eqG K hr.units) sim_eq (gv 2) (ge_gs (by rfl) T.i_HUSH) (nomark _)) (gss_one (gs_expr (ge_bm PySem.F.plainAttrs_list PySem.F.slot_list_append PySem.F.type_list_append mt_append simk_L sim_append (ge_ix (ix_G K) sim_ix (ge_ix (ix_G K) sim_ix (gv 1) (ge_un un_neg sim_neg ge_int) (fun _ _ => rfl)) ge_int (fun _ _ => rfl)) (ga_cons (gv 3) ga_nil)))) (gss_one (gs_if (gt_cmp (op_eqG K hr.units) sim_eq (gv 2) (ge_gs (by rfl) T.i_GATHER) (nomark _)) (gss_one (gs_expr (ge_bm PySem.F.plainAttrs_list PySem.F.slot_list_append PySem.F.type_list_append mt_append simk_L sim_append (ge_ix (ix_G K) sim_ix (ge_ix (ix_G K) sim_ix (gv 1) (ge_un un_neg sim_neg ge_int) (fun _ _ => rfl)) ge_int (fun _ _ => rfl)) (ga_cons (gv 3) ga_nil)))) gss_nil)))))))
      (gss_one (gs_ret (ge_callTy (cr_tup K) sim_tupOf (by rfl) T.z_tuple (by decide +kernel) (ga_cons (ge_lc (own := [("hushed", 7), ("gather", 8), ("least", 4), ("wait", 5), ("further", 6)]) (by rfl) sc_read_rules.nd (gi_seq (gv 1)) (blkOk_by (own := [("hushed", 7), ("gather", 8), ("least", 4), ("wait", 5), ("further", 6)]) (N := ["rows", "persons", "name", "numbers", "least", "wait", "further", "hushed", "gather"]) (sc := (defScope s_read_rules)) (by decide +kernel)) (fun _ _ _ _ _ => (gg_tup 3 (by rfl) (ggs_cons (gg_tup 3 (by rfl) (ggs_cons (gg_name (i := 4) sc_read_rules.nd rfl (.inl rfl)) (ggs_cons (gg_name (i := 5) sc_read_rules.nd rfl (.inl rfl)) (ggs_cons (gg_name (i := 6) sc_read_rules.nd rfl (.inl rfl)) ggs_nil)))) (ggs_cons (gg_name (i := 7) sc_read_rules.nd rfl (.inl rfl)) (ggs_cons (gg_name (i := 8) sc_read_rules.nd rfl (.inl rfl)) ggs_nil))))) (wp_tup (wps_cons (wp_tup (wps_cons (wp_name (by decide)) (wps_cons (wp_name (by decide)) (wps_cons (wp_name (by decide)) wps_nil)))) (wps_cons (wp_name (by decide)) (wps_cons (wp_name (by decide)) wps_nil)))) (fun _ _ _ _ _ => gts_nil) (fun _ _ _ _ _ => (ge_tup (ga_cons (ge_callTy (cr_tup K) sim_tupOf (by rfl) T.z_tuple (by decide +kernel) (ga_cons (gv 7) ga_nil)) (ga_cons (gv 4) (ga_cons (ge_callTy (cr_tup K) sim_tupOf (by rfl) T.z_tuple (by decide +kernel) (ga_cons (gv 8) ga_nil)) (ga_cons (gv 5) (ga_cons (gv 6) ga_nil)))))))) ga_nil)))))), fun svs m SX Sv h => ?_⟩)
  · obtain ⟨a, R, N, rfl, _⟩ := h
    rfl
  · obtain ⟨a, R, N, rfl, ha, ok, no, hq⟩ := h
    walk_at "r"
    refine ⟨by walk_at "len", fun p hp => ?_⟩
    have npa : a ≠ p := mne ha hp
    walk_at "r"
    refine ⟨_, kp ha hp, ?_⟩
    dsimp only [List.set]
    refine for_inv (fun r δ m' => ∃ (rem : List RowD) (L : List PT) (l : Option Str) (x2 x3 x4 x5 x6 x7 x8 : Option SV), Le m m' ∧ m' p = some (.lst (L.map ptV)) ∧ PMem m' a p L ∧ (∀ t ∈ L, m t.2.1 = none ∧ m t.2.2 = none) ∧ rem.foldl stepP (L.map (·.1)) = R ∧ (∀ q ∈ rem, RowK q) ∧ SeqOk l rem ∧ (l ≠ none → L ≠ []) ∧ r = rem.map rowV ∧ rem.length + L.length ≤ 78 ∧ (∀ t ∈ L, t.1.hs.length + t.1.gs.length + rem.length ≤ 78) ∧ δ = [some (.ref a), some (.ref p), x2, x3, x4, x5, x6, x7, x8]) ⟨allRows R N, [], none, none, none, none, none, none, none, none, .new (.refl _) hp, up_same, ⟨fun _ h => (nomatch h), .nil, fun _ h => (nomatch h)⟩, fun _ h => (nomatch h), fold_all R N, all_kind, seq_ok ok, fun h => absurd rfl h, rfl, (all_len ok no).1, fun _ h => (nomatch h), rfl⟩ (fun x r δ m' h => ?_) (fun δ m' h => ?_)
    · obtain ⟨rem, L, l, x2, x3, x4, x5, x6, x7, x8, lm, ep, pm, hout, hfo, hk, hseq, hne, hr, hlen, hbd, rfl⟩ := h
      have ea : m' a = _ := lm _ _ ha
      cases rem with
      | nil => cases hr
      | cons q rest =>
        obtain ⟨rfl, rfl⟩ := List.cons.inj hr
        rw [List.foldl_cons] at hfo
        obtain ⟨hb, hseq⟩ := hseq
        rw [List.length_cons] at hlen
        have hk2 : ∀ q ∈ rest, RowK q := fun z hz => hk z (List.mem_cons_of_mem _ hz)
        refine ⟨ea, ?_⟩
        cases hk q List.mem_cons_self with
        | person lst w f =>
          rw [step_person] at hfo
          walk_at "r"
          refine ⟨rfl, ?_⟩
          walk_at "r"
          refine Br_i (fun _ => ?_) (fun h => absurd rfl (of_decide_eq_false h))
          walk_at "r"
          refine ⟨⟨_, ep⟩, ?_⟩
          walk_at "r"
          refine ⟨by walk_at "len", fun p1 hp1 => ?_⟩
          walk_at "r"
          refine ⟨by walk_at "len", fun p2 hp2 => ?_⟩
          walk_at "r"
          repeat (refine ⟨by walk_at "len", ?_⟩; walk_at "r")
          refine ⟨_, kp (kp ep hp1) hp2, by rw [List.length_map, sizeLine_eq]; omega, ?_⟩
          walk_at "r"
          refine .of ⟨rest, L ++ [(⟨[], lst, [], w, f⟩, p1, p2)], some "person", _, _, x4, x5, x6, x7, x8, ((lm.new hp1).new hp2).over hp, by rw [up_same, List.map_append]; rfl, pm.push ea ep hp1 hp2 rfl rfl, fun t ht => ?_, by rw [List.map_append]; exact hfo, hk2, hseq, fun _ => by simp, rfl, by rw [List.length_append]; show _ + (_ + 1) ≤ _; omega, fun t ht => ?_, rfl⟩
          rotate_left
          · rcases List.mem_append.mp ht with ht | ht
            · have := hbd t ht; rw [List.length_cons] at this; omega
            · obtain rfl := List.mem_singleton.mp ht
              show 0 + 0 + _ ≤ _
              omega
          rcases List.mem_append.mp ht with ht | ht
          · exact hout t ht
          · obtain rfl := List.mem_singleton.mp ht
            exact ⟨lm.none hp1, (lm.new hp1).none hp2⟩
        | hush a1 b1 =>
          have hLne := hne (behind_some hb (by show ¬ Str.ofString "hush" = _; decide +kernel))
          obtain ⟨I, ⟨r, x, y⟩, rfl⟩ := snoc_of hLne
          rw [List.map_append, List.map_cons, List.map_nil, step_hush, lastUp_snoc] at hfo
          have htl : (r, x, y) ∈ I ++ [(r, x, y)] := List.mem_append.mpr (.inr (List.mem_singleton.mpr rfl))
          obtain ⟨q1, q2⟩ := pm.at_ (r, x, y) htl
          obtain ⟨o1, o2, o3, o4⟩ := pm.off (r, x, y) htl
          obtain ⟨z1, z2⟩ := hout (r, x, y) htl
          have hbt := hbd (r, x, y) htl
          have hbt : r.hs.length + r.gs.length + (rest.length + 1) ≤ 78 := hbt
          have q1 : m' x = some (.lst (r.hs.map pairV)) := q1
          have q2 : m' y = some (.lst (r.gs.map pairV)) := q2
          rw [List.map_append] at ep
          walk_at "r"
          refine ⟨rfl, ?_⟩
          walk_at "r"
          refine Br_i (fun h => absurd (of_decide_eq_true h) (by show ¬ Str.ofString "hush" = _; decide +kernel)) (fun _ => ?_)
          walk_at "r"
          refine Br_i (fun _ => ?_) (fun h => absurd rfl (of_decide_eq_false h))
          walk_at "r"
          refine ⟨_, _, ep, atI_last _ _, ?_⟩
          walk_at "r"
          refine ⟨_, atI_nat (j := 1) rfl, ?_⟩
          walk_at "r"
          refine ⟨⟨_, q1⟩, ?_⟩
          walk_at "r"
          refine ⟨_, q1, by rw [List.length_map, sizeLine_eq]; omega, ?_⟩
          have em : r.hs.map pairV ++ [.tup [.int a1, .int b1]] = (r.hs ++ [(a1, b1)]).map pairV := by rw [List.map_append]; rfl
          walk_at "r"
          rw [show ([some a1, some b1] : List (Option Int)).map optV = [.int a1, .int b1] from rfl, em]
          refine .of ⟨rest, I ++ [({ r with hs := r.hs ++ [(a1, b1)] }, x, y)], some "hush", _, _, x4, x5, x6, x7, x8, lm.over z1, ?_, pm.mod (.inl ⟨rfl, rfl, rfl⟩), fun t ht => ?_, by rw [List.map_append]; exact hfo, hk2, hseq, fun _ => by simp, rfl, by rw [List.length_append] at hlen ⊢; show _ + (_ + 1) ≤ _; have : rest.length + 1 + (I.length + 1) ≤ 78 := hlen; omega, fun t ht => ?_, rfl⟩
          · rw [up_ne (Ne.symm o1), List.map_append]
            exact ep
          · rcases List.mem_append.mp ht with ht | ht
            · exact hout t (List.mem_append.mpr (.inl ht))
            · obtain rfl := List.mem_singleton.mp ht
              exact ⟨z1, z2⟩
          · rcases List.mem_append.mp ht with ht | ht
            · have := hbd t (List.mem_append.mpr (.inl ht)); rw [List.length_cons] at this; omega
            · obtain rfl := List.mem_singleton.mp ht
              show (r.hs ++ [(a1, b1)]).length + r.gs.length + rest.length ≤ 78
              rw [List.length_append]
              show r.hs.length + 1 + r.gs.length + rest.length ≤ 78
              omega
        | gather a1 b1 =>
          have hLne := hne (behind_some hb (by show ¬ Str.ofString "gather" = _; decide +kernel))
          obtain ⟨I, ⟨r, x, y⟩, rfl⟩ := snoc_of hLne
          rw [List.map_append, List.map_cons, List.map_nil, step_gather, lastUp_snoc] at hfo
          have htl : (r, x, y) ∈ I ++ [(r, x, y)] := List.mem_append.mpr (.inr (List.mem_singleton.mpr rfl))
          obtain ⟨q1, q2⟩ := pm.at_ (r, x, y) htl
          obtain ⟨o1, o2, o3, o4⟩ := pm.off (r, x, y) htl
          obtain ⟨z1, z2⟩ := hout (r, x, y) htl
          have hbt := hbd (r, x, y) htl
          have hbt : r.hs.length + r.gs.length + (rest.length + 1) ≤ 78 := hbt
          have q1 : m' x = some (.lst (r.hs.map pairV)) := q1
          have q2 : m' y = some (.lst (r.gs.map pairV)) := q2
          rw [List.map_append] at ep
          walk_at "r"
          refine ⟨rfl, ?_⟩
          walk_at "r"
          refine Br_i (fun h => absurd (of_decide_eq_true h) (by show ¬ Str.ofString "gather" = _; decide +kernel)) (fun _ => ?_)
          walk_at "r"
          refine Br_i (fun h => absurd (of_decide_eq_true h) (by show ¬ Str.ofString "gather" = _; decide +kernel)) (fun _ => ?_)
          walk_at "r"
          refine Br_i (fun _ => ?_) (fun h => absurd rfl (of_decide_eq_false h))
          walk_at "r"
          refine ⟨_, _, ep, atI_last _ _, ?_⟩
          walk_at "r"
          refine ⟨_, atI_nat (j := 2) rfl, ?_⟩
          walk_at "r"
          refine ⟨⟨_, q2⟩, ?_⟩
          walk_at "r"
          refine ⟨_, q2, by rw [List.length_map, sizeLine_eq]; omega, ?_⟩
          have em : r.gs.map pairV ++ [.tup [.int a1, .int b1]] = (r.gs ++ [(a1, b1)]).map pairV := by rw [List.map_append]; rfl
          walk_at "r"
          rw [show ([some a1, some b1] : List (Option Int)).map optV = [.int a1, .int b1] from rfl, em]
          refine .of ⟨rest, I ++ [({ r with gs := r.gs ++ [(a1, b1)] }, x, y)], some "gather", _, _, x4, x5, x6, x7, x8, lm.over z2, ?_, pm.mod (.inr ⟨rfl, rfl, rfl⟩), fun t ht => ?_, by rw [List.map_append]; exact hfo, hk2, hseq, fun _ => by simp, rfl, by rw [List.length_append] at hlen ⊢; show _ + (_ + 1) ≤ _; have : rest.length + 1 + (I.length + 1) ≤ 78 := hlen; omega, fun t ht => ?_, rfl⟩
          · rw [up_ne (Ne.symm o2), List.map_append]
            exact ep
          · rcases List.mem_append.mp ht with ht | ht
            · exact hout t (List.mem_append.mpr (.inl ht))
            · obtain rfl := List.mem_singleton.mp ht
              exact ⟨z1, z2⟩
          · rcases List.mem_append.mp ht with ht | ht
            · have := hbd t (List.mem_append.mpr (.inl ht)); rw [List.length_cons] at this; omega
            · obtain rfl := List.mem_singleton.mp ht
              show r.hs.length + (r.gs ++ [(a1, b1)]).length + rest.length ≤ 78
              rw [List.length_append]
              show r.hs.length + (r.gs.length + 1) + rest.length ≤ 78
              omega
        | notice z =>
          walk_at "r"
          refine ⟨rfl, ?_⟩
          walk_at "r"
          refine Br_i (fun h => absurd (of_decide_eq_true h) (by show ¬ Str.ofString "notice" = _; decide +kernel)) (fun _ => ?_)
          walk_at "r"
          refine Br_i (fun h => absurd (of_decide_eq_true h) (by show ¬ Str.ofString "notice" = _; decide +kernel)) (fun _ => ?_)
          walk_at "r"
          refine Br_i (fun h => absurd (of_decide_eq_true h) (by show ¬ Str.ofString "notice" = _; decide +kernel)) (fun _ => ?_)
          walk_at "r"
          exact .of ⟨rest, L, _, _, _, x4, x5, x6, x7, x8, lm, ep, pm, hout, hfo, hk2, hseq, fun _ => hne (behind_some hb (by show ¬ Str.ofString "notice" = _; decide +kernel)), rfl, by omega, fun t ht => by have := hbd t ht; rw [List.length_cons] at this; omega, rfl⟩
    · obtain ⟨rem, L, l, x2, x3, x4, x5, x6, x7, x8, lm, ep, pm, hout, hfo, hk, hseq, hne, hr, hlen, hbd, rfl⟩ := h
      have e0 : rem = [] := by
        cases rem with
        | nil => rfl
        | cons q rest => cases hr
      subst e0
      have hfo : L.map (·.1) = R := hfo
      refine ⟨lm _ _ ha, ?_⟩
      walk_at "r"
      refine ⟨_, ep, ?_⟩
      refine ⟨by rw [List.length_map]; exact line_le (by have : 0 + L.length ≤ 78 := hlen; omega), fun p9 hp9 => ?_⟩
      refine lc_nth (R.map PR.sv) (by rw [List.length_map, List.length_map, ← hfo, List.length_map]) (fun acc => kp ep hp9) (fun j x y hx hy acc K1 k => ?_) ?_
      · rw [List.getElem?_map] at hx hy
        obtain ⟨t, ht, rfl⟩ := Option.map_eq_some_iff.mp hx
        obtain ⟨r, hr2, rfl⟩ := Option.map_eq_some_iff.mp hy
        rw [← hfo, List.getElem?_map, ht] at hr2
        cases hr2
        obtain ⟨q1, q2⟩ := pm.at_ t (List.mem_of_getElem? ht)
        walk_at "r"
        refine ⟨rfl, ?_⟩
        walk_at "r"
        refine ⟨rfl, ?_⟩
        walk_at "r"
        refine ⟨_, kp q1 hp9, ?_⟩
        walk_at "r"
        refine ⟨_, kp q2 hp9, ?_⟩
        walk_at "r"
        repeat (refine ⟨by walk_at "len", ?_⟩; walk_at "r")
        exact k _ (.refl _)
      · walk_at "r"
        refine ⟨_, up_same, ?_⟩
        walk_at "r"
        exact ⟨m, lm.trans (.new (.refl _) hp9), hq⟩
end
end Hn

set_option Elab.async false
set_option linter.all false
set_option maxRecDepth 100000
set_option maxHeartbeats 8000000
namespace Hn
open PySem PySem.Spec PyProof.Rows L2 Sy Lm
section
variable {P : Program} {w : World} {K : PySem.W.Frag} {mg : Str → Option Value} {base : Heap}
local macro_rules | `(tactic| walk_at "r") => `(tactic| (conv => whnf))
local macro_rules | `(tactic| walk_at "sp") => `(tactic| (first | rfl | contradiction | exact (False.elim ‹_›)))
local macro_rules | `(tactic| walk_at "len") => `(tactic| (exact Nat.le_trans (show _ ≤ 100000 by first | (simp; done) | (rw [rngS_length]; decide)) (by decide)))
local macro_rules | `(tactic| walk_at "f") => `(tactic| (refine Br_i (fun hb => Bool.noConfusion (show false = true from hb)) (fun _ => ?_)))
local macro_rules | `(tactic| walk_at "t") => `(tactic| (refine Br_i (fun _ => ?_) (fun hb => Bool.noConfusion (show true = false from hb))))
local macro_rules | `(tactic| walk_at "le") => `(tactic| first | exact Le.refl _ | (refine Le.put ?_; walk_at "le") | (refine Le.new ?_ (by assumption); walk_at "le"))
def spNtR : SpS := fun vs m _ S => ∃ (xs : List SV) (R : List PR) (N : List NR) (a : Addr), vs = [.tup xs, .ref a] ∧ xs.length = R.length ∧ m a = some (.lst (N.map NR.sv)) ∧ NtOk R N ∧ S .non m
theorem okR_refuse_bad_notices (T : Tx K mg) : FnOk P w K mg base CX0 4 (He.ga K "refuse_bad_notices") T.fd_refuse_bad_notices ["rules", "notices"] (lift K spNtR) := by
  have G_can_be_notice := ok_can_be_notice (P := P) (w := w) (base := base) T
  have b_can_be_notice := b_can_be_notice T
  refine fn_sy T.F_refuse_bad_notices sc_refuse_bad_notices (fun svs m SX Sv h => ?_) (fun cdv A outer s H E hr => ⟨_, _, (gss_cons (gs_if (gt_not (gt_val (ge_callB (cr_isi K) sim_isi (by rfl) T.z_isinstance (by decide +kernel) (ga_cons (gv 1) (ga_cons (ge_ty (n := "list") (by rfl) T.z_list (by decide +kernel)) ga_nil))))) (gss_one gs_never) gss_nil)
      (gss_cons (gs_set (i := 2) sc_refuse_bad_notices.nd rfl (.inl rfl) ge_int)
      (gss_one (gs_for PassesOwn.never rfl (gi_enumerate (by rfl) T.z_enumerate (ga_cons (gv 1) ga_nil)) (gg_tup 2 (by rfl) (ggs_cons (gg_name (i := 3) sc_refuse_bad_notices.nd rfl (.inl rfl)) (ggs_cons (gg_name (i := 4) sc_refuse_bad_notices.nd rfl (.inl rfl)) ggs_nil)))
      (gss_cons (gs_if (gw_pt (gw_or (gt_cmp (op_eqG K hr.units) sim_eq (gv 3) (ge_gi (by rfl) T.i_MOST_NOTICES) (nomark _)) (gw_or1 (gt_not (gt_val (ge_call G_can_be_notice (hr) (by rfl) T.g_can_be_notice T.k_can_be_notice b_can_be_notice .nil (fun _ => .nil) pass0 (ga_cons (gv 4) (ga_cons (ge_callB (cr_len K) sim_len (by rfl) T.z_len (by decide +kernel) (ga_cons (gv 0) ga_nil)) (ga_cons (gv 2) ga_nil))))))))) (gss_one gs_never) gss_nil)
      (gss_one (gs_set (i := 2) sc_refuse_bad_notices.nd rfl (.inl rfl) (ge_ix (ix_G K) sim_ix (gv 4) ge_int (fun _ _ => rfl))))))))), fun svs m SX Sv h => ?_⟩)
  · obtain ⟨xs, R, N, a, rfl, _⟩ := h
    rfl
  · obtain ⟨xs, R, N, a, rfl, hxl, ha, ok, q⟩ := h
    have hl := ok.len
    walk_at "r"
    refine ⟨by decide, _, ⟨rfl, _, ha⟩, ?_⟩
    walk_at "r"
    walk_at "f"
    walk_at "r"
    refine ⟨_, ha, ?_⟩
    refine for_inv (fun r δ m' => m' = m ∧ ∃ (j : Nat) (lo : Int) (x y : Option SV), δ = [some (.tup xs), some (.ref a), some (.int lo), x, y] ∧ r = enS j ((N.drop j).map NR.sv) ∧ j ≤ N.length ∧ (∀ z ∈ N.drop j, lo ≤ z.born)) ⟨rfl, 0, 0, none, none, rfl, rfl, Nat.zero_le _, fun z hz => (ok.all z hz).2.2.2.1⟩ (fun x r δ m' h => ?_) (fun δ m' h => ?_)
    · obtain ⟨rfl, j, lo, a3, a4, rfl, hr, hj, hlo⟩ := h
      cases hd : N.drop j with
      | nil => rw [hd] at hr; cases hr
      | cons z zs =>
        obtain ⟨hz, hd2⟩ := drop_cons' hd
        have hj2 := (List.getElem?_eq_some_iff.mp hz).1
        rw [hd, List.map_cons, enS_cons] at hr
        obtain ⟨rfl, rfl⟩ := List.cons.inj hr
        have hm : z ∈ N := List.mem_of_getElem? hz
        obtain ⟨⟨p0, p1⟩, ⟨r0, r1⟩, ⟨k0, k1⟩, ⟨b0, b1⟩⟩ := ok.all z hm
        have hlz := hlo z (by rw [hd]; exact List.mem_cons_self)
        refine ⟨ha, ?_⟩
        walk_at "r"
        refine ⟨rfl, ?_⟩
        walk_at "r"
        refine Br_i (fun h2 => ?_) (fun _ => ?_)
        · have := of_decide_eq_true h2
          omega
        walk_at "r"
        refine ⟨_, rfl, ?_⟩
        walk_at "r"
        refine ⟨nr_dd z, ?_⟩
        have cn : canNt z.sv (xs.length : Int) lo = true := by
          show (isWh (.int z.per) 0 _ && (isWh (.int z.rank) 0 3 && (isWh (.int z.kind) 0 7 && isWh (.int z.born) lo 300))) = true
          rw [wh_of p0 (by omega), wh_of r0 r1, wh_of k0 k1, wh_of hlz b1]
          rfl
        rw [cn]
        walk_at "r"
        walk_at "f"
        walk_at "r"
        refine ⟨_, atI_nat (j := 3) rfl, ?_⟩
        walk_at "r"
        refine .of ⟨rfl, j + 1, z.born, _, _, rfl, by rw [hd2]; push_cast; rfl, hj2, fun y hy => ?_⟩
        rw [hd2] at hy
        have pw := ok.rise.drop (i := j)
        rw [hd] at pw
        exact (List.pairwise_cons.mp pw).1 y hy
    · obtain ⟨rfl, j, lo, a3, a4, rfl, hr, hj, hlo⟩ := h
      refine ⟨ha, ?_⟩
      walk_at "r"
      exact .of q
def spRead : SpS := fun vs m _ S => ∃ (R : List PR) (N : List NR), vs = [.str (textT (allRows R N))] ∧ RulesOk R ∧ NtOk R N ∧ ∀ p, m p = none → S (.tup [RV R, .ref p]) (up m p (.lst (N.map NR.sv)))
theorem nt_not {R : List PR} : ∀ q ∈ R.flatMap prRows, ¬ q.1 = Str.ofString "notice" := fun q hq => by
  obtain ⟨r, _, hq⟩ := List.mem_flatMap.mp hq
  rcases List.mem_append.mp hq with hq | hq
  · rcases List.mem_cons.mp hq with rfl | hq
    · show ¬ Str.ofString "person" = _
      decide +kernel
    · obtain ⟨p, _, rfl⟩ := List.mem_map.mp hq
      show ¬ Str.ofString "hush" = _
      decide +kernel
  · obtain ⟨p, _, rfl⟩ := List.mem_map.mp hq
    show ¬ Str.ofString "gather" = _
    decide +kernel
def isNtV : SV → Bool
  | .tup [.str s, _] => decide (s = Str.ofString "notice")
  | _ => false
def numsV : SV → SV
  | .tup [_, x] => x
  | x => x
theorem nt_filter (R : List PR) (N : List NR) : (((allRows R N).map rowV).filter isNtV).map numsV = N.map NR.sv := by
  unfold allRows
  rw [List.map_append, List.filter_append, List.map_append]
  have e1 : ((R.flatMap prRows).map rowV).filter isNtV = [] := List.filter_eq_nil_iff.mpr fun x hx => by
    obtain ⟨q, hq, rfl⟩ := List.mem_map.mp hx
    show ¬ decide (q.1 = Str.ofString "notice") = true
    rw [decide_eq_false (nt_not q hq)]
    decide
  have e2 : ((N.map ntRow).map rowV).filter isNtV = (N.map ntRow).map rowV := List.filter_eq_self.mpr fun x hx => by
    obtain ⟨q, hq, rfl⟩ := List.mem_map.mp hx
    obtain ⟨z, _, rfl⟩ := List.mem_map.mp hq
    show decide (Str.ofString "notice" = Str.ofString "notice") = true
    exact decide_eq_true rfl
  rw [e1, e2, List.map_map, List.map_map]
  rfl
theorem ok_read (T : Tx K mg) [TBS : Tabs K mg w] : FnOk P w K mg base CX0 7 (He.ga K "read") T.fd_read ["text"] (lift K spRead) := by
  have G_judged_rows := ok_judged_rows (P := P) (w := w) (base := base) T
  have b_judged_rows := b_judged_rows T
  have G_read_rules := ok_read_rules (P := P) (w := w) (base := base) T
  have b_read_rules := b_read_rules T
  have G_refuse_bad_notices := okR_refuse_bad_notices (P := P) (w := w) (base := base) T
  have b_refuse_bad_notices := b_refuse_bad_notices T
  have G_refuse_bad_rules := ok_refuse_bad_rules (P := P) (w := w) (base := base) T
  have b_refuse_bad_rules := b_refuse_bad_rules T
  refine fn_sy T.F_read sc_read (fun svs m SX Sv h => ?_) (fun cdv A outer s H E hr => ⟨_, _, (gss_cons (gs_set (i := 1) sc_read.nd rfl (.inl rfl) (ge_call G_judged_rows (hr.mono (by decide)) (by rfl) T.g_judged_rows T.k_judged_rows b_judged_rows .nil (fun _ => .nil) pass0 (ga_cons (gv 0) ga_nil)))
      (gss_cons (gs_set (i := 2) sc_read.nd rfl (.inl rfl) (ge_call G_read_rules (hr.mono (by decide)) (by rfl) T.g_read_rules T.k_read_rules b_read_rules .nil (fun _ => .nil) pass0 (ga_cons (gv 1) ga_nil)))
      (gss_cons (gs_setLc (i := 3) (own := [("name", 4), ("numbers", 5)]) (by rfl) sc_read.nd rfl rfl (sw_true rfl rfl rfl (by decide +kernel)) (gi_seq (gv 1)) (blkOk_by (own := [("name", 4), ("numbers", 5)]) (N := ["text", "rows", "rules", "notices", "name", "numbers"]) (sc := (defScope s_read)) (by decide +kernel)) (fun _ _ _ _ _ => (gg_tup 2 (by rfl) (ggs_cons (gg_name (i := 4) sc_read.nd rfl (.inl rfl)) (ggs_cons (gg_name (i := 5) sc_read.nd rfl (.inl rfl)) ggs_nil)))) (wp_tup (wps_cons (wp_name (by decide)) (wps_cons (wp_name (by decide)) wps_nil))) (fun _ _ _ _ _ => (gts_one (gt_cmp (op_eqG K hr.units) sim_eq (gv 4) (ge_gs (by rfl) T.i_NOTICE) (nomark _)))) (fun _ _ _ _ _ => (gv 5)))
      (gss_cons (gs_expr (ge_call G_refuse_bad_rules (hr) (by rfl) T.g_refuse_bad_rules T.k_refuse_bad_rules b_refuse_bad_rules .nil (fun _ => .nil) pass0 (ga_cons (gv 2) ga_nil)))
      (gss_cons (gs_expr (ge_call G_refuse_bad_notices (hr.mono (by decide)) (by rfl) T.g_refuse_bad_notices T.k_refuse_bad_notices b_refuse_bad_notices .nil (fun _ => .nil) pass0 (ga_cons (gv 2) (ga_cons (gv 3) ga_nil))))
      (gss_one (gs_ret (ge_tup (ga_cons (gv 2) (ga_cons (gv 3) ga_nil)))))))))), fun svs m SX Sv h => ?_⟩)
  · obtain ⟨R, N, rfl, _⟩ := h
    rfl
  · obtain ⟨R, N, rfl, ok, no, hq⟩ := h
    obtain ⟨al, ane⟩ := all_len ok no
    walk_at "r"
    refine ⟨allRows R N, rfl, ane, all_ok ok no, by omega, seq_ok ok, fun p1 hp1 => ?_⟩
    walk_at "r"
    refine ⟨p1, R, N, rfl, up_same, ok, no, ?_⟩
    walk_at "r"
    refine ⟨_, up_same, ?_⟩
    refine ⟨by rw [List.length_map]; exact line_le (by omega), fun p2 hp2 => ?_⟩
    refine lc_filt isNtV numsV (fun acc => kp up_same hp2) (fun x hx acc K1 K0 h1 h0 => ?_) ?_
    · obtain ⟨q, hq2, rfl⟩ := List.mem_map.mp hx
      walk_at "r"
      refine ⟨rfl, ?_⟩
      walk_at "r"
      refine Br_i (fun h => ?_) (fun h => ?_)
      · walk_at "r"
        exact h1 _ (.refl _) h
      · exact h0 _ (.refl _) h
    · rw [nt_filter]
      walk_at "r"
      refine ⟨R, rfl, ok, ?_⟩
      walk_at "r"
      refine ⟨_, R, N, p2, rfl, List.length_map _, up_same, no, ?_⟩
      walk_at "r"
      repeat (refine ⟨by walk_at "len", ?_⟩; walk_at "r")
      have np : p1 ≠ p2 := mne up_same hp2
      have hp3 : m p2 = none := by rwa [up_ne (Ne.symm np)] at hp2
      refine ⟨up m p2 (.lst (N.map NR.sv)), Le.put (.new (.refl _) hp1), hq p2 hp3⟩
end
end Hn

set_option Elab.async false
set_option linter.all false
set_option maxRecDepth 100000
set_option maxHeartbeats 8000000
namespace Hn
open PySem PySem.Spec PyProof.Rows L2 Sy Lm
section
variable {P : Program} {w : World} {K : PySem.W.Frag} {mg : Str → Option Value} {base : Heap}
local macro_rules | `(tactic| walk_at "r") => `(tactic| (conv => whnf))
local macro_rules | `(tactic| walk_at "sp") => `(tactic| (first | rfl | contradiction | exact (False.elim ‹_›)))
local macro_rules | `(tactic| walk_at "len") => `(tactic| (exact Nat.le_trans (show _ ≤ 100000 by first | (simp; done) | (rw [rngS_length]; decide)) (by decide)))
local macro_rules | `(tactic| walk_at "f") => `(tactic| (refine Br_i (fun hb => Bool.noConfusion (show false = true from hb)) (fun _ => ?_)))
local macro_rules | `(tactic| walk_at "t") => `(tactic| (refine Br_i (fun _ => ?_) (fun hb => Bool.noConfusion (show true = false from hb))))
local macro_rules | `(tactic| walk_at "le") => `(tactic| first | exact Le.refl _ | (refine Le.put ?_; walk_at "le") | (refine Le.new ?_ (by assumption); walk_at "le"))
def pairRow (s : Str) : SV → SV
  | .tup [.int a, .int b] => .str (rowT (s, [some a, some b]))
  | x => x
def noteRow : SV → SV
  | .tup [.int a, .int b, .int c, .int d] => .str (rowT ("notice", [some a, some b, some c, some d]))
  | x => x
theorem pair_rows (s : Str) (ps : List (Int × Int)) : (ps.map pairV).map (pairRow s) = (ps.map fun p => ((s, [some p.1, some p.2]) : RowD)).map fun q => SV.str (rowT q) := by
  rw [List.map_map, List.map_map]
  rfl
theorem note_rows (N : List NR) : (N.map NR.sv).map noteRow = (N.map ntRow).map fun q => SV.str (rowT q) := by
  rw [List.map_map, List.map_map]
  rfl
abbrev txtV (qs : List RowD) : List SV := qs.map fun q => SV.str (rowT q)
theorem txt_app (a b : List RowD) : txtV (a ++ b) = txtV a ++ txtV b := List.map_append
def spWrit : SpS := fun vs m _ S => ∃ (R : List PR) (N : List NR) (a : Addr), vs = [PV R, .ref a] ∧ m a = some (.lst (N.map NR.sv)) ∧ RulesOk R ∧ NtOk R N ∧ S (.str (textT (allRows R N))) m
theorem pr_txt (r : PR) : txtV (prRows r) = .str (rowT (("person", [some r.least, r.wait, r.fur]) : RowD)) :: (txtV (r.hs.map fun p => (("hush", [some p.1, some p.2]) : RowD)) ++ txtV (r.gs.map fun p => (("gather", [some p.1, some p.2]) : RowD))) := by
  unfold prRows
  rw [txt_app]
  rfl
theorem flat_snoc {R : List PR} {j : Nat} {r : PR} (h : R[j]? = some r) : (R.take (j + 1)).flatMap prRows = (R.take j).flatMap prRows ++ prRows r := by
  rw [List.take_succ, h, List.flatMap_append]
  simp
theorem ok_written (T : Tx K mg) [TBS : Tabs K mg w] : FnOk P w K mg base CX0 7 (He.ga K "written") T.fd_written ["rules", "notices"] (lift K spWrit) := by
  have G_refuse_bad_notices := ok_refuse_bad_notices (P := P) (w := w) (base := base) T
  have b_refuse_bad_notices := b_refuse_bad_notices T
  have G_refuse_bad_rules := ok_refuse_bad_rulesP (P := P) (w := w) (base := base) T
  have b_refuse_bad_rules := b_refuse_bad_rules T
  have G_row_of := ok_row_of (P := P) (w := w) (base := base) T
  have b_row_of := b_row_of T
  refine fn_sy T.F_written sc_written (fun svs m SX Sv h => ?_) (fun cdv A outer s H E hr => ⟨_, _, (gss_cons (gs_expr (ge_call G_refuse_bad_rules (hr) (by rfl) T.g_refuse_bad_rules T.k_refuse_bad_rules b_refuse_bad_rules .nil (fun _ => .nil) pass0 (ga_cons (gv 0) ga_nil)))
      (gss_cons (gs_expr (ge_call G_refuse_bad_notices (hr.mono (by decide)) (by rfl) T.g_refuse_bad_notices T.k_refuse_bad_notices b_refuse_bad_notices .nil (fun _ => .nil) pass0 (ga_cons (gv 0) (ga_cons (gv 1) ga_nil))))
      (gss_cons (gs_set (i := 2) sc_written.nd rfl (.inl rfl) (ge_lst ga_nil))
      (gss_cons (gs_for PassesOwn.never rfl (gi_seq (gv 0)) (gg_tup 5 (by rfl) (ggs_cons (gg_name (i := 3) sc_written.nd rfl (.inl rfl)) (ggs_cons (gg_name (i := 4) sc_written.nd rfl (.inl rfl)) (ggs_cons (gg_name (i := 5) sc_written.nd rfl (.inl rfl)) (ggs_cons (gg_name (i := 6) sc_written.nd rfl (.inl rfl)) (ggs_cons (gg_name (i := 7) sc_written.nd rfl (.inl rfl)) ggs_nil))))))
      (gss_cons (gs_expr (ge_bm PySem.F.plainAttrs_list PySem.F.slot_list_append PySem.F.type_list_append mt_append simk_L sim_append (gv 2) (ga_cons (ge_call G_row_of (hr.mono (by decide)) (by rfl) T.g_row_of T.k_row_of b_row_of .nil (fun _ => .nil) pass0 (ga_cons (ge_gs (by rfl) T.i_PERSON) (ga_cons (ge_tup (ga_cons (gv 4) (ga_cons (gv 6) (ga_cons (gv 7) ga_nil)))) ga_nil))) ga_nil)))
      (gss_cons (gs_expr (ge_bm PySem.F.plainAttrs_list PySem.F.slot_list_extend PySem.F.type_list_extend mt_extend simk_L sim_extend (gv 2) (ga_cons (ge_lc (own := [("stretch", 8)]) (by rfl) sc_written.nd (gi_seq (gv 3)) (blkOk_by (own := [("stretch", 8)]) (N := ["rules", "notices", "rows", "hushed", "least", "gather", "wait", "further", "stretch", "pair", "notice"]) (sc := (defScope s_written)) (by decide +kernel)) (fun _ _ _ _ _ => (gg_name (i := 8) sc_written.nd rfl (.inl rfl))) (wp_name (by decide)) (fun _ _ _ _ _ => gts_nil) (fun _ _ _ _ _ => (ge_call G_row_of (hr.mono (by decide)) (by rfl) T.g_row_of T.k_row_of b_row_of .nil (fun _ => .nil) pass0 (ga_cons (ge_gs (by rfl) T.i_HUSH) (ga_cons (gv 8) ga_nil))))) ga_nil)))
      (gss_one (gs_expr (ge_bm PySem.F.plainAttrs_list PySem.F.slot_list_extend PySem.F.type_list_extend mt_extend simk_L sim_extend (gv 2) (ga_cons (ge_lc (own := [("pair", 9)]) (by rfl) sc_written.nd (gi_seq (gv 5)) (blkOk_by (own := [("pair", 9)]) (N := ["rules", "notices", "rows", "hushed", "least", "gather", "wait", "further", "stretch", "pair", "notice"]) (sc := (defScope s_written)) (by decide +kernel)) (fun _ _ _ _ _ => (gg_name (i := 9) sc_written.nd rfl (.inl rfl))) (wp_name (by decide)) (fun _ _ _ _ _ => gts_nil) (fun _ _ _ _ _ => (ge_call G_row_of (hr.mono (by decide)) (by rfl) T.g_row_of T.k_row_of b_row_of .nil (fun _ => .nil) pass0 (ga_cons (ge_gs (by rfl) T.i_GATHER) (ga_cons (gv 9) ga_nil))))) ga_nil)))))))
      (gss_cons (gs_expr (ge_bm PySem.F.plainAttrs_list PySem.F.slot_list_extend PySem.F.type_list_extend mt_extend simk_L sim_extend (gv 2) (ga_cons (ge_lc (own := [("notice", 10)]) (by rfl) sc_written.nd (gi_seq (gv 1)) (blkOk_by (own := [("notice", 10)]) (N := ["rules", "notices", "rows", "hushed", "least", "gather", "wait", "further", "stretch", "pair", "notice"]) (sc := (defScope s_written)) (by decide +kernel)) (fun _ _ _ _ _ => (gg_name (i := 10) sc_written.nd rfl (.inl rfl))) (wp_name (by decide)) (fun _ _ _ _ _ => gts_nil) (fun _ _ _ _ _ => (ge_call G_row_of (hr.mono (by decide)) (by rfl) T.g_row_of T.k_row_of b_row_of .nil (fun _ => .nil) pass0 (ga_cons (ge_gs (by rfl) T.i_NOTICE) (ga_cons (gv 10) ga_nil))))) ga_nil)))
      (gss_one (gs_ret (ge_bm PySem.F.plainAttrs_str PySem.F.slot_str_join PySem.F.type_str_join (mt_joinG K) simk_S sim_join ge_str (ga_cons (gv 2) ga_nil))))))))), fun svs m SX Sv h => ?_⟩)
  · obtain ⟨R, N, a, rfl, _⟩ := h
    rfl
  · obtain ⟨R, N, a, rfl, ha, ok, no, hq⟩ := h
    obtain ⟨al, ane⟩ := all_len ok no
    walk_at "r"
    refine ⟨R, rfl, ok, ?_⟩
    walk_at "r"
    refine ⟨R, N, a, rfl, ha, no, ?_⟩
    walk_at "r"
    refine ⟨by walk_at "len", fun p hp => ?_⟩
    walk_at "r"
    refine ⟨_, rfl, ?_⟩
    dsimp only [List.set]
    refine for_inv (fun r δ m' => ∃ (j : Nat) (x3 x4 x5 x6 x7 x8 x9 x10 : Option SV), Le (up m p (.lst (txtV ((R.take j).flatMap prRows)))) m' ∧ δ = [some (PV R), some (.ref a), some (.ref p), x3, x4, x5, x6, x7, x8, x9, x10] ∧ r = (R.drop j).map PR.pv ∧ j ≤ R.length) ⟨0, none, none, none, none, none, none, none, none, .refl _, rfl, rfl, Nat.zero_le _⟩ (fun x r δ m' h => ?_) (fun δ m' h => ?_)
    · obtain ⟨j, x3, x4, x5, x6, x7, x8, x9, x10, lm, rfl, hr, hj⟩ := h
      have ep : m' p = _ := lm _ _ up_same
      cases hd : R.drop j with
      | nil => rw [hd] at hr; cases hr
      | cons r rest =>
        obtain ⟨hz, hd2⟩ := drop_cons' hd
        have hj2 := (List.getElem?_eq_some_iff.mp hz).1
        rw [hd, List.map_cons] at hr
        obtain ⟨rfl, rfl⟩ := List.cons.inj hr
        have orr := ok.all r (List.mem_of_getElem? hz)
        refine ⟨trivial, ?_⟩
        walk_at "r"
        refine ⟨rfl, ?_⟩
        walk_at "r"
        dsimp only [List.set]
        have hlj := flat_len (n := R.length) (R := R.take j) fun r hr => ok.all r (List.mem_of_mem_take hr)
        have htl : (R.take j).length ≤ 6 := by rw [List.length_take]; have := ok.six; omega
        have hh := orr.hl
        have hg := orr.gl
        refine ⟨⟨_, ep⟩, ?_⟩
        walk_at "r"
        repeat (refine ⟨by walk_at "len", ?_⟩; walk_at "r")
        refine ⟨(("person", [some r.least, r.wait, r.fur]) : RowD), rfl, prRows_ok orr ok.six _ List.mem_cons_self, ?_⟩
        walk_at "r"
        refine ⟨_, ep, by rw [List.length_map, sizeLine_eq]; omega, ?_⟩
        generalize hm1 : up m' p _ = m1
        have e1 : m1 p = some (.lst (txtV ((R.take j).flatMap prRows) ++ [.str (rowT (("person", [some r.least, r.wait, r.fur]) : RowD))])) := by rw [← hm1]; exact up_same
        have l1 : Le (up m p (.lst (txtV ((R.take j).flatMap prRows) ++ [.str (rowT (("person", [some r.least, r.wait, r.fur]) : RowD))]))) m1 := by rw [← hm1]; exact put_le lm
        clear hm1
        walk_at "r"
        refine ⟨⟨_, e1⟩, ?_⟩
        walk_at "r"
        refine ⟨_, rfl, ?_⟩
        refine ⟨by rw [List.length_map]; exact line_le (by omega), fun p1 hp1 => ?_⟩
        refine lc_map (pairRow "hush") (fun _ => trivial) (fun x hx acc K1 k => ?_) ?_
        · obtain ⟨pr, hpr, rfl⟩ := List.mem_map.mp hx
          walk_at "r"
          refine ⟨(("hush", [some pr.1, some pr.2]) : RowD), rfl, prRows_ok orr ok.six _ (List.mem_append.mpr (.inl (List.mem_cons_of_mem _ (List.mem_map.mpr ⟨pr, hpr, rfl⟩)))), ?_⟩
          exact k _ (.refl _)
        rw [pair_rows]
        walk_at "r"
        refine ⟨_, _, kp e1 hp1, up_same, line_le (by rw [List.length_append, List.length_map, List.length_map, List.length_map]; show _ + 1 + _ ≤ _; omega), ?_⟩
        generalize hm2 : up (up m1 p1 _) p _ = m2
        have e2 : m2 p = some (.lst (txtV ((R.take j).flatMap prRows) ++ [.str (rowT (("person", [some r.least, r.wait, r.fur]) : RowD))] ++ txtV (r.hs.map fun p => (("hush", [some p.1, some p.2]) : RowD)))) := by rw [← hm2]; exact up_same
        have l2 := put_le (o' := .lst (txtV ((R.take j).flatMap prRows) ++ [.str (rowT (("person", [some r.least, r.wait, r.fur]) : RowD))] ++ txtV (r.hs.map fun p => (("hush", [some p.1, some p.2]) : RowD)))) (l1.new (o := .lst ((r.hs.map fun p => (("hush", [some p.1, some p.2]) : RowD)).map fun q => SV.str (rowT q))) hp1)
        rw [hm2] at l2
        clear hm2 l1 hp1 e1
        walk_at "r"
        refine ⟨⟨_, e2⟩, ?_⟩
        walk_at "r"
        refine ⟨_, rfl, ?_⟩
        refine ⟨by rw [List.length_map]; exact line_le (by omega), fun p3 hp3 => ?_⟩
        refine lc_map (pairRow "gather") (fun _ => trivial) (fun x hx acc K1 k => ?_) ?_
        · obtain ⟨pr, hpr, rfl⟩ := List.mem_map.mp hx
          walk_at "r"
          refine ⟨(("gather", [some pr.1, some pr.2]) : RowD), rfl, prRows_ok orr ok.six _ (List.mem_append.mpr (.inr (List.mem_map.mpr ⟨pr, hpr, rfl⟩))), ?_⟩
          exact k _ (.refl _)
        rw [pair_rows]
        walk_at "r"
        refine ⟨_, _, kp e2 hp3, up_same, line_le (by simp only [List.length_append, List.length_map, List.length_cons, List.length_nil]; omega), ?_⟩
        have l3 := put_le (o' := .lst (txtV ((R.take (j + 1)).flatMap prRows))) (l2.new (o := .lst ((r.gs.map fun p => (("gather", [some p.1, some p.2]) : RowD)).map fun q => SV.str (rowT q))) hp3)
        have es : txtV ((R.take (j + 1)).flatMap prRows) = txtV ((R.take j).flatMap prRows) ++ [.str (rowT (("person", [some r.least, r.wait, r.fur]) : RowD))] ++ txtV (r.hs.map fun p => (("hush", [some p.1, some p.2]) : RowD)) ++ txtV (r.gs.map fun p => (("gather", [some p.1, some p.2]) : RowD)) := by
          rw [flat_snoc hz, txt_app, pr_txt]
          simp only [List.append_assoc, List.cons_append, List.nil_append]
        walk_at "r"
        refine .of ⟨j + 1, _, _, _, _, _, x8, x9, x10, ?_, rfl, by rw [hd2], hj2⟩
        rw [es] at l3 ⊢
        exact l3
    · obtain ⟨j, x3, x4, x5, x6, x7, x8, x9, x10, lm, rfl, hr, hj⟩ := h
      have ej : j = R.length := by
        cases hd : R.drop j with
        | nil => have := List.drop_eq_nil_iff.mp hd; omega
        | cons r rest => rw [hd] at hr; cases hr
      rw [ej, List.take_length] at lm
      have ep : m' p = _ := lm _ _ up_same
      have hfl := flat_len ok.all
      have h6 := ok.six
      have h30 := no.len
      refine ⟨trivial, ?_⟩
      walk_at "r"
      refine ⟨⟨_, ep⟩, ?_⟩
      walk_at "r"
      have ea : m' a = some (.lst (N.map NR.sv)) := lm _ _ ((up_ne (mne ha hp)).trans ha)
      refine ⟨_, ea, ?_⟩
      refine ⟨by rw [List.length_map]; exact line_le (by omega), fun p9 hp9 => ?_⟩
      refine lc_map noteRow (fun acc => kp ea hp9) (fun x hx acc K1 k => ?_) ?_
      · obtain ⟨z, hz, rfl⟩ := List.mem_map.mp hx
        walk_at "r"
        refine ⟨ntRow z, rfl, ntRow_ok no ok.six hz, ?_⟩
        exact k _ (.refl _)
      · rw [note_rows]
        walk_at "r"
        refine ⟨_, _, kp ep hp9, up_same, line_le (by rw [List.length_map, List.length_map, List.length_map]; omega), ?_⟩
        walk_at "r"
        refine ⟨trivial, ?_⟩
        walk_at "r"
        refine ⟨(allRows R N).map rowT, ?_, (text_len (all_ok ok no) (by omega)).2, ?_⟩
        · show up _ p _ p = _
          rw [up_same]
          unfold allRows
          simp only [List.map_append, List.map_map]
          rfl
        · exact ⟨m, (((Le.new (.refl m) hp).trans lm).new hp9).over hp, hq⟩
end
end Hn

set_option Elab.async false
set_option linter.all false
set_option maxRecDepth 100000
set_option maxHeartbeats 8000000
namespace Hn
open PySem PySem.Spec PyProof.Rows L2 Sy Lm
section
variable {P : Program} {w : World} {K : PySem.W.Frag} {mg : Str → Option Value} {base : Heap}
local macro_rules | `(tactic| walk_at "r") => `(tactic| (conv => whnf))
local macro_rules | `(tactic| walk_at "sp") => `(tactic| (first | rfl | contradiction | exact (False.elim ‹_›)))
local macro_rules | `(tactic| walk_at "len") => `(tactic| (exact Nat.le_trans (show _ ≤ 100000 by first | (simp; done) | (rw [rngS_length]; decide)) (by decide)))
local macro_rules | `(tactic| walk_at "f") => `(tactic| (refine Br_i (fun hb => Bool.noConfusion (show false = true from hb)) (fun _ => ?_)))
local macro_rules | `(tactic| walk_at "t") => `(tactic| (refine Br_i (fun _ => ?_) (fun hb => Bool.noConfusion (show true = false from hb))))
local macro_rules | `(tactic| walk_at "le") => `(tactic| first | exact Le.refl _ | (refine Le.put ?_; walk_at "le") | (refine Le.new ?_ (by assumption); walk_at "le"))
theorem cat_eq {x y : Str} (h : TL.tl x = TL.tl y) : x = y := TL.ext_tl h
theorem tl_rowT (q : RowD) : TL.tl (rowT q) = TL.joinL [32] ((wordsT q).map TL.tl) := by
  unfold rowT
  rw [TL.join_eq, TL.tl_join]
  rfl
theorem app_len (a b : Str) : (a ++ b).length = a.length + b.length := Array.size_append
theorem app_le {a b : Str} {k n : Nat} (ha : a.length ≤ k) (hb : b.length ≤ n) : (a ++ b).length ≤ k + n := by rw [app_len]; omega
theorem siz_le {a b : Str} {k n : Nat} (ha : a.length ≤ k) (hb : b.length ≤ n) (h : k + n ≤ 1000) : a.length + b.length ≤ sizeLine := by rw [sizeLine_eq]; omega
theorem row3 (s : Str) (t : Str) (a b c : Option Int) (ht : TL.tl t = TL.tl s ++ [32]) : t ++ cellT a ++ " " ++ cellT b ++ " " ++ cellT c = rowT (s, [a, b, c]) := by
  refine cat_eq ?_
  rw [tl_rowT]
  simp only [TL.tl_append, ht]
  show _ = TL.tl s ++ ([32] ++ (TL.tl (cellT a) ++ ([32] ++ (TL.tl (cellT b) ++ ([32] ++ TL.tl (cellT c))))))
  simp only [List.append_assoc]
  rfl
theorem row2 (s : Str) (t : Str) (a b : Option Int) (ht : TL.tl t = TL.tl s ++ [32]) : t ++ cellT a ++ " " ++ cellT b = rowT (s, [a, b]) := by
  refine cat_eq ?_
  rw [tl_rowT]
  simp only [TL.tl_append, ht]
  show _ = TL.tl s ++ ([32] ++ (TL.tl (cellT a) ++ ([32] ++ TL.tl (cellT b))))
  simp only [List.append_assoc]
  rfl
theorem rowJ (z : NR) : ("notice " : Str) ++ Txt.join " " [cellT (some z.per), cellT (some z.rank), cellT (some z.kind), cellT (some z.born)] = rowT (ntRow z) := by
  refine cat_eq ?_
  rw [tl_rowT, TL.tl_append, TL.join_eq, TL.tl_join]
  rfl
theorem ok_law_text (T : Tx K mg) : FnOk P w K mg base CX0 1 (He.ga K "_law_text") T.fd__law_text ["_law_rules_here", "_law_notices_here"] (lift K spWrit) := by
  refine fn_sy T.F__law_text sc_law_text (fun svs m SX Sv h => ?_) (fun cdv A outer s H E hr => ⟨_, _, (gss_cons (gs_set (i := 2) sc_law_text.nd rfl (.inl rfl) (ge_lst ga_nil))
      (gss_cons (gs_for PassesOwn.never rfl (gi_seq (gv 0)) (gg_tup 5 (by rfl) (ggs_cons (gg_name (i := 3) sc_law_text.nd rfl (.inl rfl)) (ggs_cons (gg_name (i := 4) sc_law_text.nd rfl (.inl rfl)) (ggs_cons (gg_name (i := 5) sc_law_text.nd rfl (.inl rfl)) (ggs_cons (gg_name (i := 6) sc_law_text.nd rfl (.inl rfl)) (ggs_cons (gg_name (i := 7) sc_law_text.nd rfl (.inl rfl)) ggs_nil))))))
      (gss_cons (gs_setLc (i := 8) (own := [("_law_part", 9)]) (by rfl) sc_law_text.nd rfl rfl (sw_true rfl rfl rfl (by decide +kernel)) (gi_seq (ge_tup (ga_cons (gv 6) (ga_cons (gv 7) ga_nil)))) (blkOk_by (own := [("_law_part", 9)]) (N := ["_law_rules_here", "_law_notices_here", "_law_rows", "_law_hushed", "_law_least", "_law_gather", "_law_wait", "_law_further", "_law_some", "_law_part", "_law_begin", "_law_end", "_law_kind", "_law_span", "_law_notice"]) (sc := (defScope s_law_text)) (by decide +kernel)) (fun _ _ _ _ _ => (gg_name (i := 9) sc_law_text.nd rfl (.inl rfl))) (wp_name (by decide)) (fun _ _ _ _ _ => gts_nil) (fun _ _ _ _ _ => (ge_ifE (gt_cmp op_isN sim_isN (gv 9) ge_non (nomark _)) ge_str (ge_callTy call_str_int sim_strI (by rfl) T.z_str (by decide +kernel) (ga_cons (gv 9) ga_nil)))))
      (gss_cons (gs_expr (ge_bm PySem.F.plainAttrs_list PySem.F.slot_list_append PySem.F.type_list_append mt_append simk_L sim_append (gv 2) (ga_cons (ge_op (op_addG K) sim_add (ge_op (op_addG K) sim_add (ge_op (op_addG K) sim_add (ge_op (op_addG K) sim_add (ge_op (op_addG K) sim_add ge_str (ge_callTy call_str_int sim_strI (by rfl) T.z_str (by decide +kernel) (ga_cons (gv 4) ga_nil))) ge_str) (ge_ix (ix_G K) sim_ix (gv 8) ge_int (fun _ _ => rfl))) ge_str) (ge_ix (ix_G K) sim_ix (gv 8) ge_int (fun _ _ => rfl))) ga_nil)))
      (gss_cons (gs_set (i := 2) sc_law_text.nd rfl (.inl rfl) (ge_op (op_addG K) sim_add (gv 2) (ge_lc (own := [("_law_begin", 10), ("_law_end", 11)]) (by rfl) sc_law_text.nd (gi_seq (gv 3)) (blkOk_by (own := [("_law_begin", 10), ("_law_end", 11)]) (N := ["_law_rules_here", "_law_notices_here", "_law_rows", "_law_hushed", "_law_least", "_law_gather", "_law_wait", "_law_further", "_law_some", "_law_part", "_law_begin", "_law_end", "_law_kind", "_law_span", "_law_notice"]) (sc := (defScope s_law_text)) (by decide +kernel)) (fun _ _ _ _ _ => (gg_tup 2 (by rfl) (ggs_cons (gg_name (i := 10) sc_law_text.nd rfl (.inl rfl)) (ggs_cons (gg_name (i := 11) sc_law_text.nd rfl (.inl rfl)) ggs_nil)))) (wp_tup (wps_cons (wp_name (by decide)) (wps_cons (wp_name (by decide)) wps_nil))) (fun _ _ _ _ _ => gts_nil) (fun _ _ _ _ _ => (ge_op (op_addG K) sim_add (ge_op (op_addG K) sim_add (ge_op (op_addG K) sim_add ge_str (ge_callTy call_str_int sim_strI (by rfl) T.z_str (by decide +kernel) (ga_cons (gv 10) ga_nil))) ge_str) (ge_callTy call_str_int sim_strI (by rfl) T.z_str (by decide +kernel) (ga_cons (gv 11) ga_nil)))))))
      (gss_one (gs_set (i := 2) sc_law_text.nd rfl (.inl rfl) (ge_op (op_addG K) sim_add (gv 2) (ge_lc (own := [("_law_kind", 12), ("_law_span", 13)]) (by rfl) sc_law_text.nd (gi_seq (gv 5)) (blkOk_by (own := [("_law_kind", 12), ("_law_span", 13)]) (N := ["_law_rules_here", "_law_notices_here", "_law_rows", "_law_hushed", "_law_least", "_law_gather", "_law_wait", "_law_further", "_law_some", "_law_part", "_law_begin", "_law_end", "_law_kind", "_law_span", "_law_notice"]) (sc := (defScope s_law_text)) (by decide +kernel)) (fun _ _ _ _ _ => (gg_tup 2 (by rfl) (ggs_cons (gg_name (i := 12) sc_law_text.nd rfl (.inl rfl)) (ggs_cons (gg_name (i := 13) sc_law_text.nd rfl (.inl rfl)) ggs_nil)))) (wp_tup (wps_cons (wp_name (by decide)) (wps_cons (wp_name (by decide)) wps_nil))) (fun _ _ _ _ _ => gts_nil) (fun _ _ _ _ _ => (ge_op (op_addG K) sim_add (ge_op (op_addG K) sim_add (ge_op (op_addG K) sim_add ge_str (ge_callTy call_str_int sim_strI (by rfl) T.z_str (by decide +kernel) (ga_cons (gv 12) ga_nil))) ge_str) (ge_callTy call_str_int sim_strI (by rfl) T.z_str (by decide +kernel) (ga_cons (gv 13) ga_nil))))))))))))
      (gss_cons (gs_set (i := 2) sc_law_text.nd rfl (.inl rfl) (ge_op (op_addG K) sim_add (gv 2) (ge_lc (own := [("_law_notice", 14)]) (by rfl) sc_law_text.nd (gi_seq (gv 1)) (blkOk_by (own := [("_law_notice", 14)]) (N := ["_law_rules_here", "_law_notices_here", "_law_rows", "_law_hushed", "_law_least", "_law_gather", "_law_wait", "_law_further", "_law_some", "_law_part", "_law_begin", "_law_end", "_law_kind", "_law_span", "_law_notice"]) (sc := (defScope s_law_text)) (by decide +kernel)) (fun _ _ _ _ _ => (gg_name (i := 14) sc_law_text.nd rfl (.inl rfl))) (wp_name (by decide)) (fun _ _ _ _ _ => gts_nil) (fun _ _ _ _ _ => (ge_op (op_addG K) sim_add ge_str (ge_bm PySem.F.plainAttrs_str PySem.F.slot_str_join PySem.F.type_str_join (mt_joinG K) simk_S sim_join ge_str (ga_cons (ge_lc (own := [("_law_part", 9)]) (by rfl) sc_law_text.nd (gi_seq (gv 14)) (blkOk_by (by kernel_rfl)) (fun _ _ _ _ _ => (gg_name (i := 9) sc_law_text.nd rfl (.inl rfl))) (wp_name (by decide)) (fun _ _ _ _ _ => gts_nil) (fun _ _ _ _ _ => (ge_callTy call_str_int sim_strI (by rfl) T.z_str (by decide +kernel) (ga_cons (gv 9) ga_nil)))) ga_nil)))))))
      (gss_one (gs_ret (ge_bm PySem.F.plainAttrs_str PySem.F.slot_str_join PySem.F.type_str_join (mt_joinG K) simk_S sim_join ge_str (ga_cons (gv 2) ga_nil))))))), fun svs m SX Sv h => ?_⟩)
  · obtain ⟨R, N, a, rfl, _⟩ := h
    rfl
  · obtain ⟨R, N, a, rfl, ha, ok, no, hq⟩ := h
    obtain ⟨al, ane⟩ := all_len ok no
    walk_at "r"
    refine ⟨by walk_at "len", fun p hp => ?_⟩
    walk_at "r"
    refine ⟨_, rfl, ?_⟩
    dsimp only [List.set]
    refine for_inv (fun r δ m' => ∃ (j : Nat) (pr : Addr) (x3 x4 x5 x6 x7 x8 x9 x10 x11 x12 x13 x14 : Option SV), Le m m' ∧ m' pr = some (.lst (txtV ((R.take j).flatMap prRows))) ∧ m pr = none ∧ δ = [some (PV R), some (.ref a), some (.ref pr), x3, x4, x5, x6, x7, x8, x9, x10, x11, x12, x13, x14] ∧ r = (R.drop j).map PR.pv ∧ j ≤ R.length) ⟨0, p, none, none, none, none, none, none, none, none, none, none, none, none, .new (.refl _) hp, up_same, hp, rfl, rfl, Nat.zero_le _⟩ (fun x r δ m' h => ?_) (fun δ m' h => ?_)
    · obtain ⟨j, pr, x3, x4, x5, x6, x7, x8, x9, x10, x11, x12, x13, x14, lm, ep, hpr, rfl, hr, hj⟩ := h
      cases hd : R.drop j with
      | nil => rw [hd] at hr; cases hr
      | cons r rest =>
        obtain ⟨hz, hd2⟩ := drop_cons' hd
        have hj2 := (List.getElem?_eq_some_iff.mp hz).1
        rw [hd, List.map_cons] at hr
        obtain ⟨rfl, rfl⟩ := List.cons.inj hr
        have orr := ok.all r (List.mem_of_getElem? hz)
        have hlj := flat_len (n := R.length) (R := R.take j) fun r hr => ok.all r (List.mem_of_mem_take hr)
        have htl : (R.take j).length ≤ 6 := by rw [List.length_take]; have := ok.six; omega
        have hh := orr.hl
        have hg := orr.gl
        have okp := prRows_ok orr ok.six _ List.mem_cons_self
        refine ⟨trivial, ?_⟩
        walk_at "r"
        refine ⟨rfl, ?_⟩
        walk_at "r"
        repeat (refine ⟨by walk_at "len", ?_⟩; walk_at "r")
        dsimp only [List.set]
        refine ⟨_, rfl, ?_⟩
        refine ⟨line_le (by show 2 ≤ _; omega), fun p1 hp1 => ?_⟩
        refine lc_map cellV (fun _ => trivial) (fun x hx acc K1 k => ?_) ?_
        · obtain ⟨o, ho, rfl⟩ : ∃ o, o ∈ [r.wait, r.fur] ∧ x = optV o := by
            simp only [List.mem_cons, List.not_mem_nil, or_false] at hx
            rcases hx with rfl | rfl
            · exact ⟨_, List.mem_cons_self, rfl⟩
            · exact ⟨_, List.mem_cons_of_mem _ List.mem_cons_self, rfl⟩
          have hc := okp.cell o (List.mem_cons_of_mem _ ho)
          cases o with
          | none =>
            walk_at "r"
            walk_at "t"
            exact k _ (.refl _)
          | some i =>
            obtain ⟨i0, i1⟩ := hc i rfl
            walk_at "r"
            walk_at "f"
            walk_at "r"
            refine ⟨Nat.lt_of_le_of_lt (Nat.log2_le_self _) (by omega), ?_⟩
            exact k _ (.refl _)
        rw [show ([optV r.wait, optV r.fur] : List SV).map cellV = [.str (cellT r.wait), .str (cellT r.fur)] by
          show [cellV (optV r.wait), cellV (optV r.fur)] = _
          rw [cellV_opt, cellV_opt]]
        walk_at "r"
        refine ⟨⟨_, kp ep hp1⟩, ?_⟩
        walk_at "r"
        have ew := (cell_free (okp.cell _ (List.mem_cons_of_mem _ List.mem_cons_self))).2.2
        have ef := (cell_free (okp.cell _ (List.mem_cons_of_mem _ (List.mem_cons_of_mem _ List.mem_cons_self)))).2.2
        have el := (cell_free (okp.cell _ List.mem_cons_self)).2.2
        have lp : ("person " : Str).length ≤ 7 := by decide +kernel
        have lsp : (" " : Str).length ≤ 1 := by decide +kernel
        refine ⟨Nat.lt_of_le_of_lt (Nat.log2_le_self _) (by have := orr.le; omega), siz_le lp el (by omega), ?_⟩
        walk_at "r"
        refine ⟨siz_le (app_le lp el) lsp (by omega), ?_⟩
        walk_at "r"
        refine ⟨_, _, up_same, atI_nat (j := 0) rfl, siz_le (app_le (app_le lp el) lsp) ew (by omega), ?_⟩
        walk_at "r"
        refine ⟨siz_le (app_le (app_le (app_le lp el) lsp) ew) lsp (by omega), ?_⟩
        walk_at "r"
        refine ⟨_, _, up_same, atI_nat (j := 1) rfl, siz_le (app_le (app_le (app_le (app_le lp el) lsp) ew) lsp) ef (by omega), ?_⟩
        walk_at "r"
        refine ⟨_, kp ep hp1, by rw [List.length_map, sizeLine_eq]; omega, ?_⟩
        generalize hm1 : up (up m' p1 _) pr _ = m1
        have e1 : m1 pr = some (.lst (txtV ((R.take j).flatMap prRows) ++ [.str (rowT (("person", [some r.least, r.wait, r.fur]) : RowD))])) := by
          rw [← hm1, ← row3 _ "person " _ _ _ (by decide +kernel)]
          exact up_same
        have l1 : Le m m1 := by rw [← hm1]; exact (lm.new hp1).over hpr
        clear hm1
        walk_at "r"
        refine ⟨_, rfl, ?_⟩
        refine ⟨by rw [List.length_map]; exact line_le (by omega), fun p2 hp2 => ?_⟩
        refine lc_map (pairRow "hush") (fun _ => trivial) (fun x hx acc K1 k => ?_) ?_
        · obtain ⟨p4, hp4, rfl⟩ := List.mem_map.mp hx
          walk_at "r"
          refine ⟨rfl, ?_⟩
          walk_at "r"
          have okq := prRows_ok orr ok.six (("hush", [some p4.1, some p4.2]) : RowD) (List.mem_append.mpr (.inl (List.mem_cons_of_mem _ (List.mem_map.mpr ⟨p4, hp4, rfl⟩))))
          have q1 := (cell_free (okq.cell _ List.mem_cons_self)).2.2
          have q2 := (cell_free (okq.cell _ (List.mem_cons_of_mem _ List.mem_cons_self))).2.2
          have i1 := okq.cell _ List.mem_cons_self _ rfl
          have i2 := okq.cell _ (List.mem_cons_of_mem _ List.mem_cons_self) _ rfl
          have lh : ("hush " : Str).length ≤ 7 := by decide +kernel
          refine ⟨Nat.lt_of_le_of_lt (Nat.log2_le_self _) (by omega), siz_le lh q1 (by omega), ?_⟩
          walk_at "r"
          refine ⟨siz_le (app_le lh q1) lsp (by omega), ?_⟩
          walk_at "r"
          refine ⟨Nat.lt_of_le_of_lt (Nat.log2_le_self _) (by omega), siz_le (app_le (app_le lh q1) lsp) q2 (by omega), ?_⟩
          have kk : K1 (.str (("hush " : Str) ++ cellT (some p4.1) ++ " " ++ cellT (some p4.2))) (up m1 p2 (.lst acc)) := by
            rw [row2 "hush" "hush " _ _ (by decide +kernel)]
            exact k _ (.refl _)
          exact kk
        rw [pair_rows]
        walk_at "r"
        refine ⟨_, _, kp e1 hp2, up_same, line_le (by rw [List.length_append, List.length_map, List.length_map, List.length_map]; show _ + 1 + _ ≤ _; omega), fun p3 hp3 => ?_⟩
        generalize hm2 : up (up m1 p2 _) p3 _ = m2
        have e2 : m2 p3 = some (.lst (txtV ((R.take j).flatMap prRows) ++ [.str (rowT (("person", [some r.least, r.wait, r.fur]) : RowD))] ++ txtV (r.hs.map fun p => (("hush", [some p.1, some p.2]) : RowD)))) := by rw [← hm2]; exact up_same
        have l2 : Le m m2 := by rw [← hm2]; exact (l1.new hp2).new hp3
        have hn3 : m p3 = none := by
          cases e : m p3 with
          | none => rfl
          | some o => exact absurd (l1.new hp2 _ _ e) (by rw [hp3]; simp)
        clear hm2
        walk_at "r"
        refine ⟨_, rfl, ?_⟩
        refine ⟨by rw [List.length_map]; exact line_le (by omega), fun p5 hp5 => ?_⟩
        refine lc_map (pairRow "gather") (fun _ => trivial) (fun x hx acc K1 k => ?_) ?_
        · obtain ⟨p4, hp4, rfl⟩ := List.mem_map.mp hx
          walk_at "r"
          refine ⟨rfl, ?_⟩
          walk_at "r"
          have okq := prRows_ok orr ok.six (("gather", [some p4.1, some p4.2]) : RowD) (List.mem_append.mpr (.inr (List.mem_map.mpr ⟨p4, hp4, rfl⟩)))
          have q1 := (cell_free (okq.cell _ List.mem_cons_self)).2.2
          have q2 := (cell_free (okq.cell _ (List.mem_cons_of_mem _ List.mem_cons_self))).2.2
          have i1 := okq.cell _ List.mem_cons_self _ rfl
          have i2 := okq.cell _ (List.mem_cons_of_mem _ List.mem_cons_self) _ rfl
          have lh : ("gather " : Str).length ≤ 7 := by decide +kernel
          refine ⟨Nat.lt_of_le_of_lt (Nat.log2_le_self _) (by omega), siz_le lh q1 (by omega), ?_⟩
          walk_at "r"
          refine ⟨siz_le (app_le lh q1) lsp (by omega), ?_⟩
          walk_at "r"
          refine ⟨Nat.lt_of_le_of_lt (Nat.log2_le_self _) (by omega), siz_le (app_le (app_le lh q1) lsp) q2 (by omega), ?_⟩
          have kk : K1 (.str (("gather " : Str) ++ cellT (some p4.1) ++ " " ++ cellT (some p4.2))) (up m2 p5 (.lst acc)) := by
            rw [row2 "gather" "gather " _ _ (by decide +kernel)]
            exact k _ (.refl _)
          exact kk
        rw [pair_rows]
        walk_at "r"
        refine ⟨_, _, kp e2 hp5, up_same, line_le (by simp only [List.length_append, List.length_map, List.length_cons, List.length_nil]; omega), fun p6 hp6 => ?_⟩
        have es : txtV ((R.take (j + 1)).flatMap prRows) = txtV ((R.take j).flatMap prRows) ++ [.str (rowT (("person", [some r.least, r.wait, r.fur]) : RowD))] ++ txtV (r.hs.map fun p => (("hush", [some p.1, some p.2]) : RowD)) ++ txtV (r.gs.map fun p => (("gather", [some p.1, some p.2]) : RowD)) := by
          rw [flat_snoc hz, txt_app, pr_txt]
          simp only [List.append_assoc, List.cons_append, List.nil_append]
        have hn6 : m p6 = none := by
          cases e : m p6 with
          | none => rfl
          | some o => exact absurd (l2.new hp5 _ _ e) (by rw [hp6]; simp)
        walk_at "r"
        refine .of ⟨j + 1, p6, _, _, _, _, _, _, _, _, _, _, _, _, (l2.new hp5).new hp6, ?_, hn6, rfl, by rw [hd2], hj2⟩
        rw [es]
        exact up_same
    · obtain ⟨j, pr, x3, x4, x5, x6, x7, x8, x9, x10, x11, x12, x13, x14, lm, ep, hpr, rfl, hr, hj⟩ := h
      have ej : j = R.length := by
        cases hd : R.drop j with
        | nil => have := List.drop_eq_nil_iff.mp hd; omega
        | cons r rest => rw [hd] at hr; cases hr
      rw [ej, List.take_length] at ep
      have hfl := flat_len ok.all
      have h6 := ok.six
      have h30 := no.len
      refine ⟨trivial, ?_⟩
      walk_at "r"
      have ea : m' a = some (.lst (N.map NR.sv)) := lm _ _ ha
      have lsp1 : (" " : Str).length ≤ 1 := by decide +kernel
      refine ⟨_, ea, ?_⟩
      refine ⟨by rw [List.length_map]; exact line_le (by omega), fun p9 hp9 => ?_⟩
      refine lc_map noteRow (fun acc => kp ea hp9) (fun x hx acc K1 k => ?_) ?_
      · obtain ⟨z, hz, rfl⟩ := List.mem_map.mp hx
        walk_at "r"
        refine ⟨trivial, ?_⟩
        walk_at "r"
        refine ⟨[.int z.per, .int z.rank, .int z.kind, .int z.born], rfl, ?_⟩
        refine ⟨line_le (by show 4 ≤ _; omega), fun p10 hp10 => ?_⟩
        have okz := ntRow_ok no ok.six hz
        refine lc_map cellV (fun _ => trivial) (fun x hx acc K1 k => ?_) ?_
        · obtain ⟨i, hi, rfl⟩ : ∃ i, some i ∈ (ntRow z).2 ∧ x = .int i := by
            simp only [NR.sv, List.mem_cons, List.not_mem_nil, or_false] at hx
            rcases hx with rfl | rfl | rfl | rfl
            · exact ⟨_, .head _, rfl⟩
            · exact ⟨_, .tail _ (.head _), rfl⟩
            · exact ⟨_, .tail _ (.tail _ (.head _)), rfl⟩
            · exact ⟨_, .tail _ (.tail _ (.tail _ (.head _))), rfl⟩
          have hc := okz.cell _ hi _ rfl
          walk_at "r"
          refine ⟨Nat.lt_of_le_of_lt (Nat.log2_le_self _) (by omega), ?_⟩
          exact k _ (.refl _)
        walk_at "r"
        have c1 := (cell_free (okz.cell (some z.per) (.head _))).2.2
        have c2 := (cell_free (okz.cell (some z.rank) (.tail _ (.head _)))).2.2
        have c3 := (cell_free (okz.cell (some z.kind) (.tail _ (.tail _ (.head _))))).2.2
        have c4 := (cell_free (okz.cell (some z.born) (.tail _ (.tail _ (.tail _ (.head _)))))).2.2
        have hs4 : ∀ ys : List Str, (∀ y ∈ ys, y.length ≤ 3) → ys.length ≤ 4 → (Txt.join " " ys).length ≤ 20 ∧ (ys.map (·.length)).sum + ys.length * (" " : Str).length ≤ 16777216 := fun ys h hl => by
          have z1 := sum_le (l := ys.map (·.length)) (k := 3) fun x hx => by
            obtain ⟨w, hw, rfl⟩ := List.mem_map.mp hx
            exact h w hw
          rw [List.length_map] at z1
          have z2 := PySem.StrLaws.join_length_le " " ys
          have z3 : ys.length * (" " : Str).length ≤ ys.length * 1 := Nat.mul_le_mul_left _ lsp1
          rw [TL.join_eq]
          omega
        obtain ⟨g1, g2⟩ := hs4 [cellT (some z.per), cellT (some z.rank), cellT (some z.kind), cellT (some z.born)] (fun y hy => by
          simp only [List.mem_cons, List.not_mem_nil, or_false] at hy
          rcases hy with rfl | rfl | rfl | rfl <;> assumption) (by show 4 ≤ 4; omega)
        refine ⟨[cellT (some z.per), cellT (some z.rank), cellT (some z.kind), cellT (some z.born)], (show up _ p10 _ p10 = _ by rw [up_same]; rfl), g2, siz_le (show ("notice " : Str).length ≤ 7 by decide +kernel) g1 (by omega), ?_⟩
        rw [rowJ]
        exact k _ (.new (.refl _) hp10)
      · rw [note_rows]
        walk_at "r"
        refine ⟨_, _, kp ep hp9, up_same, line_le (by rw [List.length_map, List.length_map, List.length_map]; omega), fun p11 hp11 => ?_⟩
        walk_at "r"
        refine ⟨trivial, ?_⟩
        walk_at "r"
        refine ⟨(allRows R N).map rowT, ?_, (text_len (all_ok ok no) (by omega)).2, ?_⟩
        · show up _ p11 _ p11 = _
          rw [up_same]
          unfold allRows
          simp only [List.map_append, List.map_map]
          rfl
        · exact ⟨m, (lm.new hp9).new hp11, hq⟩
end
end Hn

set_option Elab.async false
set_option linter.all false
set_option maxRecDepth 100000
set_option maxHeartbeats 8000000
namespace Hn
open PySem PySem.Spec PyProof.Rows L2 Sy Lm
section
variable {P : Program} {w : World} {K : PySem.W.Frag} {mg : Str → Option Value} {base : Heap}
local macro_rules | `(tactic| walk_at "r") => `(tactic| (conv => whnf))
local macro_rules | `(tactic| walk_at "sp") => `(tactic| (first | rfl | contradiction | exact (False.elim ‹_›)))
local macro_rules | `(tactic| walk_at "len") => `(tactic| (exact Nat.le_trans (show _ ≤ 100000 by first | (simp; done) | (rw [rngS_length]; decide)) (by decide)))
local macro_rules | `(tactic| walk_at "f") => `(tactic| (refine Br_i (fun hb => Bool.noConfusion (show false = true from hb)) (fun _ => ?_)))
local macro_rules | `(tactic| walk_at "t") => `(tactic| (refine Br_i (fun _ => ?_) (fun hb => Bool.noConfusion (show true = false from hb))))
local macro_rules | `(tactic| walk_at "le") => `(tactic| first | exact Le.refl _ | (refine Le.put ?_; walk_at "le") | (refine Le.new ?_ (by assumption); walk_at "le"))
mutual
theorem eqD_refl : ∀ d : PyData, NoD d → eqD d d = true
  | .none, _ => by simp [eqD]
  | .bool b, _ => by simp [eqD]
  | .int _, _ => by simp [eqD]
  | .str _, _ => by simp [eqD]
  | .list a, h => by simp only [eqD]; exact eqDs_refl a h
  | .tuple a, h => by simp only [eqD]; exact eqDs_refl a h
  | .dict _, h => h.elim
theorem eqDs_refl : ∀ d : List PyData, NoDs d → eqDs d d = true
  | [], _ => by simp [eqDs]
  | a :: r, h => by
    simp only [eqDs, Bool.and_eq_true]
    exact ⟨eqD_refl a h.1, eqDs_refl r h.2⟩
end
/-- a value's data, whatever the memory -/
structure Pv (n : Nat) (x : SV) (d : PyData) : Prop where
  rd : ∀ m, Rd m x d
  no : NoD d
  sh : Shp n d
  sm : smD d
  dp : dpt d ≤ n
structure Pvs (n : Nat) (xs : List SV) (ds : List PyData) : Prop where
  rd : ∀ m, Rds m xs ds
  no : NoDs ds
  sh : ∀ d ∈ ds, Shp n d
  sm : smDs ds
  dp : dpts ds ≤ n
theorem Pvs.nil {n : Nat} : Pvs n [] [] := ⟨fun _ => .nil, trivial, fun _ h => (nomatch h), trivial, Nat.zero_le _⟩
theorem Pvs.cons {n : Nat} {x : SV} {xs : List SV} {d : PyData} {ds : List PyData} (a : Pv n x d) (b : Pvs n xs ds) : Pvs n (x :: xs) (d :: ds) := ⟨fun m => .cons (a.rd m) (b.rd m), ⟨a.no, b.no⟩, fun e he => by
  rcases List.mem_cons.mp he with rfl | he
  · exact a.sh
  · exact b.sh e he, ⟨a.sm, b.sm⟩, by
  have h1 := a.dp
  have h2 := b.dp
  simp only [dpts]
  omega⟩
theorem pvs_map {α : Type} {n : Nat} {f : α → SV} {xs : List α} (h : ∀ x ∈ xs, ∃ d, Pv n (f x) d) : ∃ ds, Pvs n (xs.map f) ds := by
  induction xs with
  | nil => exact ⟨[], .nil⟩
  | cons x r ih =>
    obtain ⟨d, hd⟩ := h x List.mem_cons_self
    obtain ⟨ds, hs⟩ := ih fun y hy => h y (List.mem_cons_of_mem _ hy)
    exact ⟨d :: ds, .cons hd hs⟩
theorem Pvs.len {n : Nat} {xs : List SV} {ds : List PyData} (h : Pvs n xs ds) : ds.length = xs.length := (rds_len (h.rd fun _ => none)).symm
theorem Pvs.tup {n : Nat} {xs : List SV} {ds : List PyData} (h : Pvs n xs ds) (hl : xs.length ≤ 1000) : Pv (n + 1) (.tup xs) (.tuple ds) := ⟨fun m => .tup (h.rd m), h.no, (shp_list h.sh).2, ⟨by rw [h.len]; omega, h.sm⟩, by have := h.dp; simp only [dpt]; omega⟩
theorem Pvs.lst {n : Nat} {xs : List SV} {ds : List PyData} (h : Pvs n xs ds) (hl : xs.length ≤ 1000) : (∀ m a, m a = some (.lst xs) → Rd m (.ref a) (.list ds)) ∧ NoD (.list ds) ∧ Shp (n + 1) (.list ds) ∧ smD (.list ds) ∧ dpt (.list ds) ≤ n + 1 := ⟨fun m a e => .ref e (h.rd m), h.no, (shp_list h.sh).1, ⟨by rw [h.len]; omega, h.sm⟩, by have := h.dp; simp only [dpt]; omega⟩
theorem pv_int {n : Nat} (i : Int) : Pv n (.int i) (.int i) := ⟨fun _ => .int i, trivial, shp_int i, trivial, Nat.zero_le _⟩
theorem pv_opt {n : Nat} (o : Option Int) : ∃ d, Pv n (optV o) d := by
  cases o with
  | none => exact ⟨.none, fun _ => .non, trivial, shp_none, trivial, Nat.zero_le _⟩
  | some i => exact ⟨_, pv_int i⟩
theorem pv_pair (p : Int × Int) : ∃ d, Pv 1 (pairV p) d := ⟨_, (Pvs.cons (n := 0) (pv_int _) (.cons (pv_int _) .nil)).tup (by show 2 ≤ _; omega)⟩
theorem pv_nr (z : NR) : ∃ d, Pv 1 z.sv d := ⟨_, (Pvs.cons (n := 0) (pv_int _) (.cons (pv_int _) (.cons (pv_int _) (.cons (pv_int _) .nil)))).tup (by show 4 ≤ _; omega)⟩
theorem pv_pr {k : Nat} {r : PR} (h : r.Ok k) : ∃ d, Pv 3 r.sv d := by
  obtain ⟨d1, h1⟩ := pvs_map (f := pairV) (xs := r.hs) fun p _ => pv_pair p
  obtain ⟨d2, h2⟩ := pvs_map (f := pairV) (xs := r.gs) fun p _ => pv_pair p
  obtain ⟨d3, h3⟩ := pv_opt (n := 2) r.wait
  obtain ⟨d4, h4⟩ := pv_opt (n := 2) r.fur
  have l1 := h.hl
  have l2 := h.gl
  exact ⟨_, (Pvs.cons (h1.tup (by rw [List.length_map]; omega)) (.cons (pv_int _) (.cons (h2.tup (by rw [List.length_map]; omega)) (.cons h3 (.cons h4 .nil))))).tup (by show 5 ≤ _; omega)⟩
theorem pv_rv {R : List PR} (h : RulesOk R) : ∃ d, Pv 4 (RV R) d := by
  obtain ⟨ds, hs⟩ := pvs_map (f := PR.sv) (xs := R) fun r hr => pv_pr (h.all r hr)
  have := h.six
  exact ⟨_, hs.tup (by rw [List.length_map]; omega)⟩
theorem pvs_nt {N : List NR} : ∃ ds, Pvs 1 (N.map NR.sv) ds := pvs_map fun z _ => pv_nr z
def spAlikeP : SpS := fun vs m _ S => ∃ x y z d e, vs = [x, y] ∧ Wk y z ∧ Rd m x d ∧ Rd m z e ∧ dpt e < 6 ∧ smD e ∧ S (.bl (eqD d e)) m
theorem ok_law_alike6 (T : Tx K mg) : FnOk P w K mg base CX0 6 (He.ga K "_law_alike") T.fd__law_alike ["_law_found", "_law_due"] (lift K spAlikeP) := fn_wk (ok_law_alike T 6) fun vs m SX S ⟨x, y, z, d, e, h, hw, h1, h2, h3, h4, q⟩ => ⟨[x, z], by rw [h]; exact .cons (.refl _) (.cons hw .nil), x, z, d, e, rfl, h1, h2, h3, h4, q⟩
theorem alikeR {m : Mem} {R : List PR} {N : List NR} {p a : Addr} (ok : RulesOk R) (no : NtOk R N) (hp : m p = some (.lst (N.map NR.sv))) (ha : m a = some (.lst (N.map NR.sv))) : ∃ d, Wk (SV.tup [PV R, .ref a]) (.tup [RV R, .ref a]) ∧ Rd m (SV.tup [RV R, .ref p]) d ∧ Rd m (SV.tup [RV R, .ref a]) d ∧ dpt d < 6 ∧ smD d ∧ eqD d d = true := by
  obtain ⟨d, hd⟩ := pv_rv ok
  obtain ⟨ds, hs⟩ := pvs_nt (N := N)
  have h30 := no.len
  obtain ⟨g1, g2, g3, g4, g5⟩ := hs.lst (by rw [List.length_map]; omega)
  have q1 : NoD (.tuple [d, .list ds]) := ⟨hd.no, g2, trivial⟩
  refine ⟨.tuple [d, .list ds], .tup (.cons (PV_wk R) (.cons (.refl _) .nil)), .tup (.cons (hd.rd m) (.cons (g1 m p hp) .nil)), .tup (.cons (hd.rd m) (.cons (g1 m a ha) .nil)), ?_, ⟨by show 2 ≤ _; omega, hd.sm, g4, trivial⟩, eqD_refl _ q1⟩
  have := hd.dp
  simp only [dpt, dpts] at g5 ⊢
  omega
theorem neL {m : Mem} {N : List NR} {p a : Addr} (no : N.length ≤ 30) (hp : m p = some (.lst (N.map NR.sv))) (ha : m a = some (.lst (N.map NR.sv))) : ∃ d, Rd m (.ref p) d ∧ Rd m (.ref a) d ∧ SeqAt.shaped d = true ∧ PyData.eqv d d = true := by
  obtain ⟨ds, hs⟩ := pvs_nt (N := N)
  obtain ⟨g1, g2, g3, g4, g5⟩ := hs.lst (by rw [List.length_map]; omega)
  exact ⟨_, g1 m p hp, g1 m a ha, shp_ok g3 (by decide), eqv_refl _ g2⟩
def spLaw : SpS := fun vs m _ S => ∃ ns : List Int, vs = [.lst (ns.map .int)] ∧ ns.length ≤ 63 ∧ ∀ m', S (.bl true) m'
theorem ok_law (T : Tx K mg) [TBS : Tabs K mg w] : FnOk P w K mg base (L2.CX P w) 20 (He.ga K "law") T.fd_law ["_law_script"] (lift K spLaw) := by
  have G_law_alike := ok_law_alike6 (P := P) (w := w) (base := base) T
  have b_law_alike := b_law_alike T
  have G_law_begun := ok_law_begun (P := P) (w := w) (base := base) T
  have b_law_begun := b_law_begun T
  have G_law_notices := ok_law_notices (P := P) (w := w) (base := base) T
  have b_law_notices := b_law_notices T
  have G_law_rules := ok_law_rules (P := P) (w := w) (base := base) T
  have b_law_rules := b_law_rules T
  have G_law_text := ok_law_text (P := P) (w := w) (base := base) T
  have b_law_text := b_law_text T
  have G_read := ok_read (P := P) (w := w) (base := base) T
  have b_read := b_read T
  have G_written := ok_written (P := P) (w := w) (base := base) T
  have b_written := b_written T
  refine fn_syX T.F_law sc_law (fun svs m SX Sv h => ?_) (fun cdv A outer s H E hr => ⟨_, _, (gss_cons (gs_set (i := 1) sc_law.nd rfl (.inl rfl) (ge_call G_law_begun (hr.mono (by decide)) (by rfl) T.g__law_begun T.k__law_begun b_law_begun .nil (fun _ => .nil) pass0 (ga_cons (gv 0) ga_nil)))
      (gss_cons (gs_for (passes_of rfl) rfl (gi_range1 (by rfl) T.z_range (ga_cons ge_int ga_nil)) (gg_name (i := 2) sc_law.nd rfl (.inl rfl))
      (gss_cons (gs_set (i := 3) sc_law.nd rfl (.inl rfl) (ge_call G_law_rules (hr.mono (by decide)) (by rfl) T.g__law_rules T.k__law_rules b_law_rules .nil (fun _ => .nil) pass0 (ga_cons (gv 1) ga_nil)))
      (gss_cons (gs_set (i := 4) sc_law.nd rfl (.inl rfl) (ge_call G_law_notices (hr.mono (by decide)) (by rfl) T.g__law_notices T.k__law_notices b_law_notices .nil (fun _ => .nil) pass0 (ga_cons (gv 1) (ga_cons (gv 3) (ga_cons ge_int ga_nil)))))
      (gss_cons (gs_par (i := 5) (j := 6) (by rfl) sc_law.nd rfl rfl (by decide) rfl rfl (ga_cons (ge_call G_law_text (hr.mono (by decide)) (by rfl) T.g__law_text T.k__law_text b_law_text .nil (fun _ => .nil) pass0 (ga_cons (gv 3) (ga_cons (gv 4) ga_nil))) (ga_cons (ge_callTy (cr_lst K) sim_lstOf (by rfl) T.z_list (by decide +kernel) (ga_cons (gv 4) ga_nil)) ga_nil)))
      (gss_one (gs_for (passes_of rfl) rfl (gi_range1 (by rfl) T.z_range (ga_cons ge_int ga_nil)) (gg_name (i := 7) sc_law.nd rfl (.inl rfl))
      (gss_cons (gs_set (i := 8) sc_law.nd rfl (.inl rfl) (ge_call G_read (hr.mono (by decide)) (by rfl) T.g_read T.k_read b_read .nil (fun _ => .nil) pass0 (ga_cons (gv 5) ga_nil)))
      (gss_cons (gs_if (gw_pt (gw_or (gt_not (gt_val (ge_call G_law_alike (hr.mono (by decide)) (by rfl) T.g__law_alike T.k__law_alike b_law_alike .nil (fun _ => .nil) pass0 (ga_cons (ge_call G_written (hr.mono (by decide)) (by rfl) T.g_written T.k_written b_written .nil (fun _ => .nil) pass0 (ga_cons (gv 3) (ga_cons (gv 6) ga_nil))) (ga_cons (gv 5) ga_nil))))) (gw_or1 (gt_cmp (op_neG K hr.units) sim_ne (gv 6) (gv 4) (nomark _))))) (gss_one (gs_ret ge_bl)) gss_nil)
      (gss_cons (gs_if (gt_not (gt_val (ge_call G_law_alike (hr.mono (by decide)) (by rfl) T.g__law_alike T.k__law_alike b_law_alike .nil (fun _ => .nil) pass0 (ga_cons (gv 8) (ga_cons (ge_tup (ga_cons (gv 3) (ga_cons (gv 4) ga_nil))) ga_nil))))) (gss_one (gs_ret ge_bl)) gss_nil)
      (gss_one (gs_expr (ge_bm PySem.F.plainAttrs_list PySem.F.slot_list_append PySem.F.type_list_append mt_append simk_L sim_append (ge_ix (ix_G K) sim_ix (gv 8) ge_int (fun _ _ => rfl)) (ga_cons ge_int ga_nil)))))))))))))
      (gss_one (gs_ret ge_bl)))), fun svs m SX Sv h => ?_⟩)
  · obtain ⟨ns, rfl, _⟩ := h
    rfl
  · obtain ⟨ns, rfl, hl, q⟩ := h
    walk_at "r"
    refine ⟨ns, rfl, hl, fun bb cx hcx hb ne => ?_⟩
    have bx : IsBox (up (up m cx .bxi) bb (.box cx)) bb := ⟨cx, up_same, by rw [up_ne (Ne.symm ne)]; exact up_same⟩
    generalize up (up m cx .bxi) bb (.box cx) = m0 at bx
    clear hcx hb ne
    walk_at "r"
    refine ⟨⟨by decide, by decide⟩, ?_⟩
    refine for_inv (fun r δ m' => m' = m0 ∧ ∃ (a2 a3 a4 a5 a6 a7 a8 : Option SV), δ = [some (.lst (ns.map .int)), some (.ref bb), a2, a3, a4, a5, a6, a7, a8]) ⟨rfl, none, none, none, none, none, none, none, rfl⟩ (fun x r δ m' h => ?_) (fun δ m' h => ?_)
    · obtain ⟨rfl, a2, a3, a4, a5, a6, a7, a8, rfl⟩ := h
      refine ⟨trivial, ?_⟩
      walk_at "r"
      refine ⟨bx, fun R ok => ?_⟩
      walk_at "r"
      refine ⟨bb, R, 9, rfl, bx, ok, ⟨by decide, by decide⟩, fun N pn no hnl hpn => ?_⟩
      have eN : up m' pn (.lst (N.map NR.sv)) pn = _ := up_same
      have l1 : Le m' (up m' pn (.lst (N.map NR.sv))) := .new (.refl _) hpn
      generalize up m' pn (.lst (N.map NR.sv)) = m1 at eN l1
      have n30 := no.len
      walk_at "r"
      refine ⟨R, N, pn, rfl, eN, ok, no, ?_⟩
      walk_at "r"
      refine ⟨_, eN, fun ph hph => ?_⟩
      have eH : up m1 ph (.lst (N.map NR.sv)) ph = _ := up_same
      have eN2 := kp (u := .lst (N.map NR.sv)) eN hph
      have l2 := l1.new (o := .lst (N.map NR.sv)) hph
      generalize up m1 ph (.lst (N.map NR.sv)) = m2 at eH eN2 l2
      walk_at "r"
      refine ⟨⟨by decide, by decide⟩, ?_⟩
      dsimp only [List.set]
      refine for_inv (fun r δ m' => m' = m2 ∧ ∃ (b7 b8 : Option SV), δ = [some (.lst (ns.map .int)), some (.ref bb), some x, some (PV R), some (.ref pn), some (.str (textT (allRows R N))), some (.ref ph), b7, b8]) ⟨rfl, _, _, rfl⟩ (fun x r δ m' h => ?_) (fun δ m' h => ?_)
      · obtain ⟨rfl, b7, b8, rfl⟩ := h
        refine ⟨trivial, ?_⟩
        walk_at "r"
        refine ⟨R, N, rfl, ok, no, fun pf hpf => ?_⟩
        have eF : up m' pf (.lst (N.map NR.sv)) pf = _ := up_same
        have eN3 := kp (u := .lst (N.map NR.sv)) eN2 hpf
        have eH3 := kp (u := .lst (N.map NR.sv)) eH hpf
        walk_at "r"
        refine ⟨R, N, ph, rfl, eH3, ok, no, ?_⟩
        walk_at "r"
        refine ⟨_, _, _, .str _, .str _, rfl, .refl _, .str _, .str _, by show 0 < 6; omega, trivial, ?_⟩
        rw [eqD_refl (.str (textT (allRows R N))) trivial]
        walk_at "r"
        walk_at "f"
        walk_at "r"
        obtain ⟨dn, n1, n2, n3, n4⟩ := neL (by omega) eH3 eN3
        refine ⟨dn, dn, n1, n2, n3, n3, ?_⟩
        rw [n4]
        walk_at "r"
        walk_at "f"
        walk_at "r"
        obtain ⟨dd, w1, w2, w3, w4, w5, w6⟩ := alikeR ok no eF eN3
        refine ⟨line_le (by show 2 ≤ _; omega), ?_⟩
        walk_at "r"
        refine ⟨_, _, _, _, _, rfl, w1, w2, w3, w4, w5, ?_⟩
        rw [w6]
        walk_at "r"
        walk_at "f"
        walk_at "r"
        refine ⟨_, atI_nat (j := 1) rfl, ⟨_, eF⟩, ?_⟩
        walk_at "r"
        refine ⟨_, eF, line_le (by rw [List.length_map]; omega), ?_⟩
        exact ⟨m', (Le.new (.refl _) hpf).over hpf, rfl, _, _, rfl⟩
      · obtain ⟨rfl, b7, b8, rfl⟩ := h
        refine ⟨trivial, ?_⟩
        exact ⟨_, l2, rfl, _, _, _, _, _, _, _, rfl⟩
    · obtain ⟨rfl, a2, a3, a4, a5, a6, a7, a8, rfl⟩ := h
      refine ⟨trivial, ?_⟩
      walk_at "r"
      exact .of (q _)
end
end Hn

set_option Elab.async false
set_option linter.all false
set_option maxRecDepth 100000
set_option maxHeartbeats 0
namespace Hn
open PySem PySem.Spec PyProof.Rows L2 Sy
theorem tx_of {w : World} {h : Heap} {K : PySem.W.Frag} {mg : Str → Option Value} (X : K.In h) (G : h.Ns mainGlobals mg) (c : He.SaysX fa fn tbs tf exb w h K) : Nonempty (Tx K mg) := by
  obtain ⟨f0, F0⟩ := c.t.d.def_ 0 (d := d_is_number) rfl
  obtain ⟨f1, F1⟩ := c.t.d.def_ 1 (d := d_is_whole) rfl
  obtain ⟨f2, F2⟩ := c.t.d.def_ 2 (d := d_is_tuple_of) rfl
  obtain ⟨f3, F3⟩ := c.t.d.def_ 3 (d := d_is_tuple_up_to) rfl
  obtain ⟨f4, F4⟩ := c.t.d.def_ 4 (d := d_is_stretch) rfl
  obtain ⟨f5, F5⟩ := c.t.d.def_ 5 (d := d_can_be_hushed) rfl
  obtain ⟨f6, F6⟩ := c.t.d.def_ 6 (d := d_can_be_gather) rfl
  obtain ⟨f7, F7⟩ := c.t.d.def_ 7 (d := d_first_bad_part) rfl
  obtain ⟨f8, F8⟩ := c.t.d.def_ 8 (d := d_refuse_bad_rules) rfl
  obtain ⟨f9, F9⟩ := c.t.d.def_ 9 (d := d_can_be_notice) rfl
  obtain ⟨f10, F10⟩ := c.t.d.def_ 10 (d := d_refuse_bad_notices) rfl
  obtain ⟨f11, F11⟩ := c.t.d.def_ 11 (d := d_row_of) rfl
  obtain ⟨f12, F12⟩ := c.t.d.def_ 12 (d := d_written) rfl
  obtain ⟨f13, F13⟩ := c.t.d.def_ 13 (d := d_is_written_number) rfl
  obtain ⟨f14, F14⟩ := c.t.d.def_ 14 (d := d_is_row) rfl
  obtain ⟨f15, F15⟩ := c.t.d.def_ 15 (d := d_judged_rows) rfl
  obtain ⟨f16, F16⟩ := c.t.d.def_ 16 (d := d_read_rules) rfl
  obtain ⟨f17, F17⟩ := c.t.d.def_ 17 (d := d_read) rfl
  obtain ⟨f18, F18⟩ := c.t.d.def_ 18 (d := d_law_begun) rfl
  obtain ⟨f19, F19⟩ := c.t.d.def_ 19 (d := d_law_take) rfl
  obtain ⟨f20, F20⟩ := c.t.d.def_ 20 (d := d_law_alike) rfl
  obtain ⟨f21, F21⟩ := c.t.d.def_ 21 (d := d_law_stretches) rfl
  obtain ⟨f22, F22⟩ := c.t.d.def_ 22 (d := d_law_rule) rfl
  obtain ⟨f23, F23⟩ := c.t.d.def_ 23 (d := d_law_rules) rfl
  obtain ⟨f24, F24⟩ := c.t.d.def_ 24 (d := d_law_notices) rfl
  obtain ⟨f25, F25⟩ := c.t.d.def_ 25 (d := d_law_text) rfl
  obtain ⟨f26, F26⟩ := c.t.d.def_ 26 (d := d_law) rfl
  exact ⟨{
    fd_is_number := f0
    F_is_number := F0
    fd_is_whole := f1
    F_is_whole := F1
    fd_is_tuple_of := f2
    F_is_tuple_of := F2
    fd_is_tuple_up_to := f3
    F_is_tuple_up_to := F3
    fd_is_stretch := f4
    F_is_stretch := F4
    fd_can_be_hushed := f5
    F_can_be_hushed := F5
    fd_can_be_gather := f6
    F_can_be_gather := F6
    fd_first_bad_part := f7
    F_first_bad_part := F7
    fd_refuse_bad_rules := f8
    F_refuse_bad_rules := F8
    fd_can_be_notice := f9
    F_can_be_notice := F9
    fd_refuse_bad_notices := f10
    F_refuse_bad_notices := F10
    fd_row_of := f11
    F_row_of := F11
    fd_written := f12
    F_written := F12
    fd_is_written_number := f13
    F_is_written_number := F13
    fd_is_row := f14
    F_is_row := F14
    fd_judged_rows := f15
    F_judged_rows := F15
    fd_read_rules := f16
    F_read_rules := F16
    fd_read := f17
    F_read := F17
    fd__law_begun := f18
    F__law_begun := F18
    fd__law_take := f19
    F__law_take := F19
    fd__law_alike := f20
    F__law_alike := F20
    fd__law_stretches := f21
    F__law_stretches := F21
    fd__law_rule := f22
    F__law_rule := F22
    fd__law_rules := f23
    F__law_rules := F23
    fd__law_notices := f24
    F__law_notices := F24
    fd__law_text := f25
    F__law_text := F25
    fd_law := f26
    F_law := F26
    g_is_number := He.glo_ok X G (c.t.d.fact 0 (f := .glo "is_number") rfl)
    k_is_number := F0.kp
    g_is_whole := He.glo_ok X G (c.t.d.fact 1 (f := .glo "is_whole") rfl)
    k_is_whole := F1.kp
    g_is_tuple_of := He.glo_ok X G (c.t.d.fact 2 (f := .glo "is_tuple_of") rfl)
    k_is_tuple_of := F2.kp
    g_is_tuple_up_to := He.glo_ok X G (c.t.d.fact 3 (f := .glo "is_tuple_up_to") rfl)
    k_is_tuple_up_to := F3.kp
    g_is_stretch := He.glo_ok X G (c.t.d.fact 4 (f := .glo "is_stretch") rfl)
    k_is_stretch := F4.kp
    g_can_be_hushed := He.glo_ok X G (c.t.d.fact 5 (f := .glo "can_be_hushed") rfl)
    k_can_be_hushed := F5.kp
    g_can_be_gather := He.glo_ok X G (c.t.d.fact 6 (f := .glo "can_be_gather") rfl)
    k_can_be_gather := F6.kp
    g_first_bad_part := He.glo_ok X G (c.t.d.fact 7 (f := .glo "first_bad_part") rfl)
    k_first_bad_part := F7.kp
    g_refuse_bad_rules := He.glo_ok X G (c.t.d.fact 8 (f := .glo "refuse_bad_rules") rfl)
    k_refuse_bad_rules := F8.kp
    g_can_be_notice := He.glo_ok X G (c.t.d.fact 9 (f := .glo "can_be_notice") rfl)
    k_can_be_notice := F9.kp
    g_refuse_bad_notices := He.glo_ok X G (c.t.d.fact 10 (f := .glo "refuse_bad_notices") rfl)
    k_refuse_bad_notices := F10.kp
    g_row_of := He.glo_ok X G (c.t.d.fact 11 (f := .glo "row_of") rfl)
    k_row_of := F11.kp
    g_written := He.glo_ok X G (c.t.d.fact 12 (f := .glo "written") rfl)
    k_written := F12.kp
    g_is_written_number := He.glo_ok X G (c.t.d.fact 13 (f := .glo "is_written_number") rfl)
    k_is_written_number := F13.kp
    g_is_row := He.glo_ok X G (c.t.d.fact 14 (f := .glo "is_row") rfl)
    k_is_row := F14.kp
    g_judged_rows := He.glo_ok X G (c.t.d.fact 15 (f := .glo "judged_rows") rfl)
    k_judged_rows := F15.kp
    g_read_rules := He.glo_ok X G (c.t.d.fact 16 (f := .glo "read_rules") rfl)
    k_read_rules := F16.kp
    g_read := He.glo_ok X G (c.t.d.fact 17 (f := .glo "read") rfl)
    k_read := F17.kp
    g__law_begun := He.glo_ok X G (c.t.d.fact 18 (f := .glo "_law_begun") rfl)
    k__law_begun := F18.kp
    g__law_take := He.glo_ok X G (c.t.d.fact 19 (f := .glo "_law_take") rfl)
    k__law_take := F19.kp
    g__law_alike := He.glo_ok X G (c.t.d.fact 20 (f := .glo "_law_alike") rfl)
    k__law_alike := F20.kp
    g__law_stretches := He.glo_ok X G (c.t.d.fact 21 (f := .glo "_law_stretches") rfl)
    k__law_stretches := F21.kp
    g__law_rule := He.glo_ok X G (c.t.d.fact 22 (f := .glo "_law_rule") rfl)
    k__law_rule := F22.kp
    g__law_rules := He.glo_ok X G (c.t.d.fact 23 (f := .glo "_law_rules") rfl)
    k__law_rules := F23.kp
    g__law_notices := He.glo_ok X G (c.t.d.fact 24 (f := .glo "_law_notices") rfl)
    k__law_notices := F24.kp
    g__law_text := He.glo_ok X G (c.t.d.fact 25 (f := .glo "_law_text") rfl)
    k__law_text := F25.kp
    g_law := He.glo_ok X G (c.t.d.fact 26 (f := .glo "law") rfl)
    k_law := F26.kp
    g_NoticeError := He.glo_ok X G (c.t.d.fact 27 (f := .glo "NoticeError") rfl)
    k_NoticeError := He.keep_ok (c.t.d.fact 71 (f := .keep "NoticeError") rfl)
    g_BadRules := He.glo_ok X G (c.t.d.fact 28 (f := .glo "BadRules") rfl)
    k_BadRules := He.keep_ok (c.t.d.fact 72 (f := .keep "BadRules") rfl)
    g_BadNotices := He.glo_ok X G (c.t.d.fact 29 (f := .glo "BadNotices") rfl)
    k_BadNotices := He.keep_ok (c.t.d.fact 73 (f := .keep "BadNotices") rfl)
    g_BadText := He.glo_ok X G (c.t.d.fact 30 (f := .glo "BadText") rfl)
    k_BadText := He.keep_ok (c.t.d.fact 74 (f := .keep "BadText") rfl)
    x_NoticeError := (He.exc_ok (c.t.d.fact 50 (f := .exc "NoticeError") rfl)).1
    e_NoticeError := (He.exc_ok (c.t.d.fact 50 (f := .exc "NoticeError") rfl)).2.2.1
    t_NoticeError := (He.exc_ok (c.t.d.fact 50 (f := .exc "NoticeError") rfl)).2.2.2
    i_MOST_PERSONS := He.int_ok X G (c.t.d.fact 51 (f := .int "MOST_PERSONS" (6)) rfl)
    i_MANY_PARTS := He.int_ok X G (c.t.d.fact 52 (f := .int "MANY_PARTS" (5)) rfl)
    i_MOST_STRETCHES := He.int_ok X G (c.t.d.fact 53 (f := .int "MOST_STRETCHES" (3)) rfl)
    i_LAST_HOUR := He.int_ok X G (c.t.d.fact 54 (f := .int "LAST_HOUR" (23)) rfl)
    i_MOST_LEAST := He.int_ok X G (c.t.d.fact 55 (f := .int "MOST_LEAST" (4)) rfl)
    i_MOST_GATHERED := He.int_ok X G (c.t.d.fact 56 (f := .int "MOST_GATHERED" (4)) rfl)
    i_LAST_KIND := He.int_ok X G (c.t.d.fact 57 (f := .int "LAST_KIND" (7)) rfl)
    i_MOST_SPAN := He.int_ok X G (c.t.d.fact 58 (f := .int "MOST_SPAN" (12)) rfl)
    i_MOST_WAIT := He.int_ok X G (c.t.d.fact 59 (f := .int "MOST_WAIT" (24)) rfl)
    i_MOST_NOTICES := He.int_ok X G (c.t.d.fact 60 (f := .int "MOST_NOTICES" (30)) rfl)
    i_LAST_RANK := He.int_ok X G (c.t.d.fact 61 (f := .int "LAST_RANK" (3)) rfl)
    i_LAST_BORN := He.int_ok X G (c.t.d.fact 62 (f := .int "LAST_BORN" (300)) rfl)
    i_NO_PART := He.int_ok X G (c.t.d.fact 63 (f := .int "NO_PART" (-1)) rfl)
    i_MOST_FIGURES := He.int_ok X G (c.t.d.fact 64 (f := .int "MOST_FIGURES" (3)) rfl)
    i_PERSON := He.str_ok X G (c.t.d.fact 65 (f := .str "PERSON" "person") rfl)
    i_HUSH := He.str_ok X G (c.t.d.fact 66 (f := .str "HUSH" "hush") rfl)
    i_GATHER := He.str_ok X G (c.t.d.fact 67 (f := .str "GATHER" "gather") rfl)
    i_NOTICE := He.str_ok X G (c.t.d.fact 68 (f := .str "NOTICE" "notice") rfl)
    i_NONE := He.str_ok X G (c.t.d.fact 69 (f := .str "NONE" "-") rfl)
    i_FIGURES := He.str_ok X G (c.t.d.fact 70 (f := .str "FIGURES" "0123456789") rfl)
    z_isinstance := He.free_ok X G (c.t.d.fact 31 (f := .free "isinstance") rfl)
    z_bool := He.free_ok X G (c.t.d.fact 32 (f := .free "bool") rfl)
    z_int := He.free_ok X G (c.t.d.fact 33 (f := .free "int") rfl)
    z_tuple := He.free_ok X G (c.t.d.fact 34 (f := .free "tuple") rfl)
    z_list := He.free_ok X G (c.t.d.fact 35 (f := .free "list") rfl)
    z_len := He.free_ok X G (c.t.d.fact 36 (f := .free "len") rfl)
    z_all := He.free_ok X G (c.t.d.fact 37 (f := .free "all") rfl)
    z_any := He.free_ok X G (c.t.d.fact 38 (f := .free "any") rfl)
    z_range := He.free_ok X G (c.t.d.fact 39 (f := .free "range") rfl)
    z_min := He.free_ok X G (c.t.d.fact 40 (f := .free "min") rfl)
    z_max := He.free_ok X G (c.t.d.fact 41 (f := .free "max") rfl)
    z_sum := He.free_ok X G (c.t.d.fact 42 (f := .free "sum") rfl)
    z_str := He.free_ok X G (c.t.d.fact 43 (f := .free "str") rfl)
    z_sorted := He.free_ok X G (c.t.d.fact 44 (f := .free "sorted") rfl)
    z_enumerate := He.free_ok X G (c.t.d.fact 45 (f := .free "enumerate") rfl)
    z_zip := He.free_ok X G (c.t.d.fact 46 (f := .free "zip") rfl)
    z_dict := He.free_ok X G (c.t.d.fact 47 (f := .free "dict") rfl)
    z_set := He.free_ok X G (c.t.d.fact 48 (f := .free "set") rfl)
    z_ValueError := He.free_ok X G (c.t.d.fact 49 (f := .free "ValueError") rfl) }⟩
theorem tabs_of {w : World} {h : Heap} {K : PySem.W.Frag} {mg : Str → Option Value} (X : K.In h) (G : h.Ns mainGlobals mg) (c : He.SaysX fa fn tbs tf exb w h K) : Tabs K mg w where
  g_FORMS := He.glo_ok X G (c.t.d.fact 75 (f := .glo "FORMS") rfl)
  t_FORMS := Sy.tabV_of (c.t.tab 0 rfl) (L := LB_FORMS) ((He.ba c.more).1)
  g_BEHIND := He.glo_ok X G (c.t.d.fact 76 (f := .glo "BEHIND") rfl)
  t_BEHIND := Sy.tabV_of (c.t.tab 1 rfl) (L := LB_BEHIND) ((He.ba c.more).2)
end Hn
open PySem PySem.W PySem.Calls PyProof.Rows
theorem PySem.Challenge.cw_hushnotice_k16_rules_written_holds : PySem.Challenge.rw_hushnotice_k16_rules_written.Holds := by
  w_on; o_law
  refine HandSHeadRun.head_any (r := OpenLaw.row PySem.Challenge.rw_hushnotice_k16_rules_written) (q := view (OpenLaw.row PySem.Challenge.rw_hushnotice_k16_rules_written).prog [56]) (H := Hn.hk) (ob := Hn.ob) (M := 9000) (loose := Hn.names) (d := HandSHeadRun.topDef (OpenLaw.row PySem.Challenge.rw_hushnotice_k16_rules_written).prog 56) (kwd := []) Hn.ob_eq
    (by kernel_rfl) (fun s => by kernel_rfl) Hn.run (by kernel_rfl) (by kernel_rfl) (by kernel_rfl) (by rfl) (by first | assumption | decide +kernel) (by decide +kernel) ⟨rfl, rfl, rfl, rfl, rfl, by decide +kernel⟩ ?hw ?hc
  case hw => w_witness2
  case hc =>
    refine LamX.walk_ofTsE (l := PySem.Challenge.rw_hushnotice_k16_rules_written) (n := 63) (k := 20) (CX := fun w => L2.CX PySem.Challenge.rw_hushnotice_k16_rules_written.prog w) (x := "_law_script") rfl (by decide) rfl ⟨rfl, by decide, by decide⟩ (fun w mg fa h hY hns hmg => ?_) (fun w H s e s' hx => ?_)
    · obtain ⟨K, X, c⟩ := hY
      obtain ⟨T⟩ := Hn.tx_of X hns c
      have ef : fa = He.ga K "law" := by
        have z : mg "law" = some (.ref fa) := hmg
        rw [T.g_law] at z
        cases z
        rfl
      subst ef
      refine ⟨K, X, T.fd_law, Hn.tf.map fun p => He.cT K p, Sy.lift K Hn.spLaw, fun p hp => ?_, fun p hp => ?_, fun p hp => ?_, fun s u => ?_, fun H a ns hl hb ht hq => ?_, fun base XB GB TB => ?_⟩
      · obtain ⟨q, hq, rfl⟩ := List.mem_map.mp hp
        exact c.empty q hq
      · obtain ⟨q, hq, rfl⟩ := List.mem_map.mp hp
        exact c.out q hq
      · obtain ⟨q, hq, rfl⟩ := List.mem_map.mp hp
        exact PySem.W.codeHd_of_K X (c.hd q hq)
      · obtain ⟨oc, od, dV, kV, doc, pm, an, cdv, ct, osl, e, lk, hcd, hD, hK⟩ := T.F_law.ex
        rw [e]
        rcases hD with ⟨_, rfl⟩ | ⟨n, _⟩
        · exact .of_eq rfl
        · exact absurd rfl n
      · refine ⟨fun y => match H y with | some (.lst xs) => some (.lst xs) | some (.frz o u) => some (.frz o u) | _ => none, [.lst (ns.map .int)], fun _ => none, fun _ _ => False, fun v _ => v = .bl true, ⟨fun y o e => ?_, fun b u hu => ?_⟩, .cons (.lst (vs := ns.map L2.V.int) ?_ (Sy.vrs_of_ints ns)) .nil, ⟨ns, rfl, hl, fun _ => rfl⟩, fun x d F' H' m' _ _ _ z => z.elim, fun v F' H' sv m' _ _ rv e => ?_⟩
        · show H y = some o
          have e : (match H y with | some (.lst xs) => some (.lst xs) | some (.frz o u) => some (.frz o u) | _ => none : Option L2.HO) = some o := e
          split at e
          · rename_i q
            rw [q, e]
          · rename_i q
            rw [q, e]
          · cases e
        · cases hu
        · rcases hq with (hq | ⟨o, hq⟩) | hq
          · refine .inl (.inl ?_)
            show (match H a with | some (.lst xs) => some (.lst xs) | some (.frz o u) => some (.frz o u) | _ => none : Option L2.HO) = _
            rw [hq]
          · refine .inl (.inr ⟨o, ?_⟩)
            show (match H a with | some (.lst xs) => some (.lst xs) | some (.frz o u) => some (.frz o u) | _ => none : Option L2.HO) = _
            rw [hq]
          · exact .inr hq
        · subst e
          cases rv
          rfl
      · exact (haveI := Hn.tabs_of X hns c; Hn.ok_law T)
    · obtain ⟨_, _, _, _, _, _, _, _, _, _, _, _, z⟩ := hx
      exact z

