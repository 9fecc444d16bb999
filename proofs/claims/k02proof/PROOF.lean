import PyProof.Rows.All
import Wide.All
import OpenK.AllK
import Wide.FinOn
import HandS.ForMost
import HandS.Exc
import HandS.ExcOwn
import HandS.TryOnly
import HandS.WordsExc
import HandS.IsInst
import HandS.Defaults
import HandS.TupAny
import HandS.Wide
import PyProof.SumAnyB
import PyProof.Rows.SumGenD
import HandS.HeadHook1
import HandS.HeadHook2
import HandS.HeadHook3
import HandS.HeadHook4
import PySem.Challenge.RW_hushnotice_k02_hours
import HandS.Nested
import HandS.Lambda
import KE.KDflt
import HandS.ExcIs
import KE.KStateDown
import Lean
import HandS.Base
import HandS.Call
import HandS.Ends
import HandS.More
import HandS.Words
import HandS.Head0
import HandS.Head1
import HandS.Head2
import HandS.HeadEnd
import HandS.HeadWalk
set_option Elab.async false
set_option linter.all false
set_option maxRecDepth 100000
set_option maxHeartbeats 4000000
/-! The data layer: a part F of the abstract heap that no longer changes; values read off F as plain data; readings that only make new things. -/
namespace Dl
open PySem PySem.Spec PyProof.Rows L2
abbrev D := PyData
/-! ### frozen parts -/
def Sub (F H : Hp) : Prop := ∀ a o, F a = some o → H a = some o
theorem Sub.refl (H : Hp) : Sub H H := fun _ _ h => h
theorem Sub.trans {F G H : Hp} (a : Sub F G) (b : Sub G H) : Sub F H := fun x o h => b x o (a x o h)
theorem Sub.gone {F H : Hp} (e : Sub F H) {p : Addr} (h : H p = none) : F p = none := by
  cases q : F p with
  | none => rfl
  | some o => rw [e p o q] at h; cases h
theorem Sub.upd_new {F : Hp} {p : Addr} {o : HO} (h : F p = none) : Sub F (upd F p o) := fun a u e => by
  rw [upd_ne (ne_of_none e h)]; exact e
theorem Sub.upd2 {F H : Hp} {p : Addr} {o : HO} (e : Sub F H) : Sub (upd F p o) (upd H p o) := fun a u h => by
  by_cases ha : a = p
  · subst ha; rw [upd_same] at h ⊢; exact h
  · rw [upd_ne ha] at h ⊢; exact e a u h
theorem Sub.upd_free {F H : Hp} {p : Addr} {o : HO} (e : Sub F H) (h : F p = none) : Sub F (upd H p o) := fun a u ha => by
  rw [upd_ne (ne_of_none ha h)]; exact e a u ha
theorem Sub.upd_in {F H : Hp} {p : Addr} {o : HO} (e : Sub F H) (h : H p = some o) : Sub (upd F p o) H := fun a u ha => by
  by_cases hp : a = p
  · subst hp; rw [upd_same] at ha; cases ha; exact h
  · rw [upd_ne hp] at ha; exact e a u ha
/-- from (F, H) to (F', H'): all that was there stays but at M; what is newly frozen is new -/
structure Gr (M : Addr → Prop) (F H F' H' : Hp) : Prop where
  sub : Sub F' H'
  keep : ∀ a o, ¬ M a → H a = some o → H' a = some o
  there : ∀ a o, H a = some o → ∃ o', H' a = some o'
  old : ∀ a o, H a = some o → F' a = F a
abbrev M0 : Addr → Prop := fun _ => False
abbrev Gr0 := Gr M0
section
variable {M M' : Addr → Prop} {F H F' H' F1 H1 F2 H2 : Hp} {p : Addr} {o : HO}
theorem Gr.refl (e : Sub F H) : Gr M F H F H := ⟨e, fun _ _ _ h => h, fun _ o h => ⟨o, h⟩, fun _ _ _ => rfl⟩
theorem Gr.trans (a : Gr M F H F1 H1) (b : Gr M F1 H1 F2 H2) : Gr M F H F2 H2 where
  sub := b.sub
  keep := fun x o n h => b.keep x o n (a.keep x o n h)
  there := fun x o h => by
    obtain ⟨o', h'⟩ := a.there x o h
    exact b.there x o' h'
  old := fun x o h => by
    obtain ⟨o', h'⟩ := a.there x o h
    rw [b.old x o' h', a.old x o h]
theorem Gr.mono (a : Gr M F H F' H') (m : ∀ x, M x → M' x) : Gr M' F H F' H' := ⟨a.sub, fun x o n h => a.keep x o (fun z => n (m x z)) h, a.there, a.old⟩
theorem Gr.up (a : Gr0 F H F' H') : Gr M F H F' H' := a.mono fun _ z => z.elim
theorem Gr.ext (a : Gr M F H F' H') (e : Sub F H) : Sub F F' := fun x o h => by rw [a.old x o (e x o h)]; exact h
theorem Gr.free (a : Gr M F H F' H') (h : H' p = none) : H p = none := by
  cases q : H p with
  | none => rfl
  | some u =>
    obtain ⟨o', z⟩ := a.there p u q
    rw [h] at z; cases z
theorem Gr.all (a : Gr0 F H F' H') : Sub H H' := fun x o h => a.keep x o (fun z => z) h
/-- a new frozen thing -/
theorem Gr.new (e : Sub F H) (h : H p = none) : Gr M F H (upd F p o) (upd H p o) :=
  ⟨e.upd2, fun x u _ q => by rw [upd_ne (ne_of_none q h)]; exact q, fun x u q => ⟨u, by rw [upd_ne (ne_of_none q h)]; exact q⟩, fun x u q => upd_ne (ne_of_none q h)⟩
/-- a new thing that isn't frozen yet -/
theorem Gr.fresh (e : Sub F H) (h : H p = none) : Gr M F H F (upd H p o) :=
  ⟨e.upd_free (e.gone h), fun x u _ q => by rw [upd_ne (ne_of_none q h)]; exact q, fun x u q => ⟨u, by rw [upd_ne (ne_of_none q h)]; exact q⟩, fun x u q => rfl⟩
/-- a thing of M changes -/
theorem Gr.mut (e : Sub F H) (m : M p) (f : F p = none) : Gr M F H F (upd H p o) :=
  ⟨e.upd_free f, fun x u n q => by rw [upd_ne (fun z => n (by rw [z]; exact m))]; exact q, fun x u q => by
    by_cases hx : x = p
    · exact ⟨o, by rw [hx, upd_same]⟩
    · exact ⟨u, by rw [upd_ne hx]; exact q⟩, fun x u q => rfl⟩
/-- a thing made on the way changes -/
theorem Gr.own (a : Gr M F H F' H') (h : H p = none) (f : F' p = none) : Gr M F H F' (upd H' p o) :=
  ⟨a.sub.upd_free f, fun x u n q => by rw [upd_ne (ne_of_none q h)]; exact a.keep x u n q, fun x u q => by
    rw [upd_ne (ne_of_none q h)]; exact a.there x u q, a.old⟩
/-- a thing made on the way is frozen -/
theorem Gr.freeze (a : Gr M F H F' H') (h : H p = none) (q : H' p = some o) : Gr M F H (upd F' p o) H' :=
  ⟨a.sub.upd_in q, a.keep, a.there, fun x u z => by rw [upd_ne (ne_of_none z h)]; exact a.old x u z⟩
end
/-! ### data -/
theorem sql_sub {K : PySem.W.Frag} {F H : Hp} {a : Addr} {xs : List V} (e : Sub F H) (h : SqL K F a xs) : SqL K H a xs := by
  rcases h with (h | ⟨o, h⟩) | h
  · exact .inl (.inl (e _ _ h))
  · exact .inl (.inr ⟨o, e _ _ h⟩)
  · exact .inr h
theorem sqt_sub {K : PySem.W.Frag} {F H : Hp} {a : Addr} {xs : List V} (e : Sub F H) (h : SqT K F a xs) : SqT K H a xs := by
  rcases h with (h | ⟨o, h⟩) | h
  · exact .inl (.inl (e _ _ h))
  · exact .inl (.inr ⟨o, e _ _ h⟩)
  · exact .inr h
mutual
theorem dp_sub {K : PySem.W.Frag} {F H : Hp} (e : Sub F H) : ∀ {v : V} {d : D}, Dp K F v d → Dp K H v d
  | _, _, .non => .non
  | _, _, .bl b => .bl b
  | _, _, .int i => .int i
  | _, _, .str x => .str x
  | _, _, .lst h a => .lst (sql_sub e h) (dpa_sub e a)
  | _, _, .tup h a => .tup (sqt_sub e h) (dpa_sub e a)
theorem dpa_sub {K : PySem.W.Frag} {F H : Hp} (e : Sub F H) : ∀ {vs : List V} {ds : List D}, DpAll K F vs ds → DpAll K H vs ds
  | _, _, .nil => .nil
  | _, _, .cons a b => .cons (dp_sub e a) (dpa_sub e b)
end
section
variable {K : PySem.W.Frag} {H : Hp}
theorem dpa_length : ∀ {vs : List V} {ds : List D}, DpAll K H vs ds → vs.length = ds.length
  | _, _, .nil => rfl
  | _, _, .cons _ b => by rw [List.length_cons, List.length_cons, dpa_length b]
theorem dpa_get : ∀ {vs : List V} {ds : List D} {i : Nat} {d : D}, DpAll K H vs ds → ds[i]? = some d → ∃ v, vs[i]? = some v ∧ Dp K H v d
  | _, _, _, _, .nil, e => by simp at e
  | _, _, 0, _, .cons r _, e => by simp at e; subst e; exact ⟨_, rfl, r⟩
  | _, _, i + 1, d, .cons _ t, e => by
    obtain ⟨u, h1, h2⟩ := dpa_get (i := i) (d := d) t (by simpa using e)
    exact ⟨u, by simpa using h1, h2⟩
theorem dpa_getV : ∀ {vs : List V} {ds : List D} {i : Nat} {v : V}, DpAll K H vs ds → vs[i]? = some v → ∃ d, ds[i]? = some d ∧ Dp K H v d
  | _, _, _, _, .nil, e => by simp at e
  | _, _, 0, _, .cons r _, e => by simp at e; subst e; exact ⟨_, rfl, r⟩
  | _, _, i + 1, v, .cons _ t, e => by
    obtain ⟨u, h1, h2⟩ := dpa_getV (i := i) (v := v) t (by simpa using e)
    exact ⟨u, by simpa using h1, h2⟩
theorem dpa_append : ∀ {vs ws : List V} {ds es : List D}, DpAll K H vs ds → DpAll K H ws es → DpAll K H (vs ++ ws) (ds ++ es)
  | _, _, _, _, .nil, s => s
  | _, _, _, _, .cons r t, s => .cons r (dpa_append t s)
theorem dpa_take : ∀ {vs : List V} {ds : List D} (n : Nat), DpAll K H vs ds → DpAll K H (vs.take n) (ds.take n)
  | _, _, 0, _ => .nil
  | _, _, _ + 1, .nil => .nil
  | _, _, n + 1, .cons r t => .cons r (dpa_take n t)
theorem dpa_drop : ∀ {vs : List V} {ds : List D} (n : Nat), DpAll K H vs ds → DpAll K H (vs.drop n) (ds.drop n)
  | _, _, 0, r => r
  | _, _, _ + 1, .nil => .nil
  | _, _, n + 1, .cons _ t => dpa_drop n t
theorem dpa_ints : ∀ {vs : List V} {ns : List Int}, DpAll K H vs (ns.map PyData.int) → vs = ns.map V.int
  | _, [], .nil => rfl
  | _, _ :: _, .cons (.int _) t => by rw [dpa_ints t]; rfl
theorem dpa_of_ints : ∀ (ns : List Int), DpAll K H (ns.map V.int) (ns.map PyData.int)
  | [] => .nil
  | _ :: r => .cons (.int _) (dpa_of_ints r)
theorem dpa_bls : ∀ {vs : List V} {bs : List Bool}, DpAll K H vs (bs.map PyData.bool) → vs = bs.map V.bl
  | _, [], .nil => rfl
  | _, _ :: _, .cons (.bl _) t => by rw [dpa_bls t]; rfl
theorem dpa_of_bls : ∀ (bs : List Bool), DpAll K H (bs.map V.bl) (bs.map PyData.bool)
  | [] => .nil
  | _ :: r => .cons (.bl _) (dpa_of_bls r)
theorem tyx_tup {a : Addr} {xs : List V} (h : SqT K H a xs) : TyX K H (.ref a) (.type "tuple") := by
  rcases h with (h | ⟨o, h⟩) | ⟨o, its, n, h1, h2, _⟩
  · exact .base (.tup h)
  · exact .fTuple h
  · exact .kTuple h1 h2
theorem tyx_lst {a : Addr} {xs : List V} (h : SqL K H a xs) : TyX K H (.ref a) (.type "list") := by
  rcases h with (h | ⟨o, h⟩) | ⟨o, its, n, h1, h2, _⟩
  · exact .base (.lst h)
  · exact .base (.frz h)
  · exact .kList h1 h2
end
/-- the name of the type of a datum (no dict is ever read) -/
def tyD : D → String
  | .none => "NoneType"
  | .bool _ => "bool"
  | .int _ => "int"
  | .str _ => "str"
  | .list _ => "list"
  | .tuple _ => "tuple"
  | .dict _ => "dict"
theorem tyx_dp {K : PySem.W.Frag} {H : Hp} {v : V} {d : D} (h : Dp K H v d) : TyX K H v (.type (tyD d)) := by
  cases h with
  | non => exact .base .non
  | bl b => exact .base (.bl b)
  | int i => exact .base (.int i)
  | str x => exact .base (.str x)
  | lst h _ => exact tyx_lst h
  | tup h _ => exact tyx_tup h
/-! ### slots as data -/
abbrev DS : Type := List (Option D)
structure DpS (K : PySem.W.Frag) (F : Hp) (σ : L2.St) (δ : DS) : Prop where
  len : σ.length = δ.length
  at_ : ∀ (i : Nat) (d : D), δ[i]? = some (some d) → ∃ v, σ[i]? = some (some v) ∧ Dp K F v d
section
variable {K : PySem.W.Frag} {F F' H : Hp} {σ : L2.St} {δ : DS}
theorem DpS.sub (h : DpS K F σ δ) (s : Sub F F') : DpS K F' σ δ := ⟨h.len, fun i d e => by
  obtain ⟨v, h1, h2⟩ := h.at_ i d e
  exact ⟨v, h1, dp_sub s h2⟩⟩
theorem DpS.set {i : Nat} {v : V} {d : D} (h : DpS K F σ δ) (dv : Dp K F v d) : DpS K F (σ.set i (some v)) (δ.set i (some d)) := ⟨by rw [List.length_set, List.length_set]; exact h.len, fun j e hj => by
  by_cases hji : i = j
  · subst hji
    by_cases hl : i < δ.length
    · rw [List.getElem?_set_self hl] at hj
      cases hj
      exact ⟨v, List.getElem?_set_self (by rw [h.len]; exact hl), dv⟩
    · rw [List.getElem?_eq_none (by rw [List.length_set]; omega)] at hj
      cases hj
  · rw [List.getElem?_set_ne hji] at hj ⊢
    exact h.at_ j e hj⟩
/-- a slot that holds no data -/
theorem DpS.setNo {i : Nat} {v : Option V} (h : DpS K F σ δ) : DpS K F (σ.set i v) (δ.set i none) := ⟨by rw [List.length_set, List.length_set]; exact h.len, fun j e hj => by
  by_cases hji : i = j
  · subst hji
    by_cases hl : i < δ.length
    · rw [List.getElem?_set_self hl] at hj
      cases hj
    · rw [List.getElem?_eq_none (by rw [List.length_set]; omega)] at hj
      cases hj
  · rw [List.getElem?_set_ne hji] at hj ⊢
    exact h.at_ j e hj⟩
def wipeD (δ : DS) : List Nat → DS
  | [] => δ
  | v :: vs => (wipeD δ vs).set v none
theorem DpS.wipe (h : DpS K F σ δ) : ∀ vs : List Nat, DpS K F (L2.wipe σ vs) (wipeD δ vs)
  | [] => h
  | _ :: vs => (h.wipe vs).setNo
theorem DpS.start {N : List Str} {vs : List V} {ds : List D} (h : DpAll K F vs ds) : DpS K F (L2.start N vs) (ds.map some ++ List.replicate (N.length - ds.length) none) := ⟨by
  unfold L2.start
  rw [List.length_append, List.length_append, List.length_map, List.length_map, List.length_replicate, List.length_replicate, dpa_length h], fun i d e => by
  unfold L2.start
  by_cases hi : i < ds.length
  · rw [List.getElem?_append_left (by rw [List.length_map]; exact hi), List.getElem?_map] at e
    obtain ⟨d', h1, h2⟩ := Option.map_eq_some_iff.mp e
    cases h2
    obtain ⟨v, h3, h4⟩ := dpa_get h h1
    refine ⟨v, ?_, h4⟩
    rw [List.getElem?_append_left (by rw [List.length_map, dpa_length h]; exact hi), List.getElem?_map, h3]
    rfl
  · rw [List.getElem?_append_right (by rw [List.length_map]; omega), List.getElem?_replicate] at e
    split at e <;> cases e⟩
end
/-! ### what evaluates to what -/
def EvD (K : PySem.W.Frag) (te : TE) (δ : DS) (d : D) : Prop := ∀ σ F H, DpS K F σ δ → Sub F H → ∀ Q : VK, (∀ v F2 H2, Gr0 F H F2 H2 → Dp K F2 v d → Q v H2) → te σ H Q
def EvA (K : PySem.W.Frag) (ta : TA) (δ : DS) (ds : List D) : Prop := ∀ σ F H, DpS K F σ δ → Sub F H → ∀ Q : List V → Hp → Prop, (∀ vs F2 H2, Gr0 F H F2 H2 → DpAll K F2 vs ds → Q vs H2) → ta σ H Q
def EvT (K : PySem.W.Frag) (tt : TT) (δ : DS) (b : Bool) : Prop := ∀ σ F H, DpS K F σ δ → Sub F H → ∀ Q : Bool → Hp → Prop, (∀ F2 H2, Gr0 F H F2 H2 → Q b H2) → tt σ H Q
def EvO (K : PySem.W.Frag) (to : TO) (δ : DS) (i : Option Int) : Prop := ∀ σ F H, DpS K F σ δ → Sub F H → ∀ Q : Option Int → Hp → Prop, (∀ F2 H2, Gr0 F H F2 H2 → Q i H2) → to σ H Q
/-- an exception as data: its class, its fields (none: no dict of its own) -/
structure XO where
  cls : Addr
  fs : Option (List (Str × D)) := none
def XOk (K : PySem.W.Frag) (F H : Hp) (d : Option Addr) (x : XO) : Prop := match x.fs with
  | none => d = none
  | some fs => ∃ (dd : Addr) (vs : List (Str × V)), d = some dd ∧ H dd = some (.xd vs) ∧ F dd = none ∧ vs.map (·.1) = fs.map (·.1) ∧ DpAll K F (vs.map (·.2)) (fs.map (·.2))
/-- what is wanted of a block: of what it hands back; of the slots where it runs through, goes on, breaks; of what it raises -/
structure Wn where
  rt : D → Prop
  nx : DS → Prop := fun _ => False
  ct : DS → Prop := fun _ => False
  bk : DS → Prop := fun _ => False
  ex : XO → Prop := fun _ => False
structure Meets (K : PySem.W.Frag) (Ex : XK) (F H : Hp) (W : Wn) (E : Ends) : Prop where
  ex : ∀ x d F2 H2, Gr0 F H F2 H2 → XOk K F2 H2 d x → W.ex x → Ex (.ref x.cls) d H2
  rt : ∀ v d F2 H2, Gr0 F H F2 H2 → Dp K F2 v d → W.rt d → E.rt v H2
  nx : ∀ σ δ F2 H2, Gr0 F H F2 H2 → DpS K F2 σ δ → W.nx δ → E.nx σ H2
  ct : ∀ σ δ F2 H2, Gr0 F H F2 H2 → DpS K F2 σ δ → W.ct δ → E.ct σ H2
  bk : ∀ σ δ F2 H2, Gr0 F H F2 H2 → DpS K F2 σ δ → W.bk δ → E.bk σ H2
theorem Meets.go {K : PySem.W.Frag} {Ex : XK} {F1 H1 F2 H2 : Hp} {W : Wn} {E : Ends} (m : Meets K Ex F1 H1 W E) (g : Gr0 F1 H1 F2 H2) : Meets K Ex F2 H2 W E :=
  ⟨fun x d F3 H3 g3 => m.ex x d F3 H3 (g.trans g3), fun v d F3 H3 g3 => m.rt v d F3 H3 (g.trans g3), fun σ δ F3 H3 g3 => m.nx σ δ F3 H3 (g.trans g3), fun σ δ F3 H3 g3 => m.ct σ δ F3 H3 (g.trans g3), fun σ δ F3 H3 g3 => m.bk σ δ F3 H3 (g.trans g3)⟩
def EvB (K : PySem.W.Frag) (Ex : XK) (ts : TS) (δ : DS) (W : Wn) : Prop := ∀ σ F H (E : Ends), DpS K F σ δ → Sub F H → Meets K Ex F H W E → ts E σ H
section
variable {K : PySem.W.Frag} {δ : DS} {ta tb te tc : TE} {t u : TT} {d e : D} {r : R2} {v : V} {i : Nat}
theorem EvD.to (h : EvD K te δ d) (q : d = e) : EvD K te δ e := q ▸ h
theorem EvT.to {b c : Bool} (h : EvT K t δ b) (q : b = c) : EvT K t δ c := q ▸ h
theorem evd_var (h : δ[i]? = some (some d)) : EvD K (tVar i) δ d := fun σ F H dσ s Q q => by
  obtain ⟨v, h1, h2⟩ := dσ.at_ i d h
  exact ⟨v, h1, q v F H (.refl s) h2⟩
theorem evd_c (hd : ∀ F, Dp K F v d) : EvD K (tC v) δ d := fun σ F H dσ s Q q => q v F H (.refl s) (hd F)
theorem evd_int {n : Int} : EvD K (tC (.int n)) δ (.int n) := evd_c fun _ => .int n
theorem evd_bl {b : Bool} : EvD K (tC (.bl b)) δ (.bool b) := evd_c fun _ => .bl b
theorem evd_non : EvD K (tC .non) δ .none := evd_c fun _ => .non
theorem evd_str {x : Str} : EvD K (tC (.str x)) δ (.str x) := evd_c fun _ => .str x
/-- two operands, then an operation on their values that only reads and makes -/
theorem evd_op {d1 d2 : D} (ha : EvD K ta δ d1) (hb : EvD K tb δ d2) (hr : ∀ (F H : Hp) (x y : V), Sub F H → Dp K F x d1 → Dp K F y d2 → ∀ Q : VK, (∀ v F2 H2, Gr0 F H F2 H2 → Dp K F2 v d → Q v H2) → r x y H Q) : EvD K (tOp r ta tb) δ d := fun σ F H dσ s Q q =>
  ha σ F H dσ s _ fun x F2 H2 g2 dx => hb σ F2 H2 (dσ.sub (g2.ext s)) g2.sub _ fun y F3 H3 g3 dy => hr F3 H3 x y g3.sub (dp_sub (g3.ext g2.sub) dx) dy Q fun v F4 H4 g4 dv => q v F4 H4 ((g2.trans g3).trans g4) dv
theorem evd_I0 {g : Int → Int → V} {i j : Int} (ha : EvD K ta δ (.int i)) (hb : EvD K tb δ (.int j)) (hg : ∀ F, Dp K F (g i j) d) : EvD K (tOp (rI0 g) ta tb) δ d :=
  evd_op ha hb fun F1 H1 x y s dx dy Q q => by
    cases dx; cases dy
    exact ⟨i, j, rfl, rfl, q _ F1 H1 (.refl s) (hg F1)⟩
theorem evd_I {C : Int → Int → Prop} {g : Int → Int → V} {i j : Int} (ha : EvD K ta δ (.int i)) (hb : EvD K tb δ (.int j)) (hc : C i j) (hg : ∀ F, Dp K F (g i j) d) : EvD K (tOp (rI C g) ta tb) δ d :=
  evd_op ha hb fun F1 H1 x y s dx dy Q q => by
    cases dx; cases dy
    exact ⟨i, j, rfl, rfl, hc, q _ F1 H1 (.refl s) (hg F1)⟩
theorem evd_add {i j : Int} (ha : EvD K ta δ (.int i)) (hb : EvD K tb δ (.int j)) : EvD K (tOp (rI0 fun i j => .int (i + j)) ta tb) δ (.int (i + j)) := evd_I0 ha hb fun _ => .int _
theorem evd_sub {i j : Int} (ha : EvD K ta δ (.int i)) (hb : EvD K tb δ (.int j)) : EvD K (tOp (rI0 fun i j => .int (i - j)) ta tb) δ (.int (i - j)) := evd_I0 ha hb fun _ => .int _
theorem evd_mul {i j : Int} (ha : EvD K ta δ (.int i)) (hb : EvD K tb δ (.int j)) (hc : CMul i j) : EvD K (tOp (rI CMul fun i j => .int (i * j)) ta tb) δ (.int (i * j)) := evd_I ha hb hc fun _ => .int _
theorem evd_mod {i j : Int} (ha : EvD K ta δ (.int i)) (hb : EvD K tb δ (.int j)) (hc : 0 < j) : EvD K (tOp (rI (fun _ j => 0 < j) fun i j => .int (i % j)) ta tb) δ (.int (i % j)) := evd_I ha hb hc fun _ => .int _
theorem evd_fdiv {i j : Int} (ha : EvD K ta δ (.int i)) (hb : EvD K tb δ (.int j)) (hc : CDiv i j) : EvD K (tOp (rI CDiv fun i j => .int (i / j)) ta tb) δ (.int (i / j)) := evd_I ha hb hc fun _ => .int _
theorem evd_lt {i j : Int} (ha : EvD K ta δ (.int i)) (hb : EvD K tb δ (.int j)) : EvD K (tOp (rI0 fun i j => .bl (decide (i < j))) ta tb) δ (.bool (decide (i < j))) := evd_I0 ha hb fun _ => .bl _
theorem evd_le {i j : Int} (ha : EvD K ta δ (.int i)) (hb : EvD K tb δ (.int j)) : EvD K (tOp (rI0 fun i j => .bl (decide (i ≤ j))) ta tb) δ (.bool (decide (i ≤ j))) := evd_I0 ha hb fun _ => .bl _
theorem evd_gt {i j : Int} (ha : EvD K ta δ (.int i)) (hb : EvD K tb δ (.int j)) : EvD K (tOp (rI0 fun i j => .bl (decide (j < i))) ta tb) δ (.bool (decide (j < i))) := evd_I0 ha hb fun _ => .bl _
theorem evd_ge {i j : Int} (ha : EvD K ta δ (.int i)) (hb : EvD K tb δ (.int j)) : EvD K (tOp (rI0 fun i j => .bl (decide (j ≤ i))) ta tb) δ (.bool (decide (j ≤ i))) := evd_I0 ha hb fun _ => .bl _
theorem evd_neg {i : Int} (ha : EvD K ta δ (.int i)) : EvD K (tUn (rU fun i => .int (-i)) ta) δ (.int (-i)) := fun σ F H dσ s Q q => ha σ F H dσ s _ fun x F2 H2 g2 dx => by
  cases dx
  exact ⟨i, rfl, q _ F2 H2 g2 (.int _)⟩
/-- == of flat data, by values -/
theorem evd_eq {d1 d2 : D} {x y : V} (ha : EvD K ta δ d1) (hb : EvD K tb δ d2) (h1 : ∀ F v, Dp K F v d1 → v = x) (h2 : ∀ F v, Dp K F v d2 → v = y) (hs : scal x y = true) : EvD K (tOp rEq ta tb) δ (.bool (decide (x = y))) :=
  evd_op ha hb fun F1 H1 a b s da db Q q => by
    rw [h1 _ _ da, h2 _ _ db]
    exact ⟨hs, q _ F1 H1 (.refl s) (.bl _)⟩
theorem evd_ne {d1 d2 : D} {x y : V} (ha : EvD K ta δ d1) (hb : EvD K tb δ d2) (h1 : ∀ F v, Dp K F v d1 → v = x) (h2 : ∀ F v, Dp K F v d2 → v = y) (hs : scal x y = true) : EvD K (tOp rNe ta tb) δ (.bool (!decide (x = y))) :=
  evd_op ha hb fun F1 H1 a b s da db Q q => by
    rw [h1 _ _ da, h2 _ _ db]
    exact ⟨hs, q _ F1 H1 (.refl s) (.bl _)⟩
theorem dec_inj {α β : Type} [DecidableEq α] [DecidableEq β] {f : α → β} (h : ∀ a b, f a = f b → a = b) (a b : α) : decide (f a = f b) = decide (a = b) := by
  by_cases e : a = b
  · rw [decide_eq_true e, decide_eq_true (congrArg f e)]
  · rw [decide_eq_false e, decide_eq_false fun z => e (h _ _ z)]
theorem dp_int_inv {F : Hp} {v : V} {i : Int} (h : Dp K F v (.int i)) : v = .int i := by cases h; rfl
theorem dp_bl_inv {F : Hp} {v : V} {b : Bool} (h : Dp K F v (.bool b)) : v = .bl b := by cases h; rfl
theorem dp_str_inv {F : Hp} {v : V} {x : Str} (h : Dp K F v (.str x)) : v = .str x := by cases h; rfl
theorem dp_non_inv {F : Hp} {v : V} (h : Dp K F v .none) : v = .non := by cases h; rfl
theorem evd_eqI {i j : Int} (ha : EvD K ta δ (.int i)) (hb : EvD K tb δ (.int j)) : EvD K (tOp rEq ta tb) δ (.bool (decide (i = j))) :=
  (evd_eq ha hb (fun _ _ h => dp_int_inv h) (fun _ _ h => dp_int_inv h) rfl).to (by rw [dec_inj (fun _ _ z => V.int.inj z)])
theorem evd_neI {i j : Int} (ha : EvD K ta δ (.int i)) (hb : EvD K tb δ (.int j)) : EvD K (tOp rNe ta tb) δ (.bool (!decide (i = j))) :=
  (evd_ne ha hb (fun _ _ h => dp_int_inv h) (fun _ _ h => dp_int_inv h) rfl).to (by rw [dec_inj (fun _ _ z => V.int.inj z)])
theorem evd_eqB {i j : Bool} (ha : EvD K ta δ (.bool i)) (hb : EvD K tb δ (.bool j)) : EvD K (tOp rEq ta tb) δ (.bool (decide (i = j))) :=
  (evd_eq ha hb (fun _ _ h => dp_bl_inv h) (fun _ _ h => dp_bl_inv h) rfl).to (by rw [dec_inj (fun _ _ z => V.bl.inj z)])
theorem evd_neB {i j : Bool} (ha : EvD K ta δ (.bool i)) (hb : EvD K tb δ (.bool j)) : EvD K (tOp rNe ta tb) δ (.bool (!decide (i = j))) :=
  (evd_ne ha hb (fun _ _ h => dp_bl_inv h) (fun _ _ h => dp_bl_inv h) rfl).to (by rw [dec_inj (fun _ _ z => V.bl.inj z)])
theorem evd_eqS {i j : Str} (ha : EvD K ta δ (.str i)) (hb : EvD K tb δ (.str j)) : EvD K (tOp rEq ta tb) δ (.bool (decide (i = j))) :=
  (evd_eq ha hb (fun _ _ h => dp_str_inv h) (fun _ _ h => dp_str_inv h) rfl).to (by rw [dec_inj (fun _ _ z => V.str.inj z)])
def isNone : D → Bool
  | .none => true
  | _ => false
theorem isNone_dp {F : Hp} {v : V} {d : D} (h : Dp K F v d) : decide (v = V.non) = isNone d := by
  cases h <;> rfl
theorem evd_isN (ha : EvD K ta δ d) : EvD K (tOp (fun x y H Q => y = .non ∧ Q (.bl (decide (x = .non))) H) ta (tC .non)) δ (.bool (isNone d)) :=
  evd_op ha evd_non fun F1 H1 a b s da db Q q => ⟨dp_non_inv db, q _ F1 H1 (.refl s) (by rw [isNone_dp da]; exact .bl _)⟩
theorem evd_notN (ha : EvD K ta δ d) : EvD K (tOp (fun x y H Q => y = .non ∧ Q (.bl (!decide (x = .non))) H) ta (tC .non)) δ (.bool (!isNone d)) :=
  evd_op ha evd_non fun F1 H1 a b s da db Q q => ⟨dp_non_inv db, q _ F1 H1 (.refl s) (by rw [isNone_dp da]; exact .bl _)⟩
/-! items, lengths, slices -/
theorem evd_ixT {ds : List D} {i : Int} (ha : EvD K ta δ (.tuple ds)) (hb : EvD K tb δ (.int i)) (h : atI ds i = some d) : EvD K (tOp (rIxT K) ta tb) δ d :=
  evd_op ha hb fun F1 H1 a b s da db Q q => by
    cases db
    cases da with
    | tup hs hall =>
      unfold atI at h
      rw [← dpa_length hall] at h
      obtain ⟨j, h1, h2⟩ := Option.bind_eq_some_iff.mp h
      obtain ⟨v, hv, dv⟩ := dpa_get hall h2
      exact ⟨_, _, i, v, rfl, rfl, sqt_sub s hs, by unfold atI; rw [h1]; exact hv, q v F1 H1 (.refl s) dv⟩
theorem evd_ixL {ds : List D} {i : Int} (ha : EvD K ta δ (.list ds)) (hb : EvD K tb δ (.int i)) (h : atI ds i = some d) : EvD K (tOp (rIxL K) ta tb) δ d :=
  evd_op ha hb fun F1 H1 a b s da db Q q => by
    cases db
    cases da with
    | lst hs hall =>
      unfold atI at h
      rw [← dpa_length hall] at h
      obtain ⟨j, h1, h2⟩ := Option.bind_eq_some_iff.mp h
      obtain ⟨v, hv, dv⟩ := dpa_get hall h2
      exact ⟨_, _, i, v, rfl, rfl, sql_sub s hs, by unfold atI; rw [h1]; exact hv, q v F1 H1 (.refl s) dv⟩
theorem evo_none : EvO K tNoPart δ none := fun σ F H dσ s Q q => q F H (.refl s)
theorem evo_some {i : Int} (h : EvD K te δ (.int i)) : EvO K (tPart te) δ (some i) := fun σ F H dσ s Q q => h σ F H dσ s _ fun v F2 H2 g2 dv => by
  cases dv
  exact ⟨i, rfl, q F2 H2 g2⟩
def cutDs (ds : List D) (lo hi : Option Int) : List D := (ds.drop (HT.sIx ds.length 0 lo)).take (HT.sIx ds.length ds.length hi - HT.sIx ds.length 0 lo)
theorem dpa_cut {F : Hp} {xs : List V} {ds : List D} (h : DpAll K F xs ds) (lo hi : Option Int) : DpAll K F (cutV xs lo hi) (cutDs ds lo hi) := by
  unfold cutV cutDs
  rw [dpa_length h]
  exact dpa_take _ (dpa_drop _ h)
theorem evd_slL {tl th : TO} {ds : List D} {lo hi : Option Int} (h : EvD K te δ (.list ds)) (h1 : EvO K tl δ lo) (h2 : EvO K th δ hi) : EvD K (tSl (rSlL K) te tl th) δ (.list (cutDs ds lo hi)) := fun σ F H dσ s Q q =>
  h σ F H dσ s _ fun x F2 H2 g2 dx => h1 σ F2 H2 (dσ.sub (g2.ext s)) g2.sub _ fun F3 H3 g3 => h2 σ F3 H3 (dσ.sub ((g2.trans g3).ext s)) g3.sub _ fun F4 H4 g4 => by
    cases dx with
    | lst hs ha =>
      exact ⟨_, _, rfl, sql_sub (((g3.trans g4).ext g2.sub).trans g4.sub) hs, fun p hp => q (.ref p) (upd F4 p _) _ (((g2.trans g3).trans g4).trans (.new g4.sub hp))
        (.lst (.inl (.inl upd_same)) (dpa_sub (((g3.trans g4).ext g2.sub).trans (Sub.upd_new (g4.sub.gone hp))) (dpa_cut ha lo hi)))⟩
/-! arguments, displays, calls -/
theorem eva_nil : EvA K tNil δ [] := fun σ F H dσ s Q q => q [] F H (.refl s) .nil
theorem eva_cons {tr : TA} {ds : List D} (h : EvD K te δ d) (hr : EvA K tr δ ds) : EvA K (tCons te tr) δ (d :: ds) := fun σ F H dσ s Q q =>
  h σ F H dσ s _ fun x F2 H2 g2 dx => hr σ F2 H2 (dσ.sub (g2.ext s)) g2.sub _ fun vs F3 H3 g3 dvs => q (x :: vs) F3 H3 (g2.trans g3) (.cons (dp_sub (g3.ext g2.sub) dx) dvs)
theorem evd_tup {tr : TA} {ds : List D} (h : EvA K tr δ ds) (hl : ds.length ≤ 100000) : EvD K (tTup tr) δ (.tuple ds) := fun σ F H dσ s Q q =>
  h σ F H dσ s _ fun vs F2 H2 g2 dvs => ⟨Nat.le_trans (by rw [dpa_length dvs]; exact hl) (by decide), fun p hp =>
    q (.ref p) (upd F2 p (.tup vs)) _ (g2.trans (.new g2.sub hp)) (.tup (.inl (.inl upd_same)) (dpa_sub (Sub.upd_new (g2.sub.gone hp)) dvs))⟩
theorem evd_lst {tr : TA} {ds : List D} (h : EvA K tr δ ds) (hl : ds.length ≤ 100000) : EvD K (tLst tr) δ (.list ds) := fun σ F H dσ s Q q =>
  h σ F H dσ s _ fun vs F2 H2 g2 dvs => ⟨Nat.le_trans (by rw [dpa_length dvs]; exact hl) (by decide), fun p hp =>
    q (.ref p) (upd F2 p (.lst vs)) _ (g2.trans (.new g2.sub hp)) (.lst (.inl (.inl upd_same)) (dpa_sub (Sub.upd_new (g2.sub.gone hp)) dvs))⟩
/-- a def's promise over data: n arguments that keep pre, the answer f of them -/
def spF (K : PySem.W.Frag) (n : Nat) (pre : List D → Prop) (f : List D → D) : Sp := fun vs H Q _ => ∃ (F : Hp) (ds : List D), ds.length = n ∧ Sub F H ∧ DpAll K F vs ds ∧ pre ds ∧ ∀ v F' H', Gr0 F H F' H' → Dp K F' v (f ds) → Q v H'
theorem spF_len {n : Nat} {pre : List D → Prop} {f : List D → D} {vs : List V} {H : Hp} {Q : VK} {E : XK} (h : spF K n pre f vs H Q E) : vs.length = n := by
  obtain ⟨F, ds, hl, _, hd, _⟩ := h
  rw [dpa_length hd, hl]
theorem evd_call {n : Nat} {pre : List D → Prop} {f : List D → D} {E : XK} {tr : TA} {ds : List D} (h : EvA K tr δ ds) (hn : ds.length = n) (hp : pre ds) (hd : f ds = d) : EvD K (tCall (spF K n pre f) [] E tr) δ d := fun σ F H dσ s Q q =>
  h σ F H dσ s _ fun vs F2 H2 g2 dvs => ⟨F2, ds, hn, g2.sub, by rw [List.append_nil]; exact dvs, hp, fun v F3 H3 g3 dv => q v F3 H3 (g2.trans g3) (by rw [← hd]; exact dv)⟩
/-- a built-in's call that only reads and makes -/
theorem evd_cb {rr : List V → Hp → VK → Prop} {tr : TA} {ds : List D} (h : EvA K tr δ ds) (hr : ∀ (F H : Hp) (vs : List V), Sub F H → DpAll K F vs ds → ∀ Q : VK, (∀ v F2 H2, Gr0 F H F2 H2 → Dp K F2 v d → Q v H2) → rr vs H Q) : EvD K (tCB rr tr) δ d := fun σ F H dσ s Q q =>
  h σ F H dσ s _ fun vs F2 H2 g2 dvs => hr F2 H2 vs g2.sub dvs Q fun v F3 H3 g3 dv => q v F3 H3 (g2.trans g3) dv
def seqLen : D → Option Nat
  | .list ds => some ds.length
  | .tuple ds => some ds.length
  | _ => none
theorem evd_len {n : Nat} (h : EvD K te δ d) (hn : seqLen d = some n) : EvD K (tCB (fun xs H Q => ∃ p ys, xs = [.ref p] ∧ (SqL K H p ys ∨ SqT K H p ys) ∧ Q (.int ys.length) H) (tCons te tNil)) δ (.int (n : Int)) :=
  evd_cb (eva_cons h eva_nil) fun F1 H1 vs s dvs Q q => by
    cases dvs with
    | cons dx dn =>
      cases dn
      cases dx with
      | lst hs ha =>
        cases hn
        exact ⟨_, _, rfl, .inl (sql_sub s hs), by rw [dpa_length ha]; exact q _ F1 H1 (.refl s) (.int _)⟩
      | tup hs ha =>
        cases hn
        exact ⟨_, _, rfl, .inr (sqt_sub s hs), by rw [dpa_length ha]; exact q _ F1 H1 (.refl s) (.int _)⟩
      | _ => cases hn
theorem evd_isi {T : String} {b : Bool} (h : EvD K te δ d) (hb : kitB (tyD d) T = some b) : EvD K (tCB (rIsi K) (tCons te (tCons (tC (.ty T)) tNil))) δ (.bool b) := fun σ F H dσ s Q q =>
  h σ F H dσ s _ fun v F2 H2 g2 dv => ⟨v, .ty T, _, _, b, rfl, .ty T, tyx_dp (dp_sub g2.sub dv), kit_ty hb, q _ F2 H2 g2 (.bl b)⟩
def isD (T : String) (d : D) : Bool := tyD d == T || (tyD d == "bool" && T == "int")
theorem kit_tab : ∀ t ∈ ["NoneType", "bool", "int", "str", "list", "tuple", "dict"], ∀ T ∈ ["bool", "int", "str", "list", "tuple"], kitB t T = some (t == T || (t == "bool" && T == "int")) := by decide +kernel
theorem tyD_mem (d : D) : tyD d ∈ ["NoneType", "bool", "int", "str", "list", "tuple", "dict"] := by
  cases d <;> simp [tyD]
theorem evd_isiD {T : String} (h : EvD K te δ d) (hT : T ∈ ["bool", "int", "str", "list", "tuple"]) : EvD K (tCB (rIsi K) (tCons te (tCons (tC (.ty T)) tNil))) δ (.bool (isD T d)) := evd_isi h (kit_tab _ (tyD_mem d) _ hT)
theorem evd_all {bs : List Bool} (h : EvD K te δ (.list (bs.map PyData.bool))) : EvD K (tCB (rAll K) (tCons te tNil)) δ (.bool (bs.all id)) :=
  evd_cb (eva_cons h eva_nil) fun F1 H1 vs s dvs Q q => by
    cases dvs with
    | cons dx dn =>
      cases dn
      cases dx with
      | lst hs ha => exact ⟨_, bs, rfl, by rw [← dpa_bls ha]; exact sql_sub s hs, q _ F1 H1 (.refl s) (.bl _)⟩
theorem evd_any {bs : List Bool} (h : EvD K te δ (.list (bs.map PyData.bool))) : EvD K (tCB (rAny K) (tCons te tNil)) δ (.bool (bs.any id)) :=
  evd_cb (eva_cons h eva_nil) fun F1 H1 vs s dvs Q q => by
    cases dvs with
    | cons dx dn =>
      cases dn
      cases dx with
      | lst hs ha => exact ⟨_, bs, rfl, by rw [← dpa_bls ha]; exact sql_sub s hs, q _ F1 H1 (.refl s) (.bl _)⟩
theorem evd_tupleL {ds : List D} (h : EvD K te δ (.list ds)) : EvD K (tCB (fun xs H Q => ∃ p ys, xs = [.ref p] ∧ ((SqL K H p ys ∧ ∀ l, H l = none → Q (.ref l) (upd H l (.tup ys))) ∨ (SqT K H p ys ∧ Q (.ref p) H))) (tCons te tNil)) δ (.tuple ds) :=
  evd_cb (eva_cons h eva_nil) fun F1 H1 vs s dvs Q q => by
    cases dvs with
    | cons dx dn =>
      cases dn
      cases dx with
      | lst hs ha => exact ⟨_, _, rfl, .inl ⟨sql_sub s hs, fun l hl => q (.ref l) (upd F1 l _) _ (.new s hl) (.tup (.inl (.inl upd_same)) (dpa_sub (Sub.upd_new (s.gone hl)) ha))⟩⟩
theorem evd_min2 {i j : Int} {tr : TA} (h : EvA K tr δ [.int i, .int j]) : EvD K (tCB (fun xs H Q => ∃ i j, xs = [.int i, .int j] ∧ Q (.int (if j < i then j else i)) H) tr) δ (.int (if j < i then j else i)) :=
  evd_cb h fun F1 H1 vs s dvs Q q => by
    cases dvs with
    | cons dx dn => cases dx; cases dn with
      | cons dy dn => cases dy; cases dn; exact ⟨i, j, rfl, q _ F1 H1 (.refl s) (.int _)⟩
theorem evd_max2 {i j : Int} {tr : TA} (h : EvA K tr δ [.int i, .int j]) : EvD K (tCB (fun xs H Q => ∃ i j, xs = [.int i, .int j] ∧ Q (.int (if j > i then j else i)) H) tr) δ (.int (if j > i then j else i)) :=
  evd_cb h fun F1 H1 vs s dvs Q q => by
    cases dvs with
    | cons dx dn => cases dx; cases dn with
      | cons dy dn => cases dy; cases dn; exact ⟨i, j, rfl, q _ F1 H1 (.refl s) (.int _)⟩
/-! tests, and, or, not -/
theorem evt_test {b : Bool} (h : EvD K te δ (.bool b)) : EvT K (tTest te) δ b := fun σ F H dσ s Q q => h σ F H dσ s _ fun v F2 H2 g2 dv => ⟨b, dp_bl_inv dv, q F2 H2 g2⟩
theorem evt_B {b : Bool} (h : EvD K te δ (.bool b)) : EvT K (tB te) δ b := fun σ F H dσ s Q q => h σ F H dσ s _ fun v F2 H2 g2 dv => ⟨b, dp_bl_inv dv, q F2 H2 g2⟩
theorem evt_not {b : Bool} (h : EvT K t δ b) : EvT K (tNot t) δ (!b) := fun σ F H dσ s Q q => h σ F H dσ s _ fun F2 H2 g2 => q F2 H2 g2
theorem evt_and {a b : Bool} (h1 : EvT K t δ a) (h2 : a = true → EvT K u δ b) : EvT K (tAnd t u) δ (a && b) := fun σ F H dσ s Q q => h1 σ F H dσ s _ fun F2 H2 g2 => by
  cases a with
  | true => exact iteT (h2 rfl σ F2 H2 (dσ.sub (g2.ext s)) g2.sub Q fun F3 H3 g3 => q F3 H3 (g2.trans g3))
  | false => exact iteF (q F2 H2 g2)
theorem evt_or {a b : Bool} (h1 : EvT K t δ a) (h2 : a = false → EvT K u δ b) : EvT K (tOr t u) δ (a || b) := fun σ F H dσ s Q q => h1 σ F H dσ s _ fun F2 H2 g2 => by
  cases a with
  | true => exact iteT (q F2 H2 g2)
  | false => exact iteF (h2 rfl σ F2 H2 (dσ.sub (g2.ext s)) g2.sub Q fun F3 H3 g3 => q F3 H3 (g2.trans g3))
theorem evd_andV {a b : Bool} (h1 : EvD K ta δ (.bool a)) (h2 : a = true → EvD K tb δ (.bool b)) : EvD K (tAndV ta tb) δ (.bool (a && b)) := fun σ F H dσ s Q q => h1 σ F H dσ s _ fun v F2 H2 g2 dv => ⟨a, dp_bl_inv dv, by
  cases a with
  | true => exact iteT (h2 rfl σ F2 H2 (dσ.sub (g2.ext s)) g2.sub Q fun w F3 H3 g3 dw => q w F3 H3 (g2.trans g3) dw)
  | false => exact iteF (q _ F2 H2 g2 (.bl _))⟩
theorem evd_orV {a b : Bool} (h1 : EvD K ta δ (.bool a)) (h2 : a = false → EvD K tb δ (.bool b)) : EvD K (tOrV ta tb) δ (.bool (a || b)) := fun σ F H dσ s Q q => h1 σ F H dσ s _ fun v F2 H2 g2 dv => ⟨a, dp_bl_inv dv, by
  cases a with
  | true => exact iteT (q _ F2 H2 g2 (.bl _))
  | false => exact iteF (h2 rfl σ F2 H2 (dσ.sub (g2.ext s)) g2.sub Q fun w F3 H3 g3 dw => q w F3 H3 (g2.trans g3) dw)⟩
theorem evd_notV {a : Bool} (h1 : EvD K ta δ (.bool a)) : EvD K (tNotV ta) δ (.bool (!a)) := fun σ F H dσ s Q q => h1 σ F H dσ s _ fun v F2 H2 g2 dv => ⟨a, dp_bl_inv dv, q _ F2 H2 g2 (.bl _)⟩
theorem evd_if {b : Bool} (h : EvT K t δ b) (h1 : b = true → EvD K ta δ d) (h2 : b = false → EvD K tb δ d) : EvD K (tIf t ta tb) δ d := fun σ F H dσ s Q q => h σ F H dσ s _ fun F2 H2 g2 => by
  cases b with
  | true => exact iteT (h1 rfl σ F2 H2 (dσ.sub (g2.ext s)) g2.sub Q fun w F3 H3 g3 dw => q w F3 H3 (g2.trans g3) dw)
  | false => exact iteF (h2 rfl σ F2 H2 (dσ.sub (g2.ext s)) g2.sub Q fun w F3 H3 g3 dw => q w F3 H3 (g2.trans g3) dw)
/-- a < b < c and its like over ints -/
theorem evd_chain {f g : Int → Int → Bool} {i j k : Int} (ha : EvD K ta δ (.int i)) (hb : EvD K tb δ (.int j)) (hc : EvD K tc δ (.int k)) : EvD K (tChain (rI0 fun i j => .bl (f i j)) (rI0 fun i j => .bl (g i j)) ta tb tc) δ (.bool (f i j && g j k)) := fun σ F H dσ s Q q =>
  ha σ F H dσ s _ fun x F2 H2 g2 dx => hb σ F2 H2 (dσ.sub (g2.ext s)) g2.sub _ fun y F3 H3 g3 dy => by
    cases dx; cases dy
    refine ⟨i, j, rfl, rfl, f i j, rfl, ?_⟩
    cases e : f i j with
    | true => exact iteT (hc σ F3 H3 (dσ.sub ((g2.trans g3).ext s)) g3.sub _ fun z F4 H4 g4 dz => by
        cases dz
        exact ⟨j, k, rfl, rfl, q _ F4 H4 ((g2.trans g3).trans g4) (by rw [e, Bool.true_and]; exact .bl _)⟩)
    | false => exact iteF (q _ F3 H3 (g2.trans g3) (by rw [e, Bool.false_and]; exact .bl _))
/-! ### blocks -/
variable {t1 t2 : TS} {W : Wn} {Ex : XK}
theorem evb_seq (h : EvB K Ex t1 δ { W with nx := fun δ' => EvB K Ex t2 δ' W }) : EvB K Ex (tSeq t1 t2) δ W := fun σ F H E dσ s m =>
  h σ F H { E with nx := t2 E } dσ s ⟨m.ex, m.rt, fun σ' δ' F2 H2 g2 d2 h2 => h2 σ' F2 H2 E d2 g2.sub (m.go g2), m.ct, m.bk⟩
theorem evb_asg (h : EvD K te δ e) (hr : W.nx (δ.set i (some e))) : EvB K Ex (tAsg te (gName i)) δ W := fun σ F H E dσ s m =>
  h σ F H dσ s _ fun v F2 H2 g2 dv => m.nx _ _ F2 H2 g2 ((dσ.sub (g2.ext s)).set dv) hr
theorem evb_if {b : Bool} (h : EvT K t δ b) (h1 : b = true → EvB K Ex t1 δ W) (h2 : b = false → EvB K Ex t2 δ W) : EvB K Ex (tIfS t t1 t2) δ W := fun σ F H E dσ s m => h σ F H dσ s _ fun F2 H2 g2 => by
  cases b with
  | true => exact iteT (h1 rfl σ F2 H2 E (dσ.sub (g2.ext s)) g2.sub (m.go g2))
  | false => exact iteF (h2 rfl σ F2 H2 E (dσ.sub (g2.ext s)) g2.sub (m.go g2))
theorem evb_ret (h : EvD K te δ d) (hr : W.rt d) : EvB K Ex (tRet te) δ W := fun σ F H E dσ s m => h σ F H dσ s _ fun v F2 H2 g2 dv => m.rt v d F2 H2 g2 dv hr
theorem evb_retN (hr : W.rt .none) : EvB K Ex tRetN δ W := fun σ F H E dσ s m => m.rt .non .none F H (.refl s) .non hr
theorem evb_next (hr : W.nx δ) : EvB K Ex tNext δ W := fun σ F H E dσ s m => m.nx σ δ F H (.refl s) dσ hr
theorem evb_cont (hr : W.ct δ) : EvB K Ex tCont δ W := fun σ F H E dσ s m => m.ct σ δ F H (.refl s) dσ hr
theorem evb_break (hr : W.bk δ) : EvB K Ex tBreak δ W := fun σ F H E dσ s m => m.bk σ δ F H (.refl s) dσ hr
theorem evb_drop (h : EvD K te δ e) (hr : W.nx δ) : EvB K Ex (tDrop te) δ W := fun σ F H E dσ s m =>
  h σ F H dσ s _ fun v F2 H2 g2 dv => m.nx _ _ F2 H2 g2 (dσ.sub (g2.ext s)) hr
/-- a target that takes the datum d -/
def Tgt (K : PySem.W.Frag) (g : TG) (δ : DS) (d : D) (vs : List Nat) (δ' : DS) : Prop := ∀ (x : V) (σ : L2.St) (F H : Hp) (Q : L2.St → Hp → Prop), DpS K F σ δ → Sub F H → Dp K F x d → (∀ σ2, DpS K F σ2 δ' → wipe σ2 vs = wipe σ vs → Q σ2 H) → g x σ H Q
theorem set_set_none {σ : L2.St} {v : Nat} {x : Option V} : (σ.set v x).set v none = σ.set v none := by rw [List.set_set]
theorem wipe_set {σ : L2.St} {x : Option V} : ∀ {vs : List Nat} {v : Nat}, v ∈ vs → wipe (σ.set v x) vs = wipe σ vs
  | [], _, h => by cases h
  | w :: vs, v, h => by
    show (wipe (σ.set v x) vs).set w none = (wipe σ vs).set w none
    by_cases hv : v ∈ vs
    · rw [wipe_set hv]
    · have e : v = w := (List.mem_cons.mp h).resolve_right hv
      subst e
      have com : ∀ (us : List Nat), v ∉ us → wipe (σ.set v x) us = (wipe σ us).set v x := by
        intro us
        induction us with
        | nil => intro _; rfl
        | cons a us ih =>
          intro hn
          show (wipe (σ.set v x) us).set a none = ((wipe σ us).set a none).set v x
          rw [ih (fun z => hn (List.mem_cons_of_mem _ z)), List.set_comm]
          exact fun z => hn (by rw [z]; exact List.mem_cons_self)
      rw [com vs hv, List.set_set]
theorem tgt_name {v : Nat} {vs : List Nat} (hv : v ∈ vs) : Tgt K (gName v) δ d vs (δ.set v (some d)) := fun x σ F H Q dσ s dx q => q _ (dσ.set dx) (wipe_set hv)
theorem tgt_pair {i j : Nat} {vs : List Nat} {d1 d2 : D} (hi : i ∈ vs) (hj : j ∈ vs) : Tgt K (gTup K 2 (gCons (gName i) (gCons (gName j) gNil))) δ (.tuple [d1, d2]) vs ((δ.set i (some d1)).set j (some d2)) := fun x σ F H Q dσ s dx q => by
  cases dx with
  | tup hs ha => cases ha with
    | cons h1 ha => cases ha with
      | cons h2 ha =>
        cases ha
        exact ⟨_, _, rfl, sqt_sub s hs, rfl, _, _, rfl, _, _, rfl, rfl, q _ ((dσ.set h1).set h2) (by rw [wipe_set hj, wipe_set hi])⟩
theorem tgt_five {a b c f g : Nat} {vs : List Nat} {d1 d2 d3 d4 d5 : D} (ha : a ∈ vs) (hb : b ∈ vs) (hc : c ∈ vs) (hf : f ∈ vs) (hg : g ∈ vs) : Tgt K (gTup K 5 (gCons (gName a) (gCons (gName b) (gCons (gName c) (gCons (gName f) (gCons (gName g) gNil)))))) δ (.tuple [d1, d2, d3, d4, d5]) vs (((((δ.set a (some d1)).set b (some d2)).set c (some d3)).set f (some d4)).set g (some d5)) := fun x σ F H Q dσ s dx q => by
  cases dx with
  | tup hs hh => cases hh with
    | cons h1 hh => cases hh with
      | cons h2 hh => cases hh with
        | cons h3 hh => cases hh with
          | cons h4 hh => cases hh with
            | cons h5 hh =>
              cases hh
              exact ⟨_, _, rfl, sqt_sub s hs, rfl, _, _, rfl, _, _, rfl, _, _, rfl, _, _, rfl, _, _, rfl, rfl, q _ (((((dσ.set h1).set h2).set h3).set h4).set h5) (by rw [wipe_set hg, wipe_set hf, wipe_set hc, wipe_set hb, wipe_set ha])⟩
/-- a, b = e -/
theorem evb_tgt {g : TG} {vs : List Nat} {δ' : DS} (h : EvD K te δ e) (ht : Tgt K g δ e vs δ') (hr : W.nx δ') : EvB K Ex (tAsg te g) δ W := fun σ F H E dσ s m =>
  h σ F H dσ s _ fun v F2 H2 g2 dv => ht v σ F2 H2 _ (dσ.sub (g2.ext s)) g2.sub dv fun σ2 d2 _ => m.nx σ2 δ' F2 H2 g2 d2 hr
/-! ### loops -/
/-- one turn over data: I i of the slots ahead of it -/
theorem evb_turn {g : TG} {ts : TS} {δ : DS} {I : Nat → DS → Prop} {i : Nat} {x : V} {vs : List Nat} {F0 H0 H : Hp} {E : Ends} {σ : L2.St} {N : L2.St → Hp → Prop} (m : Meets K Ex F0 H0 W E)
    (hI : ∃ Fi δi, Gr0 F0 H0 Fi H ∧ DpS K Fi σ δi ∧ I i δi) (dx : Dp K F0 x d) (s : Sub F0 H0)
    (hb : ∀ δi, I i δi → ∃ δ', Tgt K g δi d vs δ' ∧ EvB K Ex ts δ' { W with nx := I (i + 1), ct := I (i + 1), bk := W.nx })
    (hN : ∀ σ' H', (∃ Fi δi, Gr0 F0 H0 Fi H' ∧ DpS K Fi σ' δi ∧ I (i + 1) δi) → N σ' H') : g x σ H fun σ2 H2 => ts { E with nx := N, ct := N, bk := E.nx } σ2 H2 := by
  obtain ⟨Fi, δi, G, dσ, hi⟩ := hI
  obtain ⟨δ', hT, hB⟩ := hb δi hi
  refine hT x σ Fi H _ dσ G.sub (dp_sub (G.ext s) dx) fun σ2 d2 _ => ?_
  refine hB σ2 Fi H _ d2 G.sub ⟨fun x d F2 H2 g2 => m.ex x d F2 H2 (G.trans g2), fun v d F2 H2 g2 => m.rt v d F2 H2 (G.trans g2), fun σ' δ'' F2 H2 g2 dd h => hN σ' H2 ⟨F2, δ'', G.trans g2, dd, h⟩, fun σ' δ'' F2 H2 g2 dd h => hN σ' H2 ⟨F2, δ'', G.trans g2, dd, h⟩, fun σ' δ'' F2 H2 g2 dd h => m.nx σ' δ'' F2 H2 (G.trans g2) dd h⟩
theorem evb_forL {g : TG} {ts : TS} {vs : List Nat} {tl : TE} {ds : List D} (I : Nat → DS → Prop) (h : EvD K tl δ (.list ds)) (h0 : I 0 δ) (ht : ∀ i d, ds[i]? = some d → ∀ δi, I i δi → ∃ δ', Tgt K g δi d vs δ' ∧ EvB K Ex ts δ' { W with nx := I (i + 1), ct := I (i + 1), bk := W.nx })
    (hd : ∀ δn, I ds.length δn → W.nx δn) : EvB K Ex (tFor (iList K tl) g ts) δ W := fun σ F H E dσ s m =>
  h σ F H dσ s _ fun v F2 H2 g2 dv => by
    have m2 := m.go g2
    cases dv with
    | @lst a xs _ hs ha =>
      refine ⟨a, rfl, ⟨xs, sql_sub g2.sub hs⟩, fun i n σi Hi => n = ds.length - i ∧ i ≤ ds.length ∧ ∃ Fi δi, Gr0 F2 H2 Fi Hi ∧ DpS K Fi σi δi ∧ I i δi, ⟨_, rfl, Nat.zero_le _, F2, δ, .refl g2.sub, dσ.sub (g2.ext s), h0⟩, ?_⟩
      rintro i n σi Hi ⟨rfl, hi, hI⟩
      have hS : SqL K Hi a xs := by
        obtain ⟨Fi, δi, G, _⟩ := hI
        exact sql_sub (g2.sub.trans G.all) hs
      by_cases hlt : i < ds.length
      · have hlx : i < xs.length := by rw [dpa_length ha]; exact hlt
        have hx : xs[i]? = some xs[i] := List.getElem?_eq_getElem hlx
        refine .inr ⟨⟨xs, _, hS, hx⟩, fun σ' H' => ∃ Fi δi, Gr0 F2 H2 Fi H' ∧ DpS K Fi σ' δi ∧ I (i + 1) δi, fun σ' H' hN => ⟨ds.length - (i + 1), by omega, rfl, hlt, hN⟩, fun x H' hy => ?_⟩
        obtain ⟨rfl, fx⟩ := hy
        obtain ⟨d, hd', dx⟩ := dpa_getV ha (fx xs hS)
        exact evb_turn (δ := δ) (vs := vs) m2 hI dx g2.sub (ht i d hd') fun _ _ z => z
      · have e : i = ds.length := by omega
        subst e
        refine .inl ⟨⟨xs, hS, by rw [dpa_length ha]; exact Nat.le_refl _⟩, ?_⟩
        obtain ⟨Fi, δi, G, dd, hI⟩ := hI
        exact m2.nx σi δi Fi Hi G dd (hd δi hI)
theorem evb_forT {g : TG} {ts : TS} {vs : List Nat} {tl : TE} {ds : List D} (I : Nat → DS → Prop) (h : EvD K tl δ (.tuple ds)) (h0 : I 0 δ) (ht : ∀ i d, ds[i]? = some d → ∀ δi, I i δi → ∃ δ', Tgt K g δi d vs δ' ∧ EvB K Ex ts δ' { W with nx := I (i + 1), ct := I (i + 1), bk := W.nx })
    (hd : ∀ δn, I ds.length δn → W.nx δn) : EvB K Ex (tFor (iTup K tl) g ts) δ W := fun σ F H E dσ s m =>
  h σ F H dσ s _ fun v F2 H2 g2 dv => by
    have m2 := m.go g2
    cases dv with
    | @tup a xs _ hs ha =>
      refine ⟨a, rfl, ⟨xs, sqt_sub g2.sub hs⟩, fun i n σi Hi => n = ds.length - i ∧ i ≤ ds.length ∧ ∃ Fi δi, Gr0 F2 H2 Fi Hi ∧ DpS K Fi σi δi ∧ I i δi, ⟨_, rfl, Nat.zero_le _, F2, δ, .refl g2.sub, dσ.sub (g2.ext s), h0⟩, ?_⟩
      rintro i n σi Hi ⟨rfl, hi, hI⟩
      have hS : SqT K Hi a xs := by
        obtain ⟨Fi, δi, G, _⟩ := hI
        exact sqt_sub (g2.sub.trans G.all) hs
      by_cases hlt : i < ds.length
      · have hlx : i < xs.length := by rw [dpa_length ha]; exact hlt
        have hx : xs[i]? = some xs[i] := List.getElem?_eq_getElem hlx
        refine .inr ⟨⟨xs, _, hS, hx⟩, fun σ' H' => ∃ Fi δi, Gr0 F2 H2 Fi H' ∧ DpS K Fi σ' δi ∧ I (i + 1) δi, fun σ' H' hN => ⟨ds.length - (i + 1), by omega, rfl, hlt, hN⟩, fun x H' hy => ?_⟩
        obtain ⟨rfl, fx⟩ := hy
        obtain ⟨d, hd', dx⟩ := dpa_getV ha (fx xs hS)
        exact evb_turn (δ := δ) (vs := vs) m2 hI dx g2.sub (ht i d hd') fun _ _ z => z
      · have e : i = ds.length := by omega
        subst e
        refine .inl ⟨⟨xs, hS, by rw [dpa_length ha]; exact Nat.le_refl _⟩, ?_⟩
        obtain ⟨Fi, δi, G, dd, hI⟩ := hI
        exact m2.nx σi δi Fi Hi G dd (hd δi hI)
theorem forR {g : TG} {ts : TS} {vs : List Nat} {lo : Int} {n : Nat} {σ : L2.St} {F2 H2 : Hp} {E : Ends} (I : Nat → DS → Prop) (m2 : Meets K Ex F2 H2 W E) (s2 : Sub F2 H2) (dσ : DpS K F2 σ δ) (h0 : I 0 δ)
    (ht : ∀ i, i < n → ∀ δi, I i δi → ∃ δ', Tgt K g δi (.int (lo + (i : Nat))) vs δ' ∧ EvB K Ex ts δ' { W with nx := I (i + 1), ct := I (i + 1), bk := W.nx }) (hd : ∀ δn, I n δn → W.nx δn) :
    ∃ Wv : Nat → Nat → L2.St → Hp → Prop, (∃ m, Wv 0 m σ H2) ∧ ∀ i m σ H, Wv i m σ H → ((Itr lo n).stop i H ∧ E.nx σ H) ∨ ((Itr lo n).go i H ∧ ∃ N : L2.St → Hp → Prop, (∀ σ' H', N σ' H' → ∃ m', m' < m ∧ Wv (i + 1) m' σ' H') ∧ ∀ x H', (Itr lo n).yld i H x H' → g x σ H' fun σ2 H2 => ts { E with nx := N, ct := N, bk := E.nx } σ2 H2) := by
  refine ⟨fun i k σi Hi => k = n - i ∧ i ≤ n ∧ ∃ Fi δi, Gr0 F2 H2 Fi Hi ∧ DpS K Fi σi δi ∧ I i δi, ⟨_, rfl, Nat.zero_le _, F2, δ, .refl s2, dσ, h0⟩, ?_⟩
  rintro i k σi Hi ⟨rfl, hi, hI⟩
  by_cases hlt : i < n
  · refine .inr ⟨hlt, fun σ' H' => ∃ Fi δi, Gr0 F2 H2 Fi H' ∧ DpS K Fi σ' δi ∧ I (i + 1) δi, fun σ' H' hN => ⟨n - (i + 1), by omega, rfl, hlt, hN⟩, fun x H' hy => ?_⟩
    obtain ⟨rfl, rfl⟩ := hy
    exact evb_turn (δ := δ) (vs := vs) (d := .int (lo + (i : Nat))) m2 hI (.int _) s2 (ht i hlt) fun _ _ z => z
  · have e : i = n := by omega
    subst e
    refine .inl ⟨Nat.le_refl _, ?_⟩
    obtain ⟨Fi, δi, G, dd, hI⟩ := hI
    exact m2.nx σi δi Fi Hi G dd (hd δi hI)
theorem evb_forR1 {g : TG} {ts : TS} {vs : List Nat} {ta : TA} {n : Nat} (I : Nat → DS → Prop) (h : EvA K ta δ [.int (n : Int)]) (hn : n < 2 ^ 62) (h0 : I 0 δ) (ht : ∀ i, i < n → ∀ δi, I i δi → ∃ δ', Tgt K g δi (.int (0 + (i : Nat))) vs δ' ∧ EvB K Ex ts δ' { W with nx := I (i + 1), ct := I (i + 1), bk := W.nx })
    (hd : ∀ δn, I n δn → W.nx δn) : EvB K Ex (tFor (iRng1 ta) g ts) δ W := fun σ F H E dσ s m =>
  h σ F H dσ s _ fun ws F2 H2 g2 dvs => by
    cases dvs with
    | cons dx dn =>
      cases dx; cases dn
      exact ⟨(n : Int), rfl, by omega, by omega, forR I (m.go g2) g2.sub (dσ.sub (g2.ext s)) h0 ht hd⟩
theorem evb_forR2 {g : TG} {ts : TS} {vs : List Nat} {ta : TA} {lo hi : Int} (I : Nat → DS → Prop) (h : EvA K ta δ [.int lo, .int hi]) (hb : -(2 ^ 62) ≤ lo ∧ lo < 2 ^ 62 ∧ -(2 ^ 62) ≤ hi ∧ hi < 2 ^ 62) (h0 : I 0 δ)
    (ht : ∀ i, i < (hi - lo).toNat → ∀ δi, I i δi → ∃ δ', Tgt K g δi (.int (lo + (i : Nat))) vs δ' ∧ EvB K Ex ts δ' { W with nx := I (i + 1), ct := I (i + 1), bk := W.nx }) (hd : ∀ δn, I (hi - lo).toNat δn → W.nx δn) : EvB K Ex (tFor (iRng2 ta) g ts) δ W := fun σ F H E dσ s m =>
  h σ F H dσ s _ fun ws F2 H2 g2 dvs => by
    cases dvs with
    | cons dx dn =>
      cases dx; cases dn with
      | cons dy dn =>
        cases dy; cases dn
        exact ⟨lo, hi, rfl, hb, forR I (m.go g2) g2.sub (dσ.sub (g2.ext s)) h0 ht hd⟩
/-! ### comprehensions -/
/-- one turn of a comprehension over data: the target takes d, the test is p, the item f -/
def Turn1 (K : PySem.W.Frag) (g : TG) (tt : TT) (te : TE) (vs : List Nat) (δ : DS) (d : D) (p : D → Bool) (f : D → D) : Prop :=
  ∃ δ', Tgt K g (wipeD δ vs) d vs δ' ∧ EvT K tt δ' (p d) ∧ (p d = true → EvD K te δ' (f d))
def LcI (K : PySem.W.Frag) (F1 H1 : Hp) (Dd : Addr) (rs : List D) (H : Hp) : Prop := ∃ Fi acc, Gr0 F1 H1 Fi H ∧ Fi Dd = none ∧ H Dd = some (.lst acc) ∧ DpAll K Fi acc rs
theorem lci_start {F1 H1 : Hp} {Dd : Addr} (s : Sub F1 H1) (h : H1 Dd = none) : LcI K F1 H1 Dd [] (upd H1 Dd (.lst [])) := ⟨F1, [], .fresh s h, s.gone h, upd_same, .nil⟩
theorem wipe_wipe {σ2 σ : L2.St} {vs : List Nat} (h : wipe σ2 vs = wipe (wipe σ vs) vs) : wipe σ2 vs = wipe σ vs := by
  have key : ∀ us : List Nat, wipe (wipe σ us) us = wipe σ us := by
    intro us
    have step : ∀ (us ws : List Nat) (τ : L2.St), (∀ u ∈ us, u ∈ ws) → wipe (wipe τ us) ws = wipe τ ws := by
      intro us
      induction us with
      | nil => intro ws τ _; rfl
      | cons a us ih =>
        intro ws τ hs
        show wipe ((wipe τ us).set a none) ws = wipe τ ws
        rw [wipe_set (hs a List.mem_cons_self)]
        exact ih ws τ fun u hu => hs u (List.mem_cons_of_mem _ hu)
    exact step us us σ fun _ z => z
  rw [h, key]
theorem lci_turn {g : TG} {vs : List Nat} {F1 H1 : Hp} {Dd : Addr} {rs : List D} {x : V} {p : D → Bool} {f : D → D} {H : Hp} {σ : L2.St} (s : Sub F1 H1) (dσ : DpS K F1 σ δ) (dx : Dp K F1 x d) (h : H1 Dd = none) (hl : rs.length < 100000) (I : LcI K F1 H1 Dd rs H) (ht : Turn1 K g t te vs δ d p f) {P : Hp → Prop}
    (hP : ∀ H', LcI K F1 H1 Dd (rs ++ if p d = true then [f d] else []) H' → P H') :
    g x (wipe σ vs) H fun σ2 H2 => wipe σ2 vs = wipe σ vs ∧ t σ2 H2 fun b H3 => if b = true then te σ2 H3 fun y H4 => ∃ acc, H4 Dd = some (.lst acc) ∧ acc.length < sizeLine ∧ P (upd H4 Dd (.lst (acc ++ [y]))) else P H3 := by
  obtain ⟨Fi, acc, G, fD, hD, da⟩ := I
  obtain ⟨δ', hT, hE1, hE2⟩ := ht
  refine hT x (wipe σ vs) Fi H _ ((dσ.sub (G.ext s)).wipe vs) G.sub (dp_sub (G.ext s) dx) fun σ2 d2 hw => ⟨wipe_wipe hw, ?_⟩
  refine hE1 σ2 Fi H d2 G.sub _ fun F3 H3 g3 => ?_
  have hD3 := g3.keep Dd _ (fun z => z) hD
  have fD3 : F3 Dd = none := (g3.old Dd _ hD).trans fD
  cases e : p d with
  | true =>
    refine iteT (hE2 e σ2 F3 H3 (d2.sub (g3.ext G.sub)) g3.sub _ fun y F4 H4 g4 dy => ?_)
    have hD4 := g4.keep Dd _ (fun z => z) hD3
    have fD4 : F4 Dd = none := (g4.old Dd _ hD3).trans fD3
    refine ⟨acc, hD4, Nat.lt_of_lt_of_le (by rw [dpa_length da]; exact hl) (by decide), hP _ ⟨F4, _, ((G.trans g3).trans g4).own h fD4, fD4, upd_same, ?_⟩⟩
    rw [e]
    exact dpa_append (dpa_sub ((g3.ext G.sub).trans (g4.ext g3.sub)) da) (.cons dy .nil)
  | false =>
    refine iteF (hP _ ⟨F3, acc, G.trans g3, fD3, hD3, ?_⟩)
    rw [e]
    show DpAll K F3 acc (rs ++ [])
    rw [List.append_nil]
    exact dpa_sub (g3.ext G.sub) da
theorem lci_end {F1 H1 : Hp} {Dd : Addr} {rs : List D} {H : Hp} {Q : VK} (h : H1 Dd = none) (I : LcI K F1 H1 Dd rs H) (q : ∀ v F2 H2, Gr0 F1 H1 F2 H2 → Dp K F2 v (.list rs) → Q v H2) : Q (.ref Dd) H := by
  obtain ⟨Fi, acc, G, fD, hD, da⟩ := I
  exact q (.ref Dd) (upd Fi Dd (.lst acc)) H (G.freeze h hD) (.lst (.inl (.inl upd_same)) (dpa_sub (Sub.upd_new fD) da))
theorem filt_take {p : D → Bool} {f : D → D} {ds : List D} {i : Nat} {d : D} (h : ds[i]? = some d) : ((ds.take (i + 1)).filter p).map f = ((ds.take i).filter p).map f ++ (if p d = true then [f d] else []) := by
  rw [List.take_add_one, h, List.filter_append, List.map_append]
  congr 1
  cases e : p d <;> simp [e]
theorem filt_le {p : D → Bool} {f : D → D} (ds : List D) (i : Nat) : (((ds.take i).filter p).map f).length ≤ i := by
  rw [List.length_map]
  exact Nat.le_trans (List.length_filter_le _ _) (List.length_take_le _ _)
theorem evd_lcL {tl : TE} {g : TG} {vs : List Nat} {ds : List D} {p : D → Bool} {f : D → D} (h : EvD K tl δ (.list ds)) (hl : ds.length ≤ 100000) (ht : ∀ d ∈ ds, Turn1 K g t te vs δ d p f) : EvD K (tLc (iList K tl) g t te vs) δ (.list ((ds.filter p).map f)) := fun σ F H dσ s Q q =>
  h σ F H dσ s _ fun v F2 H2 g2 dv => by
    cases dv with
    | @lst a xs _ hs ha =>
      refine ⟨a, rfl, ⟨xs, sql_sub g2.sub hs⟩, fun Dd hD => ?_⟩
      refine lc_list (xs := xs) (fun i H => LcI K F2 H2 Dd (((ds.take i).filter p).map f) H) (lci_start g2.sub hD) (fun i H _ ⟨Fi, acc, G, _⟩ => sql_sub (g2.sub.trans G.all) hs) (fun i x H hx I => ?_) (fun H I => ?_)
      · obtain ⟨d, hd, dx⟩ := dpa_getV ha hx
        have hi : i < ds.length := (List.getElem?_eq_some_iff.mp hd).1
        refine lci_turn g2.sub (dσ.sub (g2.ext s)) dx hD (Nat.lt_of_le_of_lt (filt_le ds i) (Nat.lt_of_lt_of_le hi hl)) I (ht d (List.mem_of_getElem? hd)) fun H' I' => ?_
        rw [filt_take hd]
        exact I'
      · rw [dpa_length ha, List.take_length] at I
        exact lci_end hD I fun w F3 H3 g3 dw => q w F3 H3 (g2.trans g3) dw
theorem evd_lcT {tl : TE} {g : TG} {vs : List Nat} {ds : List D} {p : D → Bool} {f : D → D} (h : EvD K tl δ (.tuple ds)) (hl : ds.length ≤ 100000) (ht : ∀ d ∈ ds, Turn1 K g t te vs δ d p f) : EvD K (tLc (iTup K tl) g t te vs) δ (.list ((ds.filter p).map f)) := fun σ F H dσ s Q q =>
  h σ F H dσ s _ fun v F2 H2 g2 dv => by
    cases dv with
    | @tup a xs _ hs ha =>
      refine ⟨a, rfl, ⟨xs, sqt_sub g2.sub hs⟩, fun Dd hD => ?_⟩
      refine lc_tup (xs := xs) (fun i H => LcI K F2 H2 Dd (((ds.take i).filter p).map f) H) (lci_start g2.sub hD) (fun i H _ ⟨Fi, acc, G, _⟩ => sqt_sub (g2.sub.trans G.all) hs) (fun i x H hx I => ?_) (fun H I => ?_)
      · obtain ⟨d, hd, dx⟩ := dpa_getV ha hx
        have hi : i < ds.length := (List.getElem?_eq_some_iff.mp hd).1
        refine lci_turn g2.sub (dσ.sub (g2.ext s)) dx hD (Nat.lt_of_le_of_lt (filt_le ds i) (Nat.lt_of_lt_of_le hi hl)) I (ht d (List.mem_of_getElem? hd)) fun H' I' => ?_
        rw [filt_take hd]
        exact I'
      · rw [dpa_length ha, List.take_length] at I
        exact lci_end hD I fun w F3 H3 g3 dw => q w F3 H3 (g2.trans g3) dw
/-- lo, lo + 1, .. as data -/
def rngD (lo : Int) (n : Nat) : List D := (List.range n).map fun i => .int (lo + (i : Nat))
theorem rngD_length (lo : Int) (n : Nat) : (rngD lo n).length = n := by unfold rngD; rw [List.length_map, List.length_range]
theorem rngD_get {lo : Int} {n i : Nat} (h : i < n) : (rngD lo n)[i]? = some (.int (lo + (i : Nat))) := by
  unfold rngD
  rw [List.getElem?_map, List.getElem?_range h]
  rfl
theorem lcR {g : TG} {vs : List Nat} {p : D → Bool} {f : D → D} {lo : Int} {n : Nat} {σ : L2.St} {F2 H2 : Hp} {Q : VK} (s2 : Sub F2 H2) (dσ : DpS K F2 σ δ) (hl : n ≤ 100000)
    (ht : ∀ (d : Int), lo ≤ d → d < lo + n → Turn1 K g t te vs δ (.int d) p f) (q : ∀ v F3 H3, Gr0 F2 H2 F3 H3 → Dp K F3 v (.list (((rngD lo n).filter p).map f)) → Q v H3) (Dd : Addr) (hD : H2 Dd = none) :
    ∃ W : Nat → Nat → Hp → Prop, (∃ m, W 0 m (upd H2 Dd (.lst []))) ∧ ∀ i m H, W i m H →
    ((Itr lo n).stop i H ∧ Q (.ref Dd) H) ∨ ((Itr lo n).go i H ∧ ∃ Nx : Hp → Prop, (∀ H', Nx H' → ∃ m', m' < m ∧ W (i + 1) m' H') ∧ ∀ x H', (Itr lo n).yld i H x H' → g x (wipe σ vs) H' fun σ2 H2 => wipe σ2 vs = wipe σ vs ∧ t σ2 H2 fun b H3 =>
        if b = true then te σ2 H3 fun y H4 => ∃ acc, H4 Dd = some (.lst acc) ∧ acc.length < sizeLine ∧ Nx (upd H4 Dd (.lst (acc ++ [y]))) else Nx H3) := by
  refine lc_range (lo := lo) (n := n) (fun i H => LcI K F2 H2 Dd ((((rngD lo n).take i).filter p).map f) H) (lci_start s2 hD) (fun i H hi I => ?_) (fun H I => ?_)
  · refine lci_turn (d := .int (lo + (i : Nat))) s2 dσ (.int _) hD (Nat.lt_of_le_of_lt (filt_le _ i) (Nat.lt_of_lt_of_le hi hl)) I (ht _ (by omega) (by omega)) fun H' I' => ?_
    rw [filt_take (rngD_get hi)]
    exact I'
  · have e : (rngD lo n).take n = rngD lo n := List.take_of_length_le (by rw [rngD_length]; exact Nat.le_refl _)
    rw [e] at I
    exact lci_end hD I q
theorem evd_lcR1 {g : TG} {vs : List Nat} {ta : TA} {p : D → Bool} {f : D → D} {n : Nat} (h : EvA K ta δ [.int (n : Int)]) (hl : n ≤ 100000) (ht : ∀ (d : Int), 0 ≤ d → d < 0 + (n : Int) → Turn1 K g t te vs δ (.int d) p f) : EvD K (tLc (iRng1 ta) g t te vs) δ (.list (((rngD 0 n).filter p).map f)) := fun σ F H dσ s Q q =>
  h σ F H dσ s _ fun ws F2 H2 g2 dvs => by
    cases dvs with
    | cons dx dn =>
      cases dx; cases dn
      exact ⟨(n : Int), rfl, by omega, by omega, fun Dd hD => lcR g2.sub (dσ.sub (g2.ext s)) hl ht (fun v F3 H3 g3 => q v F3 H3 (g2.trans g3)) Dd hD⟩
theorem evd_lcR2 {g : TG} {vs : List Nat} {ta : TA} {p : D → Bool} {f : D → D} {lo hi : Int} (h : EvA K ta δ [.int lo, .int hi]) (h1 : -(2 ^ 62) ≤ lo ∧ lo < 2 ^ 62 ∧ -(2 ^ 62) ≤ hi ∧ hi < 2 ^ 62) (hl : (hi - lo).toNat ≤ 100000)
    (ht : ∀ (d : Int), lo ≤ d → d < lo + ((hi - lo).toNat : Nat) → Turn1 K g t te vs δ (.int d) p f) : EvD K (tLc (iRng2 ta) g t te vs) δ (.list (((rngD lo (hi - lo).toNat).filter p).map f)) := fun σ F H dσ s Q q =>
  h σ F H dσ s _ fun ws F2 H2 g2 dvs => by
    cases dvs with
    | cons dx dn =>
      cases dx; cases dn with
      | cons dy dn =>
        cases dy; cases dn
        exact ⟨lo, hi, rfl, h1, fun Dd hD => lcR g2.sub (dσ.sub (g2.ext s)) hl ht (fun v F3 H3 g3 => q v F3 H3 (g2.trans g3)) Dd hD⟩
theorem turn_yes : EvT K tYes δ true := fun σ F H dσ s Q q => q F H (.refl s)
theorem filt_all (ds : List D) : ds.filter (fun _ => true) = ds := by simp
/-- .. without a test, the target one name -/
theorem turn_one {v : Nat} {vs : List Nat} {f : D → D} (hv : v ∈ vs) (hE : EvD K te ((wipeD δ vs).set v (some d)) (f d)) : Turn1 K (gName v) tYes te vs δ d (fun _ => true) f := ⟨_, tgt_name hv, turn_yes, fun _ => hE⟩
theorem evd_lcT0 {tl : TE} {v : Nat} {ds : List D} {f : D → D} (h : EvD K tl δ (.tuple ds)) (hl : ds.length ≤ 100000) (ht : ∀ d ∈ ds, EvD K te ((wipeD δ [v]).set v (some d)) (f d)) : EvD K (tLc (iTup K tl) (gName v) tYes te [v]) δ (.list (ds.map f)) :=
  (evd_lcT (p := fun _ => true) h hl fun d hd => turn_one (by simp) (ht d hd)).to (by rw [filt_all])
theorem evd_lcL0 {tl : TE} {v : Nat} {ds : List D} {f : D → D} (h : EvD K tl δ (.list ds)) (hl : ds.length ≤ 100000) (ht : ∀ d ∈ ds, EvD K te ((wipeD δ [v]).set v (some d)) (f d)) : EvD K (tLc (iList K tl) (gName v) tYes te [v]) δ (.list (ds.map f)) :=
  (evd_lcL (p := fun _ => true) h hl fun d hd => turn_one (by simp) (ht d hd)).to (by rw [filt_all])
theorem evd_lcR10 {ta : TA} {v n : Nat} {f : D → D} (h : EvA K ta δ [.int (n : Int)]) (hl : n ≤ 100000) (ht : ∀ (d : Int), 0 ≤ d → d < 0 + (n : Int) → EvD K te ((wipeD δ [v]).set v (some (.int d))) (f (.int d))) : EvD K (tLc (iRng1 ta) (gName v) tYes te [v]) δ (.list ((rngD 0 n).map f)) :=
  (evd_lcR1 (p := fun _ => true) h hl fun d h1 h2 => turn_one (by simp) (ht d h1 h2)).to (by rw [filt_all])
theorem evd_lcR20 {ta : TA} {v : Nat} {lo hi : Int} {f : D → D} (h : EvA K ta δ [.int lo, .int hi]) (h1 : -(2 ^ 62) ≤ lo ∧ lo < 2 ^ 62 ∧ -(2 ^ 62) ≤ hi ∧ hi < 2 ^ 62) (hl : (hi - lo).toNat ≤ 100000) (ht : ∀ (d : Int), lo ≤ d → d < lo + ((hi - lo).toNat : Nat) → EvD K te ((wipeD δ [v]).set v (some (.int d))) (f (.int d))) :
    EvD K (tLc (iRng2 ta) (gName v) tYes te [v]) δ (.list ((rngD lo (hi - lo).toNat).map f)) :=
  (evd_lcR2 (p := fun _ => true) h h1 hl fun d h1 h2 => turn_one (by simp) (ht d h1 h2)).to (by rw [filt_all])
/-- xs.index(False), xs a list of truths with a False among them -/
theorem evd_indexF {bs : List Bool} {j : Nat} (h : EvD K te δ (.list (bs.map PyData.bool))) (hj : bs[j]? = some false) (hf : ∀ m, m < j → bs[m]? = some true) : EvD K (tBM K "list" (rIndex K) te (tCons (tC (.bl false)) tNil)) δ (.int (j : Int)) := fun σ F H dσ s Q q =>
  h σ F H dσ s _ fun v F2 H2 g2 dv => by
    cases dv with
    | lst hs ha =>
      have e := dpa_bls ha
      subst e
      have hs2 := sql_sub g2.sub hs
      refine ⟨.inl ⟨rfl, _, hs2⟩, ?_⟩
      refine ⟨_, bs.map V.bl, .bl false, j, .bl false, rfl, rfl, hs2, rfl, ?_, by rw [List.getElem?_map, hj]; rfl, rfl, fun m z hm hz => ?_, q _ F2 H2 g2 (.int _)⟩
      · rw [List.all_eq_true]
        intro x hx
        obtain ⟨b, _, rfl⟩ := List.mem_map.mp hx
        rfl
      · rw [List.getElem?_map, hf m hm] at hz
        cases hz
        rfl
end
/-! ### a def over data -/
section
variable {P : Program} {w : World} {K : PySem.W.Frag} {mg : Str → Option Value} {base : Heap}
abbrev FnP (K : PySem.W.Frag) (x : Str) (st : Stmt) (f : Addr) (fd : FuncData) : Prop := FunD K x x (defArgs st) (defBody st) (defScope st) [] [] f fd
theorem fn_data {x : Str} {st : Stmt} {f : Addr} {fd : FuncData} {N ps : List Str} {k n : Nat} {pre : List D → Prop} {g : List D → D} (Fn : FnP K x st f fd) (S : FnScope N ps (defScope st)) (hn : ps.length = n)
    (hev : ∀ (cdv : Value) (A : Around) (outer : List Env) (s : Shared) (H : Hp) (E : XK), Room k (A.deeper (envOfC x (defScope st) s.heap.objs.size f cdv)) → ∃ ts, PSs (cxOf CX0 P w K mg base N x (defScope st) f cdv A outer s H E).nox (defBody st) ts ∧
      ∀ (ds : List D), ds.length = n → pre ds → EvB K E ts (ds.map some ++ List.replicate (N.length - ds.length) none) { rt := fun d => d = g ds, nx := fun _ => g ds = .none }) : FnOk P w K mg base CX0 (k + 1) f fd ps (spF K n pre g) := by
  refine Fn.ok S (fun vs H Q E h => by rw [hn]; exact spF_len h) (fun cdv A outer s H vs Q E hr h => ?_)
  obtain ⟨F, ds, hl, hs, hd, hp, q⟩ := h
  obtain ⟨ts, hder, hev⟩ := hev cdv A outer s H E hr
  refine ⟨ts, PSs.nox hder, ?_⟩
  exact hev ds hl hp _ F H _ (DpS.start hd) hs ⟨fun _ _ _ _ _ _ z => z.elim, fun v d F2 H2 g2 dv e => q v F2 H2 g2 (by rw [← e]; exact dv), fun σ' δ F2 H2 g2 _ e => q .non F2 H2 g2 (by rw [e]; exact .non), fun _ _ _ _ _ _ z => z.elim, fun _ _ _ _ _ _ z => z.elim⟩
/-- the answer of a def that may raise -/
inductive RX where
  | ok (d : D)
  | ex (x : XO)
def spX (K : PySem.W.Frag) (n : Nat) (pre : List D → Prop) (f : List D → RX) : Sp := fun vs H Q E => ∃ (F : Hp) (ds : List D), ds.length = n ∧ Sub F H ∧ DpAll K F vs ds ∧ pre ds ∧ (∀ d, f ds = .ok d → ∀ v F' H', Gr0 F H F' H' → Dp K F' v d → Q v H') ∧ (∀ x, f ds = .ex x → ∀ d F' H', Gr0 F H F' H' → XOk K F' H' d x → E (.ref x.cls) d H')
theorem spX_len {n : Nat} {pre : List D → Prop} {f : List D → RX} {vs : List V} {H : Hp} {Q : VK} {E : XK} (h : spX K n pre f vs H Q E) : vs.length = n := by
  obtain ⟨F, ds, hl, _, hd, _⟩ := h
  rw [dpa_length hd, hl]
theorem fn_dataX {x : Str} {st : Stmt} {f : Addr} {fd : FuncData} {N ps : List Str} {k n : Nat} {pre : List D → Prop} {g : List D → RX} (Fn : FnP K x st f fd) (S : FnScope N ps (defScope st)) (hn : ps.length = n)
    (hev : ∀ (cdv : Value) (A : Around) (outer : List Env) (s : Shared) (H : Hp) (E : XK), Room k (A.deeper (envOfC x (defScope st) s.heap.objs.size f cdv)) → ∃ ts, PSs (cxOf (L2.CX P w) P w K mg base N x (defScope st) f cdv A outer s H E) (defBody st) ts ∧
      ∀ (ds : List D), ds.length = n → pre ds → EvB K E ts (ds.map some ++ List.replicate (N.length - ds.length) none) { rt := fun d => g ds = .ok d, nx := fun _ => g ds = .ok .none, ex := fun x => g ds = .ex x }) : FnOk P w K mg base (L2.CX P w) (k + 1) f fd ps (spX K n pre g) := by
  refine FunD.ok Fn S (fun vs H Q E h => by rw [hn]; exact spX_len h) (fun cdv A outer s H vs Q E hr h => ?_)
  obtain ⟨F, ds, hl, hs, hd, hp, q, qx⟩ := h
  obtain ⟨ts, hder, hev⟩ := hev cdv A outer s H E hr
  refine ⟨ts, hder, ?_⟩
  exact hev ds hl hp _ F H _ (DpS.start hd) hs ⟨fun x d F2 H2 g2 hx e => qx x e d F2 H2 g2 hx, fun v d F2 H2 g2 dv e => q d e v F2 H2 g2 dv, fun σ' δ F2 H2 g2 _ e => q .none e .non F2 H2 g2 .non, fun _ _ _ _ _ _ z => z.elim, fun _ _ _ _ _ _ z => z.elim⟩
end
section
variable {K : PySem.W.Frag} {δ : DS} {W : Wn} {Ex : XK} {tr : TA} {ds : List D} {n i : Nat} {pre : List D → Prop} {f : List D → RX}
/-- a call that may raise, the wish of exceptions handed on -/
theorem evb_asgX (h : EvA K tr δ ds) (hn : ds.length = n) (hp : pre ds) (ho : ∀ d, f ds = .ok d → W.nx (δ.set i (some d))) (hx : ∀ x, f ds = .ex x → W.ex x) : EvB K Ex (tAsg (tCall (spX K n pre f) [] Ex tr) (gName i)) δ W := fun σ F H E dσ s m =>
  h σ F H dσ s _ fun vs F2 H2 g2 dvs => ⟨F2, ds, hn, g2.sub, by rw [List.append_nil]; exact dvs, hp, fun d e v F3 H3 g3 dv => m.nx _ _ F3 H3 (g2.trans g3) ((dσ.sub ((g2.trans g3).ext s)).set dv) (ho d e), fun x e d F3 H3 g3 hX => m.ex x d F3 H3 (g2.trans g3) hX (hx x e)⟩
theorem evb_dropX (h : EvA K tr δ ds) (hn : ds.length = n) (hp : pre ds) (ho : ∀ d, f ds = .ok d → W.nx δ) (hx : ∀ x, f ds = .ex x → W.ex x) : EvB K Ex (tDrop (tCall (spX K n pre f) [] Ex tr)) δ W := fun σ F H E dσ s m =>
  h σ F H dσ s _ fun vs F2 H2 g2 dvs => ⟨F2, ds, hn, g2.sub, by rw [List.append_nil]; exact dvs, hp, fun d e v F3 H3 g3 dv => m.nx _ _ F3 H3 (g2.trans g3) (dσ.sub ((g2.trans g3).ext s)) (ho d e), fun x e d F3 H3 g3 hX => m.ex x d F3 H3 (g2.trans g3) hX (hx x e)⟩
theorem evb_retX (h : EvA K tr δ ds) (hn : ds.length = n) (hp : pre ds) (ho : ∀ d, f ds = .ok d → W.rt d) (hx : ∀ x, f ds = .ex x → W.ex x) : EvB K Ex (tRet (tCall (spX K n pre f) [] Ex tr)) δ W := fun σ F H E dσ s m =>
  h σ F H dσ s _ fun vs F2 H2 g2 dvs => ⟨F2, ds, hn, g2.sub, by rw [List.append_nil]; exact dvs, hp, fun d e v F3 H3 g3 dv => m.rt v d F3 H3 (g2.trans g3) dv (ho d e), fun x e d F3 H3 g3 hX => m.ex x d F3 H3 (g2.trans g3) hX (hx x e)⟩
/-- raise of an own class without an __init__ -/
theorem evb_raise {C : Addr} (hr : W.ex ⟨C, none⟩) : EvB K Ex (fun _ _ H => Ex (.ref C) none H) δ W := fun σ F H E dσ s m => m.ex ⟨C, none⟩ none F H (.refl s) rfl hr
theorem evb_never {t : TS} (h : False) : EvB K Ex t δ W := h.elim
theorem passE {P : Program} {w : World} {K : PySem.W.Frag} {mg : Str → Option Value} {base : Heap} {N : List Str} {x : Str} {sc : Scope} {f : Addr} {cdv : Value} {A : Around} {outer : List Env} {s : Shared} {H : Hp} {E : XK} : Passes (L2.CX P w) (cxOf (L2.CX P w) P w K mg base N x sc f cdv A outer s H E) E :=
  passes_call (X := cxOf (L2.CX P w) P w K mg base N x sc f cdv A outer s H E) (takes_of rfl rfl rfl rfl) fun _ _ _ _ h => h
end
section
variable {X : Cx}
theorem pe_gi {x : Str} {i : Int} {pos : Pos} (hg : Gl X x) (h : ∃ t, X.mg x = some (.int i t)) (hd : (x == ("__debug__" : Str)) = false := by decide) : PE X (.Name x pos) (tC (.int i)) := by
  obtain ⟨t, h⟩ := h
  exact pe_glob hg h ⟨t, rfl⟩ hd
end
section
variable {X : Cx}
/-! the rules with the written part said ahead (within a comprehension it would hang on the block) -/
abbrev rLenD (K : PySem.W.Frag) : List V → Hp → VK → Prop := fun xs H Q => ∃ p ys, xs = [.ref p] ∧ (SqL K H p ys ∨ SqT K H p ys) ∧ Q (.int ys.length) H
abbrev rTupD (K : PySem.W.Frag) : List V → Hp → VK → Prop := fun xs H Q => ∃ p ys, xs = [.ref p] ∧ ((SqL K H p ys ∧ ∀ l, H l = none → Q (.ref l) (upd H l (.tup ys))) ∨ (SqT K H p ys ∧ Q (.ref p) H))
abbrev rListD (K : PySem.W.Frag) : List V → Hp → VK → Prop := fun xs H Q => ∃ p ys, xs = [.ref p] ∧ (SqL K H p ys ∨ SqT K H p ys) ∧ ∀ l, H l = none → Q (.ref l) (upd H l (.lst ys))
theorem pi_listK (K : PySem.W.Frag) {tg l : Expr} {tl : TE} (hl : PE X l tl) (hK : X.K = K := by rfl) : PI X tg l (iList K tl) := by
  subst hK
  exact pi_list hl
theorem pi_tupK (K : PySem.W.Frag) {tg l : Expr} {tl : TE} (hl : PE X l tl) (hK : X.K = K := by rfl) : PI X tg l (iTup K tl) := by
  subst hK
  exact pi_tup hl
theorem pg_tupK (K : PySem.W.Frag) (n : Nat) {es : List Expr} {k : Nat} {pos : Pos} {t : TGs} (hc : X.calm = true) (h : PGs X es t) (hn : (assignEach es X.env).length = n := by rfl) (hst : (assignEach es X.env).findIdx? (·.1) = none := by rfl) (hK : X.K = K := by rfl) : PG X (.Tuple es k pos) (gTup K n t) := by
  subst hK
  exact pg_tup hc h hn hst
theorem pe_bmK (K : PySem.W.Frag) {o e : Expr} {es : List Expr} {to : TE} {t : TA} {name : Str} {apos cpos : Pos} {T id : String} {r : V → List V → Hp → VK → Prop} (pa : PlainAttrs T) (slot : Slot T name id) (hty : typeOf (.builtin id) = pure (.type "method_descriptor")) (hm : MtR X id r) (ho : PE X o to) (ha : PA X (e :: es) t)
    (hbase : attributeBase o name X.env (eval o X.env) = eval o X.env := by rfl)
    (hfew : ((backTo cpos (starEach (e :: es) X.env)).all (fun x => !x.1) && (backToKw cpos (keywordEach [] X.env)).all (fun x => x.1.isSome)
      && decide ((e :: es).length + ([] : List Keyword).length + (if ([] : List Keyword).isEmpty then 0 else 1) < 30)) = true := by rfl)
    (hline : (apos.endLine == cpos.line) = true := by rfl) (hs : starEach (e :: es) X.env = (false, eval e X.env) :: starEach es X.env := by rfl) (hplain : (backTo cpos (starEach es X.env)).any (·.1) = false := by rfl) (hK : X.K = K := by rfl) :
    PE X (.Call (.Attribute o name apos) (e :: es) [] cpos) (tBM K T r to t) := by
  subst hK
  exact pe_bm pa slot hty hm ho ha hbase hfew hline hs hplain
end
/-! ### promises told by an index of one's own -/
def spFI (K : PySem.W.Frag) {ι : Type} (args : ι → List D) (pre : ι → Prop) (f : ι → D) : Sp := fun vs H Q _ => ∃ (F : Hp) (i : ι), Sub F H ∧ DpAll K F vs (args i) ∧ pre i ∧ ∀ v F' H', Gr0 F H F' H' → Dp K F' v (f i) → Q v H'
def spXI (K : PySem.W.Frag) {ι : Type} (args : ι → List D) (pre : ι → Prop) (f : ι → RX) : Sp := fun vs H Q E => ∃ (F : Hp) (i : ι), Sub F H ∧ DpAll K F vs (args i) ∧ pre i ∧ (∀ d, f i = .ok d → ∀ v F' H', Gr0 F H F' H' → Dp K F' v d → Q v H') ∧ (∀ x, f i = .ex x → ∀ d F' H', Gr0 F H F' H' → XOk K F' H' d x → E (.ref x.cls) d H')
section
variable {P : Program} {w : World} {K : PySem.W.Frag} {mg : Str → Option Value} {base : Heap} {ι : Type} {args : ι → List D} {pre : ι → Prop}
theorem fn_dataI {x : Str} {st : Stmt} {f : Addr} {fd : FuncData} {N ps : List Str} {k : Nat} {g : ι → D} (Fn : FnP K x st f fd) (S : FnScope N ps (defScope st)) (hn : ∀ i, (args i).length = ps.length)
    (hev : ∀ (cdv : Value) (A : Around) (outer : List Env) (s : Shared) (H : Hp) (E : XK), Room k (A.deeper (envOfC x (defScope st) s.heap.objs.size f cdv)) → ∃ ts, PSs (cxOf CX0 P w K mg base N x (defScope st) f cdv A outer s H E).nox (defBody st) ts ∧
      ∀ (i : ι), pre i → EvB K E ts ((args i).map some ++ List.replicate (N.length - (args i).length) none) { rt := fun d => d = g i, nx := fun _ => g i = .none }) : FnOk P w K mg base CX0 (k + 1) f fd ps (spFI K args pre g) := by
  refine Fn.ok S (fun vs H Q E h => ?_) (fun cdv A outer s H vs Q E hr h => ?_)
  · obtain ⟨F, i, _, hd, _⟩ := h
    rw [dpa_length hd, hn]
  obtain ⟨F, i, hs, hd, hp, q⟩ := h
  obtain ⟨ts, hder, hev⟩ := hev cdv A outer s H E hr
  refine ⟨ts, PSs.nox hder, ?_⟩
  exact hev i hp _ F H _ (DpS.start hd) hs ⟨fun _ _ _ _ _ _ z => z.elim, fun v d F2 H2 g2 dv e => q v F2 H2 g2 (by rw [← e]; exact dv), fun σ' δ F2 H2 g2 _ e => q .non F2 H2 g2 (by rw [e]; exact .non), fun _ _ _ _ _ _ z => z.elim, fun _ _ _ _ _ _ z => z.elim⟩
theorem fn_dataXI {x : Str} {st : Stmt} {f : Addr} {fd : FuncData} {N ps : List Str} {k : Nat} {g : ι → RX} (Fn : FnP K x st f fd) (S : FnScope N ps (defScope st)) (hn : ∀ i, (args i).length = ps.length)
    (hev : ∀ (cdv : Value) (A : Around) (outer : List Env) (s : Shared) (H : Hp) (E : XK), Room k (A.deeper (envOfC x (defScope st) s.heap.objs.size f cdv)) → ∃ ts, PSs (cxOf (L2.CX P w) P w K mg base N x (defScope st) f cdv A outer s H E) (defBody st) ts ∧
      ∀ (i : ι), pre i → EvB K E ts ((args i).map some ++ List.replicate (N.length - (args i).length) none) { rt := fun d => g i = .ok d, nx := fun _ => g i = .ok .none, ex := fun x => g i = .ex x }) : FnOk P w K mg base (L2.CX P w) (k + 1) f fd ps (spXI K args pre g) := by
  refine FunD.ok Fn S (fun vs H Q E h => ?_) (fun cdv A outer s H vs Q E hr h => ?_)
  · obtain ⟨F, i, _, hd, _⟩ := h
    rw [dpa_length hd, hn]
  obtain ⟨F, i, hs, hd, hp, q, qx⟩ := h
  obtain ⟨ts, hder, hev⟩ := hev cdv A outer s H E hr
  refine ⟨ts, hder, ?_⟩
  exact hev i hp _ F H _ (DpS.start hd) hs ⟨fun x d F2 H2 g2 hx e => qx x e d F2 H2 g2 hx, fun v d F2 H2 g2 dv e => q d e v F2 H2 g2 dv, fun σ' δ F2 H2 g2 _ e => q .none e .non F2 H2 g2 .non, fun _ _ _ _ _ _ z => z.elim, fun _ _ _ _ _ _ z => z.elim⟩
end
section
variable {K : PySem.W.Frag} {δ : DS} {te : TE} {W : Wn} {Ex E : XK} {tr : TA} {ds : List D} {d : D} {j : Nat} {ι : Type} {args : ι → List D} {pre : ι → Prop} {f : ι → RX}
theorem evd_callI {f : ι → D} (i : ι) (h : EvA K tr δ (args i)) (hp : pre i) (hd : f i = d) : EvD K (tCall (spFI K args pre f) [] E tr) δ d := fun σ F H dσ s Q q =>
  h σ F H dσ s _ fun vs F2 H2 g2 dvs => ⟨F2, i, g2.sub, by rw [List.append_nil]; exact dvs, hp, fun v F3 H3 g3 dv => q v F3 H3 (g2.trans g3) (by rw [← hd]; exact dv)⟩
theorem evb_asgXI (i : ι) (h : EvA K tr δ (args i)) (hp : pre i) (ho : ∀ d, f i = .ok d → W.nx (δ.set j (some d))) (hx : ∀ x, f i = .ex x → W.ex x) : EvB K Ex (tAsg (tCall (spXI K args pre f) [] Ex tr) (gName j)) δ W := fun σ F H E dσ s m =>
  h σ F H dσ s _ fun vs F2 H2 g2 dvs => ⟨F2, i, g2.sub, by rw [List.append_nil]; exact dvs, hp, fun d e v F3 H3 g3 dv => m.nx _ _ F3 H3 (g2.trans g3) ((dσ.sub ((g2.trans g3).ext s)).set dv) (ho d e), fun x e d F3 H3 g3 hX => m.ex x d F3 H3 (g2.trans g3) hX (hx x e)⟩
theorem evb_dropXI (i : ι) (h : EvA K tr δ (args i)) (hp : pre i) (ho : ∀ d, f i = .ok d → W.nx δ) (hx : ∀ x, f i = .ex x → W.ex x) : EvB K Ex (tDrop (tCall (spXI K args pre f) [] Ex tr)) δ W := fun σ F H E dσ s m =>
  h σ F H dσ s _ fun vs F2 H2 g2 dvs => ⟨F2, i, g2.sub, by rw [List.append_nil]; exact dvs, hp, fun d e v F3 H3 g3 dv => m.nx _ _ F3 H3 (g2.trans g3) (dσ.sub ((g2.trans g3).ext s)) (ho d e), fun x e d F3 H3 g3 hX => m.ex x d F3 H3 (g2.trans g3) hX (hx x e)⟩
theorem evb_retXI (i : ι) (h : EvA K tr δ (args i)) (hp : pre i) (ho : ∀ d, f i = .ok d → W.rt d) (hx : ∀ x, f i = .ex x → W.ex x) : EvB K Ex (tRet (tCall (spXI K args pre f) [] Ex tr)) δ W := fun σ F H E dσ s m =>
  h σ F H dσ s _ fun vs F2 H2 g2 dvs => ⟨F2, i, g2.sub, by rw [List.append_nil]; exact dvs, hp, fun d e v F3 H3 g3 dv => m.rt v d F3 H3 (g2.trans g3) dv (ho d e), fun x e d F3 H3 g3 hX => m.ex x d F3 H3 (g2.trans g3) hX (hx x e)⟩
end
end Dl

set_option Elab.async false
set_option linter.all false
set_option maxRecDepth 100000
set_option maxHeartbeats 4000000
/-! sum of a list of truths -/
namespace Dl
open PySem PySem.Spec PyProof.Rows L2
def cntB (bs : List Bool) : Int := (bs.map b2i).sum
def rSumB (K : PySem.W.Frag) : List V → Hp → VK → Prop := fun vs H Q => ∃ (a : Addr) (bs : List Bool), vs = [V.ref a] ∧ SqL K H a (bs.map V.bl) ∧ Q (.int (cntB bs)) H
theorem cr_sumB {X : Cx} (hc : X.calm = true) : CallR X (.builtin "sum") (rSumB X.K) := by
  intro pins s σ H vs us Q I r h
  obtain ⟨a, bs, rfl, hs, q⟩ := h
  obtain ⟨its, rv, hl, _⟩ := I.list hs
  rw [Vals.ref1 r]
  have hb := rv.bls
  subst hb
  have hlA := hl.isList
  have hlt : a < s.heap.objs.size := by obtain ⟨_, e, _⟩ := hlA; exact Heap.lt_size e
  have hsz : (bs.map Value.bool).toArray.size = bs.length := by simp
  refine call_sum_walkAnyB (iter_any hlA fun s₂ e2 st hne => ?_)
  subst e2
  have W := (Walks.list (prog := X.prog) (w := X.w) (A := X.A.in1) (I.ok.hd hc) s.heap.objs.size a hne (bs.map Value.bool).toArray).toS
  rw [hsz] at W
  refine ⟨s.heap.objs.size, _, _, _, _, _, _, fun i => (bs.map b2i).getD i 0, rfl, W, st, fun b hb => ?_, fun i v hP => ?_, fun s' t' hm => ?_⟩
  · rcases List.mem_cons.mp hb with rfl | hb
    · exact Heap.lt_size (Heap.get?_push_size _ rfl)
    · obtain rfl := List.mem_singleton.mp hb
      exact Nat.lt_of_lt_of_le hlt (by simp [Heap.size_push])
  · have hv : (bs.map Value.bool)[i]? = some v := by simpa using hP
    rw [List.getElem?_map] at hv
    obtain ⟨b, hb, rfl⟩ := Option.map_eq_some_iff.mp hv
    refine .inr ⟨b, rfl, ?_⟩
    show (bs.map b2i).getD i 0 = _
    rw [List.getD_eq_getElem?_getD, List.getElem?_map, hb]
    cases b <;> rfl
  · obtain ⟨h', g', d', tk', os'⟩ := s'
    have e1 : g' = s.gens := hm.gens
    have e2 : d' = s.drawn := hm.drawn
    have e3 : os' = s.os := hm.os
    subst e1 e2 e3
    refine ⟨.int (cntB bs), H, I.kept fun b o e => hm.heap b o (fun hb => absurd (Heap.lt_size e) ((List.mem_singleton.mp hb) ▸ Nat.lt_irrefl _)) (Heap.get?_push_of_some _ e), ⟨t', ?_⟩, q⟩
    rw [preSum_getD, List.take_of_length_le (by simp)]
    rfl
theorem evd_sumB {K : PySem.W.Frag} {te : TE} {δ : DS} {bs : List Bool} (h : EvD K te δ (.list (bs.map PyData.bool))) : EvD K (tCB (rSumB K) (tCons te tNil)) δ (.int (cntB bs)) :=
  evd_cb (eva_cons h eva_nil) fun F1 H1 vs s dvs Q q => by
    cases dvs with
    | cons dx dn =>
      cases dn
      cases dx with
      | lst hs ha => exact ⟨_, bs, rfl, by rw [← dpa_bls ha]; exact sql_sub s hs, q _ F1 H1 (.refl s) (.int _)⟩
end Dl

set_option Elab.async false
set_option linter.all false
set_option maxRecDepth 100000
set_option maxHeartbeats 4000000
namespace Hn
open PySem PySem.Spec PyProof.Rows L2 Dl
def top (i : Nat) : Stmt := PySem.Challenge.pw_hushnotice_k02_hours.main.body.getD i (.Pass ⟨0, 0, 0, 0⟩)
abbrev s_is_whole : Stmt := top 24
abbrev s_is_tuple_of : Stmt := top 25
abbrev s_is_tuple_up_to : Stmt := top 26
abbrev s_is_stretch : Stmt := top 27
abbrev s_can_be_hushed : Stmt := top 28
abbrev s_can_be_gather : Stmt := top 29
abbrev s_first_bad_part : Stmt := top 30
abbrev s_refuse_bad_rules : Stmt := top 31
abbrev s_refuse_bad_person : Stmt := top 32
abbrev s_refuse_bad_moment : Stmt := top 33
abbrev s_is_in_stretch : Stmt := top 36
abbrev s_hushed_hours : Stmt := top 37
abbrev s_judged_hours : Stmt := top 38
abbrev s_hushed_ahead_of : Stmt := top 39
abbrev s_is_hushed : Stmt := top 40
abbrev s_free_from : Stmt := top 41
abbrev s_hushed_between : Stmt := top 42
abbrev s_law_begun : Stmt := top 44
abbrev s_law_take : Stmt := top 45
abbrev s_law_alike : Stmt := top 46
abbrev s_law_told : Stmt := top 47
abbrev s_law_all : Stmt := top 48
abbrev s_law_stretches : Stmt := top 49
abbrev s_law_rule : Stmt := top 50
abbrev s_law_rules : Stmt := top 51
abbrev s_law_hush : Stmt := top 52
abbrev s_law_is_refused : Stmt := top 53
abbrev s_law : Stmt := top 54
theorem sc_is_whole : FnScope ["x", "low", "high"] ["x", "low", "high"] (defScope s_is_whole) := ⟨rfl, rfl, rfl, by decide +kernel, rfl, by decide +kernel, by decide +kernel⟩
theorem sc_is_tuple_of : FnScope ["x", "many"] ["x", "many"] (defScope s_is_tuple_of) := ⟨rfl, rfl, rfl, by decide +kernel, rfl, by decide +kernel, by decide +kernel⟩
theorem sc_is_tuple_up_to : FnScope ["x", "most"] ["x", "most"] (defScope s_is_tuple_up_to) := ⟨rfl, rfl, rfl, by decide +kernel, rfl, by decide +kernel, by decide +kernel⟩
theorem sc_is_stretch : FnScope ["x", "begin", "end"] ["x"] (defScope s_is_stretch) := ⟨rfl, rfl, rfl, by decide +kernel, rfl, by decide +kernel, by decide +kernel⟩
theorem sc_can_be_hushed : FnScope ["hushed", "x"] ["hushed"] (defScope s_can_be_hushed) := ⟨rfl, rfl, rfl, by decide +kernel, rfl, by decide +kernel, by decide +kernel⟩
theorem sc_can_be_gather : FnScope ["gather", "lowest", "pair", "kind", "span"] ["gather"] (defScope s_can_be_gather) := ⟨rfl, rfl, rfl, by decide +kernel, rfl, by decide +kernel, by decide +kernel⟩
theorem sc_first_bad_part : FnScope ["row", "many", "hushed", "least", "gather", "wait", "further", "fits"] ["row", "many"] (defScope s_first_bad_part) := ⟨rfl, rfl, rfl, by decide +kernel, rfl, by decide +kernel, by decide +kernel⟩
theorem sc_refuse_bad_rules : FnScope ["rules", "many", "person", "part"] ["rules"] (defScope s_refuse_bad_rules) := ⟨rfl, rfl, rfl, by decide +kernel, rfl, by decide +kernel, by decide +kernel⟩
theorem sc_refuse_bad_person : FnScope ["rules", "person"] ["rules", "person"] (defScope s_refuse_bad_person) := ⟨rfl, rfl, rfl, by decide +kernel, rfl, by decide +kernel, by decide +kernel⟩
theorem sc_refuse_bad_moment : FnScope ["moment"] ["moment"] (defScope s_refuse_bad_moment) := ⟨rfl, rfl, rfl, by decide +kernel, rfl, by decide +kernel, by decide +kernel⟩
theorem sc_is_in_stretch : FnScope ["hour", "begin", "end"] ["hour", "begin", "end"] (defScope s_is_in_stretch) := ⟨rfl, rfl, rfl, by decide +kernel, rfl, by decide +kernel, by decide +kernel⟩
theorem sc_hushed_hours : FnScope ["hushed", "begin", "end", "hour"] ["hushed"] (defScope s_hushed_hours) := ⟨rfl, rfl, rfl, by decide +kernel, rfl, by decide +kernel, by decide +kernel⟩
theorem sc_judged_hours : FnScope ["rules", "person"] ["rules", "person"] (defScope s_judged_hours) := ⟨rfl, rfl, rfl, by decide +kernel, rfl, by decide +kernel, by decide +kernel⟩
theorem sc_hushed_ahead_of : FnScope ["hours", "moment"] ["hours", "moment"] (defScope s_hushed_ahead_of) := ⟨rfl, rfl, rfl, by decide +kernel, rfl, by decide +kernel, by decide +kernel⟩
theorem sc_is_hushed : FnScope ["rules", "person", "moment", "hours"] ["rules", "person", "moment"] (defScope s_is_hushed) := ⟨rfl, rfl, rfl, by decide +kernel, rfl, by decide +kernel, by decide +kernel⟩
theorem sc_free_from : FnScope ["rules", "person", "moment", "hours", "later"] ["rules", "person", "moment"] (defScope s_free_from) := ⟨rfl, rfl, rfl, by decide +kernel, rfl, by decide +kernel, by decide +kernel⟩
theorem sc_hushed_between : FnScope ["rules", "person", "begin", "end", "hours"] ["rules", "person", "begin", "end"] (defScope s_hushed_between) := ⟨rfl, rfl, rfl, by decide +kernel, rfl, by decide +kernel, by decide +kernel⟩
theorem sc_law_begun : FnScope ["_law_script", "_law_stirred", "_law_cell"] ["_law_script"] (defScope s_law_begun) := ⟨rfl, rfl, rfl, by decide +kernel, rfl, by decide +kernel, by decide +kernel⟩
theorem sc_law_take : FnScope ["_law_box", "_law_many", "_law_number"] ["_law_box", "_law_many"] (defScope s_law_take) := ⟨rfl, rfl, rfl, by decide +kernel, rfl, by decide +kernel, by decide +kernel⟩
theorem sc_law_alike : FnScope ["_law_found", "_law_due", "_law_k"] ["_law_found", "_law_due"] (defScope s_law_alike) := ⟨rfl, rfl, rfl, by decide +kernel, rfl, by decide +kernel, by decide +kernel⟩
theorem sc_law_told : FnScope ["_law_work", "e", "_law_kinds", "_law_words", "_law_word"] ["_law_work"] (defScope s_law_told) := ⟨rfl, rfl, rfl, by decide +kernel, rfl, by decide +kernel, by decide +kernel⟩
theorem sc_law_all : FnScope ["_law_works", "_law_due", "_law_work"] ["_law_works", "_law_due"] (defScope s_law_all) := ⟨rfl, rfl, rfl, by decide +kernel, rfl, by decide +kernel, by decide +kernel⟩
theorem sc_law_stretches : FnScope ["_law_box", "_law_found", "_law_turn", "_law_begin"] ["_law_box"] (defScope s_law_stretches) := ⟨rfl, rfl, rfl, by decide +kernel, rfl, by decide +kernel, by decide +kernel⟩
theorem sc_law_rule : FnScope ["_law_box", "_law_many", "_law_gather", "_law_kind", "_law_wait", "_law_further"] ["_law_box", "_law_many"] (defScope s_law_rule) := ⟨rfl, rfl, rfl, by decide +kernel, rfl, by decide +kernel, by decide +kernel⟩
theorem sc_law_rules : FnScope ["_law_box", "_law_many", "_law_person"] ["_law_box"] (defScope s_law_rules) := ⟨rfl, rfl, rfl, by decide +kernel, rfl, by decide +kernel, by decide +kernel⟩
theorem sc_law_hush : FnScope ["_law_rule_here", "_law_moment", "_law_hour", "_law_some", "_law_begin", "_law_end"] ["_law_rule_here", "_law_moment"] (defScope s_law_hush) := ⟨rfl, rfl, rfl, by decide +kernel, rfl, by decide +kernel, by decide +kernel⟩
theorem sc_law_is_refused : FnScope ["_law_box", "_law_rules_here", "_law_moment", "_law_far", "_law_out", "_law_ago", "_law_works"] ["_law_box", "_law_rules_here", "_law_moment"] (defScope s_law_is_refused) := ⟨rfl, rfl, rfl, by decide +kernel, rfl, by decide +kernel, by decide +kernel⟩
theorem sc_law : FnScope ["_law_script", "_law_box", "_law_turn", "_law_rules_here", "_law_person", "_law_begin", "_law_end", "_law_day", "_law_hour", "_law_free", "_law_many", "_law_moment", "_law_again", "_law_found"] ["_law_script"] (defScope s_law) := ⟨rfl, rfl, rfl, by decide +kernel, rfl, by decide +kernel, by decide +kernel⟩
open He in
structure Tx (K : PySem.W.Frag) (mg : Str → Option Value) where
  fd_is_whole : FuncData
  F_is_whole : FnP K "is_whole" s_is_whole (ga K "is_whole") fd_is_whole
  fd_is_tuple_of : FuncData
  F_is_tuple_of : FnP K "is_tuple_of" s_is_tuple_of (ga K "is_tuple_of") fd_is_tuple_of
  fd_is_tuple_up_to : FuncData
  F_is_tuple_up_to : FnP K "is_tuple_up_to" s_is_tuple_up_to (ga K "is_tuple_up_to") fd_is_tuple_up_to
  fd_is_stretch : FuncData
  F_is_stretch : FnP K "is_stretch" s_is_stretch (ga K "is_stretch") fd_is_stretch
  fd_can_be_hushed : FuncData
  F_can_be_hushed : FnP K "can_be_hushed" s_can_be_hushed (ga K "can_be_hushed") fd_can_be_hushed
  fd_can_be_gather : FuncData
  F_can_be_gather : FnP K "can_be_gather" s_can_be_gather (ga K "can_be_gather") fd_can_be_gather
  fd_first_bad_part : FuncData
  F_first_bad_part : FnP K "first_bad_part" s_first_bad_part (ga K "first_bad_part") fd_first_bad_part
  fd_refuse_bad_rules : FuncData
  F_refuse_bad_rules : FnP K "refuse_bad_rules" s_refuse_bad_rules (ga K "refuse_bad_rules") fd_refuse_bad_rules
  fd_refuse_bad_person : FuncData
  F_refuse_bad_person : FnP K "refuse_bad_person" s_refuse_bad_person (ga K "refuse_bad_person") fd_refuse_bad_person
  fd_refuse_bad_moment : FuncData
  F_refuse_bad_moment : FnP K "refuse_bad_moment" s_refuse_bad_moment (ga K "refuse_bad_moment") fd_refuse_bad_moment
  fd_is_in_stretch : FuncData
  F_is_in_stretch : FnP K "is_in_stretch" s_is_in_stretch (ga K "is_in_stretch") fd_is_in_stretch
  fd_hushed_hours : FuncData
  F_hushed_hours : FnP K "hushed_hours" s_hushed_hours (ga K "hushed_hours") fd_hushed_hours
  fd_judged_hours : FuncData
  F_judged_hours : FnP K "judged_hours" s_judged_hours (ga K "judged_hours") fd_judged_hours
  fd_hushed_ahead_of : FuncData
  F_hushed_ahead_of : FnP K "hushed_ahead_of" s_hushed_ahead_of (ga K "hushed_ahead_of") fd_hushed_ahead_of
  fd_is_hushed : FuncData
  F_is_hushed : FnP K "is_hushed" s_is_hushed (ga K "is_hushed") fd_is_hushed
  fd_free_from : FuncData
  F_free_from : FnP K "free_from" s_free_from (ga K "free_from") fd_free_from
  fd_hushed_between : FuncData
  F_hushed_between : FnP K "hushed_between" s_hushed_between (ga K "hushed_between") fd_hushed_between
  fd__law_begun : FuncData
  F__law_begun : FnP K "_law_begun" s_law_begun (ga K "_law_begun") fd__law_begun
  fd__law_take : FuncData
  F__law_take : FnP K "_law_take" s_law_take (ga K "_law_take") fd__law_take
  fd__law_alike : FuncData
  F__law_alike : FnP K "_law_alike" s_law_alike (ga K "_law_alike") fd__law_alike
  fd__law_told : FuncData
  F__law_told : FnP K "_law_told" s_law_told (ga K "_law_told") fd__law_told
  fd__law_all : FuncData
  F__law_all : FnP K "_law_all" s_law_all (ga K "_law_all") fd__law_all
  fd__law_stretches : FuncData
  F__law_stretches : FnP K "_law_stretches" s_law_stretches (ga K "_law_stretches") fd__law_stretches
  fd__law_rule : FuncData
  F__law_rule : FnP K "_law_rule" s_law_rule (ga K "_law_rule") fd__law_rule
  fd__law_rules : FuncData
  F__law_rules : FnP K "_law_rules" s_law_rules (ga K "_law_rules") fd__law_rules
  fd__law_hush : FuncData
  F__law_hush : FnP K "_law_hush" s_law_hush (ga K "_law_hush") fd__law_hush
  fd__law_is_refused : FuncData
  F__law_is_refused : FnP K "_law_is_refused" s_law_is_refused (ga K "_law_is_refused") fd__law_is_refused
  fd_law : FuncData
  F_law : FnP K "law" s_law (ga K "law") fd_law
  g_is_whole : mg "is_whole" = some (.ref (ga K "is_whole"))
  k_is_whole : PySem.W.keepIn K (.ref (ga K "is_whole")) = true
  g_is_tuple_of : mg "is_tuple_of" = some (.ref (ga K "is_tuple_of"))
  k_is_tuple_of : PySem.W.keepIn K (.ref (ga K "is_tuple_of")) = true
  g_is_tuple_up_to : mg "is_tuple_up_to" = some (.ref (ga K "is_tuple_up_to"))
  k_is_tuple_up_to : PySem.W.keepIn K (.ref (ga K "is_tuple_up_to")) = true
  g_is_stretch : mg "is_stretch" = some (.ref (ga K "is_stretch"))
  k_is_stretch : PySem.W.keepIn K (.ref (ga K "is_stretch")) = true
  g_can_be_hushed : mg "can_be_hushed" = some (.ref (ga K "can_be_hushed"))
  k_can_be_hushed : PySem.W.keepIn K (.ref (ga K "can_be_hushed")) = true
  g_can_be_gather : mg "can_be_gather" = some (.ref (ga K "can_be_gather"))
  k_can_be_gather : PySem.W.keepIn K (.ref (ga K "can_be_gather")) = true
  g_first_bad_part : mg "first_bad_part" = some (.ref (ga K "first_bad_part"))
  k_first_bad_part : PySem.W.keepIn K (.ref (ga K "first_bad_part")) = true
  g_refuse_bad_rules : mg "refuse_bad_rules" = some (.ref (ga K "refuse_bad_rules"))
  k_refuse_bad_rules : PySem.W.keepIn K (.ref (ga K "refuse_bad_rules")) = true
  g_refuse_bad_person : mg "refuse_bad_person" = some (.ref (ga K "refuse_bad_person"))
  k_refuse_bad_person : PySem.W.keepIn K (.ref (ga K "refuse_bad_person")) = true
  g_refuse_bad_moment : mg "refuse_bad_moment" = some (.ref (ga K "refuse_bad_moment"))
  k_refuse_bad_moment : PySem.W.keepIn K (.ref (ga K "refuse_bad_moment")) = true
  g_is_in_stretch : mg "is_in_stretch" = some (.ref (ga K "is_in_stretch"))
  k_is_in_stretch : PySem.W.keepIn K (.ref (ga K "is_in_stretch")) = true
  g_hushed_hours : mg "hushed_hours" = some (.ref (ga K "hushed_hours"))
  k_hushed_hours : PySem.W.keepIn K (.ref (ga K "hushed_hours")) = true
  g_judged_hours : mg "judged_hours" = some (.ref (ga K "judged_hours"))
  k_judged_hours : PySem.W.keepIn K (.ref (ga K "judged_hours")) = true
  g_hushed_ahead_of : mg "hushed_ahead_of" = some (.ref (ga K "hushed_ahead_of"))
  k_hushed_ahead_of : PySem.W.keepIn K (.ref (ga K "hushed_ahead_of")) = true
  g_is_hushed : mg "is_hushed" = some (.ref (ga K "is_hushed"))
  k_is_hushed : PySem.W.keepIn K (.ref (ga K "is_hushed")) = true
  g_free_from : mg "free_from" = some (.ref (ga K "free_from"))
  k_free_from : PySem.W.keepIn K (.ref (ga K "free_from")) = true
  g_hushed_between : mg "hushed_between" = some (.ref (ga K "hushed_between"))
  k_hushed_between : PySem.W.keepIn K (.ref (ga K "hushed_between")) = true
  g__law_begun : mg "_law_begun" = some (.ref (ga K "_law_begun"))
  k__law_begun : PySem.W.keepIn K (.ref (ga K "_law_begun")) = true
  g__law_take : mg "_law_take" = some (.ref (ga K "_law_take"))
  k__law_take : PySem.W.keepIn K (.ref (ga K "_law_take")) = true
  g__law_alike : mg "_law_alike" = some (.ref (ga K "_law_alike"))
  k__law_alike : PySem.W.keepIn K (.ref (ga K "_law_alike")) = true
  g__law_told : mg "_law_told" = some (.ref (ga K "_law_told"))
  k__law_told : PySem.W.keepIn K (.ref (ga K "_law_told")) = true
  g__law_all : mg "_law_all" = some (.ref (ga K "_law_all"))
  k__law_all : PySem.W.keepIn K (.ref (ga K "_law_all")) = true
  g__law_stretches : mg "_law_stretches" = some (.ref (ga K "_law_stretches"))
  k__law_stretches : PySem.W.keepIn K (.ref (ga K "_law_stretches")) = true
  g__law_rule : mg "_law_rule" = some (.ref (ga K "_law_rule"))
  k__law_rule : PySem.W.keepIn K (.ref (ga K "_law_rule")) = true
  g__law_rules : mg "_law_rules" = some (.ref (ga K "_law_rules"))
  k__law_rules : PySem.W.keepIn K (.ref (ga K "_law_rules")) = true
  g__law_hush : mg "_law_hush" = some (.ref (ga K "_law_hush"))
  k__law_hush : PySem.W.keepIn K (.ref (ga K "_law_hush")) = true
  g__law_is_refused : mg "_law_is_refused" = some (.ref (ga K "_law_is_refused"))
  k__law_is_refused : PySem.W.keepIn K (.ref (ga K "_law_is_refused")) = true
  g_law : mg "law" = some (.ref (ga K "law"))
  k_law : PySem.W.keepIn K (.ref (ga K "law")) = true
  g_NoticeError : mg "NoticeError" = some (.ref (ga K "NoticeError"))
  k_NoticeError : PySem.W.keepIn K (.ref (ga K "NoticeError")) = true
  g_BadRules : mg "BadRules" = some (.ref (ga K "BadRules"))
  k_BadRules : PySem.W.keepIn K (.ref (ga K "BadRules")) = true
  g_BadPerson : mg "BadPerson" = some (.ref (ga K "BadPerson"))
  k_BadPerson : PySem.W.keepIn K (.ref (ga K "BadPerson")) = true
  g_BadMoment : mg "BadMoment" = some (.ref (ga K "BadMoment"))
  k_BadMoment : PySem.W.keepIn K (.ref (ga K "BadMoment")) = true
  g_BadNotices : mg "BadNotices" = some (.ref (ga K "BadNotices"))
  k_BadNotices : PySem.W.keepIn K (.ref (ga K "BadNotices")) = true
  g_BadHears : mg "BadHears" = some (.ref (ga K "BadHears"))
  k_BadHears : PySem.W.keepIn K (.ref (ga K "BadHears")) = true
  g_BadDevice : mg "BadDevice" = some (.ref (ga K "BadDevice"))
  k_BadDevice : PySem.W.keepIn K (.ref (ga K "BadDevice")) = true
  g_BadBell : mg "BadBell" = some (.ref (ga K "BadBell"))
  k_BadBell : PySem.W.keepIn K (.ref (ga K "BadBell")) = true
  g_NotRinging : mg "NotRinging" = some (.ref (ga K "NotRinging"))
  k_NotRinging : PySem.W.keepIn K (.ref (ga K "NotRinging")) = true
  g_IsOff : mg "IsOff" = some (.ref (ga K "IsOff"))
  k_IsOff : PySem.W.keepIn K (.ref (ga K "IsOff")) = true
  g_BadText : mg "BadText" = some (.ref (ga K "BadText"))
  k_BadText : PySem.W.keepIn K (.ref (ga K "BadText")) = true
  x_NoticeError : PySem.W.excIn K (ga K "NoticeError") veBase "ValueError.__new__" = true
  e_NoticeError : PySem.W.subIn K (.ref (ga K "NoticeError")) (.type "BaseException") = some true
  t_NoticeError : PySem.W.typeIn K (.ref (ga K "NoticeError")) = some (.type "type")
  x_BadPerson : PySem.W.excIn K (ga K "BadPerson") veBase "ValueError.__new__" = true
  e_BadPerson : PySem.W.subIn K (.ref (ga K "BadPerson")) (.type "BaseException") = some true
  t_BadPerson : PySem.W.typeIn K (.ref (ga K "BadPerson")) = some (.type "type")
  x_BadMoment : PySem.W.excIn K (ga K "BadMoment") veBase "ValueError.__new__" = true
  e_BadMoment : PySem.W.subIn K (.ref (ga K "BadMoment")) (.type "BaseException") = some true
  t_BadMoment : PySem.W.typeIn K (.ref (ga K "BadMoment")) = some (.type "type")
  x_BadDevice : PySem.W.excIn K (ga K "BadDevice") veBase "ValueError.__new__" = true
  e_BadDevice : PySem.W.subIn K (.ref (ga K "BadDevice")) (.type "BaseException") = some true
  t_BadDevice : PySem.W.typeIn K (.ref (ga K "BadDevice")) = some (.type "type")
  x_BadBell : PySem.W.excIn K (ga K "BadBell") veBase "ValueError.__new__" = true
  e_BadBell : PySem.W.subIn K (.ref (ga K "BadBell")) (.type "BaseException") = some true
  t_BadBell : PySem.W.typeIn K (.ref (ga K "BadBell")) = some (.type "type")
  x_NotRinging : PySem.W.excIn K (ga K "NotRinging") veBase "ValueError.__new__" = true
  e_NotRinging : PySem.W.subIn K (.ref (ga K "NotRinging")) (.type "BaseException") = some true
  t_NotRinging : PySem.W.typeIn K (.ref (ga K "NotRinging")) = some (.type "type")
  x_IsOff : PySem.W.excIn K (ga K "IsOff") veBase "ValueError.__new__" = true
  e_IsOff : PySem.W.subIn K (.ref (ga K "IsOff")) (.type "BaseException") = some true
  t_IsOff : PySem.W.typeIn K (.ref (ga K "IsOff")) = some (.type "type")
  i_MOST_PERSONS : ∃ t, mg "MOST_PERSONS" = some (.int (6) t)
  i_MANY_PARTS : ∃ t, mg "MANY_PARTS" = some (.int (5) t)
  i_MOST_STRETCHES : ∃ t, mg "MOST_STRETCHES" = some (.int (3) t)
  i_LAST_HOUR : ∃ t, mg "LAST_HOUR" = some (.int (23) t)
  i_MOST_LEAST : ∃ t, mg "MOST_LEAST" = some (.int (4) t)
  i_MOST_GATHERED : ∃ t, mg "MOST_GATHERED" = some (.int (4) t)
  i_LAST_KIND : ∃ t, mg "LAST_KIND" = some (.int (7) t)
  i_MOST_SPAN : ∃ t, mg "MOST_SPAN" = some (.int (12) t)
  i_MOST_WAIT : ∃ t, mg "MOST_WAIT" = some (.int (24) t)
  i_LAST_MOMENT : ∃ t, mg "LAST_MOMENT" = some (.int (1000000) t)
  i_NO_PART : ∃ t, mg "NO_PART" = some (.int (-1) t)
  i_DAY : ∃ t, mg "DAY" = some (.int (24) t)
  z_isinstance : mg "isinstance" = none
  z_bool : mg "bool" = none
  z_int : mg "int" = none
  z_tuple : mg "tuple" = none
  z_list : mg "list" = none
  z_len : mg "len" = none
  z_all : mg "all" = none
  z_any : mg "any" = none
  z_range : mg "range" = none
  z_min : mg "min" = none
  z_max : mg "max" = none
  z_sum : mg "sum" = none
  z_str : mg "str" = none
section
variable {K : PySem.W.Frag} {mg : Str → Option Value}
theorem b_is_whole (T : Tx K mg) : Binds K T.fd_is_whole ["x", "low", "high"] [] := FunD.bindsN T.F_is_whole fun _ _ _ _ _ _ us hl => match us, hl with | [_, _, _], _ => rfl
theorem b_is_tuple_of (T : Tx K mg) : Binds K T.fd_is_tuple_of ["x", "many"] [] := FunD.bindsN T.F_is_tuple_of fun _ _ _ _ _ _ us hl => match us, hl with | [_, _], _ => rfl
theorem b_is_tuple_up_to (T : Tx K mg) : Binds K T.fd_is_tuple_up_to ["x", "most"] [] := FunD.bindsN T.F_is_tuple_up_to fun _ _ _ _ _ _ us hl => match us, hl with | [_, _], _ => rfl
theorem b_is_stretch (T : Tx K mg) : Binds K T.fd_is_stretch ["x"] [] := FunD.bindsN T.F_is_stretch fun _ _ _ _ _ _ us hl => match us, hl with | [_], _ => rfl
theorem b_can_be_hushed (T : Tx K mg) : Binds K T.fd_can_be_hushed ["hushed"] [] := FunD.bindsN T.F_can_be_hushed fun _ _ _ _ _ _ us hl => match us, hl with | [_], _ => rfl
theorem b_can_be_gather (T : Tx K mg) : Binds K T.fd_can_be_gather ["gather"] [] := FunD.bindsN T.F_can_be_gather fun _ _ _ _ _ _ us hl => match us, hl with | [_], _ => rfl
theorem b_first_bad_part (T : Tx K mg) : Binds K T.fd_first_bad_part ["row", "many"] [] := FunD.bindsN T.F_first_bad_part fun _ _ _ _ _ _ us hl => match us, hl with | [_, _], _ => rfl
theorem b_refuse_bad_rules (T : Tx K mg) : Binds K T.fd_refuse_bad_rules ["rules"] [] := FunD.bindsN T.F_refuse_bad_rules fun _ _ _ _ _ _ us hl => match us, hl with | [_], _ => rfl
theorem b_refuse_bad_person (T : Tx K mg) : Binds K T.fd_refuse_bad_person ["rules", "person"] [] := FunD.bindsN T.F_refuse_bad_person fun _ _ _ _ _ _ us hl => match us, hl with | [_, _], _ => rfl
theorem b_refuse_bad_moment (T : Tx K mg) : Binds K T.fd_refuse_bad_moment ["moment"] [] := FunD.bindsN T.F_refuse_bad_moment fun _ _ _ _ _ _ us hl => match us, hl with | [_], _ => rfl
theorem b_is_in_stretch (T : Tx K mg) : Binds K T.fd_is_in_stretch ["hour", "begin", "end"] [] := FunD.bindsN T.F_is_in_stretch fun _ _ _ _ _ _ us hl => match us, hl with | [_, _, _], _ => rfl
theorem b_hushed_hours (T : Tx K mg) : Binds K T.fd_hushed_hours ["hushed"] [] := FunD.bindsN T.F_hushed_hours fun _ _ _ _ _ _ us hl => match us, hl with | [_], _ => rfl
theorem b_judged_hours (T : Tx K mg) : Binds K T.fd_judged_hours ["rules", "person"] [] := FunD.bindsN T.F_judged_hours fun _ _ _ _ _ _ us hl => match us, hl with | [_, _], _ => rfl
theorem b_hushed_ahead_of (T : Tx K mg) : Binds K T.fd_hushed_ahead_of ["hours", "moment"] [] := FunD.bindsN T.F_hushed_ahead_of fun _ _ _ _ _ _ us hl => match us, hl with | [_, _], _ => rfl
theorem b_is_hushed (T : Tx K mg) : Binds K T.fd_is_hushed ["rules", "person", "moment"] [] := FunD.bindsN T.F_is_hushed fun _ _ _ _ _ _ us hl => match us, hl with | [_, _, _], _ => rfl
theorem b_free_from (T : Tx K mg) : Binds K T.fd_free_from ["rules", "person", "moment"] [] := FunD.bindsN T.F_free_from fun _ _ _ _ _ _ us hl => match us, hl with | [_, _, _], _ => rfl
theorem b_hushed_between (T : Tx K mg) : Binds K T.fd_hushed_between ["rules", "person", "begin", "end"] [] := FunD.bindsN T.F_hushed_between fun _ _ _ _ _ _ us hl => match us, hl with | [_, _, _, _], _ => rfl
theorem b_law_begun (T : Tx K mg) : Binds K T.fd__law_begun ["_law_script"] [] := FunD.bindsN T.F__law_begun fun _ _ _ _ _ _ us hl => match us, hl with | [_], _ => rfl
theorem b_law_take (T : Tx K mg) : Binds K T.fd__law_take ["_law_box", "_law_many"] [] := FunD.bindsN T.F__law_take fun _ _ _ _ _ _ us hl => match us, hl with | [_, _], _ => rfl
theorem b_law_alike (T : Tx K mg) : Binds K T.fd__law_alike ["_law_found", "_law_due"] [] := FunD.bindsN T.F__law_alike fun _ _ _ _ _ _ us hl => match us, hl with | [_, _], _ => rfl
theorem b_law_told (T : Tx K mg) : Binds K T.fd__law_told ["_law_work"] [] := FunD.bindsN T.F__law_told fun _ _ _ _ _ _ us hl => match us, hl with | [_], _ => rfl
theorem b_law_all (T : Tx K mg) : Binds K T.fd__law_all ["_law_works", "_law_due"] [] := FunD.bindsN T.F__law_all fun _ _ _ _ _ _ us hl => match us, hl with | [_, _], _ => rfl
theorem b_law_stretches (T : Tx K mg) : Binds K T.fd__law_stretches ["_law_box"] [] := FunD.bindsN T.F__law_stretches fun _ _ _ _ _ _ us hl => match us, hl with | [_], _ => rfl
theorem b_law_rule (T : Tx K mg) : Binds K T.fd__law_rule ["_law_box", "_law_many"] [] := FunD.bindsN T.F__law_rule fun _ _ _ _ _ _ us hl => match us, hl with | [_, _], _ => rfl
theorem b_law_rules (T : Tx K mg) : Binds K T.fd__law_rules ["_law_box"] [] := FunD.bindsN T.F__law_rules fun _ _ _ _ _ _ us hl => match us, hl with | [_], _ => rfl
theorem b_law_hush (T : Tx K mg) : Binds K T.fd__law_hush ["_law_rule_here", "_law_moment"] [] := FunD.bindsN T.F__law_hush fun _ _ _ _ _ _ us hl => match us, hl with | [_, _], _ => rfl
theorem b_law_is_refused (T : Tx K mg) : Binds K T.fd__law_is_refused ["_law_box", "_law_rules_here", "_law_moment"] [] := FunD.bindsN T.F__law_is_refused fun _ _ _ _ _ _ us hl => match us, hl with | [_, _, _], _ => rfl
theorem b_law (T : Tx K mg) : Binds K T.fd_law ["_law_script"] [] := FunD.bindsN T.F_law fun _ _ _ _ _ _ us hl => match us, hl with | [_], _ => rfl
end
end Hn

set_option Elab.async false
set_option linter.all false
set_option maxRecDepth 100000
set_option maxHeartbeats 8000000
namespace Hn
open PySem PySem.Spec PyProof.Rows L2 Dl
section
variable {P : Program} {w : World} {K : PySem.W.Frag} {mg : Str → Option Value} {base : Heap}
local macro_rules | `(tactic| walk_at "evd") => `(tactic| first
  | ((with_reducible refine fun (hb : _ = _) => ?_); first | (simp [isD, tyD, isNone] at hb; done) | walk_at "evd")
  | with_reducible exact evd_int | with_reducible exact evd_bl | with_reducible exact evd_non | with_reducible exact evd_str | with_reducible exact eva_nil | with_reducible exact turn_yes | with_reducible exact evo_none
  | exact evd_var rfl
  | ((with_reducible apply eva_cons) <;> walk_at "evd")
  | ((with_reducible apply evd_call) <;> first | walk_at "evd" | exact rfl | exact ⟨_, rfl⟩ | exact ⟨_, _, rfl⟩ | exact ⟨_, _, _, rfl⟩ | skip)
  | ((with_reducible apply evd_isiD) <;> first | walk_at "evd" | simp)
  | ((with_reducible apply evd_tup) <;> first | walk_at "evd" | simp)
  | ((with_reducible apply evd_lst) <;> first | walk_at "evd" | simp)
  | ((with_reducible apply evd_chain) <;> walk_at "evd")
  | ((with_reducible apply evd_add) <;> walk_at "evd") | ((with_reducible apply evd_sub) <;> walk_at "evd") | ((with_reducible apply evd_neg) <;> walk_at "evd")
  | ((with_reducible apply evd_mod) <;> first | walk_at "evd" | decide | skip) | ((with_reducible apply evd_fdiv) <;> first | walk_at "evd" | decide | skip) | ((with_reducible apply evd_mul) <;> first | walk_at "evd" | decide | skip)
  | ((with_reducible apply evd_lt) <;> walk_at "evd") | ((with_reducible apply evd_le) <;> walk_at "evd") | ((with_reducible apply evd_gt) <;> walk_at "evd") | ((with_reducible apply evd_ge) <;> walk_at "evd")
  | ((with_reducible apply evd_isN); walk_at "evd") | ((with_reducible apply evd_notN); walk_at "evd")
  | ((with_reducible apply evd_len) <;> first | walk_at "evd" | exact rfl)
  | ((with_reducible apply evd_eqI) <;> walk_at "evd")
  | ((with_reducible apply evd_neI) <;> walk_at "evd")
  | ((with_reducible apply evd_eqB) <;> walk_at "evd")
  | ((with_reducible apply evd_neB) <;> walk_at "evd")
  | ((with_reducible apply evd_eqS) <;> walk_at "evd")
  | ((with_reducible apply evd_min2); walk_at "evd") | ((with_reducible apply evd_max2); walk_at "evd")
  | ((with_reducible apply evd_ixT) <;> first | walk_at "evd" | exact rfl | skip) | ((with_reducible apply evd_ixL) <;> first | walk_at "evd" | exact rfl | skip)
  | ((with_reducible apply evo_some); walk_at "evd") | ((with_reducible apply evd_slL) <;> walk_at "evd")
  | ((with_reducible apply evd_notV); walk_at "evd") | ((with_reducible apply evd_andV) <;> walk_at "evd") | ((with_reducible apply evd_orV) <;> walk_at "evd")
  | ((with_reducible apply evt_B); walk_at "evd") | ((with_reducible apply evt_test); walk_at "evd") | ((with_reducible apply evt_not); walk_at "evd")
  | ((with_reducible apply evt_or) <;> walk_at "evd") | ((with_reducible apply evt_and) <;> walk_at "evd")
  | exact false | exact PyData.none)
local macro_rules | `(tactic| walk_at "evb") => `(tactic| first
  | ((with_reducible refine fun (hb : _ = _) => ?_); first | (simp [isD, tyD, isNone] at hb; done) | walk_at "evb")
  | ((with_reducible apply evb_seq); set_option simprocs false in dsimp only; walk_at "evb")
  | ((with_reducible apply evb_if) <;> first | ((with_reducible refine fun (hb : _ = _) => ?_); first | (simp [isD, tyD, isNone] at hb; done) | walk_at "evb") | walk_at "evd" | skip)
  | ((with_reducible apply evb_asgX) <;> first | walk_at "evd" | exact rfl | skip)
  | ((with_reducible apply evb_dropX) <;> first | walk_at "evd" | exact rfl | skip)
  | ((with_reducible apply evb_retX) <;> first | walk_at "evd" | exact rfl | skip)
  | ((with_reducible apply evb_ret) <;> first | walk_at "evd" | skip)
  | ((with_reducible apply evb_asg) <;> first | walk_at "evd" | (set_option simprocs false in dsimp only [List.set]; walk_at "evb") | skip)
  | ((with_reducible apply evb_next); set_option simprocs false in dsimp only; walk_at "evb")
  | skip)
def isWholeD (d : D) (lo hi : Int) : Bool := match d with
  | .int i => decide (lo ≤ i) && decide (i ≤ hi)
  | _ => false
def isTupOfD (d : D) (n : Int) : Bool := match d with
  | .tuple ds => decide ((ds.length : Int) = n)
  | _ => false
def isTupUpD (d : D) (n : Int) : Bool := match d with
  | .tuple ds => decide ((ds.length : Int) ≤ n)
  | _ => false
theorem ok_is_whole (T : Tx K mg) : FnOk P w K mg base CX0 1 (He.ga K "is_whole") T.fd_is_whole ["x", "low", "high"] (spF K 3 (fun ds => ∃ d lo hi, ds = [d, .int lo, .int hi]) (fun ds => match ds with | [d, .int lo, .int hi] => .bool (isWholeD d lo hi) | _ => .none)) := by
  refine fn_data T.F_is_whole sc_is_whole rfl (fun cdv A outer s H E hr => ⟨_, (pss_cons (ps_if (PW.pt (pw_or (pt_val (pe_callB (r := rIsi K) call_isi (by rfl) T.z_isinstance (by decide +kernel) (pa_cons (pv 0) (pa_cons (pe_bltn (v := .ty "bool") (by rfl) T.z_bool (by decide +kernel) rfl) pa_nil)))) (pw_or1 (pt_not (pt_val (pe_callB (r := rIsi K) call_isi (by rfl) T.z_isinstance (by decide +kernel) (pa_cons (pv 0) (pa_cons (pe_bltn (v := .ty "int") (by rfl) T.z_int (by decide +kernel) rfl) pa_nil)))))))) (pss_one (ps_ret pe_bl)) pss_nil)
      (pss_one (ps_ret (pe_chain op_le op_le (pv 1) (pv 0) (pv 2))))), fun ds hl hp => ?_⟩)
  obtain ⟨d, lo, hi, rfl⟩ := hp
  try (set_option simprocs false in dsimp only [cxOf, Cx.nox, Cx.wish])
  change EvB K E _ [some d, some (.int lo), some (.int hi)] _
  cases d <;> walk_at "evb"
  all_goals first | rfl | (simp [isD, tyD, isWholeD]; done) | simp_all [isD, tyD, isWholeD]
theorem ok_is_tuple_of (T : Tx K mg) : FnOk P w K mg base CX0 1 (He.ga K "is_tuple_of") T.fd_is_tuple_of ["x", "many"] (spF K 2 (fun ds => ∃ d n, ds = [d, .int n]) (fun ds => match ds with | [d, .int n] => .bool (isTupOfD d n) | _ => .none)) := by
  refine fn_data T.F_is_tuple_of sc_is_tuple_of rfl (fun cdv A outer s H E hr => ⟨_, (pss_one (ps_ret (pe_and (pe_callB (r := rIsi K) call_isi (by rfl) T.z_isinstance (by decide +kernel) (pa_cons (pv 0) (pa_cons (pe_bltn (v := .ty "tuple") (by rfl) T.z_tuple (by decide +kernel) rfl) pa_nil))) (pe_one (pe_cmpR op_eq (pe_callB (r := rLenD K) call_len_seq (by rfl) T.z_len (by decide +kernel) (pa_cons (pv 0) pa_nil)) (pv 1) (nomark _)))))), fun ds hl hp => ?_⟩)
  obtain ⟨d, n, rfl⟩ := hp
  try (set_option simprocs false in dsimp only [cxOf, Cx.nox, Cx.wish])
  change EvB K E _ [some d, some (.int n)] _
  cases d <;> walk_at "evb"
  all_goals first | rfl | (simp [isD, tyD, isTupOfD]; done) | simp_all [isD, tyD, isTupOfD]
theorem ok_is_tuple_up_to (T : Tx K mg) : FnOk P w K mg base CX0 1 (He.ga K "is_tuple_up_to") T.fd_is_tuple_up_to ["x", "most"] (spF K 2 (fun ds => ∃ d n, ds = [d, .int n]) (fun ds => match ds with | [d, .int n] => .bool (isTupUpD d n) | _ => .none)) := by
  refine fn_data T.F_is_tuple_up_to sc_is_tuple_up_to rfl (fun cdv A outer s H E hr => ⟨_, (pss_one (ps_ret (pe_and (pe_callB (r := rIsi K) call_isi (by rfl) T.z_isinstance (by decide +kernel) (pa_cons (pv 0) (pa_cons (pe_bltn (v := .ty "tuple") (by rfl) T.z_tuple (by decide +kernel) rfl) pa_nil))) (pe_one (pe_cmpR op_le (pe_callB (r := rLenD K) call_len_seq (by rfl) T.z_len (by decide +kernel) (pa_cons (pv 0) pa_nil)) (pv 1) (nomark _)))))), fun ds hl hp => ?_⟩)
  obtain ⟨d, n, rfl⟩ := hp
  try (set_option simprocs false in dsimp only [cxOf, Cx.nox, Cx.wish])
  change EvB K E _ [some d, some (.int n)] _
  cases d <;> walk_at "evb"
  all_goals first | rfl | (simp [isD, tyD, isTupUpD]; done) | simp_all [isD, tyD, isTupUpD]
end
end Hn

set_option Elab.async false
set_option linter.all false
set_option maxRecDepth 100000
set_option maxHeartbeats 8000000
namespace Hn
open PySem PySem.Spec PyProof.Rows L2 Dl
section
variable {P : Program} {w : World} {K : PySem.W.Frag} {mg : Str → Option Value} {base : Heap}
local macro_rules | `(tactic| walk_at "evd") => `(tactic| first
  | ((with_reducible refine fun (hb : _ = _) => ?_); first | (simp [isD, tyD, isNone] at hb; done) | walk_at "evd")
  | with_reducible exact evd_int | with_reducible exact evd_bl | with_reducible exact evd_non | with_reducible exact evd_str | with_reducible exact eva_nil | with_reducible exact turn_yes | with_reducible exact evo_none
  | exact evd_var rfl
  | ((with_reducible apply eva_cons) <;> walk_at "evd")
  | ((with_reducible apply evd_call) <;> first | walk_at "evd" | exact rfl | exact ⟨_, rfl⟩ | exact ⟨_, _, rfl⟩ | exact ⟨_, _, _, rfl⟩ | skip)
  | ((with_reducible apply evd_isiD) <;> first | walk_at "evd" | simp)
  | ((with_reducible apply evd_tup) <;> first | walk_at "evd" | simp)
  | ((with_reducible apply evd_lst) <;> first | walk_at "evd" | simp)
  | ((with_reducible apply evd_chain) <;> walk_at "evd")
  | ((with_reducible apply evd_add) <;> walk_at "evd") | ((with_reducible apply evd_sub) <;> walk_at "evd") | ((with_reducible apply evd_neg) <;> walk_at "evd")
  | ((with_reducible apply evd_mod) <;> first | walk_at "evd" | decide | skip) | ((with_reducible apply evd_fdiv) <;> first | walk_at "evd" | decide | skip) | ((with_reducible apply evd_mul) <;> first | walk_at "evd" | decide | skip)
  | ((with_reducible apply evd_lt) <;> walk_at "evd") | ((with_reducible apply evd_le) <;> walk_at "evd") | ((with_reducible apply evd_gt) <;> walk_at "evd") | ((with_reducible apply evd_ge) <;> walk_at "evd")
  | ((with_reducible apply evd_isN); walk_at "evd") | ((with_reducible apply evd_notN); walk_at "evd")
  | ((with_reducible apply evd_len) <;> first | walk_at "evd" | exact rfl)
  | ((with_reducible apply evd_eqI) <;> walk_at "evd")
  | ((with_reducible apply evd_neI) <;> walk_at "evd")
  | ((with_reducible apply evd_eqB) <;> walk_at "evd")
  | ((with_reducible apply evd_neB) <;> walk_at "evd")
  | ((with_reducible apply evd_eqS) <;> walk_at "evd")
  | ((with_reducible apply evd_min2); walk_at "evd") | ((with_reducible apply evd_max2); walk_at "evd")
  | ((with_reducible apply evd_ixT) <;> first | walk_at "evd" | exact rfl | skip) | ((with_reducible apply evd_ixL) <;> first | walk_at "evd" | exact rfl | skip)
  | ((with_reducible apply evo_some); walk_at "evd") | ((with_reducible apply evd_slL) <;> walk_at "evd")
  | ((with_reducible apply evd_notV); walk_at "evd") | ((with_reducible apply evd_andV) <;> walk_at "evd") | ((with_reducible apply evd_orV) <;> walk_at "evd")
  | ((with_reducible apply evt_B); walk_at "evd") | ((with_reducible apply evt_test); walk_at "evd") | ((with_reducible apply evt_not); walk_at "evd")
  | ((with_reducible apply evt_or) <;> walk_at "evd") | ((with_reducible apply evt_and) <;> walk_at "evd")
  | exact false | exact PyData.none)
local macro_rules | `(tactic| walk_at "evb") => `(tactic| first
  | ((with_reducible refine fun (hb : _ = _) => ?_); first | (simp [isD, tyD, isNone] at hb; done) | walk_at "evb")
  | ((with_reducible apply evb_seq); set_option simprocs false in dsimp only; walk_at "evb")
  | ((with_reducible apply evb_if) <;> first | ((with_reducible refine fun (hb : _ = _) => ?_); first | (simp [isD, tyD, isNone] at hb; done) | walk_at "evb") | walk_at "evd" | skip)
  | ((with_reducible apply evb_asgX) <;> first | walk_at "evd" | exact rfl | skip)
  | ((with_reducible apply evb_dropX) <;> first | walk_at "evd" | exact rfl | skip)
  | ((with_reducible apply evb_retX) <;> first | walk_at "evd" | exact rfl | skip)
  | ((with_reducible apply evb_ret) <;> first | walk_at "evd" | skip)
  | ((with_reducible apply evb_asg) <;> first | walk_at "evd" | (set_option simprocs false in dsimp only [List.set]; walk_at "evb") | skip)
  | ((with_reducible apply evb_next); set_option simprocs false in dsimp only; walk_at "evb")
  | skip)
def neD : D → D → Bool
  | .int a, .int b => !decide (a = b)
  | _, _ => false
def isStretchD : D → Bool
  | .tuple [x, y] => isWholeD x 0 23 && (isWholeD y 0 23 && neD x y)
  | _ => false
theorem whole_int {d : D} {lo hi : Int} (h : isWholeD d lo hi = true) : ∃ i, d = .int i ∧ lo ≤ i ∧ i ≤ hi := by
  cases d with
  | int i =>
    simp [isWholeD] at h
    exact ⟨i, rfl, h.1, h.2⟩
  | _ => cases h
theorem ok_is_stretch (T : Tx K mg) : FnOk P w K mg base CX0 2 (He.ga K "is_stretch") T.fd_is_stretch ["x"] (spF K 1 (fun ds => ∃ d, ds = [d]) (fun ds => match ds with | [d] => .bool (isStretchD d) | _ => .none)) := by
  have G_is_tuple_of := ok_is_tuple_of (P := P) (w := w) (base := base) T
  have b_is_tuple_of := b_is_tuple_of T
  have G_is_whole := ok_is_whole (P := P) (w := w) (base := base) T
  have b_is_whole := b_is_whole T
  refine fn_data T.F_is_stretch sc_is_stretch rfl (fun cdv A outer s H E hr => ⟨_, (pss_cons (ps_if (pt_not (pt_val (pe_call G_is_tuple_of (hr) (by rfl) T.g_is_tuple_of T.k_is_tuple_of b_is_tuple_of .nil pass0 (pa_cons (pv 0) (pa_cons pe_int pa_nil))))) (pss_one (ps_ret pe_bl)) pss_nil)
      (pss_cons (ps_asg (pv 0) (pg_tupK K 2 (by rfl) (pgs_cons (pg_name (i := 1) sc_is_stretch.nd rfl (.inl rfl)) (pgs_cons (pg_name (i := 2) sc_is_stretch.nd rfl (.inl rfl)) pgs_nil))))
      (pss_one (ps_ret (pe_and (pe_call G_is_whole (hr) (by rfl) T.g_is_whole T.k_is_whole b_is_whole .nil pass0 (pa_cons (pv 1) (pa_cons pe_int (pa_cons (pe_gi (by rfl) T.i_LAST_HOUR) pa_nil)))) (pe_and (pe_call G_is_whole (hr) (by rfl) T.g_is_whole T.k_is_whole b_is_whole .nil pass0 (pa_cons (pv 2) (pa_cons pe_int (pa_cons (pe_gi (by rfl) T.i_LAST_HOUR) pa_nil)))) (pe_one (pe_cmpR op_ne (pv 1) (pv 2) (nomark _))))))))), fun ds hl hp => ?_⟩)
  obtain ⟨d, rfl⟩ := hp
  try (set_option simprocs false in dsimp only [cxOf, Cx.nox, Cx.wish])
  change EvB K E _ [some d, none, none] _
  apply evb_seq
  set_option simprocs false in dsimp only
  apply evb_if
  · walk_at "evd"
  · intro hb
    walk_at "evb"
    · cases d with
      | tuple ds =>
        rcases ds with _ | ⟨x, _ | ⟨y, _ | ⟨z, r⟩⟩⟩ <;> first | rfl | simp [isTupOfD] at hb
      | _ => rfl
  · intro hb
    obtain ⟨x, y, rfl⟩ : ∃ x y, d = .tuple [x, y] := by
      cases d with
      | tuple ds => rcases ds with _ | ⟨x, _ | ⟨y, _ | ⟨z, r⟩⟩⟩ <;> first | exact ⟨_, _, rfl⟩ | (simp [isTupOfD] at hb; done) | (simp [isTupOfD] at hb; omega)
      | _ => simp [isTupOfD] at hb
    apply evb_next
    set_option simprocs false in dsimp only
    apply evb_seq
    set_option simprocs false in dsimp only
    apply evb_tgt (vs := [1, 2]) (evd_var rfl) (tgt_pair (by decide) (by decide))
    set_option simprocs false in dsimp only [List.set]
    apply evb_ret
    · apply evd_andV (a := isWholeD x 0 23) (b := isWholeD y 0 23 && neD x y)
      · walk_at "evd"
      · intro h1
        apply evd_andV (a := isWholeD y 0 23) (b := neD x y)
        · walk_at "evd"
        · intro h2
          obtain ⟨i, rfl, _⟩ := whole_int h1
          obtain ⟨j, rfl, _⟩ := whole_int h2
          exact evd_neI (evd_var rfl) (evd_var rfl)
    · rfl
end
end Hn

set_option Elab.async false
set_option linter.all false
set_option maxRecDepth 100000
set_option maxHeartbeats 8000000
namespace Hn
open PySem PySem.Spec PyProof.Rows L2 Dl
section
variable {P : Program} {w : World} {K : PySem.W.Frag} {mg : Str → Option Value} {base : Heap}
local macro_rules | `(tactic| walk_at "evd") => `(tactic| first
  | ((with_reducible refine fun (hb : _ = _) => ?_); first | (simp [isD, tyD, isNone] at hb; done) | walk_at "evd")
  | with_reducible exact evd_int | with_reducible exact evd_bl | with_reducible exact evd_non | with_reducible exact evd_str | with_reducible exact eva_nil | with_reducible exact turn_yes | with_reducible exact evo_none
  | exact evd_var rfl
  | ((with_reducible apply eva_cons) <;> walk_at "evd")
  | ((with_reducible apply evd_call) <;> first | walk_at "evd" | exact rfl | exact ⟨_, rfl⟩ | exact ⟨_, _, rfl⟩ | exact ⟨_, _, _, rfl⟩ | skip)
  | ((with_reducible apply evd_isiD) <;> first | walk_at "evd" | simp)
  | ((with_reducible apply evd_tup) <;> first | walk_at "evd" | simp)
  | ((with_reducible apply evd_lst) <;> first | walk_at "evd" | simp)
  | ((with_reducible apply evd_chain) <;> walk_at "evd")
  | ((with_reducible apply evd_add) <;> walk_at "evd") | ((with_reducible apply evd_sub) <;> walk_at "evd") | ((with_reducible apply evd_neg) <;> walk_at "evd")
  | ((with_reducible apply evd_mod) <;> first | walk_at "evd" | decide | skip) | ((with_reducible apply evd_fdiv) <;> first | walk_at "evd" | decide | skip) | ((with_reducible apply evd_mul) <;> first | walk_at "evd" | decide | skip)
  | ((with_reducible apply evd_lt) <;> walk_at "evd") | ((with_reducible apply evd_le) <;> walk_at "evd") | ((with_reducible apply evd_gt) <;> walk_at "evd") | ((with_reducible apply evd_ge) <;> walk_at "evd")
  | ((with_reducible apply evd_isN); walk_at "evd") | ((with_reducible apply evd_notN); walk_at "evd")
  | ((with_reducible apply evd_len) <;> first | walk_at "evd" | exact rfl)
  | ((with_reducible apply evd_eqI) <;> walk_at "evd")
  | ((with_reducible apply evd_neI) <;> walk_at "evd")
  | ((with_reducible apply evd_eqB) <;> walk_at "evd")
  | ((with_reducible apply evd_neB) <;> walk_at "evd")
  | ((with_reducible apply evd_eqS) <;> walk_at "evd")
  | ((with_reducible apply evd_min2); walk_at "evd") | ((with_reducible apply evd_max2); walk_at "evd")
  | ((with_reducible apply evd_ixT) <;> first | walk_at "evd" | exact rfl | skip) | ((with_reducible apply evd_ixL) <;> first | walk_at "evd" | exact rfl | skip)
  | ((with_reducible apply evo_some); walk_at "evd") | ((with_reducible apply evd_slL) <;> walk_at "evd")
  | ((with_reducible apply evd_notV); walk_at "evd") | ((with_reducible apply evd_andV) <;> walk_at "evd") | ((with_reducible apply evd_orV) <;> walk_at "evd")
  | ((with_reducible apply evt_B); walk_at "evd") | ((with_reducible apply evt_test); walk_at "evd") | ((with_reducible apply evt_not); walk_at "evd")
  | ((with_reducible apply evt_or) <;> walk_at "evd") | ((with_reducible apply evt_and) <;> walk_at "evd")
  | exact false | exact PyData.none)
local macro_rules | `(tactic| walk_at "evb") => `(tactic| first
  | ((with_reducible refine fun (hb : _ = _) => ?_); first | (simp [isD, tyD, isNone] at hb; done) | walk_at "evb")
  | ((with_reducible apply evb_seq); set_option simprocs false in dsimp only; walk_at "evb")
  | ((with_reducible apply evb_if) <;> first | ((with_reducible refine fun (hb : _ = _) => ?_); first | (simp [isD, tyD, isNone] at hb; done) | walk_at "evb") | walk_at "evd" | skip)
  | ((with_reducible apply evb_asgX) <;> first | walk_at "evd" | exact rfl | skip)
  | ((with_reducible apply evb_dropX) <;> first | walk_at "evd" | exact rfl | skip)
  | ((with_reducible apply evb_retX) <;> first | walk_at "evd" | exact rfl | skip)
  | ((with_reducible apply evb_ret) <;> first | walk_at "evd" | skip)
  | ((with_reducible apply evb_asg) <;> first | walk_at "evd" | (set_option simprocs false in dsimp only [List.set]; walk_at "evb") | skip)
  | ((with_reducible apply evb_next); set_option simprocs false in dsimp only; walk_at "evb")
  | skip)
def canHushedD : D → Bool
  | .tuple ds => decide ((ds.length : Int) ≤ 3) && ds.all isStretchD
  | _ => false
def gathD : Int → List D → Bool
  | _, [] => true
  | lo, .tuple [.int k, s] :: r => isWholeD (.int k) lo 7 && isWholeD s 1 12 && gathD (k + 1) r
  | _, _ :: _ => false
def canGatherD : D → Bool
  | .tuple ds => decide ((ds.length : Int) ≤ 4) && gathD 0 ds
  | _ => false
theorem ok_can_be_hushed (T : Tx K mg) : FnOk P w K mg base CX0 3 (He.ga K "can_be_hushed") T.fd_can_be_hushed ["hushed"] (spF K 1 (fun ds => ∃ d, ds = [d]) (fun ds => match ds with | [d] => .bool (canHushedD d) | _ => .none)) := by
  have G_is_stretch := ok_is_stretch (P := P) (w := w) (base := base) T
  have b_is_stretch := b_is_stretch T
  have G_is_tuple_up_to := ok_is_tuple_up_to (P := P) (w := w) (base := base) T
  have b_is_tuple_up_to := b_is_tuple_up_to T
  refine fn_data T.F_can_be_hushed sc_can_be_hushed rfl (fun cdv A outer s H E hr => ⟨_, (pss_one (ps_ret (pe_and (pe_call G_is_tuple_up_to (hr.mono (by decide)) (by rfl) T.g_is_tuple_up_to T.k_is_tuple_up_to b_is_tuple_up_to .nil pass0 (pa_cons (pv 0) (pa_cons (pe_gi (by rfl) T.i_MOST_STRETCHES) pa_nil))) (pe_one (pe_callB (r := rAll K) (cr_all rfl) (by rfl) T.z_all (by decide +kernel) (pa_cons (pe_lc (own := [("x", 1)]) (by rfl) sc_can_be_hushed.nd (pi_tupK K (pv 0)) (blkOk_by (own := [("x", 1)]) (N := ["hushed", "x"]) (sc := (defScope s_can_be_hushed)) (by decide +kernel)) (fun _ _ _ _ _ => (pg_name (i := 1) sc_can_be_hushed.nd rfl (.inl rfl))) (fun _ _ _ _ _ => pts_nil) (fun _ _ _ _ _ => (pe_call G_is_stretch (hr) (by rfl) T.g_is_stretch T.k_is_stretch b_is_stretch .nil pass0 (pa_cons (pv 1) pa_nil)))) pa_nil)))))), fun ds hl hp => ?_⟩)
  obtain ⟨d, rfl⟩ := hp
  try (set_option simprocs false in dsimp only [cxOf, Cx.nox, Cx.wish])
  change EvB K E _ [some d, none] _
  apply evb_ret (d := .bool (isTupUpD d 3 && match d with | .tuple ds => ds.all isStretchD | _ => false))
  · apply evd_andV
    · walk_at "evd"
    · intro hb
      obtain ⟨ds, rfl⟩ : ∃ ds, d = .tuple ds := by
        cases d with
        | tuple ds => exact ⟨_, rfl⟩
        | _ => cases hb
      have hl : ds.length ≤ 3 := by simp [isTupUpD] at hb; omega
      refine (evd_all (bs := ds.map isStretchD) (EvD.to (evd_lcT0 (f := fun d => .bool (isStretchD d)) (evd_var rfl) (by omega) fun d hd => ?_) (by rw [List.map_map]; rfl))).to (by simp [List.all_map])
      walk_at "evd"
  · cases d <;> simp [isTupUpD, canHushedD]
theorem ok_can_be_gather (T : Tx K mg) : FnOk P w K mg base CX0 3 (He.ga K "can_be_gather") T.fd_can_be_gather ["gather"] (spF K 1 (fun ds => ∃ d, ds = [d]) (fun ds => match ds with | [d] => .bool (canGatherD d) | _ => .none)) := by
  have G_is_tuple_of := ok_is_tuple_of (P := P) (w := w) (base := base) T
  have b_is_tuple_of := b_is_tuple_of T
  have G_is_tuple_up_to := ok_is_tuple_up_to (P := P) (w := w) (base := base) T
  have b_is_tuple_up_to := b_is_tuple_up_to T
  have G_is_whole := ok_is_whole (P := P) (w := w) (base := base) T
  have b_is_whole := b_is_whole T
  refine fn_data T.F_can_be_gather sc_can_be_gather rfl (fun cdv A outer s H E hr => ⟨_, (pss_cons (ps_if (pt_not (pt_val (pe_call G_is_tuple_up_to (hr.mono (by decide)) (by rfl) T.g_is_tuple_up_to T.k_is_tuple_up_to b_is_tuple_up_to .nil pass0 (pa_cons (pv 0) (pa_cons (pe_gi (by rfl) T.i_MOST_GATHERED) pa_nil))))) (pss_one (ps_ret pe_bl)) pss_nil)
      (pss_cons (ps_set (i := 1) sc_can_be_gather.nd rfl (.inl rfl) pe_int)
      (pss_cons (ps_for PassesOwn.never rfl (pi_tupK K (pv 0)) (pg_name (i := 2) sc_can_be_gather.nd rfl (.inl rfl))
      (pss_cons (ps_if (pt_not (pt_val (pe_call G_is_tuple_of (hr.mono (by decide)) (by rfl) T.g_is_tuple_of T.k_is_tuple_of b_is_tuple_of .nil pass0 (pa_cons (pv 2) (pa_cons pe_int pa_nil))))) (pss_one (ps_ret pe_bl)) pss_nil)
      (pss_cons (ps_asg (pv 2) (pg_tupK K 2 (by rfl) (pgs_cons (pg_name (i := 3) sc_can_be_gather.nd rfl (.inl rfl)) (pgs_cons (pg_name (i := 4) sc_can_be_gather.nd rfl (.inl rfl)) pgs_nil))))
      (pss_cons (ps_if (PW.pt (pw_or (pt_not (pt_val (pe_call G_is_whole (hr.mono (by decide)) (by rfl) T.g_is_whole T.k_is_whole b_is_whole .nil pass0 (pa_cons (pv 3) (pa_cons (pv 1) (pa_cons (pe_gi (by rfl) T.i_LAST_KIND) pa_nil)))))) (pw_or1 (pt_not (pt_val (pe_call G_is_whole (hr.mono (by decide)) (by rfl) T.g_is_whole T.k_is_whole b_is_whole .nil pass0 (pa_cons (pv 4) (pa_cons pe_int (pa_cons (pe_gi (by rfl) T.i_MOST_SPAN) pa_nil))))))))) (pss_one (ps_ret pe_bl)) pss_nil)
      (pss_one (ps_set (i := 1) sc_can_be_gather.nd rfl (.inl rfl) (pe_op op_add (pv 3) pe_int)))))))
      (pss_one (ps_ret pe_bl))))), fun ds hl hp => ?_⟩)
  obtain ⟨d, rfl⟩ := hp
  try (set_option simprocs false in dsimp only [cxOf, Cx.nox, Cx.wish])
  change EvB K E _ [some d, none, none, none, none] _
  apply evb_seq
  set_option simprocs false in dsimp only
  apply evb_if
  · walk_at "evd"
  · intro hb
    walk_at "evb"
    cases d <;> simp_all [isTupUpD, canGatherD] <;> omega
  · intro hb
    obtain ⟨ds, rfl⟩ : ∃ ds, d = .tuple ds := by
      cases d with
      | tuple ds => exact ⟨_, rfl⟩
      | _ => cases hb
    have hl : ds.length ≤ 4 := by simp [isTupUpD] at hb; omega
    apply evb_next
    set_option simprocs false in dsimp only
    apply evb_seq
    apply evb_asg evd_int
    set_option simprocs false in dsimp only [List.set]
    apply evb_seq
    refine evb_forT (vs := [2]) (ds := ds) (fun i δ => ∃ lo a b c, δ = [some (.tuple ds), some (.int lo), a, b, c] ∧ gathD lo (ds.drop i) = gathD 0 ds) (evd_var rfl) ⟨0, _, _, _, rfl, rfl⟩ (fun i d hd δ hI => ?_) (fun δ hI => ?_)
    · obtain ⟨lo, a, b, c, rfl, hg⟩ := hI
      have hdr : ds.drop i = d :: ds.drop (i + 1) := by
        have hi := (List.getElem?_eq_some_iff.mp hd)
        obtain ⟨h1, h2⟩ := hi
        rw [← h2, List.drop_eq_getElem_cons h1]
      rw [hdr] at hg
      have hcan : canGatherD (.tuple ds) = gathD lo (d :: ds.drop (i + 1)) := by
        rw [hg]
        show (decide ((ds.length : Int) ≤ 4) && gathD 0 ds) = _
        rw [decide_eq_true (by omega), Bool.true_and]
      refine ⟨_, tgt_name (by simp), ?_⟩
      set_option simprocs false in dsimp only [List.set]
      apply evb_seq
      set_option simprocs false in dsimp only
      apply evb_if
      · walk_at "evd"
      · intro hb
        apply evb_ret evd_bl
        show PyData.bool false = .bool (canGatherD (.tuple ds))
        rw [hcan]
        cases d with
        | tuple es => rcases es with _ | ⟨x, _ | ⟨y, _ | ⟨z, r⟩⟩⟩ <;> first | rfl | (simp [isTupOfD] at hb; done) | (cases x <;> rfl)
        | _ => rfl
      · intro hb
        obtain ⟨x, y, rfl⟩ : ∃ x y, d = .tuple [x, y] := by
          cases d with
          | tuple ds => rcases ds with _ | ⟨x, _ | ⟨y, _ | ⟨z, r⟩⟩⟩ <;> first | exact ⟨_, _, rfl⟩ | (simp [isTupOfD] at hb; done) | (simp [isTupOfD] at hb; omega)
          | _ => simp [isTupOfD] at hb
        apply evb_next
        set_option simprocs false in dsimp only
        apply evb_seq
        apply evb_tgt (vs := [3, 4]) (evd_var rfl) (tgt_pair (by decide) (by decide))
        set_option simprocs false in dsimp only [List.set]
        apply evb_seq
        set_option simprocs false in dsimp only
        apply evb_if (b := !isWholeD x lo 7 || !isWholeD y 1 12)
        · walk_at "evd"
        · intro hb
          apply evb_ret evd_bl
          show PyData.bool false = .bool (canGatherD (.tuple ds))
          rw [hcan]
          cases x with
          | int k =>
            show _ = PyData.bool (isWholeD (.int k) lo 7 && isWholeD y 1 12 && _)
            cases h1 : isWholeD (.int k) lo 7 <;> cases h2 : isWholeD y 1 12 <;> simp_all
          | _ => rfl
        · intro hb
          have h1 : isWholeD x lo 7 = true := by cases h : isWholeD x lo 7 <;> simp_all
          have h2 : isWholeD y 1 12 = true := by cases h : isWholeD y 1 12 <;> simp_all
          obtain ⟨k, rfl, _⟩ := whole_int h1
          apply evb_next
          set_option simprocs false in dsimp only
          apply evb_asg
          · exact evd_add (evd_var rfl) evd_int
          · refine ⟨k + 1, _, _, _, rfl, ?_⟩
            rw [← hg]
            show _ = (isWholeD (.int k) lo 7 && isWholeD y 1 12 && gathD (k + 1) (ds.drop (i + 1)))
            rw [h1, h2]
            rfl
    · obtain ⟨lo, a, b, c, rfl, hg⟩ := hI
      show EvB K E _ _ _
      apply evb_ret evd_bl
      show PyData.bool true = .bool (canGatherD (.tuple ds))
      rw [List.drop_length] at hg
      show _ = PyData.bool (decide ((ds.length : Int) ≤ 4) && gathD 0 ds)
      rw [decide_eq_true (by omega), Bool.true_and, ← hg]
      rfl
end
end Hn

set_option Elab.async false
set_option linter.all false
set_option maxRecDepth 100000
set_option maxHeartbeats 8000000
namespace Hn
open PySem PySem.Spec PyProof.Rows L2 Dl
section
variable {P : Program} {w : World} {K : PySem.W.Frag} {mg : Str → Option Value} {base : Heap}
local macro_rules | `(tactic| walk_at "evd") => `(tactic| first
  | ((with_reducible refine fun (hb : _ = _) => ?_); first | (simp [isD, tyD, isNone] at hb; done) | walk_at "evd")
  | with_reducible exact evd_int | with_reducible exact evd_bl | with_reducible exact evd_non | with_reducible exact evd_str | with_reducible exact eva_nil | with_reducible exact turn_yes | with_reducible exact evo_none
  | exact evd_var rfl
  | ((with_reducible apply eva_cons) <;> walk_at "evd")
  | ((with_reducible apply evd_call) <;> first | walk_at "evd" | exact rfl | exact ⟨_, rfl⟩ | exact ⟨_, _, rfl⟩ | exact ⟨_, _, _, rfl⟩ | skip)
  | ((with_reducible apply evd_isiD) <;> first | walk_at "evd" | simp)
  | ((with_reducible apply evd_tup) <;> first | walk_at "evd" | simp)
  | ((with_reducible apply evd_lst) <;> first | walk_at "evd" | simp)
  | ((with_reducible apply evd_chain) <;> walk_at "evd")
  | ((with_reducible apply evd_add) <;> walk_at "evd") | ((with_reducible apply evd_sub) <;> walk_at "evd") | ((with_reducible apply evd_neg) <;> walk_at "evd")
  | ((with_reducible apply evd_mod) <;> first | walk_at "evd" | decide | skip) | ((with_reducible apply evd_fdiv) <;> first | walk_at "evd" | decide | skip) | ((with_reducible apply evd_mul) <;> first | walk_at "evd" | decide | skip)
  | ((with_reducible apply evd_lt) <;> walk_at "evd") | ((with_reducible apply evd_le) <;> walk_at "evd") | ((with_reducible apply evd_gt) <;> walk_at "evd") | ((with_reducible apply evd_ge) <;> walk_at "evd")
  | ((with_reducible apply evd_isN); walk_at "evd") | ((with_reducible apply evd_notN); walk_at "evd")
  | ((with_reducible apply evd_len) <;> first | walk_at "evd" | exact rfl)
  | ((with_reducible apply evd_eqI) <;> walk_at "evd")
  | ((with_reducible apply evd_neI) <;> walk_at "evd")
  | ((with_reducible apply evd_eqB) <;> walk_at "evd")
  | ((with_reducible apply evd_neB) <;> walk_at "evd")
  | ((with_reducible apply evd_eqS) <;> walk_at "evd")
  | ((with_reducible apply evd_min2); walk_at "evd") | ((with_reducible apply evd_max2); walk_at "evd")
  | ((with_reducible apply evd_ixT) <;> first | walk_at "evd" | exact rfl | skip) | ((with_reducible apply evd_ixL) <;> first | walk_at "evd" | exact rfl | skip)
  | ((with_reducible apply evo_some); walk_at "evd") | ((with_reducible apply evd_slL) <;> walk_at "evd")
  | ((with_reducible apply evd_notV); walk_at "evd") | ((with_reducible apply evd_andV) <;> walk_at "evd") | ((with_reducible apply evd_orV) <;> walk_at "evd")
  | ((with_reducible apply evt_B); walk_at "evd") | ((with_reducible apply evt_test); walk_at "evd") | ((with_reducible apply evt_not); walk_at "evd")
  | ((with_reducible apply evt_or) <;> walk_at "evd") | ((with_reducible apply evt_and) <;> walk_at "evd")
  | exact false | exact PyData.none)
local macro_rules | `(tactic| walk_at "evb") => `(tactic| first
  | ((with_reducible refine fun (hb : _ = _) => ?_); first | (simp [isD, tyD, isNone] at hb; done) | walk_at "evb")
  | ((with_reducible apply evb_seq); set_option simprocs false in dsimp only; walk_at "evb")
  | ((with_reducible apply evb_if) <;> first | ((with_reducible refine fun (hb : _ = _) => ?_); first | (simp [isD, tyD, isNone] at hb; done) | walk_at "evb") | walk_at "evd" | skip)
  | ((with_reducible apply evb_asgX) <;> first | walk_at "evd" | exact rfl | skip)
  | ((with_reducible apply evb_dropX) <;> first | walk_at "evd" | exact rfl | skip)
  | ((with_reducible apply evb_retX) <;> first | walk_at "evd" | exact rfl | skip)
  | ((with_reducible apply evb_ret) <;> first | walk_at "evd" | skip)
  | ((with_reducible apply evb_asg) <;> first | walk_at "evd" | (set_option simprocs false in dsimp only [List.set]; walk_at "evb") | skip)
  | ((with_reducible apply evb_next); set_option simprocs false in dsimp only; walk_at "evb")
  | skip)
def fitsD (h l g wt f : D) (many : Int) : List Bool := [canHushedD h, isWholeD l 0 4, canGatherD g, isNone wt || isWholeD wt 1 24, isNone f || isWholeD f 0 (many - 1)]
def firstBadD : D → Int → D
  | .tuple [h, l, g, wt, f], many => if (fitsD h l g wt f many).all id = true then .none else .int ((fitsD h l g wt f many).findIdx (fun b => !b) : Nat)
  | _, _ => .int (-1)
theorem find_false : ∀ (bs : List Bool), bs.all id = false → bs[bs.findIdx (fun b => !b)]? = some false ∧ ∀ m, m < bs.findIdx (fun b => !b) → bs[m]? = some true
  | [], h => by cases h
  | false :: r, _ => ⟨rfl, fun m h => by simp [List.findIdx_cons] at h⟩
  | true :: r, h => by
    have h2 : r.all id = false := h
    obtain ⟨h3, h4⟩ := find_false r h2
    have e : (true :: r).findIdx (fun b => !b) = r.findIdx (fun b => !b) + 1 := by simp [List.findIdx_cons]
    rw [e]
    refine ⟨by simpa using h3, fun m hm => ?_⟩
    cases m with
    | zero => rfl
    | succ m => simpa using h4 m (by omega)
theorem ok_first_bad_part (T : Tx K mg) : FnOk P w K mg base CX0 4 (He.ga K "first_bad_part") T.fd_first_bad_part ["row", "many"] (spF K 2 (fun ds => ∃ d n, ds = [d, .int n]) (fun ds => match ds with | [d, .int n] => firstBadD d n | _ => .none)) := by
  have G_can_be_gather := ok_can_be_gather (P := P) (w := w) (base := base) T
  have b_can_be_gather := b_can_be_gather T
  have G_can_be_hushed := ok_can_be_hushed (P := P) (w := w) (base := base) T
  have b_can_be_hushed := b_can_be_hushed T
  have G_is_tuple_of := ok_is_tuple_of (P := P) (w := w) (base := base) T
  have b_is_tuple_of := b_is_tuple_of T
  have G_is_whole := ok_is_whole (P := P) (w := w) (base := base) T
  have b_is_whole := b_is_whole T
  refine fn_data T.F_first_bad_part sc_first_bad_part rfl (fun cdv A outer s H E hr => ⟨_, (pss_cons (ps_if (pt_not (pt_val (pe_call G_is_tuple_of (hr.mono (by decide)) (by rfl) T.g_is_tuple_of T.k_is_tuple_of b_is_tuple_of .nil pass0 (pa_cons (pv 0) (pa_cons (pe_gi (by rfl) T.i_MANY_PARTS) pa_nil))))) (pss_one (ps_ret (pe_gi (by rfl) T.i_NO_PART))) pss_nil)
      (pss_cons (ps_asg (pv 0) (pg_tupK K 5 (by rfl) (pgs_cons (pg_name (i := 2) sc_first_bad_part.nd rfl (.inl rfl)) (pgs_cons (pg_name (i := 3) sc_first_bad_part.nd rfl (.inl rfl)) (pgs_cons (pg_name (i := 4) sc_first_bad_part.nd rfl (.inl rfl)) (pgs_cons (pg_name (i := 5) sc_first_bad_part.nd rfl (.inl rfl)) (pgs_cons (pg_name (i := 6) sc_first_bad_part.nd rfl (.inl rfl)) pgs_nil)))))))
      (pss_cons (ps_set (i := 7) sc_first_bad_part.nd rfl (.inl rfl) (pe_lst (pa_cons (pe_call G_can_be_hushed (hr) (by rfl) T.g_can_be_hushed T.k_can_be_hushed b_can_be_hushed .nil pass0 (pa_cons (pv 2) pa_nil)) (pa_cons (pe_call G_is_whole (hr.mono (by decide)) (by rfl) T.g_is_whole T.k_is_whole b_is_whole .nil pass0 (pa_cons (pv 3) (pa_cons pe_int (pa_cons (pe_gi (by rfl) T.i_MOST_LEAST) pa_nil)))) (pa_cons (pe_call G_can_be_gather (hr) (by rfl) T.g_can_be_gather T.k_can_be_gather b_can_be_gather .nil pass0 (pa_cons (pv 4) pa_nil)) (pa_cons (pe_or (pe_cmpR op_isN (pv 5) pe_non (nomark _)) (pe_one (pe_call G_is_whole (hr.mono (by decide)) (by rfl) T.g_is_whole T.k_is_whole b_is_whole .nil pass0 (pa_cons (pv 5) (pa_cons pe_int (pa_cons (pe_gi (by rfl) T.i_MOST_WAIT) pa_nil)))))) (pa_cons (pe_or (pe_cmpR op_isN (pv 6) pe_non (nomark _)) (pe_one (pe_call G_is_whole (hr.mono (by decide)) (by rfl) T.g_is_whole T.k_is_whole b_is_whole .nil pass0 (pa_cons (pv 6) (pa_cons pe_int (pa_cons (pe_op op_sub (pv 1) pe_int) pa_nil)))))) pa_nil)))))))
      (pss_cons (ps_if (pt_val (pe_callB (r := rAll K) (cr_all rfl) (by rfl) T.z_all (by decide +kernel) (pa_cons (pv 7) pa_nil))) (pss_one (ps_ret pe_non)) pss_nil)
      (pss_one (ps_ret (pe_bmK K PySem.F.plainAttrs_list PySem.F.slot_list_index PySem.F.type_list_index mt_index (pv 7) (pa_cons pe_bl pa_nil)))))))), fun ds hl hp => ?_⟩)
  obtain ⟨d, n, rfl⟩ := hp
  try (set_option simprocs false in dsimp only [cxOf, Cx.nox, Cx.wish])
  change EvB K E _ [some d, some (.int n), none, none, none, none, none, none] _
  apply evb_seq
  set_option simprocs false in dsimp only
  apply evb_if
  · walk_at "evd"
  · intro hb
    apply evb_ret
    · walk_at "evd"
    · cases d with
      | tuple ds => rcases ds with _ | ⟨a, _ | ⟨b, _ | ⟨c, _ | ⟨e, _ | ⟨f, _ | ⟨g, r⟩⟩⟩⟩⟩⟩ <;> first | rfl | simp [isTupOfD] at hb
      | _ => rfl
  · intro hb
    obtain ⟨a, b, c, e, f, rfl⟩ : ∃ a b c e f, d = .tuple [a, b, c, e, f] := by
      cases d with
      | tuple ds => rcases ds with _ | ⟨a, _ | ⟨b, _ | ⟨c, _ | ⟨e, _ | ⟨f, _ | ⟨g, r⟩⟩⟩⟩⟩⟩ <;> first | exact ⟨_, _, _, _, _, rfl⟩ | (simp [isTupOfD] at hb; done) | (simp [isTupOfD] at hb; omega)
      | _ => simp [isTupOfD] at hb
    apply evb_next
    set_option simprocs false in dsimp only
    apply evb_seq
    apply evb_tgt (vs := [2, 3, 4, 5, 6]) (evd_var rfl) (tgt_five (by decide) (by decide) (by decide) (by decide) (by decide))
    set_option simprocs false in dsimp only [List.set]
    apply evb_seq
    apply evb_asg (e := .list ((fitsD a b c e f n).map PyData.bool))
    · apply EvD.to
      · walk_at "evd"
      · rfl
    · set_option simprocs false in dsimp only [List.set]
      apply evb_seq
      set_option simprocs false in dsimp only
      apply evb_if (b := (fitsD a b c e f n).all id)
      · exact evt_B (evd_all (evd_var rfl))
      · intro h1
        apply evb_ret evd_non
        show PyData.none = (if (fitsD a b c e f n).all id = true then PyData.none else .int ((fitsD a b c e f n).findIdx (fun b => !b) : Nat))
        rw [if_pos h1]
      · intro h1
        obtain ⟨h2, h3⟩ := find_false _ h1
        apply evb_next
        set_option simprocs false in dsimp only
        apply evb_ret (evd_indexF (evd_var rfl) h2 h3)
        show _ = (if (fitsD a b c e f n).all id = true then PyData.none else .int ((fitsD a b c e f n).findIdx (fun b => !b) : Nat))
        rw [if_neg (by rw [h1]; exact Bool.false_ne_true)]
def rulesGood : D → Prop
  | .tuple rs => 1 ≤ rs.length ∧ rs.length ≤ 6 ∧ ∀ r ∈ rs, firstBadD r (rs.length : Int) = .none
  | _ => False
theorem ok_refuse_bad_rules (T : Tx K mg) : FnOk P w K mg base CX0 5 (He.ga K "refuse_bad_rules") T.fd_refuse_bad_rules ["rules"] (spF K 1 (fun ds => ∃ d, ds = [d] ∧ rulesGood d) (fun _ => .none)) := by
  have G_first_bad_part := ok_first_bad_part (P := P) (w := w) (base := base) T
  have b_first_bad_part := b_first_bad_part T
  refine fn_data T.F_refuse_bad_rules sc_refuse_bad_rules rfl (fun cdv A outer s H E hr => ⟨_, (pss_cons (ps_if (PW.pt (pw_or (pt_not (pt_val (pe_callB (r := rIsi K) call_isi (by rfl) T.z_isinstance (by decide +kernel) (pa_cons (pv 0) (pa_cons (pe_bltn (v := .ty "tuple") (by rfl) T.z_tuple (by decide +kernel) rfl) pa_nil))))) (pw_or1 (pt_cmpR op_eq (pe_callB (r := rLenD K) call_len_seq (by rfl) T.z_len (by decide +kernel) (pa_cons (pv 0) pa_nil)) pe_int (nomark _))))) (pss_one ps_never) pss_nil)
      (pss_cons (ps_set (i := 1) sc_refuse_bad_rules.nd rfl (.inl rfl) (pe_callB (call_min2 rfl) (by rfl) T.z_min (by decide +kernel) (pa_cons (pe_callB (r := rLenD K) call_len_seq (by rfl) T.z_len (by decide +kernel) (pa_cons (pv 0) pa_nil)) (pa_cons (pe_gi (by rfl) T.i_MOST_PERSONS) pa_nil))))
      (pss_cons (ps_for PassesOwn.never rfl (pi_range1 (by rfl) T.z_range (pa_cons (pv 1) pa_nil)) (pg_name (i := 2) sc_refuse_bad_rules.nd rfl (.inl rfl))
      (pss_cons (ps_set (i := 3) sc_refuse_bad_rules.nd rfl (.inl rfl) (pe_call G_first_bad_part (hr) (by rfl) T.g_first_bad_part T.k_first_bad_part b_first_bad_part .nil pass0 (pa_cons (pe_ix (r := rIxT K) ix_tup (pv 0) (pv 2) (fun _ _ => rfl)) (pa_cons (pv 1) pa_nil))))
      (pss_one (ps_if (pt_cmpR op_notN (pv 3) pe_non (nomark _)) (pss_one ps_never) pss_nil))))
      (pss_one (ps_if (pt_cmpR op_gt (pe_callB (r := rLenD K) call_len_seq (by rfl) T.z_len (by decide +kernel) (pa_cons (pv 0) pa_nil)) (pe_gi (by rfl) T.i_MOST_PERSONS) (nomark _)) (pss_one ps_never) pss_nil))))), fun ds hl hp => ?_⟩)
  obtain ⟨d, rfl, hg⟩ := hp
  obtain ⟨rs, rfl⟩ : ∃ rs, d = .tuple rs := by
    cases d with
    | tuple ds => exact ⟨_, rfl⟩
    | _ => cases hg
  obtain ⟨g1, g2, g3⟩ := hg
  try (set_option simprocs false in dsimp only [cxOf, Cx.nox, Cx.wish])
  change EvB K E _ [some (.tuple rs), none, none, none] _
  apply evb_seq
  set_option simprocs false in dsimp only
  apply evb_if (b := !isD "tuple" (.tuple rs) || decide ((rs.length : Int) = 0))
  · walk_at "evd"
  · intro hb
    simp [isD, tyD] at hb
    subst hb
    simp at g1
  · intro _
    apply evb_next
    set_option simprocs false in dsimp only
    apply evb_seq
    apply evb_asg (e := .int (rs.length : Nat))
    · refine (evd_min2 (i := (rs.length : Nat)) (j := 6) (by walk_at "evd")).to ?_
      rw [if_neg (by omega)]
    · set_option simprocs false in dsimp only [List.set]
      apply evb_seq
      refine evb_forR1 (vs := [2]) (n := rs.length) (fun i δ => ∃ a b, δ = [some (.tuple rs), some (.int (rs.length : Nat)), a, b]) (by walk_at "evd") (by omega) ⟨_, _, rfl⟩ (fun i hi δ hI => ?_) (fun δ hI => ?_)
      · obtain ⟨a, b, rfl⟩ := hI
        refine ⟨_, tgt_name (by simp), ?_⟩
        set_option simprocs false in dsimp only [List.set]
        apply evb_seq
        apply evb_asg (e := .none)
        · refine evd_call (ds := [rs[i], .int (rs.length : Nat)]) (eva_cons (evd_ixT (evd_var rfl) (evd_var rfl) ?_) (eva_cons (evd_var rfl) eva_nil)) rfl ⟨_, _, rfl⟩ ?_
          · rw [show (0 : Int) + (i : Nat) = (i : Nat) by omega]
            exact atI_nat (List.getElem?_eq_getElem hi)
          · exact g3 _ (List.getElem_mem hi)
        · set_option simprocs false in dsimp only [List.set]
          apply evb_if (b := false)
          · exact (evt_test (evd_notN (d := .none) (evd_var rfl)))
          · intro h
            cases h
          · intro _
            apply evb_next
            exact ⟨_, _, rfl⟩
      · obtain ⟨a, b, rfl⟩ := hI
        show EvB K E _ _ _
        apply evb_if (b := decide ((6 : Int) < (rs.length : Nat)))
        · walk_at "evd"
        · intro h
          simp at h
          omega
        · intro _
          apply evb_next
          rfl
end
end Hn

set_option Elab.async false
set_option linter.all false
set_option maxRecDepth 100000
set_option maxHeartbeats 8000000
namespace Hn
open PySem PySem.Spec PyProof.Rows L2 Dl
section
variable {P : Program} {w : World} {K : PySem.W.Frag} {mg : Str → Option Value} {base : Heap}
local macro_rules | `(tactic| walk_at "evd") => `(tactic| first
  | ((with_reducible refine fun (hb : _ = _) => ?_); first | (simp [isD, tyD, isNone] at hb; done) | walk_at "evd")
  | with_reducible exact evd_int | with_reducible exact evd_bl | with_reducible exact evd_non | with_reducible exact evd_str | with_reducible exact eva_nil | with_reducible exact turn_yes | with_reducible exact evo_none
  | exact evd_var rfl
  | ((with_reducible apply eva_cons) <;> walk_at "evd")
  | ((with_reducible apply evd_call) <;> first | walk_at "evd" | exact rfl | exact ⟨_, rfl⟩ | exact ⟨_, _, rfl⟩ | exact ⟨_, _, _, rfl⟩ | skip)
  | ((with_reducible apply evd_isiD) <;> first | walk_at "evd" | simp)
  | ((with_reducible apply evd_tup) <;> first | walk_at "evd" | simp)
  | ((with_reducible apply evd_lst) <;> first | walk_at "evd" | simp)
  | ((with_reducible apply evd_chain) <;> walk_at "evd")
  | ((with_reducible apply evd_add) <;> walk_at "evd") | ((with_reducible apply evd_sub) <;> walk_at "evd") | ((with_reducible apply evd_neg) <;> walk_at "evd")
  | ((with_reducible apply evd_mod) <;> first | walk_at "evd" | decide | skip) | ((with_reducible apply evd_fdiv) <;> first | walk_at "evd" | decide | skip) | ((with_reducible apply evd_mul) <;> first | walk_at "evd" | decide | skip)
  | ((with_reducible apply evd_lt) <;> walk_at "evd") | ((with_reducible apply evd_le) <;> walk_at "evd") | ((with_reducible apply evd_gt) <;> walk_at "evd") | ((with_reducible apply evd_ge) <;> walk_at "evd")
  | ((with_reducible apply evd_isN); walk_at "evd") | ((with_reducible apply evd_notN); walk_at "evd")
  | ((with_reducible apply evd_len) <;> first | walk_at "evd" | exact rfl)
  | ((with_reducible apply evd_eqI) <;> walk_at "evd")
  | ((with_reducible apply evd_neI) <;> walk_at "evd")
  | ((with_reducible apply evd_eqB) <;> walk_at "evd")
  | ((with_reducible apply evd_neB) <;> walk_at "evd")
  | ((with_reducible apply evd_eqS) <;> walk_at "evd")
  | ((with_reducible apply evd_min2); walk_at "evd") | ((with_reducible apply evd_max2); walk_at "evd")
  | ((with_reducible apply evd_ixT) <;> first | walk_at "evd" | exact rfl | skip) | ((with_reducible apply evd_ixL) <;> first | walk_at "evd" | exact rfl | skip)
  | ((with_reducible apply evo_some); walk_at "evd") | ((with_reducible apply evd_slL) <;> walk_at "evd")
  | ((with_reducible apply evd_notV); walk_at "evd") | ((with_reducible apply evd_andV) <;> walk_at "evd") | ((with_reducible apply evd_orV) <;> walk_at "evd")
  | ((with_reducible apply evt_B); walk_at "evd") | ((with_reducible apply evt_test); walk_at "evd") | ((with_reducible apply evt_not); walk_at "evd")
  | ((with_reducible apply evt_or) <;> walk_at "evd") | ((with_reducible apply evt_and) <;> walk_at "evd")
  | exact false | exact PyData.none)
local macro_rules | `(tactic| walk_at "evb") => `(tactic| first
  | ((with_reducible refine fun (hb : _ = _) => ?_); first | (simp [isD, tyD, isNone] at hb; done) | walk_at "evb")
  | ((with_reducible apply evb_seq); set_option simprocs false in dsimp only; walk_at "evb")
  | ((with_reducible apply evb_if) <;> first | ((with_reducible refine fun (hb : _ = _) => ?_); first | (simp [isD, tyD, isNone] at hb; done) | walk_at "evb") | walk_at "evd" | skip)
  | ((with_reducible apply evb_asgX) <;> first | walk_at "evd" | exact rfl | skip)
  | ((with_reducible apply evb_dropX) <;> first | walk_at "evd" | exact rfl | skip)
  | ((with_reducible apply evb_retX) <;> first | walk_at "evd" | exact rfl | skip)
  | ((with_reducible apply evb_ret) <;> first | walk_at "evd" | skip)
  | ((with_reducible apply evb_asg) <;> first | walk_at "evd" | (set_option simprocs false in dsimp only [List.set]; walk_at "evb") | skip)
  | ((with_reducible apply evb_next); set_option simprocs false in dsimp only; walk_at "evb")
  | skip)
def personD (K : PySem.W.Frag) (n : Nat) (p : D) : RX := if isWholeD p 0 ((n : Int) - 1) = true then .ok .none else .ex ⟨He.ga K "BadPerson", none⟩
def momentD (K : PySem.W.Frag) (m : D) : RX := if isWholeD m 0 1000000 = true then .ok .none else .ex ⟨He.ga K "BadMoment", none⟩
theorem ok_refuse_bad_person (T : Tx K mg) : FnOk P w K mg base (L2.CX P w) 2 (He.ga K "refuse_bad_person") T.fd_refuse_bad_person ["rules", "person"] (spX K 2 (fun ds => ∃ rs p, ds = [.tuple rs, p]) (fun ds => match ds with | [.tuple rs, p] => personD K rs.length p | _ => .ok .none)) := by
  have G_is_whole := ok_is_whole (P := P) (w := w) (base := base) T
  have b_is_whole := b_is_whole T
  refine fn_dataX T.F_refuse_bad_person sc_refuse_bad_person rfl (fun cdv A outer s H E hr => ⟨_, (pss_one (ps_if (pt_not (pt_val (pe_call G_is_whole (hr) (by rfl) T.g_is_whole T.k_is_whole b_is_whole .nil pass0 (pa_cons (pv 1) (pa_cons pe_int (pa_cons (pe_op op_sub (pe_callB (r := rLenD K) call_len_seq (by rfl) T.z_len (by decide +kernel) (pa_cons (pv 0) pa_nil)) pe_int) pa_nil)))))) (pss_one (ps_raise rfl (takes_of rfl rfl rfl rfl) (pmk_own PySem.F.excBase_ValueError T.x_BadPerson T.g_BadPerson T.k_BadPerson (raises_own T.e_BadPerson T.t_BadPerson) (by exact rfl)))) pss_nil)), fun ds hl hp => ?_⟩)
  obtain ⟨rs, p, rfl⟩ := hp
  try (set_option simprocs false in dsimp only [cxOf, Cx.nox, Cx.wish])
  change EvB K E _ [some (.tuple rs), some p] _
  apply evb_if (b := !isWholeD p 0 ((rs.length : Int) - 1))
  · walk_at "evd"
  · intro hb
    have h : isWholeD p 0 ((rs.length : Int) - 1) = false := by simpa using hb
    apply evb_raise
    show personD K rs.length p = _
    unfold personD
    rw [if_neg (by rw [h]; exact Bool.false_ne_true)]
  · intro hb
    have h : isWholeD p 0 ((rs.length : Int) - 1) = true := by simpa using hb
    apply evb_next
    show personD K rs.length p = _
    unfold personD
    rw [if_pos h]
theorem ok_refuse_bad_moment (T : Tx K mg) : FnOk P w K mg base (L2.CX P w) 2 (He.ga K "refuse_bad_moment") T.fd_refuse_bad_moment ["moment"] (spX K 1 (fun ds => ∃ m, ds = [m]) (fun ds => match ds with | [m] => momentD K m | _ => .ok .none)) := by
  have G_is_whole := ok_is_whole (P := P) (w := w) (base := base) T
  have b_is_whole := b_is_whole T
  refine fn_dataX T.F_refuse_bad_moment sc_refuse_bad_moment rfl (fun cdv A outer s H E hr => ⟨_, (pss_one (ps_if (pt_not (pt_val (pe_call G_is_whole (hr) (by rfl) T.g_is_whole T.k_is_whole b_is_whole .nil pass0 (pa_cons (pv 0) (pa_cons pe_int (pa_cons (pe_gi (by rfl) T.i_LAST_MOMENT) pa_nil)))))) (pss_one (ps_raise rfl (takes_of rfl rfl rfl rfl) (pmk_own PySem.F.excBase_ValueError T.x_BadMoment T.g_BadMoment T.k_BadMoment (raises_own T.e_BadMoment T.t_BadMoment) (by exact rfl)))) pss_nil)), fun ds hl hp => ?_⟩)
  obtain ⟨m, rfl⟩ := hp
  try (set_option simprocs false in dsimp only [cxOf, Cx.nox, Cx.wish])
  change EvB K E _ [some m] _
  apply evb_if (b := !isWholeD m 0 1000000)
  · walk_at "evd"
  · intro hb
    have h : isWholeD m 0 1000000 = false := by simpa using hb
    apply evb_raise
    show momentD K m = _
    unfold momentD
    rw [if_neg (by rw [h]; exact Bool.false_ne_true)]
  · intro hb
    have h : isWholeD m 0 1000000 = true := by simpa using hb
    apply evb_next
    show momentD K m = _
    unfold momentD
    rw [if_pos h]
def inStr (b e h : Int) : Bool := if b < e then decide (b ≤ h) && decide (h < e) else decide (b ≤ h) || decide (h < e)
theorem ok_is_in_stretch (T : Tx K mg) : FnOk P w K mg base CX0 1 (He.ga K "is_in_stretch") T.fd_is_in_stretch ["hour", "begin", "end"] (spF K 3 (fun ds => ∃ h b e, ds = [.int h, .int b, .int e]) (fun ds => match ds with | [.int h, .int b, .int e] => .bool (inStr b e h) | _ => .none)) := by
  refine fn_data T.F_is_in_stretch sc_is_in_stretch rfl (fun cdv A outer s H E hr => ⟨_, (pss_cons (ps_if (pt_cmpR op_lt (pv 1) (pv 2) (nomark _)) (pss_one (ps_ret (pe_chain op_le op_lt (pv 1) (pv 0) (pv 2)))) pss_nil)
      (pss_one (ps_ret (pe_or (pe_cmpR op_ge (pv 0) (pv 1) (nomark _)) (pe_one (pe_cmpR op_lt (pv 0) (pv 2) (nomark _))))))), fun ds hl hp => ?_⟩)
  obtain ⟨h, b, e, rfl⟩ := hp
  try (set_option simprocs false in dsimp only [cxOf, Cx.nox, Cx.wish])
  change EvB K E _ [some (.int h), some (.int b), some (.int e)] _
  walk_at "evb"
  · rename_i hb
    show PyData.bool _ = .bool (inStr b e h)
    unfold inStr
    rw [if_pos (of_decide_eq_true hb)]
  · rename_i hb
    show PyData.bool _ = .bool (inStr b e h)
    unfold inStr
    rw [if_neg (of_decide_eq_false hb)]
def pairD (p : Int × Int) : D := .tuple [.int p.1, .int p.2]
def fPair (g : Int → Int → Bool) : D → D
  | .tuple [.int b, .int e] => .bool (g b e)
  | _ => .none
def fInt (g : Int → D) : D → D
  | .int b => g b
  | _ => .none
/-- whether one of the stretches holds the hour -/
def inSome (hs : List (Int × Int)) (h : Int) : Bool := hs.any fun p => inStr p.1 p.2 h
def hoursB (hs : List (Int × Int)) : List Bool := (List.range 24).map fun i => inSome hs (i : Nat)
theorem hoursB_length (hs : List (Int × Int)) : (hoursB hs).length = 24 := by unfold hoursB; rw [List.length_map, List.length_range]
theorem hoursB_eq (hs : List (Int × Int)) : (rngD 0 24).map (fInt fun h => .bool (inSome hs h)) = (hoursB hs).map PyData.bool := by
  unfold rngD hoursB
  rw [List.map_map, List.map_map]
  apply List.map_congr_left
  intro i _
  show PyData.bool (inSome hs (0 + (i : Nat))) = .bool (inSome hs (i : Nat))
  rw [show (0 : Int) + (i : Nat) = (i : Nat) by omega]
theorem ok_hushed_hours (T : Tx K mg) : FnOk P w K mg base CX0 2 (He.ga K "hushed_hours") T.fd_hushed_hours ["hushed"] (spF K 1 (fun ds => ∃ hs : List (Int × Int), ds = [.tuple (hs.map pairD)] ∧ hs.length ≤ 1000) (fun ds => match ds with | [.tuple ps] => .list ((rngD 0 24).map (fInt fun h => .bool ((ps.map (fPair fun b e => inStr b e h)).any fun d => match d with | .bool b => b | _ => false))) | _ => .none)) := by
  have G_is_in_stretch := ok_is_in_stretch (P := P) (w := w) (base := base) T
  have b_is_in_stretch := b_is_in_stretch T
  refine fn_data T.F_hushed_hours sc_hushed_hours rfl (fun cdv A outer s H E hr => ⟨_, (pss_one (ps_ret (pe_lc (own := [("hour", 3)]) (by rfl) sc_hushed_hours.nd (pi_range1 (by rfl) T.z_range (pa_cons (pe_gi (by rfl) T.i_DAY) pa_nil)) (blkOk_by (own := [("hour", 3)]) (N := ["hushed", "begin", "end", "hour"]) (sc := (defScope s_hushed_hours)) (by decide +kernel)) (fun _ _ _ _ _ => (pg_name (i := 3) sc_hushed_hours.nd rfl (.inr rfl))) (fun _ _ _ _ _ => pts_nil) (fun _ _ _ _ _ => (pe_callB (r := rAny K) (cr_any rfl) (by rfl) T.z_any (by decide +kernel) (pa_cons (pe_lc (own := [("begin", 1), ("end", 2)]) (by rfl) sc_hushed_hours.nd (pi_tupK K (pv 0)) (blkOk_by (by kernel_rfl)) (fun _ _ _ _ _ => (pg_tupK K 2 (by rfl) (pgs_cons (pg_name (i := 1) sc_hushed_hours.nd rfl (.inl rfl)) (pgs_cons (pg_name (i := 2) sc_hushed_hours.nd rfl (.inl rfl)) pgs_nil)))) (fun _ _ _ _ _ => pts_nil) (fun _ _ _ _ _ => (pe_call G_is_in_stretch (hr) (by rfl) T.g_is_in_stretch T.k_is_in_stretch b_is_in_stretch .nil pass0 (pa_cons (pv 3) (pa_cons (pv 1) (pa_cons (pv 2) pa_nil)))))) pa_nil)))))), fun ds hl hp => ?_⟩)
  obtain ⟨hs, rfl, hlen⟩ := hp
  try (set_option simprocs false in dsimp only [cxOf, Cx.nox, Cx.wish])
  change EvB K E _ [some (.tuple (hs.map pairD)), none, none, none] _
  have e : (fun h => ((hs.map pairD).map (fPair fun b e => inStr b e h)).any fun d => match d with | .bool b => b | _ => false) = inSome hs := by
    funext h
    unfold inSome
    rw [List.any_map, List.any_map]
    rfl
  apply evb_ret (d := .list ((rngD 0 24).map (fInt fun h => .bool (inSome hs h))))
  · refine evd_lcR10 (n := 24) (eva_cons evd_int eva_nil) (by decide) fun h h0 h1 => ?_
    refine EvD.to (evd_any (bs := hs.map fun p => inStr p.1 p.2 h) (EvD.to (evd_lcT (p := fun _ => true) (f := fPair fun b e => inStr b e h) (ds := hs.map pairD) (evd_var rfl) (by rw [List.length_map]; omega) fun d hd => ?_) ?_)) ?_
    · obtain ⟨p, _, rfl⟩ := List.mem_map.mp hd
      refine ⟨_, tgt_pair (by decide) (by decide), turn_yes, fun _ => ?_⟩
      walk_at "evd"
    · rw [filt_all, List.map_map, List.map_map]
      rfl
    · show PyData.bool _ = PyData.bool _
      unfold inSome
      rw [List.any_map]
      rfl
  · show PyData.list _ = PyData.list _
    rw [← e]
end
end Hn

set_option Elab.async false
set_option linter.all false
set_option maxRecDepth 100000
set_option maxHeartbeats 8000000
namespace Hn
open PySem PySem.Spec PyProof.Rows L2 Dl
section
variable {P : Program} {w : World} {K : PySem.W.Frag} {mg : Str → Option Value} {base : Heap}
local macro_rules | `(tactic| walk_at "evd") => `(tactic| first
  | ((with_reducible refine fun (hb : _ = _) => ?_); first | (simp [isD, tyD, isNone] at hb; done) | walk_at "evd")
  | with_reducible exact evd_int | with_reducible exact evd_bl | with_reducible exact evd_non | with_reducible exact evd_str | with_reducible exact eva_nil | with_reducible exact turn_yes | with_reducible exact evo_none
  | exact evd_var rfl
  | ((with_reducible apply eva_cons) <;> walk_at "evd")
  | ((with_reducible apply evd_call) <;> first | walk_at "evd" | exact rfl | exact ⟨_, rfl⟩ | exact ⟨_, _, rfl⟩ | exact ⟨_, _, _, rfl⟩ | skip)
  | ((with_reducible apply evd_isiD) <;> first | walk_at "evd" | simp)
  | ((with_reducible apply evd_tup) <;> first | walk_at "evd" | simp)
  | ((with_reducible apply evd_lst) <;> first | walk_at "evd" | simp)
  | ((with_reducible apply evd_chain) <;> walk_at "evd")
  | ((with_reducible apply evd_add) <;> walk_at "evd") | ((with_reducible apply evd_sub) <;> walk_at "evd") | ((with_reducible apply evd_neg) <;> walk_at "evd")
  | ((with_reducible apply evd_mod) <;> first | walk_at "evd" | decide | skip) | ((with_reducible apply evd_fdiv) <;> first | walk_at "evd" | decide | skip) | ((with_reducible apply evd_mul) <;> first | walk_at "evd" | decide | skip)
  | ((with_reducible apply evd_lt) <;> walk_at "evd") | ((with_reducible apply evd_le) <;> walk_at "evd") | ((with_reducible apply evd_gt) <;> walk_at "evd") | ((with_reducible apply evd_ge) <;> walk_at "evd")
  | ((with_reducible apply evd_isN); walk_at "evd") | ((with_reducible apply evd_notN); walk_at "evd")
  | ((with_reducible apply evd_len) <;> first | walk_at "evd" | exact rfl)
  | ((with_reducible apply evd_eqI) <;> walk_at "evd")
  | ((with_reducible apply evd_neI) <;> walk_at "evd")
  | ((with_reducible apply evd_eqB) <;> walk_at "evd")
  | ((with_reducible apply evd_neB) <;> walk_at "evd")
  | ((with_reducible apply evd_eqS) <;> walk_at "evd")
  | ((with_reducible apply evd_min2); walk_at "evd") | ((with_reducible apply evd_max2); walk_at "evd")
  | ((with_reducible apply evd_ixT) <;> first | walk_at "evd" | exact rfl | skip) | ((with_reducible apply evd_ixL) <;> first | walk_at "evd" | exact rfl | skip)
  | ((with_reducible apply evo_some); walk_at "evd") | ((with_reducible apply evd_slL) <;> walk_at "evd")
  | ((with_reducible apply evd_notV); walk_at "evd") | ((with_reducible apply evd_andV) <;> walk_at "evd") | ((with_reducible apply evd_orV) <;> walk_at "evd")
  | ((with_reducible apply evt_B); walk_at "evd") | ((with_reducible apply evt_test); walk_at "evd") | ((with_reducible apply evt_not); walk_at "evd")
  | ((with_reducible apply evt_or) <;> walk_at "evd") | ((with_reducible apply evt_and) <;> walk_at "evd")
  | exact false | exact PyData.none)
local macro_rules | `(tactic| walk_at "evb") => `(tactic| first
  | ((with_reducible refine fun (hb : _ = _) => ?_); first | (simp [isD, tyD, isNone] at hb; done) | walk_at "evb")
  | ((with_reducible apply evb_seq); set_option simprocs false in dsimp only; walk_at "evb")
  | ((with_reducible apply evb_if) <;> first | ((with_reducible refine fun (hb : _ = _) => ?_); first | (simp [isD, tyD, isNone] at hb; done) | walk_at "evb") | walk_at "evd" | skip)
  | ((with_reducible apply evb_asgX) <;> first | walk_at "evd" | exact rfl | skip)
  | ((with_reducible apply evb_dropX) <;> first | walk_at "evd" | exact rfl | skip)
  | ((with_reducible apply evb_retX) <;> first | walk_at "evd" | exact rfl | skip)
  | ((with_reducible apply evb_ret) <;> first | walk_at "evd" | skip)
  | ((with_reducible apply evb_asg) <;> first | walk_at "evd" | (set_option simprocs false in dsimp only [List.set]; walk_at "evb") | skip)
  | ((with_reducible apply evb_next); set_option simprocs false in dsimp only; walk_at "evb")
  | skip)
/-! rules as numbers -/
structure PR where
  hs : List (Int × Int)
  least : Int
  gs : List (Int × Int)
  wait : Option Int
  fur : Option Int
def optD : Option Int → D
  | none => .none
  | some i => .int i
def PR.data (r : PR) : D := .tuple [.tuple (r.hs.map pairD), .int r.least, .tuple (r.gs.map pairD), optD r.wait, optD r.fur]
def gOk : Int → List (Int × Int) → Prop
  | _, [] => True
  | lo, p :: r => lo ≤ p.1 ∧ p.1 ≤ 7 ∧ 1 ≤ p.2 ∧ p.2 ≤ 12 ∧ gOk (p.1 + 1) r
structure PR.Ok (many : Nat) (r : PR) : Prop where
  hl : r.hs.length ≤ 3
  hs : ∀ p ∈ r.hs, (0 ≤ p.1 ∧ p.1 ≤ 23) ∧ (0 ≤ p.2 ∧ p.2 ≤ 23) ∧ p.1 ≠ p.2
  le : 0 ≤ r.least ∧ r.least ≤ 4
  gl : r.gs.length ≤ 4
  gs : gOk 0 r.gs
  wt : ∀ i, r.wait = some i → 1 ≤ i ∧ i ≤ 24
  fu : ∀ i, r.fur = some i → 0 ≤ i ∧ i < many
def RD (R : List PR) : D := .tuple (R.map PR.data)
structure RulesOk (R : List PR) : Prop where
  one : 1 ≤ R.length
  six : R.length ≤ 6
  all : ∀ r ∈ R, r.Ok R.length
theorem whole_of {i lo hi : Int} (h1 : lo ≤ i) (h2 : i ≤ hi) : isWholeD (.int i) lo hi = true := by
  show (decide (lo ≤ i) && decide (i ≤ hi)) = true
  rw [decide_eq_true h1, decide_eq_true h2]
  rfl
theorem gath_of : ∀ (gs : List (Int × Int)) (lo : Int), gOk lo gs → gathD lo (gs.map pairD) = true
  | [], _, _ => rfl
  | p :: r, lo, h => by
    obtain ⟨h1, h2, h3, h4, h5⟩ := h
    show (isWholeD (.int p.1) lo 7 && isWholeD (.int p.2) 1 12 && gathD (p.1 + 1) (r.map pairD)) = true
    rw [whole_of h1 h2, whole_of h3 h4, gath_of r _ h5]
    rfl
theorem PR.Ok.good {many : Nat} {r : PR} (h : r.Ok many) : firstBadD r.data (many : Int) = .none := by
  have h1 : canHushedD (.tuple (r.hs.map pairD)) = true := by
    have hl := h.hl
    show (decide (((r.hs.map pairD).length : Int) ≤ 3) && (r.hs.map pairD).all isStretchD) = true
    rw [decide_eq_true (by rw [List.length_map]; omega), Bool.true_and, List.all_map, List.all_eq_true]
    intro p hp
    obtain ⟨a, b, c⟩ := h.hs p hp
    show (isWholeD (.int p.1) 0 23 && (isWholeD (.int p.2) 0 23 && !decide (p.1 = p.2))) = true
    rw [whole_of a.1 a.2, whole_of b.1 b.2, decide_eq_false c]
    rfl
  have h2 : isWholeD (.int r.least) 0 4 = true := whole_of h.le.1 h.le.2
  have h3 : canGatherD (.tuple (r.gs.map pairD)) = true := by
    have gl := h.gl
    show (decide (((r.gs.map pairD).length : Int) ≤ 4) && gathD 0 (r.gs.map pairD)) = true
    rw [decide_eq_true (by rw [List.length_map]; omega), gath_of _ _ h.gs]
    rfl
  have h4 : (isNone (optD r.wait) || isWholeD (optD r.wait) 1 24) = true := by
    cases e : r.wait with
    | none => rfl
    | some i =>
      show (false || isWholeD (.int i) 1 24) = true
      rw [whole_of (h.wt i e).1 (h.wt i e).2]
      rfl
  have h5 : (isNone (optD r.fur) || isWholeD (optD r.fur) 0 ((many : Int) - 1)) = true := by
    cases e : r.fur with
    | none => rfl
    | some i =>
      have z := h.fu i e
      show (false || isWholeD (.int i) 0 _) = true
      rw [whole_of z.1 (by omega)]
      rfl
  show (if (fitsD _ _ _ _ _ _).all id = true then PyData.none else _) = PyData.none
  have ha : (fitsD (.tuple (r.hs.map pairD)) (.int r.least) (.tuple (r.gs.map pairD)) (optD r.wait) (optD r.fur) (many : Int)).all id = true := by
    unfold fitsD
    rw [h1, h2, h3, h4, h5]
    rfl
  rw [if_pos ha]
theorem RulesOk.good {R : List PR} (h : RulesOk R) : rulesGood (RD R) := by
  refine ⟨by rw [List.length_map]; exact h.one, by rw [List.length_map]; exact h.six, fun r hr => ?_⟩
  obtain ⟨p, hp, rfl⟩ := List.mem_map.mp hr
  rw [List.length_map]
  exact (h.all p hp).good
/-- the hours of a person, or a refusal -/
def judgedR (K : PySem.W.Frag) (R : List PR) (p : D) : RX := match p with
  | .int i => if 0 ≤ i ∧ i < R.length then .ok (.list ((hoursB (R[i.toNat]?.map PR.hs |>.getD [])).map PyData.bool)) else .ex ⟨He.ga K "BadPerson", none⟩
  | _ => .ex ⟨He.ga K "BadPerson", none⟩
theorem personD_no {K : PySem.W.Frag} {n : Nat} {p : D} {x : XO} (h : personD K n p = .ex x) : isWholeD p 0 ((n : Int) - 1) = false ∧ x = ⟨He.ga K "BadPerson", none⟩ := by
  unfold personD at h
  split at h
  · cases h
  · rename_i q
    cases h
    exact ⟨by simpa using q, rfl⟩
theorem personD_yes {K : PySem.W.Frag} {n : Nat} {p d : D} (h : personD K n p = .ok d) : ∃ i, p = .int i ∧ 0 ≤ i ∧ i < n := by
  unfold personD at h
  split at h
  · rename_i q
    obtain ⟨i, rfl, h1, h2⟩ := whole_int q
    exact ⟨i, rfl, h1, by omega⟩
  · cases h
theorem judged_no {K : PySem.W.Frag} {R : List PR} {p : D} (h : isWholeD p 0 ((R.length : Int) - 1) = false) : judgedR K R p = .ex ⟨He.ga K "BadPerson", none⟩ := by
  cases p with
  | int i =>
    show (if 0 ≤ i ∧ i < R.length then _ else _) = _
    rw [if_neg]
    rintro ⟨h1, h2⟩
    rw [whole_of h1 (by omega)] at h
    cases h
  | _ => rfl
theorem judged_yes {K : PySem.W.Frag} {R : List PR} {i : Int} (h1 : 0 ≤ i) (h2 : i < R.length) {r : PR} (hr : R[i.toNat]? = some r) : judgedR K R (.int i) = .ok (.list ((hoursB r.hs).map PyData.bool)) := by
  show (if 0 ≤ i ∧ i < R.length then _ else _) = _
  rw [if_pos ⟨h1, h2⟩, hr]
  rfl
theorem ok_judged_hours (T : Tx K mg) : FnOk P w K mg base (L2.CX P w) 6 (He.ga K "judged_hours") T.fd_judged_hours ["rules", "person"] (spXI K (ι := List PR × D) (fun i => [RD i.1, i.2]) (fun i => RulesOk i.1) (fun i => judgedR K i.1 i.2)) := by
  have G_hushed_hours := ok_hushed_hours (P := P) (w := w) (base := base) T
  have b_hushed_hours := b_hushed_hours T
  have G_refuse_bad_person := ok_refuse_bad_person (P := P) (w := w) (base := base) T
  have b_refuse_bad_person := b_refuse_bad_person T
  have G_refuse_bad_rules := ok_refuse_bad_rules (P := P) (w := w) (base := base) T
  have b_refuse_bad_rules := b_refuse_bad_rules T
  refine fn_dataXI T.F_judged_hours sc_judged_hours (fun _ => rfl) (fun cdv A outer s H E hr => ⟨_, (pss_cons (ps_expr (pe_call G_refuse_bad_rules (hr) (by rfl) T.g_refuse_bad_rules T.k_refuse_bad_rules b_refuse_bad_rules .nil pass0 (pa_cons (pv 0) pa_nil)))
      (pss_cons (ps_expr (pe_call G_refuse_bad_person (hr.mono (by decide)) (by rfl) T.g_refuse_bad_person T.k_refuse_bad_person b_refuse_bad_person .nil passE (pa_cons (pv 0) (pa_cons (pv 1) pa_nil))))
      (pss_one (ps_ret (pe_call G_hushed_hours (hr.mono (by decide)) (by rfl) T.g_hushed_hours T.k_hushed_hours b_hushed_hours .nil pass0 (pa_cons (pe_ix (r := rIxT K) ix_tup (pe_ix (r := rIxT K) ix_tup (pv 0) (pv 1) (fun _ _ => rfl)) pe_int (fun _ _ => rfl)) pa_nil)))))), fun i hp => ?_⟩)
  obtain ⟨R, p⟩ := i
  try (set_option simprocs false in dsimp only [cxOf, Cx.nox, Cx.wish])
  change EvB K E _ [some (RD R), some p] _
  have hp : RulesOk R := hp
  apply evb_seq
  apply evb_drop (e := .none) (evd_call (eva_cons (evd_var rfl) eva_nil) rfl ⟨_, rfl, hp.good⟩ rfl)
  try (set_option simprocs false in dsimp only)
  apply evb_seq
  refine evb_dropX (ds := [RD R, p]) (by walk_at "evd") rfl ⟨_, _, rfl⟩ (fun d e => ?_) (fun x e => ?_)
  · obtain ⟨i, rfl, h1, h2⟩ := personD_yes e
    rw [List.length_map] at h2
    obtain ⟨r, hr⟩ : ∃ r, R[i.toNat]? = some r := ⟨R[i.toNat], List.getElem?_eq_getElem (by omega)⟩
    have hat : atI (R.map PR.data) i = some r.data := by
      have z : atI (R.map PR.data) (i.toNat : Int) = some r.data := atI_nat (by rw [List.getElem?_map, hr]; rfl)
      rw [show (i.toNat : Int) = i by omega] at z
      exact z
    have hl := (hp.all r (List.mem_of_getElem? hr)).hl
    show EvB K E _ _ _
    apply evb_ret (d := .list ((hoursB r.hs).map PyData.bool))
    · refine evd_call (ds := [.tuple (r.hs.map pairD)]) (eva_cons (evd_ixT (ds := [.tuple (r.hs.map pairD), .int r.least, .tuple (r.gs.map pairD), optD r.wait, optD r.fur]) (evd_ixT (ds := R.map PR.data) (evd_var rfl) (evd_var rfl) hat) evd_int rfl) eva_nil) rfl ⟨r.hs, rfl, by omega⟩ ?_
      show PyData.list _ = PyData.list _
      rw [← hoursB_eq]
      congr 1
      apply congrArg (fun z => (rngD 0 24).map z)
      apply congrArg fInt
      funext h
      show PyData.bool _ = PyData.bool _
      unfold inSome
      rw [List.any_map, List.any_map]
      rfl
    · exact judged_yes h1 h2 hr
  · obtain ⟨h1, rfl⟩ := personD_no e
    rw [List.length_map] at h1
    exact judged_no h1
end
end Hn

set_option Elab.async false
set_option linter.all false
set_option maxRecDepth 100000
set_option maxHeartbeats 8000000
namespace Hn
open PySem PySem.Spec PyProof.Rows L2 Dl
section
variable {P : Program} {w : World} {K : PySem.W.Frag} {mg : Str → Option Value} {base : Heap}
local macro_rules | `(tactic| walk_at "evd") => `(tactic| first
  | ((with_reducible refine fun (hb : _ = _) => ?_); first | (simp [isD, tyD, isNone] at hb; done) | walk_at "evd")
  | with_reducible exact evd_int | with_reducible exact evd_bl | with_reducible exact evd_non | with_reducible exact evd_str | with_reducible exact eva_nil | with_reducible exact turn_yes | with_reducible exact evo_none
  | exact evd_var rfl
  | ((with_reducible apply eva_cons) <;> walk_at "evd")
  | ((with_reducible apply evd_call) <;> first | walk_at "evd" | exact rfl | exact ⟨_, rfl⟩ | exact ⟨_, _, rfl⟩ | exact ⟨_, _, _, rfl⟩ | skip)
  | ((with_reducible apply evd_isiD) <;> first | walk_at "evd" | simp)
  | ((with_reducible apply evd_tup) <;> first | walk_at "evd" | simp)
  | ((with_reducible apply evd_lst) <;> first | walk_at "evd" | simp)
  | ((with_reducible apply evd_chain) <;> walk_at "evd")
  | ((with_reducible apply evd_add) <;> walk_at "evd") | ((with_reducible apply evd_sub) <;> walk_at "evd") | ((with_reducible apply evd_neg) <;> walk_at "evd")
  | ((with_reducible apply evd_mod) <;> first | walk_at "evd" | decide | skip) | ((with_reducible apply evd_fdiv) <;> first | walk_at "evd" | decide | skip) | ((with_reducible apply evd_mul) <;> first | walk_at "evd" | decide | skip)
  | ((with_reducible apply evd_lt) <;> walk_at "evd") | ((with_reducible apply evd_le) <;> walk_at "evd") | ((with_reducible apply evd_gt) <;> walk_at "evd") | ((with_reducible apply evd_ge) <;> walk_at "evd")
  | ((with_reducible apply evd_isN); walk_at "evd") | ((with_reducible apply evd_notN); walk_at "evd")
  | ((with_reducible apply evd_len) <;> first | walk_at "evd" | exact rfl)
  | ((with_reducible apply evd_eqI) <;> walk_at "evd")
  | ((with_reducible apply evd_neI) <;> walk_at "evd")
  | ((with_reducible apply evd_eqB) <;> walk_at "evd")
  | ((with_reducible apply evd_neB) <;> walk_at "evd")
  | ((with_reducible apply evd_eqS) <;> walk_at "evd")
  | ((with_reducible apply evd_min2); walk_at "evd") | ((with_reducible apply evd_max2); walk_at "evd")
  | ((with_reducible apply evd_ixT) <;> first | walk_at "evd" | exact rfl | skip) | ((with_reducible apply evd_ixL) <;> first | walk_at "evd" | exact rfl | skip)
  | ((with_reducible apply evo_some); walk_at "evd") | ((with_reducible apply evd_slL) <;> walk_at "evd")
  | ((with_reducible apply evd_notV); walk_at "evd") | ((with_reducible apply evd_andV) <;> walk_at "evd") | ((with_reducible apply evd_orV) <;> walk_at "evd")
  | ((with_reducible apply evt_B); walk_at "evd") | ((with_reducible apply evt_test); walk_at "evd") | ((with_reducible apply evt_not); walk_at "evd")
  | ((with_reducible apply evt_or) <;> walk_at "evd") | ((with_reducible apply evt_and) <;> walk_at "evd")
  | exact false | exact PyData.none)
local macro_rules | `(tactic| walk_at "evb") => `(tactic| first
  | ((with_reducible refine fun (hb : _ = _) => ?_); first | (simp [isD, tyD, isNone] at hb; done) | walk_at "evb")
  | ((with_reducible apply evb_seq); set_option simprocs false in dsimp only; walk_at "evb")
  | ((with_reducible apply evb_if) <;> first | ((with_reducible refine fun (hb : _ = _) => ?_); first | (simp [isD, tyD, isNone] at hb; done) | walk_at "evb") | walk_at "evd" | skip)
  | ((with_reducible apply evb_asgX) <;> first | walk_at "evd" | exact rfl | skip)
  | ((with_reducible apply evb_dropX) <;> first | walk_at "evd" | exact rfl | skip)
  | ((with_reducible apply evb_retX) <;> first | walk_at "evd" | exact rfl | skip)
  | ((with_reducible apply evb_ret) <;> first | walk_at "evd" | skip)
  | ((with_reducible apply evb_asg) <;> first | walk_at "evd" | (set_option simprocs false in dsimp only [List.set]; walk_at "evb") | skip)
  | ((with_reducible apply evb_next); set_option simprocs false in dsimp only; walk_at "evb")
  | skip)
def aheadB (bs : List Bool) (m : Int) : Int := m / 24 * cntB bs + cntB (bs.take (m % 24).toNat)
theorem cnt_le : ∀ bs : List Bool, 0 ≤ cntB bs ∧ cntB bs ≤ bs.length
  | [] => ⟨by decide, by decide⟩
  | b :: r => by
    have h := cnt_le r
    have e : cntB (b :: r) = b2i b + cntB r := by unfold cntB; rw [List.map_cons, List.sum_cons]
    rw [e, List.length_cons]
    cases b <;> simp [b2i] <;> omega
theorem cut_take {ds : List D} {k : Int} (h0 : 0 ≤ k) : cutDs ds none (some k) = ds.take k.toNat := by
  unfold cutDs
  rw [HT.sIx_none, show k = ((k.toNat : Nat) : Int) by omega, HT.sIx_nat]
  show (ds.drop 0).take (min k.toNat ds.length - 0) = _
  rw [List.drop_zero, Nat.sub_zero]
  rw [show ((k.toNat : Nat) : Int).toNat = k.toNat by omega, List.take_eq_take_iff]
  omega
theorem ok_hushed_ahead_of (T : Tx K mg) : FnOk P w K mg base CX0 1 (He.ga K "hushed_ahead_of") T.fd_hushed_ahead_of ["hours", "moment"] (spFI K (ι := List Bool × Int) (fun i => [.list (i.1.map PyData.bool), .int i.2]) (fun i => i.1.length = 24 ∧ 0 ≤ i.2) (fun i => .int (aheadB i.1 i.2))) := by
  refine fn_dataI T.F_hushed_ahead_of sc_hushed_ahead_of (fun _ => rfl) (fun cdv A outer s H E hr => ⟨_, (pss_one (ps_ret (pe_op op_add (pe_op op_mul (pe_op op_fdiv (pv 1) (pe_gi (by rfl) T.i_DAY)) (pe_callB (r := rSumB K) (cr_sumB rfl) (by rfl) T.z_sum (by decide +kernel) (pa_cons (pv 0) pa_nil))) (pe_callB (r := rSumB K) (cr_sumB rfl) (by rfl) T.z_sum (by decide +kernel) (pa_cons (pe_slice (r := rSlL K) sl_list (pv 0) po_none (po_some (pe_op op_mod (pv 1) (pe_gi (by rfl) T.i_DAY)))) pa_nil))))), fun i hp => ?_⟩)
  obtain ⟨bs, m⟩ := i
  obtain ⟨h24, hm⟩ : bs.length = 24 ∧ 0 ≤ m := hp
  try (set_option simprocs false in dsimp only [cxOf, Cx.nox, Cx.wish])
  change EvB K E _ [some (.list (bs.map PyData.bool)), some (.int m)] _
  have hc := cnt_le bs
  apply evb_ret (d := .int (aheadB bs m))
  · refine evd_add (evd_mul (evd_fdiv (evd_var rfl) evd_int ⟨by decide, by decide⟩) (evd_sumB (evd_var rfl)) (.inr ⟨by omega, by omega⟩)) (evd_sumB (bs := bs.take (m % 24).toNat) (EvD.to (evd_slL (evd_var rfl) evo_none (evo_some (evd_mod (evd_var rfl) evd_int (by decide)))) ?_))
    rw [cut_take (by omega), List.map_take]
  · rfl
/-- the hushed hours of a person -/
def hsOf (R : List PR) (p : D) : List (Int × Int) := match p with
  | .int i => (R[i.toNat]?.map PR.hs).getD []
  | _ => []
def isPerson (R : List PR) (p : D) : Bool := match p with
  | .int i => decide (0 ≤ i ∧ i < R.length)
  | _ => false
def isMoment (m : D) : Bool := isWholeD m 0 1000000
/-- person, then moments, then the answer -/
def guardR (K : PySem.W.Frag) (R : List PR) (p : D) : List D → D → RX
  | [], d => if isPerson R p = true then .ok d else .ex ⟨He.ga K "BadPerson", none⟩
  | m :: ms, d => if isPerson R p = true then (if isMoment m = true then guardR K R p ms d else .ex ⟨He.ga K "BadMoment", none⟩) else .ex ⟨He.ga K "BadPerson", none⟩
theorem judged_ok {K : PySem.W.Frag} {R : List PR} {p d : D} (h : judgedR K R p = .ok d) : isPerson R p = true ∧ d = .list ((hoursB (hsOf R p)).map PyData.bool) := by
  cases p with
  | int i =>
    by_cases hi : 0 ≤ i ∧ i < R.length
    · have e : judgedR K R (.int i) = .ok (.list ((hoursB ((R[i.toNat]?.map PR.hs).getD [])).map PyData.bool)) := if_pos hi
      rw [e] at h
      cases h
      exact ⟨decide_eq_true hi, rfl⟩
    · have e : judgedR K R (.int i) = .ex ⟨He.ga K "BadPerson", none⟩ := if_neg hi
      rw [e] at h
      cases h
  | _ => cases h
theorem judged_ex {K : PySem.W.Frag} {R : List PR} {p : D} {x : XO} (h : judgedR K R p = .ex x) : isPerson R p = false ∧ x = ⟨He.ga K "BadPerson", none⟩ := by
  cases p with
  | int i =>
    by_cases hi : 0 ≤ i ∧ i < R.length
    · have e : judgedR K R (.int i) = .ok (.list ((hoursB ((R[i.toNat]?.map PR.hs).getD [])).map PyData.bool)) := if_pos hi
      rw [e] at h
      cases h
    · have e : judgedR K R (.int i) = .ex ⟨He.ga K "BadPerson", none⟩ := if_neg hi
      rw [e] at h
      cases h
      exact ⟨decide_eq_false hi, rfl⟩
  | _ => cases h <;> exact ⟨rfl, rfl⟩
theorem moment_ok {K : PySem.W.Frag} {m d : D} (h : momentD K m = .ok d) : isMoment m = true := by
  unfold momentD at h
  split at h
  · assumption
  · cases h
theorem moment_ex {K : PySem.W.Frag} {m : D} {x : XO} (h : momentD K m = .ex x) : isMoment m = false ∧ x = ⟨He.ga K "BadMoment", none⟩ := by
  unfold momentD at h
  split at h
  · cases h
  · rename_i q
    cases h
    exact ⟨by simpa [isMoment] using q, rfl⟩
theorem guard_ex {K : PySem.W.Frag} {R : List PR} {p d : D} {ms : List D} (h : isPerson R p = false) : guardR K R p ms d = .ex ⟨He.ga K "BadPerson", none⟩ := by
  cases ms <;> (unfold guardR; rw [if_neg (by rw [h]; exact Bool.false_ne_true)])
theorem guard_m {K : PySem.W.Frag} {R : List PR} {p m d : D} {ms : List D} (h : isPerson R p = true) (h2 : isMoment m = false) : guardR K R p (m :: ms) d = .ex ⟨He.ga K "BadMoment", none⟩ := by
  unfold guardR
  rw [if_pos h, if_neg (by rw [h2]; exact Bool.false_ne_true)]
theorem guard_on {K : PySem.W.Frag} {R : List PR} {p m d : D} {ms : List D} (h : isPerson R p = true) (h2 : isMoment m = true) : guardR K R p (m :: ms) d = guardR K R p ms d := by
  show (if _ then _ else _) = _
  rw [if_pos h, if_pos h2]
theorem guard_end {K : PySem.W.Frag} {R : List PR} {p d : D} (h : isPerson R p = true) : guardR K R p [] d = .ok d := if_pos h
def nowD (R : List PR) (p m : D) : D := match m with
  | .int m => .bool (inSome (hsOf R p) (m % 24))
  | _ => .none
theorem hours_at (hs : List (Int × Int)) {h : Int} (h0 : 0 ≤ h) (h1 : h < 24) : atI ((hoursB hs).map PyData.bool) h = some (.bool (inSome hs h)) := by
  have z : atI ((hoursB hs).map PyData.bool) (h.toNat : Int) = some (.bool (inSome hs h)) := atI_nat (by
    unfold hoursB
    rw [List.getElem?_map, List.getElem?_map, List.getElem?_range (by omega)]
    show some (PyData.bool (inSome hs (h.toNat : Int))) = _
    rw [show (h.toNat : Int) = h by omega])
  rw [show (h.toNat : Int) = h by omega] at z
  exact z
theorem ok_is_hushed (T : Tx K mg) : FnOk P w K mg base (L2.CX P w) 7 (He.ga K "is_hushed") T.fd_is_hushed ["rules", "person", "moment"] (spXI K (ι := List PR × D × D) (fun i => [RD i.1, i.2.1, i.2.2]) (fun i => RulesOk i.1) (fun i => guardR K i.1 i.2.1 [i.2.2] (nowD i.1 i.2.1 i.2.2))) := by
  have G_judged_hours := ok_judged_hours (P := P) (w := w) (base := base) T
  have b_judged_hours := b_judged_hours T
  have G_refuse_bad_moment := ok_refuse_bad_moment (P := P) (w := w) (base := base) T
  have b_refuse_bad_moment := b_refuse_bad_moment T
  refine fn_dataXI T.F_is_hushed sc_is_hushed (fun _ => rfl) (fun cdv A outer s H E hr => ⟨_, (pss_cons (ps_set (i := 3) sc_is_hushed.nd rfl (.inl rfl) (pe_call G_judged_hours (hr) (by rfl) T.g_judged_hours T.k_judged_hours b_judged_hours .nil passE (pa_cons (pv 0) (pa_cons (pv 1) pa_nil))))
      (pss_cons (ps_expr (pe_call G_refuse_bad_moment (hr.mono (by decide)) (by rfl) T.g_refuse_bad_moment T.k_refuse_bad_moment b_refuse_bad_moment .nil passE (pa_cons (pv 2) pa_nil)))
      (pss_one (ps_ret (pe_ix (r := rIxL K) ix_list (pv 3) (pe_op op_mod (pv 2) (pe_gi (by rfl) T.i_DAY)) (fun _ _ => rfl)))))), fun i hp => ?_⟩)
  obtain ⟨R, p, m⟩ := i
  try (set_option simprocs false in dsimp only [cxOf, Cx.nox, Cx.wish])
  change EvB K E _ [some (RD R), some p, some m, none] _
  have hp : RulesOk R := hp
  apply evb_seq
  refine evb_asgXI (R, p) (by walk_at "evd") hp (fun d e => ?_) (fun x e => ?_)
  · obtain ⟨h1, rfl⟩ := judged_ok e
    show EvB K E _ _ _
    apply evb_seq
    refine evb_dropX (ds := [m]) (by walk_at "evd") rfl ⟨_, rfl⟩ (fun d e => ?_) (fun x e => ?_)
    · have h2 := moment_ok e
      obtain ⟨i, rfl, i1, i2⟩ := whole_int h2
      show EvB K E _ _ _
      apply evb_ret (d := .bool (inSome (hsOf R p) (i % 24)))
      · exact evd_ixL (ds := (hoursB (hsOf R p)).map PyData.bool) (evd_var rfl) (evd_mod (evd_var rfl) evd_int (by decide)) (hours_at _ (by omega) (by omega))
      · show guardR K R p _ _ = _
        rw [guard_on h1 h2, guard_end h1]
        rfl
    · obtain ⟨h2, rfl⟩ := moment_ex e
      exact guard_m h1 h2
  · obtain ⟨h1, rfl⟩ := judged_ex e
    exact guard_ex h1
/-- the first moment from m on that isn't hushed -/
def freeD (hs : List (Int × Int)) (m : Int) : D := match (List.range 24).find? (fun i => !inSome hs ((m + (i : Nat)) % 24)) with
  | some i => .int (m + (i : Nat))
  | none => .none
def freeOfD (R : List PR) (p m : D) : D := match m with
  | .int m => freeD (hsOf R p) m
  | _ => .none
theorem find_range {q : Nat → Bool} {n i : Nat} (hi : i < n) (h : ∀ j, j < i → q j = false) (hq : q i = true) : (List.range n).find? q = some i := by
  rw [List.find?_range_eq_some]
  exact ⟨hq, List.mem_range.mpr hi, fun j hj => by rw [h j hj]; rfl⟩
theorem find_range_none {q : Nat → Bool} {n : Nat} (h : ∀ j, j < n → q j = false) : (List.range n).find? q = none := by
  rw [List.find?_eq_none]
  intro j hj
  rw [h j (List.mem_range.mp hj)]
  exact Bool.false_ne_true
theorem ok_free_from (T : Tx K mg) : FnOk P w K mg base (L2.CX P w) 7 (He.ga K "free_from") T.fd_free_from ["rules", "person", "moment"] (spXI K (ι := List PR × D × D) (fun i => [RD i.1, i.2.1, i.2.2]) (fun i => RulesOk i.1) (fun i => guardR K i.1 i.2.1 [i.2.2] (freeOfD i.1 i.2.1 i.2.2))) := by
  have G_judged_hours := ok_judged_hours (P := P) (w := w) (base := base) T
  have b_judged_hours := b_judged_hours T
  have G_refuse_bad_moment := ok_refuse_bad_moment (P := P) (w := w) (base := base) T
  have b_refuse_bad_moment := b_refuse_bad_moment T
  refine fn_dataXI T.F_free_from sc_free_from (fun _ => rfl) (fun cdv A outer s H E hr => ⟨_, (pss_cons (ps_set (i := 3) sc_free_from.nd rfl (.inl rfl) (pe_call G_judged_hours (hr) (by rfl) T.g_judged_hours T.k_judged_hours b_judged_hours .nil passE (pa_cons (pv 0) (pa_cons (pv 1) pa_nil))))
      (pss_cons (ps_expr (pe_call G_refuse_bad_moment (hr.mono (by decide)) (by rfl) T.g_refuse_bad_moment T.k_refuse_bad_moment b_refuse_bad_moment .nil passE (pa_cons (pv 2) pa_nil)))
      (pss_cons (ps_for (passes_of rfl) rfl (pi_range2 (by rfl) T.z_range (pa_cons (pv 2) (pa_cons (pe_op op_add (pv 2) (pe_gi (by rfl) T.i_DAY)) pa_nil))) (pg_name (i := 4) sc_free_from.nd rfl (.inl rfl))
      (pss_one (ps_if (pt_not (pt_val (pe_ix (r := rIxL K) ix_list (pv 3) (pe_op op_mod (pv 4) (pe_gi (by rfl) T.i_DAY)) (fun _ _ => rfl)))) (pss_one (ps_ret (pv 4))) pss_nil)))
      (pss_one (ps_ret pe_non))))), fun i hp => ?_⟩)
  obtain ⟨R, p, m⟩ := i
  try (set_option simprocs false in dsimp only [cxOf, Cx.nox, Cx.wish])
  change EvB K E _ [some (RD R), some p, some m, none, none] _
  have hp : RulesOk R := hp
  apply evb_seq
  refine evb_asgXI (R, p) (by walk_at "evd") hp (fun d e => ?_) (fun x e => ?_)
  · obtain ⟨h1, rfl⟩ := judged_ok e
    show EvB K E _ _ _
    apply evb_seq
    refine evb_dropX (ds := [m]) (by walk_at "evd") rfl ⟨_, rfl⟩ (fun d e => ?_) (fun x e => ?_)
    · have h2 := moment_ok e
      obtain ⟨i, rfl, i1, i2⟩ := whole_int h2
      have hg : ∀ d, guardR K R p [.int i] d = .ok d := fun d => by rw [guard_on h1 h2, guard_end h1]
      show EvB K E _ _ _
      apply evb_seq
      refine evb_forR2 (vs := [4]) (lo := i) (hi := i + 24) (fun j δ => ∃ a, δ = [some (RD R), some p, some (.int i), some (.list ((hoursB (hsOf R p)).map PyData.bool)), a] ∧ ∀ k, k < j → (!inSome (hsOf R p) ((i + (k : Nat)) % 24)) = false) (eva_cons (evd_var rfl) (eva_cons (evd_add (evd_var rfl) evd_int) eva_nil)) ⟨by omega, by omega, by omega, by omega⟩ ⟨_, rfl, fun k hk => absurd hk (Nat.not_lt_zero _)⟩ (fun j hj δ hI => ?_) (fun δ hI => ?_)
      · obtain ⟨a, rfl, hk⟩ := hI
        refine ⟨_, tgt_name (by simp), ?_⟩
        set_option simprocs false in dsimp only [List.set]
        apply evb_if (b := !inSome (hsOf R p) ((i + (j : Nat)) % 24))
        · exact evt_not (evt_B (evd_ixL (ds := (hoursB (hsOf R p)).map PyData.bool) (evd_var rfl) (evd_mod (evd_var rfl) evd_int (by decide)) (hours_at _ (by omega) (by omega))))
        · intro hb
          apply evb_ret (evd_var rfl)
          show guardR K R p _ _ = _
          rw [hg]
          show RX.ok (freeD (hsOf R p) i) = _
          unfold freeD
          rw [find_range (i := j) (by omega) hk hb]
        · intro hb
          apply evb_next
          refine ⟨_, rfl, fun k hk' => ?_⟩
          by_cases e : k = j
          · rw [e]
            exact hb
          · exact hk k (by omega)
      · obtain ⟨a, rfl, hk⟩ := hI
        show EvB K E _ _ _
        apply evb_ret evd_non
        show guardR K R p _ _ = _
        rw [hg]
        show RX.ok (freeD (hsOf R p) i) = _
        unfold freeD
        rw [find_range_none fun j hj => hk j (by omega)]
    · obtain ⟨h2, rfl⟩ := moment_ex e
      exact guard_m h1 h2
  · obtain ⟨h1, rfl⟩ := judged_ex e
    exact guard_ex h1
def betweenD (R : List PR) (p b e : D) : D := match b, e with
  | .int b, .int e => .int (if e ≤ b then 0 else aheadB (hoursB (hsOf R p)) e - aheadB (hoursB (hsOf R p)) b)
  | _, _ => .none
theorem ok_hushed_between (T : Tx K mg) : FnOk P w K mg base (L2.CX P w) 7 (He.ga K "hushed_between") T.fd_hushed_between ["rules", "person", "begin", "end"] (spXI K (ι := List PR × D × D × D) (fun i => [RD i.1, i.2.1, i.2.2.1, i.2.2.2]) (fun i => RulesOk i.1) (fun i => guardR K i.1 i.2.1 [i.2.2.1, i.2.2.2] (betweenD i.1 i.2.1 i.2.2.1 i.2.2.2))) := by
  have G_hushed_ahead_of := ok_hushed_ahead_of (P := P) (w := w) (base := base) T
  have b_hushed_ahead_of := b_hushed_ahead_of T
  have G_judged_hours := ok_judged_hours (P := P) (w := w) (base := base) T
  have b_judged_hours := b_judged_hours T
  have G_refuse_bad_moment := ok_refuse_bad_moment (P := P) (w := w) (base := base) T
  have b_refuse_bad_moment := b_refuse_bad_moment T
  refine fn_dataXI T.F_hushed_between sc_hushed_between (fun _ => rfl) (fun cdv A outer s H E hr => ⟨_, (pss_cons (ps_set (i := 4) sc_hushed_between.nd rfl (.inl rfl) (pe_call G_judged_hours (hr) (by rfl) T.g_judged_hours T.k_judged_hours b_judged_hours .nil passE (pa_cons (pv 0) (pa_cons (pv 1) pa_nil))))
      (pss_cons (ps_expr (pe_call G_refuse_bad_moment (hr.mono (by decide)) (by rfl) T.g_refuse_bad_moment T.k_refuse_bad_moment b_refuse_bad_moment .nil passE (pa_cons (pv 2) pa_nil)))
      (pss_cons (ps_expr (pe_call G_refuse_bad_moment (hr.mono (by decide)) (by rfl) T.g_refuse_bad_moment T.k_refuse_bad_moment b_refuse_bad_moment .nil passE (pa_cons (pv 3) pa_nil)))
      (pss_cons (ps_if (pt_cmpR op_le (pv 3) (pv 2) (nomark _)) (pss_one (ps_ret pe_int)) pss_nil)
      (pss_one (ps_ret (pe_op op_sub (pe_call G_hushed_ahead_of (hr.mono (by decide)) (by rfl) T.g_hushed_ahead_of T.k_hushed_ahead_of b_hushed_ahead_of .nil pass0 (pa_cons (pv 4) (pa_cons (pv 3) pa_nil))) (pe_call G_hushed_ahead_of (hr.mono (by decide)) (by rfl) T.g_hushed_ahead_of T.k_hushed_ahead_of b_hushed_ahead_of .nil pass0 (pa_cons (pv 4) (pa_cons (pv 2) pa_nil)))))))))), fun i hp => ?_⟩)
  obtain ⟨R, p, b, e⟩ := i
  try (set_option simprocs false in dsimp only [cxOf, Cx.nox, Cx.wish])
  change EvB K E _ [some (RD R), some p, some b, some e, none] _
  have hp : RulesOk R := hp
  apply evb_seq
  refine evb_asgXI (R, p) (by walk_at "evd") hp (fun d q => ?_) (fun x q => ?_)
  · obtain ⟨h1, rfl⟩ := judged_ok q
    show EvB K E _ _ _
    apply evb_seq
    refine evb_dropX (ds := [b]) (by walk_at "evd") rfl ⟨_, rfl⟩ (fun d q => ?_) (fun x q => ?_)
    · have h2 := moment_ok q
      obtain ⟨i, rfl, i1, i2⟩ := whole_int h2
      show EvB K E _ _ _
      apply evb_seq
      refine evb_dropX (ds := [e]) (by walk_at "evd") rfl ⟨_, rfl⟩ (fun d q => ?_) (fun x q => ?_)
      · have h3 := moment_ok q
        obtain ⟨j, rfl, j1, j2⟩ := whole_int h3
        have hg : ∀ d, guardR K R p [.int i, .int j] d = .ok d := fun d => by rw [guard_on h1 h2, guard_on h1 h3, guard_end h1]
        show EvB K E _ _ _
        apply evb_seq
        set_option simprocs false in dsimp only
        apply evb_if (b := decide (j ≤ i))
        · walk_at "evd"
        · intro hb
          apply evb_ret evd_int
          show guardR K R p _ _ = _
          rw [hg]
          show RX.ok (.int (if j ≤ i then 0 else _)) = _
          rw [if_pos (of_decide_eq_true hb)]
        · intro hb
          apply evb_next
          show EvB K E _ _ _
          apply evb_ret
          · exact evd_sub (evd_callI (hoursB (hsOf R p), j) (by walk_at "evd") ⟨hoursB_length _, j1⟩ rfl) (evd_callI (hoursB (hsOf R p), i) (by walk_at "evd") ⟨hoursB_length _, i1⟩ rfl)
          · show guardR K R p _ _ = _
            rw [hg]
            show RX.ok (.int (if j ≤ i then 0 else _)) = _
            rw [if_neg (of_decide_eq_false hb)]
      · obtain ⟨h3, rfl⟩ := moment_ex q
        show guardR K R p _ _ = _
        rw [guard_on h1 h2, guard_m h1 h3]
    · obtain ⟨h2, rfl⟩ := moment_ex q
      exact guard_m h1 h2
  · obtain ⟨h1, rfl⟩ := judged_ex q
    exact guard_ex h1
end
end Hn

set_option Elab.async false
set_option linter.all false
set_option maxRecDepth 100000
set_option maxHeartbeats 4000000
/-! Draws: the law's box changes, lists of the def's own grow; what is read stays plain data. Readings told backward, by what must hold of every answer. -/
namespace Dl
open PySem PySem.Spec PyProof.Rows L2
/-- the box [numbers, stirred] at b, its numbers at c -/
structure Bx where
  b : Addr
  c : Addr
  t : Addr
  nm : Nat → Nat → Str
def Bx.M (x : Bx) : Addr → Prop := fun a => a = x.b ∨ a = x.c ∨ a = x.t
/-- all but lists stay -/
def KeepL (H H' : Hp) : Prop := ∀ a o, H a = some o → (∀ ys, o ≠ .lst ys) → H' a = some o
theorem KeepL.all {H H' : Hp} (e : Sub H H') : KeepL H H' := fun a o h _ => e a o h
theorem KeepL.trans {H H1 H2 : Hp} (a : KeepL H H1) (b : KeepL H1 H2) : KeepL H H2 := fun x o h n => b x o (a x o h n) n
theorem KeepL.lst {H : Hp} {p : Addr} {ys zs : List V} (h : H p = some (.lst ys)) : KeepL H (upd H p (.lst zs)) := fun a o e n => by
  rw [upd_ne]
  · exact e
  · rintro rfl
    rw [h] at e
    cases e
    exact n _ rfl
theorem TabN.keepL {H H' : Hp} {t : Addr} {nm : Nat → Nat → Str} (k : KeepL H H') (h : NdefX.TabN H t nm) : NdefX.TabN H' t nm := by
  obtain ⟨ps, h1, h2, h3⟩ := h
  refine ⟨ps, k _ _ h1 (fun ys z => by cases z), h2, fun pos cv hc => ?_⟩
  obtain ⟨c, e1, e2⟩ := h3 pos cv hc
  exact ⟨c, e1, k _ _ e2 (fun ys z => by unfold LamX.CodeO at z; cases z)⟩
structure Box (x : Bx) (F H : Hp) : Prop where
  ne : x.b ≠ x.c
  fb : F x.b = none
  fc : F x.c = none
  ft : F x.t = none
  hold : ∃ (ns : List Int) (st : Int), ns.length ≤ 63 ∧ H x.b = some (.lst [.ref x.c, .int st]) ∧ H x.c = some (.lst (ns.map V.int))
  tab : NdefX.TabN H x.t x.nm
section
variable {K : PySem.W.Frag} {x : Bx} {F H F' H' F0 H0 : Hp}
theorem Box.notM (h : Box x F H) {p : Addr} (n : H p = none) : ¬ x.M p := fun m => by
  obtain ⟨_, _, _, h1, h2⟩ := h.hold
  obtain ⟨_, h3, _⟩ := h.tab
  rcases m with rfl | rfl | rfl
  · rw [n] at h1; cases h1
  · rw [n] at h2; cases h2
  · rw [n] at h3; cases h3
theorem Box.pure (h : Box x F H) (g : Gr0 F H F' H') : Box x F' H' := by
  obtain ⟨ns, st, hl, h1, h2⟩ := h.hold
  obtain ⟨_, h3, _⟩ := h.tab
  exact ⟨h.ne, (g.old _ _ h1).trans h.fb, (g.old _ _ h2).trans h.fc, (g.old _ _ h3).trans h.ft, ⟨ns, st, hl, g.all _ _ h1, g.all _ _ h2⟩, h.tab.ext g.all⟩
/-- what a slot holds: data, a list of the def's own that grows, the box -/
inductive SD where
  | no
  | val (d : D)
  | own (ds : List D)
  | box (t : Addr) (nm : Nat → Nat → Str)
structure DpS2 (K : PySem.W.Frag) (x : Bx) (F H : Hp) (σ : L2.St) (δ : List SD) : Prop where
  len : σ.length = δ.length
  val : ∀ (i : Nat) (d : D), δ[i]? = some (.val d) → ∃ v, σ[i]? = some (some v) ∧ Dp K F v d
  own : ∀ (i : Nat) (ds : List D), δ[i]? = some (.own ds) → ∃ p acc, σ[i]? = some (some (.ref p)) ∧ H p = some (.lst acc) ∧ F p = none ∧ ¬ x.M p ∧ DpAll K F acc ds
  box : ∀ (i : Nat) (t : Addr) (nm : Nat → Nat → Str), δ[i]? = some (.box t nm) → σ[i]? = some (some (.ref x.b)) ∧ x.t = t ∧ x.nm = nm
  two : ∀ (i j : Nat) (ds es : List D) (p : Addr), i ≠ j → δ[i]? = some (.own ds) → δ[j]? = some (.own es) → σ[i]? = some (some (.ref p)) → σ[j]? ≠ some (some (.ref p))
theorem set_get {α : Type} {l : List α} {i j : Nat} {a b : α} (h : (l.set i a)[j]? = some b) : (i = j ∧ a = b ∧ i < l.length) ∨ (i ≠ j ∧ l[j]? = some b) := by
  by_cases e : i = j
  · subst e
    by_cases hl : i < l.length
    · rw [List.getElem?_set_self hl] at h
      exact .inl ⟨rfl, Option.some.inj h, hl⟩
    · rw [List.getElem?_eq_none (by rw [List.length_set]; omega)] at h
      cases h
  · rw [List.getElem?_set_ne e] at h
    exact .inr ⟨e, h⟩
variable {σ : L2.St} {δ : List SD}
theorem DpS2.go (h : DpS2 K x F H σ δ) (s : Sub F H) (g : Gr x.M F H F' H') : DpS2 K x F' H' σ δ := ⟨h.len, fun i d e => by
    obtain ⟨v, h1, h2⟩ := h.val i d e
    exact ⟨v, h1, dp_sub (g.ext s) h2⟩, fun i ds e => by
    obtain ⟨p, acc, h1, h2, h3, h4, h5⟩ := h.own i ds e
    exact ⟨p, acc, h1, g.keep p _ h4 h2, (g.old p _ h2).trans h3, h4, dpa_sub (g.ext s) h5⟩, h.box, h.two⟩
theorem DpS2.setVal {i : Nat} {v : V} {d : D} (h : DpS2 K x F H σ δ) (dv : Dp K F v d) : DpS2 K x F H (σ.set i (some v)) (δ.set i (.val d)) := ⟨by rw [List.length_set, List.length_set]; exact h.len, fun j e hj => by
    rcases set_get hj with ⟨rfl, q, hl⟩ | ⟨n, q⟩
    · cases q
      exact ⟨v, List.getElem?_set_self (by rw [h.len]; exact hl), dv⟩
    · rw [List.getElem?_set_ne n]
      exact h.val j e q, fun j ds hj => by
    rcases set_get hj with ⟨_, q, _⟩ | ⟨n, q⟩
    · cases q
    · rw [List.getElem?_set_ne n]
      exact h.own j ds q, fun j t nm hj => by
    rcases set_get hj with ⟨_, q, _⟩ | ⟨n, q⟩
    · cases q
    · rw [List.getElem?_set_ne n]
      exact h.box j t nm q, fun j k ds es p njk hj hk hp => by
    rcases set_get hj with ⟨_, q, _⟩ | ⟨n, q⟩
    · cases q
    · rcases set_get hk with ⟨_, q2, _⟩ | ⟨n2, q2⟩
      · cases q2
      · rw [List.getElem?_set_ne n2]
        rw [List.getElem?_set_ne n] at hp
        exact h.two j k ds es p njk q q2 hp⟩
theorem DpS2.setNo {i : Nat} {v : Option V} (h : DpS2 K x F H σ δ) : DpS2 K x F H (σ.set i v) (δ.set i .no) := ⟨by rw [List.length_set, List.length_set]; exact h.len, fun j e hj => by
    rcases set_get hj with ⟨_, q, _⟩ | ⟨n, q⟩
    · cases q
    · rw [List.getElem?_set_ne n]
      exact h.val j e q, fun j ds hj => by
    rcases set_get hj with ⟨_, q, _⟩ | ⟨n, q⟩
    · cases q
    · rw [List.getElem?_set_ne n]
      exact h.own j ds q, fun j t nm hj => by
    rcases set_get hj with ⟨_, q, _⟩ | ⟨n, q⟩
    · cases q
    · rw [List.getElem?_set_ne n]
      exact h.box j t nm q, fun j k ds es p njk hj hk hp => by
    rcases set_get hj with ⟨_, q, _⟩ | ⟨n, q⟩
    · cases q
    · rcases set_get hk with ⟨_, q2, _⟩ | ⟨n2, q2⟩
      · cases q2
      · rw [List.getElem?_set_ne n2]
        rw [List.getElem?_set_ne n] at hp
        exact h.two j k ds es p njk q q2 hp⟩
/-- a new list of the def's own, or one that has grown -/
theorem DpS2.setOwn {i : Nat} {p : Addr} {acc : List V} {ds : List D} (h : DpS2 K x F H σ δ) (f : F p = none) (m : ¬ x.M p) (da : DpAll K F acc ds) (other : ∀ (j : Nat) (es : List D), j ≠ i → δ[j]? = some (.own es) → σ[j]? ≠ some (some (.ref p))) :
    DpS2 K x F (upd H p (.lst acc)) (σ.set i (some (.ref p))) (δ.set i (.own ds)) := ⟨by rw [List.length_set, List.length_set]; exact h.len, fun j e hj => by
    rcases set_get hj with ⟨_, q, _⟩ | ⟨n, q⟩
    · cases q
    · rw [List.getElem?_set_ne n]
      exact h.val j e q, fun j es hj => by
    rcases set_get hj with ⟨rfl, q, hl⟩ | ⟨n, q⟩
    · cases q
      exact ⟨p, acc, List.getElem?_set_self (by rw [h.len]; exact hl), upd_same, f, m, da⟩
    · rw [List.getElem?_set_ne n]
      obtain ⟨p2, acc2, h1, h2, h3⟩ := h.own j es q
      refine ⟨p2, acc2, h1, ?_, h3⟩
      rw [upd_ne]
      · exact h2
      · rintro rfl
        exact other j es (Ne.symm n) q h1, fun j t nm hj => by
    rcases set_get hj with ⟨_, q, _⟩ | ⟨n, q⟩
    · cases q
    · rw [List.getElem?_set_ne n]
      exact h.box j t nm q, fun j k es fs p2 njk hj hk hp => by
    rcases set_get hj with ⟨rfl, q, hl⟩ | ⟨n, q⟩
    · rw [List.getElem?_set_self (by rw [h.len]; exact hl)] at hp
      cases hp
      rcases set_get hk with ⟨rfl, _, _⟩ | ⟨n2, q2⟩
      · exact absurd rfl njk
      · rw [List.getElem?_set_ne n2]
        exact other k fs (Ne.symm n2) q2
    · rw [List.getElem?_set_ne n] at hp
      rcases set_get hk with ⟨rfl, q2, hl⟩ | ⟨n2, q2⟩
      · rw [List.getElem?_set_self (by rw [h.len]; exact hl)]
        intro z
        cases z
        exact other j es (Ne.symm n) q hp
      · rw [List.getElem?_set_ne n2]
        exact h.two j k es fs p2 njk q q2 hp⟩
/-- the data alone -/
def SD.data : SD → Option D
  | .val d => some d
  | _ => none
def pureD (δ : List SD) : DS := δ.map SD.data
theorem DpS2.pure (h : DpS2 K x F H σ δ) : DpS K F σ (pureD δ) := ⟨by unfold pureD; rw [List.length_map]; exact h.len, fun i d e => by
  unfold pureD at e
  rw [List.getElem?_map] at e
  obtain ⟨sd, h1, h2⟩ := Option.map_eq_some_iff.mp e
  cases sd with
  | val d' => cases h2; exact h.val i d h1
  | _ => cases h2⟩
def wipe2 (δ : List SD) : List Nat → List SD
  | [] => δ
  | v :: vs => (wipe2 δ vs).set v .no
theorem DpS2.wipe (h : DpS2 K x F H σ δ) : ∀ vs : List Nat, DpS2 K x F H (L2.wipe σ vs) (wipe2 δ vs)
  | [] => h
  | _ :: vs => (h.wipe vs).setNo
end
/-! ### readings backward -/
def EvC (K : PySem.W.Frag) (te : TE) (δ : List SD) (Q : D → Prop) : Prop := ∀ x σ F H, DpS2 K x F H σ δ → Sub F H → Box x F H → ∀ R : VK, (∀ v d F2 H2, Gr x.M F H F2 H2 → Box x F2 H2 → Dp K F2 v d → Q d → R v H2) → te σ H R
def EvCA (K : PySem.W.Frag) (ta : TA) (δ : List SD) (Q : List D → Prop) : Prop := ∀ x σ F H, DpS2 K x F H σ δ → Sub F H → Box x F H → ∀ R : List V → Hp → Prop, (∀ vs ds F2 H2, Gr x.M F H F2 H2 → Box x F2 H2 → DpAll K F2 vs ds → Q ds → R vs H2) → ta σ H R
def EvCT (K : PySem.W.Frag) (tt : TT) (δ : List SD) (Q : Bool → Prop) : Prop := ∀ x σ F H, DpS2 K x F H σ δ → Sub F H → Box x F H → ∀ R : Bool → Hp → Prop, (∀ b F2 H2, Gr x.M F H F2 H2 → Box x F2 H2 → Q b → R b H2) → tt σ H R
section
variable {K : PySem.W.Frag} {δ : List SD} {ta tb te tc : TE} {t u : TT} {Q : D → Prop} {r : R2} {i : Nat} {d : D}
theorem EvC.imp {Q' : D → Prop} (h : EvC K te δ Q) (q : ∀ d, Q d → Q' d) : EvC K te δ Q' := fun x σ F H dσ s b R k => h x σ F H dσ s b R fun v d F2 H2 g2 b2 dv hq => k v d F2 H2 g2 b2 dv (q d hq)
theorem evc_d (h : EvD K te (pureD δ) d) (q : Q d) : EvC K te δ Q := fun x σ F H dσ s b R k => h σ F H dσ.pure s R fun v F2 H2 g2 dv => k v d F2 H2 g2.up (b.pure g2) dv q
theorem evct_d {b : Bool} {Q : Bool → Prop} (h : EvT K t (pureD δ) b) (q : Q b) : EvCT K t δ Q := fun x σ F H dσ s bx R k => h σ F H dσ.pure s R fun F2 H2 g2 => k b F2 H2 g2.up (bx.pure g2) q
theorem evc_var (h : δ[i]? = some (.val d)) (q : Q d) : EvC K (tVar i) δ Q := fun x σ F H dσ s b R k => by
  obtain ⟨v, h1, h2⟩ := dσ.val i d h
  exact ⟨v, h1, k v d F H (.refl s) b h2 q⟩
theorem evc_op (h : EvC K ta δ fun d1 => EvC K tb δ fun d2 => ∀ (F H : Hp) (v w : V), Sub F H → Dp K F v d1 → Dp K F w d2 → ∀ R : VK, (∀ u d F2 H2, Gr0 F H F2 H2 → Dp K F2 u d → Q d → R u H2) → r v w H R) : EvC K (tOp r ta tb) δ Q := fun x σ F H dσ s b R k =>
  h x σ F H dσ s b _ fun v d1 F2 H2 g2 b2 dv h2 => h2 x σ F2 H2 (dσ.go s g2) g2.sub b2 _ fun w d2 F3 H3 g3 b3 dw h3 => h3 F3 H3 v w g3.sub (dp_sub (g3.ext g2.sub) dv) dw R fun u d F4 H4 g4 du hq => k u d F4 H4 ((g2.trans g3).trans g4.up) (b3.pure g4) du hq
theorem evc_I0 {g : Int → Int → V} {gd : Int → Int → D} (hg : ∀ F i j, Dp K F (g i j) (gd i j)) (h : EvC K ta δ fun d1 => ∃ i, d1 = .int i ∧ EvC K tb δ fun d2 => ∃ j, d2 = .int j ∧ Q (gd i j)) : EvC K (tOp (rI0 g) ta tb) δ Q :=
  evc_op (h.imp fun d1 ⟨i, e, h⟩ => h.imp fun d2 ⟨j, e2, q⟩ F H v w s dv dw R k => by
    subst e; subst e2
    cases dv; cases dw
    exact ⟨i, j, rfl, rfl, k _ _ F H (.refl s) (hg F i j) q⟩)
theorem evc_I {C : Int → Int → Prop} {g : Int → Int → V} {gd : Int → Int → D} (hg : ∀ F i j, Dp K F (g i j) (gd i j)) (h : EvC K ta δ fun d1 => ∃ i, d1 = .int i ∧ EvC K tb δ fun d2 => ∃ j, d2 = .int j ∧ C i j ∧ Q (gd i j)) : EvC K (tOp (rI C g) ta tb) δ Q :=
  evc_op (h.imp fun d1 ⟨i, e, h⟩ => h.imp fun d2 ⟨j, e2, c, q⟩ F H v w s dv dw R k => by
    subst e; subst e2
    cases dv; cases dw
    exact ⟨i, j, rfl, rfl, c, k _ _ F H (.refl s) (hg F i j) q⟩)
theorem evc_add (h : EvC K ta δ fun d1 => ∃ i, d1 = .int i ∧ EvC K tb δ fun d2 => ∃ j, d2 = .int j ∧ Q (.int (i + j))) : EvC K (tOp (rI0 fun i j => .int (i + j)) ta tb) δ Q := evc_I0 (gd := fun i j => .int (i + j)) (fun _ _ _ => .int _) h
theorem evc_sub (h : EvC K ta δ fun d1 => ∃ i, d1 = .int i ∧ EvC K tb δ fun d2 => ∃ j, d2 = .int j ∧ Q (.int (i - j))) : EvC K (tOp (rI0 fun i j => .int (i - j)) ta tb) δ Q := evc_I0 (gd := fun i j => .int (i - j)) (fun _ _ _ => .int _) h
theorem evc_mod (h : EvC K ta δ fun d1 => ∃ i, d1 = .int i ∧ EvC K tb δ fun d2 => ∃ j, d2 = .int j ∧ 0 < j ∧ Q (.int (i % j))) : EvC K (tOp (rI (fun _ j => 0 < j) fun i j => .int (i % j)) ta tb) δ Q := evc_I (gd := fun i j => .int (i % j)) (fun _ _ _ => .int _) h
theorem evc_eqI (h : EvC K ta δ fun d1 => ∃ i, d1 = .int i ∧ EvC K tb δ fun d2 => ∃ j, d2 = .int j ∧ Q (.bool (decide (i = j)))) : EvC K (tOp rEq ta tb) δ Q :=
  evc_op (h.imp fun d1 ⟨i, e, h⟩ => h.imp fun d2 ⟨j, e2, q⟩ F H v w s dv dw R k => by
    subst e; subst e2
    cases dv; cases dw
    refine ⟨rfl, k _ (.bool (decide (i = j))) F H (.refl s) ?_ q⟩
    rw [dec_inj (fun _ _ z => V.int.inj z)]
    exact .bl _)
theorem evc_lt (h : EvC K ta δ fun d1 => ∃ i, d1 = .int i ∧ EvC K tb δ fun d2 => ∃ j, d2 = .int j ∧ Q (.bool (decide (i < j)))) : EvC K (tOp (rI0 fun i j => .bl (decide (i < j))) ta tb) δ Q := evc_I0 (gd := fun i j => .bool (decide (i < j))) (fun _ _ _ => .bl _) h
/-- an item of a list -/
theorem evc_ixL (h : EvC K ta δ fun d1 => EvC K tb δ fun d2 => ∃ ds i d, d1 = .list ds ∧ d2 = .int i ∧ atI ds i = some d ∧ Q d) : EvC K (tOp (rIxL K) ta tb) δ Q :=
  evc_op (h.imp fun d1 h => h.imp fun d2 ⟨ds, i, d, e, e2, ha, q⟩ F H v w s dv dw R k => by
    subst e; subst e2
    cases dw
    cases dv with
    | lst hs hall =>
      unfold atI at ha
      rw [← dpa_length hall] at ha
      obtain ⟨j, h1, h2⟩ := Option.bind_eq_some_iff.mp ha
      obtain ⟨y, hy, dy⟩ := dpa_get hall h2
      exact ⟨_, _, i, y, rfl, rfl, sql_sub s hs, by unfold atI; rw [h1]; exact hy, k y d F H (.refl s) dy q⟩)
/-! arguments, displays -/
theorem evca_nil {Q : List D → Prop} (q : Q []) : EvCA K tNil δ Q := fun x σ F H dσ s b R k => k [] [] F H (.refl s) b .nil q
theorem evca_cons {tr : TA} {Q : List D → Prop} (h : EvC K te δ fun d => EvCA K tr δ fun ds => Q (d :: ds)) : EvCA K (tCons te tr) δ Q := fun x σ F H dσ s b R k =>
  h x σ F H dσ s b _ fun v d F2 H2 g2 b2 dv h2 => h2 x σ F2 H2 (dσ.go s g2) g2.sub b2 _ fun vs ds F3 H3 g3 b3 dvs q => k (v :: vs) (d :: ds) F3 H3 (g2.trans g3) b3 (.cons (dp_sub (g3.ext g2.sub) dv) dvs) q
theorem EvCA.imp {ta : TA} {Q Q' : List D → Prop} (h : EvCA K ta δ Q) (q : ∀ d, Q d → Q' d) : EvCA K ta δ Q' := fun x σ F H dσ s b R k => h x σ F H dσ s b R fun v d F2 H2 g2 b2 dv hq => k v d F2 H2 g2 b2 dv (q d hq)
theorem evc_tup {tr : TA} (h : EvCA K tr δ fun ds => ds.length ≤ 100000 ∧ Q (.tuple ds)) : EvC K (tTup tr) δ Q := fun x σ F H dσ s b R k =>
  h x σ F H dσ s b _ fun vs ds F2 H2 g2 b2 dvs ⟨hl, q⟩ => ⟨Nat.le_trans (by rw [dpa_length dvs]; exact hl) (by decide), fun p hp =>
    k (.ref p) (.tuple ds) (upd F2 p (.tup vs)) _ (g2.trans (.new g2.sub hp)) (b2.pure (.new g2.sub hp)) (.tup (.inl (.inl upd_same)) (dpa_sub (Sub.upd_new (g2.sub.gone hp)) dvs)) q⟩
theorem evc_lst {tr : TA} (h : EvCA K tr δ fun ds => ds.length ≤ 100000 ∧ Q (.list ds)) : EvC K (tLst tr) δ Q := fun x σ F H dσ s b R k =>
  h x σ F H dσ s b _ fun vs ds F2 H2 g2 b2 dvs ⟨hl, q⟩ => ⟨Nat.le_trans (by rw [dpa_length dvs]; exact hl) (by decide), fun p hp =>
    k (.ref p) (.list ds) (upd F2 p (.lst vs)) _ (g2.trans (.new g2.sub hp)) (b2.pure (.new g2.sub hp)) (.lst (.inl (.inl upd_same)) (dpa_sub (Sub.upd_new (g2.sub.gone hp)) dvs)) q⟩
/-! calls -/
theorem evc_callF {n : Nat} {pre : List D → Prop} {f : List D → D} {E : XK} {tr : TA} (h : EvCA K tr δ fun ds => ds.length = n ∧ pre ds ∧ Q (f ds)) : EvC K (tCall (spF K n pre f) [] E tr) δ Q := fun x σ F H dσ s b R k =>
  h x σ F H dσ s b _ fun vs ds F2 H2 g2 b2 dvs ⟨hn, hp, q⟩ => ⟨F2, ds, hn, g2.sub, by rw [List.append_nil]; exact dvs, hp, fun v F3 H3 g3 dv => k v _ F3 H3 (g2.trans g3.up) (b2.pure g3) dv q⟩
theorem evc_callI {ι : Type} {args : ι → List D} {pre : ι → Prop} {f : ι → D} {E : XK} {tr : TA} (h : EvCA K tr δ fun ds => ∃ i, ds = args i ∧ pre i ∧ Q (f i)) : EvC K (tCall (spFI K args pre f) [] E tr) δ Q := fun x σ F H dσ s b R k =>
  h x σ F H dσ s b _ fun vs ds F2 H2 g2 b2 dvs ⟨i, e, hp, q⟩ => ⟨F2, i, g2.sub, by rw [List.append_nil, ← e]; exact dvs, hp, fun v F3 H3 g3 dv => k v _ F3 H3 (g2.trans g3.up) (b2.pure g3) dv q⟩
/-- the promise of a def that draws: its first argument is the box -/
def spB (K : PySem.W.Frag) {ι : Type} (args : ι → List D) (pre : ι → Prop) (φ : ι → D → Prop) : Sp := fun vs H Q _ => ∃ (x : Bx) (F : Hp) (i : ι) (ws : List V), vs = .ref x.b :: ws ∧ Sub F H ∧ Box x F H ∧ DpAll K F ws (args i) ∧ pre i ∧ ∀ v d F' H', Gr x.M F H F' H' → Box x F' H' → Dp K F' v d → φ i d → Q v H'
def boxAt (δ : List SD) (i : Nat) : Bool := match δ[i]? with
  | some (.box _ _) => true
  | _ => false
theorem boxAt_ex {δ : List SD} {i : Nat} (h : boxAt δ i = true) : ∃ t nm, δ[i]? = some (.box t nm) := by
  unfold boxAt at h
  split at h
  · exact ⟨_, _, by assumption⟩
  · cases h
theorem evc_callB {ι : Type} {args : ι → List D} {pre : ι → Prop} {φ : ι → D → Prop} {E : XK} {tr : TA} (hb : boxAt δ i = true) (h : EvCA K tr δ fun ds => ∃ j, ds = args j ∧ pre j ∧ ∀ d, φ j d → Q d) : EvC K (tCall (spB K args pre φ) [] E (tCons (tVar i) tr)) δ Q := fun x σ F H dσ s b R k => (boxAt_ex hb).elim fun t hb => hb.elim fun nm hb =>
  ⟨.ref x.b, (dσ.box i t nm hb).1, h x σ F H dσ s b _ fun vs ds F2 H2 g2 b2 dvs ⟨j, e, hp, q⟩ => ⟨x, F2, j, vs, by rw [List.append_nil], g2.sub, b2, by rw [← e]; exact dvs, hp, fun v d F3 H3 g3 b3 dv hd => k v d F3 H3 (g2.trans g3) b3 dv (q d hd)⟩⟩
/-- the same of a def that makes functions: the table is known -/
def spBt (K : PySem.W.Frag) (t : Addr) (nm : Nat → Nat → Str) {ι : Type} (args : ι → List D) (pre : ι → Prop) (φ : ι → D → Prop) : Sp := fun vs H Q _ => ∃ (x : Bx) (F : Hp) (i : ι) (ws : List V), vs = .ref x.b :: ws ∧ x.t = t ∧ x.nm = nm ∧ Sub F H ∧ Box x F H ∧ DpAll K F ws (args i) ∧ pre i ∧ ∀ v d F' H', Gr x.M F H F' H' → Box x F' H' → Dp K F' v d → φ i d → Q v H'
theorem evc_callBt {t : Addr} {nm : Nat → Nat → Str} {ι : Type} {args : ι → List D} {pre : ι → Prop} {φ : ι → D → Prop} {E : XK} {tr : TA} (hb : δ[i]? = some (.box t nm)) (h : EvCA K tr δ fun ds => ∃ j, ds = args j ∧ pre j ∧ ∀ d, φ j d → Q d) : EvC K (tCall (spBt K t nm args pre φ) [] E (tCons (tVar i) tr)) δ Q := fun x σ F H dσ s b R k =>
  ⟨.ref x.b, (dσ.box i t nm hb).1, h x σ F H dσ s b _ fun vs ds F2 H2 g2 b2 dvs ⟨j, e, hp, q⟩ => ⟨x, F2, j, vs, by rw [List.append_nil], (dσ.box i t nm hb).2.1, (dσ.box i t nm hb).2.2, g2.sub, b2, by rw [← e]; exact dvs, hp, fun v d F3 H3 g3 b3 dv hd => k v d F3 H3 (g2.trans g3) b3 dv (q d hd)⟩⟩
/-! a list of the def's own, read -/
theorem evc_lenOwn {ds : List D} (ho : δ[i]? = some (.own ds)) (q : Q (.int (ds.length : Nat))) : EvC K (tCB (rLenD K) (tCons (tVar i) tNil)) δ Q := fun x σ F H dσ s b R k => by
  obtain ⟨p, acc, h1, h2, h3, h4, h5⟩ := dσ.own i ds ho
  exact ⟨.ref p, h1, p, acc, rfl, .inl (.inl (.inl h2)), by rw [dpa_length h5]; exact k _ _ F H (.refl s) b (.int _) q⟩
theorem evc_tupOwn {ds : List D} (ho : δ[i]? = some (.own ds)) (q : Q (.tuple ds)) : EvC K (tCB (rTupD K) (tCons (tVar i) tNil)) δ Q := fun x σ F H dσ s b R k => by
  obtain ⟨p, acc, h1, h2, h3, h4, h5⟩ := dσ.own i ds ho
  exact ⟨.ref p, h1, p, acc, rfl, .inl ⟨.inl (.inl h2), fun l hl => k (.ref l) _ (upd F l (.tup acc)) _ (.new s hl) (b.pure (.new s hl)) (.tup (.inl (.inl upd_same)) (dpa_sub (Sub.upd_new (s.gone hl)) h5)) q⟩⟩
theorem evc_tupleL (h : EvC K te δ fun d => ∃ ds, d = .list ds ∧ Q (.tuple ds)) : EvC K (tCB (rTupD K) (tCons te tNil)) δ Q := fun x σ F H dσ s b R k =>
  h x σ F H dσ s b _ fun v d F2 H2 g2 b2 dv ⟨ds, e, q⟩ => by
    subst e
    cases dv with
    | lst hs ha => exact ⟨_, _, rfl, .inl ⟨sql_sub g2.sub hs, fun l hl => k (.ref l) _ (upd F2 l (.tup _)) _ (g2.trans (.new g2.sub hl)) (b2.pure (.new g2.sub hl)) (.tup (.inl (.inl upd_same)) (dpa_sub (Sub.upd_new (g2.sub.gone hl)) ha)) q⟩⟩
/-! tests -/
theorem evct_test {Q : Bool → Prop} (h : EvC K te δ fun d => ∃ b, d = .bool b ∧ Q b) : EvCT K (tTest te) δ Q := fun x σ F H dσ s bx R k => h x σ F H dσ s bx _ fun v d F2 H2 g2 b2 dv ⟨b, e, q⟩ => by
  subst e
  cases dv
  exact ⟨b, rfl, k b F2 H2 g2 b2 q⟩
theorem evct_B {Q : Bool → Prop} (h : EvC K te δ fun d => ∃ b, d = .bool b ∧ Q b) : EvCT K (tB te) δ Q := fun x σ F H dσ s bx R k => h x σ F H dσ s bx _ fun v d F2 H2 g2 b2 dv ⟨b, e, q⟩ => by
  subst e
  cases dv
  exact ⟨b, rfl, k b F2 H2 g2 b2 q⟩
theorem evct_not {Q : Bool → Prop} (h : EvCT K t δ fun b => Q (!b)) : EvCT K (tNot t) δ Q := fun x σ F H dσ s bx R k => h x σ F H dσ s bx _ fun b F2 H2 g2 b2 q => k (!b) F2 H2 g2 b2 q
theorem evct_and {Q : Bool → Prop} (h : EvCT K t δ fun a => if a = true then EvCT K u δ Q else Q false) : EvCT K (tAnd t u) δ Q := fun x σ F H dσ s bx R k => h x σ F H dσ s bx _ fun a F2 H2 g2 b2 q => by
  cases a with
  | true =>
    rw [if_pos rfl] at q
    exact iteT (q x σ F2 H2 (dσ.go s g2) g2.sub b2 R fun b F3 H3 g3 b3 hb => k b F3 H3 (g2.trans g3) b3 hb)
  | false =>
    rw [if_neg Bool.false_ne_true] at q
    exact iteF (k false F2 H2 g2 b2 q)
theorem evct_or {Q : Bool → Prop} (h : EvCT K t δ fun a => if a = true then Q true else EvCT K u δ Q) : EvCT K (tOr t u) δ Q := fun x σ F H dσ s bx R k => h x σ F H dσ s bx _ fun a F2 H2 g2 b2 q => by
  cases a with
  | true =>
    rw [if_pos rfl] at q
    exact iteT (k true F2 H2 g2 b2 q)
  | false =>
    rw [if_neg Bool.false_ne_true] at q
    exact iteF (q x σ F2 H2 (dσ.go s g2) g2.sub b2 R fun b F3 H3 g3 b3 hb => k b F3 H3 (g2.trans g3) b3 hb)
theorem evc_if (h : EvCT K t δ fun a => if a = true then EvC K ta δ Q else EvC K tb δ Q) : EvC K (tIf t ta tb) δ Q := fun x σ F H dσ s bx R k => h x σ F H dσ s bx _ fun a F2 H2 g2 b2 q => by
  cases a with
  | true =>
    rw [if_pos rfl] at q
    exact iteT (q x σ F2 H2 (dσ.go s g2) g2.sub b2 R fun v d F3 H3 g3 b3 dv hd => k v d F3 H3 (g2.trans g3) b3 dv hd)
  | false =>
    rw [if_neg Bool.false_ne_true] at q
    exact iteF (q x σ F2 H2 (dσ.go s g2) g2.sub b2 R fun v d F3 H3 g3 b3 dv hd => k v d F3 H3 (g2.trans g3) b3 dv hd)
end
/-! ### blocks -/
structure St2 (K : PySem.W.Frag) (x : Bx) (F0 H0 F H : Hp) (σ : L2.St) (δ : List SD) : Prop where
  g : Gr x.M F0 H0 F H
  s : DpS2 K x F H σ δ
  b : Box x F H
  fresh : ∀ (i : Nat) (ds : List D) (p : Addr), δ[i]? = some (.own ds) → σ[i]? = some (some (.ref p)) → H0 p = none
structure Wn2 where
  rt : D → Prop
  nx : List SD → Prop := fun _ => False
  ct : List SD → Prop := fun _ => False
  bk : List SD → Prop := fun _ => False
structure Meets2 (K : PySem.W.Frag) (x : Bx) (F0 H0 : Hp) (W : Wn2) (E : Ends) : Prop where
  rt : ∀ v d F H, Gr x.M F0 H0 F H → Box x F H → Dp K F v d → W.rt d → E.rt v H
  nx : ∀ σ δ F H, St2 K x F0 H0 F H σ δ → W.nx δ → E.nx σ H
  ct : ∀ σ δ F H, St2 K x F0 H0 F H σ δ → W.ct δ → E.ct σ H
  bk : ∀ σ δ F H, St2 K x F0 H0 F H σ δ → W.bk δ → E.bk σ H
def EvCB (K : PySem.W.Frag) (ts : TS) (δ : List SD) (W : Wn2) : Prop := ∀ x F0 H0 σ F H (E : Ends), St2 K x F0 H0 F H σ δ → Meets2 K x F0 H0 W E → ts E σ H
section
variable {K : PySem.W.Frag} {δ : List SD} {te : TE} {t : TT} {t1 t2 : TS} {W : Wn2} {i : Nat} {d : D}
theorem St2.go {x : Bx} {F0 H0 F H F2 H2 : Hp} {σ : L2.St} (h : St2 K x F0 H0 F H σ δ) (g : Gr x.M F H F2 H2) (b : Box x F2 H2) : St2 K x F0 H0 F2 H2 σ δ := ⟨h.g.trans g, h.s.go h.g.sub g, b, h.fresh⟩
theorem St2.setVal {x : Bx} {F0 H0 F H : Hp} {σ : L2.St} {v : V} (h : St2 K x F0 H0 F H σ δ) (dv : Dp K F v d) : St2 K x F0 H0 F H (σ.set i (some v)) (δ.set i (.val d)) := ⟨h.g, h.s.setVal dv, h.b, fun j ds p hj hp => by
  rcases set_get hj with ⟨_, q, _⟩ | ⟨n, q⟩
  · cases q
  · rw [List.getElem?_set_ne n] at hp
    exact h.fresh j ds p q hp⟩
theorem ecb_seq (h : EvCB K t1 δ { W with nx := fun δ' => EvCB K t2 δ' W }) : EvCB K (tSeq t1 t2) δ W := fun x F0 H0 σ F H E st m =>
  h x F0 H0 σ F H { E with nx := t2 E } st ⟨m.rt, fun σ' δ' F2 H2 st2 h2 => h2 x F0 H0 σ' F2 H2 E st2 m, m.ct, m.bk⟩
theorem ecb_asg (h : EvC K te δ fun d => W.nx (δ.set i (.val d))) : EvCB K (tAsg te (gName i)) δ W := fun x F0 H0 σ F H E st m =>
  h x σ F H st.s st.g.sub st.b _ fun v d F2 H2 g2 b2 dv q => m.nx _ _ F2 H2 ((st.go g2 b2).setVal dv) q
theorem ecb_if (h : EvCT K t δ fun b => if b = true then EvCB K t1 δ W else EvCB K t2 δ W) : EvCB K (tIfS t t1 t2) δ W := fun x F0 H0 σ F H E st m => h x σ F H st.s st.g.sub st.b _ fun b F2 H2 g2 b2 q => by
  cases b with
  | true =>
    rw [if_pos rfl] at q
    exact iteT (q x F0 H0 σ F2 H2 E (st.go g2 b2) m)
  | false =>
    rw [if_neg Bool.false_ne_true] at q
    exact iteF (q x F0 H0 σ F2 H2 E (st.go g2 b2) m)
theorem ecb_ret (h : EvC K te δ W.rt) : EvCB K (tRet te) δ W := fun x F0 H0 σ F H E st m => h x σ F H st.s st.g.sub st.b _ fun v d F2 H2 g2 b2 dv q => m.rt v d F2 H2 (st.g.trans g2) b2 dv q
theorem ecb_next (h : W.nx δ) : EvCB K tNext δ W := fun x F0 H0 σ F H E st m => m.nx σ δ F H st h
theorem ecb_drop (h : EvC K te δ fun _ => W.nx δ) : EvCB K (tDrop te) δ W := fun x F0 H0 σ F H E st m => h x σ F H st.s st.g.sub st.b _ fun v d F2 H2 g2 b2 dv q => m.nx _ _ F2 H2 (st.go g2 b2) q
/-- x = []: a list of the def's own -/
theorem ecb_own (h : W.nx (δ.set i (.own []))) : EvCB K (tAsg (tLst tNil) (gName i)) δ W := fun x F0 H0 σ F H E st m => by
  refine ⟨Nat.zero_le _, fun p hp => ?_⟩
  have fp := st.g.sub.gone hp
  refine m.nx _ _ F (upd H p (.lst [])) ⟨st.g.trans (.fresh st.g.sub hp), st.s.setOwn fp (st.b.notM hp) .nil (fun j es _ hj hs => ?_), ?_, fun j ds q hj hq => ?_⟩ h
  · obtain ⟨q, acc, h1, h2, _⟩ := st.s.own j es hj
    rw [h1] at hs
    cases hs
    rw [hp] at h2
    cases h2
  · exact st.b.pure (.fresh st.g.sub hp)
  · rcases set_get hj with ⟨rfl, _, hl⟩ | ⟨n, z⟩
    · rw [List.getElem?_set_self (by rw [st.s.len]; exact hl)] at hq
      cases hq
      exact st.g.free hp
    · rw [List.getElem?_set_ne n] at hq
      exact st.fresh j ds q z hq
/-- x.append(e), x a list of the def's own -/
theorem ecb_append {ds : List D} (ho : δ[i]? = some (.own ds)) (hl : ds.length < 100000) (h : EvC K te δ fun d => W.nx (δ.set i (.own (ds ++ [d])))) : EvCB K (tDrop (tBM K "list" rAppend (tVar i) (tCons te tNil))) δ W := fun x F0 H0 σ F H E st m => by
  obtain ⟨p, acc, h1, h2, h3, h4, h5⟩ := st.s.own i ds ho
  refine ⟨.ref p, h1, .inl ⟨rfl, _, .inl (.inl h2)⟩, ?_⟩
  refine h x σ F H st.s st.g.sub st.b _ fun v d F2 H2 g2 b2 dv q => ?_
  have hp2 := g2.keep p _ h4 h2
  have fp2 := (g2.old p _ h2).trans h3
  have st2 := st.go g2 b2
  have hi : i < σ.length := (List.getElem?_eq_some_iff.mp h1).1
  have eσ : σ.set i (some (.ref p)) = σ := by
    apply List.ext_getElem?
    intro j
    by_cases e : i = j
    · subst e
      rw [List.getElem?_set_self hi, h1]
    · rw [List.getElem?_set_ne e]
  have s3 := st2.s.setOwn (i := i) (p := p) (acc := acc ++ [v]) (ds := ds ++ [d]) fp2 h4 (dpa_append (dpa_sub (g2.ext st.g.sub) h5) (.cons dv .nil)) fun j es nj hj hs => st2.s.two i j ds es p (Ne.symm nj) ho hj h1 hs
  rw [eσ] at s3
  refine ⟨p, acc, v, rfl, rfl, hp2, Nat.lt_of_lt_of_le (by rw [dpa_length h5]; exact hl) (by decide), m.nx _ _ F2 _ ⟨st2.g.own (st.fresh i ds p ho h1) fp2, s3, ?_, fun j es q hj hq => ?_⟩ q⟩
  · obtain ⟨ns, stv, hl', e1, e2⟩ := b2.hold
    exact ⟨b2.ne, b2.fb, b2.fc, b2.ft, ⟨ns, stv, hl', by rw [upd_ne (fun z => h4 (.inl z.symm))]; exact e1, by rw [upd_ne (fun z => h4 (.inr (.inl z.symm)))]; exact e2⟩, TabN.keepL (.lst hp2) b2.tab⟩
  · rcases set_get hj with ⟨rfl, _, _⟩ | ⟨n, z⟩
    · rw [h1] at hq
      cases hq
      exact st.fresh i ds p ho h1
    · exact st.fresh j es q z hq
/-- for _ in range(..): J of the slots between the turns -/
theorem ecb_forN {ts : TS} {v : Nat} {σ : L2.St} {x : Bx} {F0 H0 F H : Hp} {E : Ends} {n : Nat} (J : Nat → List SD → Prop) (st : St2 K x F0 H0 F H σ δ) (m : Meets2 K x F0 H0 W E) (h0 : J 0 δ)
    (ht : ∀ k, k < n → ∀ δk, J k δk → EvCB K ts (δk.set v (.val (.int (0 + (k : Nat))))) { W with nx := J (k + 1), ct := J (k + 1), bk := W.nx }) (hd : ∀ δn, J n δn → W.nx δn) :
    ∃ Wv : Nat → Nat → L2.St → Hp → Prop, (∃ m, Wv 0 m σ H) ∧ ∀ i m σ H, Wv i m σ H → ((Itr 0 n).stop i H ∧ E.nx σ H) ∨ ((Itr 0 n).go i H ∧ ∃ N : L2.St → Hp → Prop, (∀ σ' H', N σ' H' → ∃ m', m' < m ∧ Wv (i + 1) m' σ' H') ∧ ∀ y H', (Itr 0 n).yld i H y H' → (gName v) y σ H' fun σ2 H2 => ts { E with nx := N, ct := N, bk := E.nx } σ2 H2) := by
  refine ⟨fun k l σk Hk => l = n - k ∧ k ≤ n ∧ ∃ Fk δk, St2 K x F0 H0 Fk Hk σk δk ∧ J k δk, ⟨_, rfl, Nat.zero_le _, F, δ, st, h0⟩, ?_⟩
  rintro k l σk Hk ⟨rfl, hk, Fk, δk, stk, hj⟩
  by_cases hlt : k < n
  · refine .inr ⟨hlt, fun σ' H' => ∃ F' δ', St2 K x F0 H0 F' H' σ' δ' ∧ J (k + 1) δ', fun σ' H' hN => ⟨n - (k + 1), by omega, rfl, hlt, hN⟩, fun y H' hy => ?_⟩
    obtain ⟨rfl, rfl⟩ := hy
    exact ht k hlt δk hj x F0 H0 _ Fk _ _ (stk.setVal (.int _)) ⟨m.rt, fun σ' δ' F' H' st' q => ⟨F', δ', st', q⟩, fun σ' δ' F' H' st' q => ⟨F', δ', st', q⟩, fun σ' δ' F' H' st' q => m.nx σ' δ' F' H' st' q⟩
  · have e : k = n := by omega
    subst e
    exact .inl ⟨Nat.le_refl _, m.nx σk δk Fk Hk stk (hd δk hj)⟩
theorem ecb_forR1 {ts : TS} {v : Nat} {ta : TA} (J : Nat → List SD → Prop) (h0 : J 0 δ)
    (h : EvCA K ta δ fun ds => ∃ n : Nat, ds = [.int (n : Int)] ∧ n < 2 ^ 62 ∧ (∀ k, k < n → ∀ δk, J k δk → EvCB K ts (δk.set v (.val (.int (0 + (k : Nat))))) { W with nx := J (k + 1), ct := J (k + 1), bk := W.nx }) ∧ ∀ δn, J n δn → W.nx δn) : EvCB K (tFor (iRng1 ta) (gName v) ts) δ W := fun x F0 H0 σ F H E st m =>
  h x σ F H st.s st.g.sub st.b _ fun ws ds F2 H2 g2 b2 dvs ⟨n, e, hn, ht, hd⟩ => by
    subst e
    cases dvs with
    | cons dx dn =>
      cases dx; cases dn
      exact ⟨(n : Int), rfl, by omega, by omega, ecb_forN J (st.go g2 b2) m h0 ht hd⟩
/-- [e for _ in range(..)], e of draws: each item has φ -/
theorem evc_lcR1 {ta : TA} {v : Nat} {Q φ : D → Prop}
    (h : EvCA K ta δ fun ds => ∃ n : Nat, ds = [.int (n : Int)] ∧ n ≤ 100000 ∧ (∀ k : Nat, k < n → EvC K te ((wipe2 δ [v]).set v (.val (.int (0 + (k : Nat))))) φ) ∧ ∀ rs : List D, rs.length = n → (∀ r ∈ rs, φ r) → Q (.list rs)) : EvC K (tLc (iRng1 ta) (gName v) tYes te [v]) δ Q := fun x σ F H dσ s b R k =>
  h x σ F H dσ s b _ fun ws ds F2 H2 g2 b2 dvs ⟨n, e, hn, ht, hq⟩ => by
    subst e
    cases dvs with
    | cons dx dn =>
      cases dx; cases dn
      refine ⟨(n : Int), rfl, by omega, by omega, fun Dd hD => ?_⟩
      refine lc_range (lo := 0) (n := n) (fun i Hi => ∃ Fi acc rs, Gr x.M F2 H2 Fi Hi ∧ Box x Fi Hi ∧ Fi Dd = none ∧ Hi Dd = some (.lst acc) ∧ DpAll K Fi acc rs ∧ rs.length = i ∧ ∀ r ∈ rs, φ r)
        ⟨F2, [], [], .fresh g2.sub hD, b2.pure (.fresh g2.sub hD), g2.sub.gone hD, upd_same, .nil, rfl, fun r hr => by cases hr⟩ (fun i Hi hi hI => ?_) (fun Hn hI => ?_)
      · obtain ⟨Fi, acc, rs, G, B, fD, hDi, da, hl, hφ⟩ := hI
        have nM : ¬ x.M Dd := b2.notM hD
        have dσ2 := (dσ.go s (g2.trans G)).wipe [v]
        refine ⟨by simp [wipe], ?_⟩
        refine (ht i hi) x _ Fi Hi (dσ2.setVal (.int _)) G.sub B _ fun y d F4 H4 g4 b4 dy hd => ?_
        have hD4 := g4.keep Dd _ nM hDi
        have fD4 := (g4.old Dd _ hDi).trans fD
        have hlen : rs.length < 100000 := by omega
        refine ⟨acc, hD4, Nat.lt_of_lt_of_le (by rw [dpa_length da]; exact hlen) (by decide), F4, acc ++ [y], rs ++ [d], (G.trans g4).own hD fD4, ?_, fD4, upd_same, dpa_append (dpa_sub (g4.ext G.sub) da) (.cons dy .nil), by rw [List.length_append, hl]; rfl, fun r hr => ?_⟩
        · obtain ⟨ns, stv, hl', e1, e2⟩ := b4.hold
          exact ⟨b4.ne, b4.fb, b4.fc, b4.ft, ⟨ns, stv, hl', by rw [upd_ne (fun z => nM (.inl z.symm))]; exact e1, by rw [upd_ne (fun z => nM (.inr (.inl z.symm)))]; exact e2⟩, TabN.keepL (.lst hD4) b4.tab⟩
        · rcases List.mem_append.mp hr with z | z
          · exact hφ r z
          · rw [List.mem_singleton.mp z]
            exact hd
      · obtain ⟨Fi, acc, rs, G, B, fD, hDi, da, hl, hφ⟩ := hI
        exact k (.ref Dd) (.list rs) (upd Fi Dd (.lst acc)) Hn (g2.trans (G.freeze hD hDi)) ⟨B.ne, by rw [upd_ne (fun z => b2.notM hD (.inl z.symm))]; exact B.fb, by rw [upd_ne (fun z => b2.notM hD (.inr (.inl z.symm)))]; exact B.fc, by rw [upd_ne (fun z => b2.notM hD (.inr (.inr z.symm)))]; exact B.ft, B.hold, B.tab⟩ (.lst (.inl (.inl upd_same)) (dpa_sub (Sub.upd_new fD) da)) (hq rs hl hφ)
end
/-! ### a def that draws -/
section
variable {P : Program} {w : World} {K : PySem.W.Frag} {mg : Str → Option Value} {base : Heap} {ι : Type} {args : ι → List D} {pre : ι → Prop} {φ : ι → D → Prop}
theorem fn_dataB {x : Str} {st : Stmt} {f : Addr} {fd : FuncData} {N ps : List Str} {k : Nat} (Fn : FnP K x st f fd) (S : FnScope N ps (defScope st)) (hn : ∀ i, (args i).length + 1 = ps.length)
    (hev : ∀ (cdv : Value) (A : Around) (outer : List Env) (s : Shared) (H : Hp) (E : XK), Room k (A.deeper (envOfC x (defScope st) s.heap.objs.size f cdv)) → ∃ ts, PSs (cxOf CX0 P w K mg base N x (defScope st) f cdv A outer s H E).nox (defBody st) ts ∧
      ∀ (i : ι) (t : Addr) (nm : Nat → Nat → Str), pre i → EvCB K ts (.box t nm :: ((args i).map .val ++ List.replicate (N.length - ((args i).length + 1)) .no)) { rt := φ i, nx := fun _ => φ i .none }) : FnOk P w K mg base CX0 (k + 1) f fd ps (spB K args pre φ) := by
  refine Fn.ok S (fun vs H Q E h => ?_) (fun cdv A outer s H vs Q E hr h => ?_)
  · obtain ⟨y, F, i, ws, rfl, _, _, hd, _⟩ := h
    rw [List.length_cons, dpa_length hd, hn]
  obtain ⟨y, F, i, ws, rfl, hs, hb, hd, hp, q⟩ := h
  obtain ⟨ts, hder, hev⟩ := hev cdv A outer s H E hr
  refine ⟨ts, PSs.nox hder, ?_⟩
  have hlen := dpa_length hd
  have noOwn : ∀ (j : Nat) (ds : List D), ¬ (SD.box y.t y.nm :: ((args i).map SD.val ++ List.replicate (N.length - ((args i).length + 1)) SD.no))[j]? = some (.own ds) := fun j ds e => by
    have hm := List.mem_of_getElem? e
    rcases List.mem_cons.mp hm with z | z
    · cases z
    · rcases List.mem_append.mp z with z | z
      · obtain ⟨_, _, z⟩ := List.mem_map.mp z
        cases z
      · have z := (List.mem_replicate.mp z).2
        cases z
  refine hev i y.t y.nm hp y F H _ F H _ ⟨.refl hs, ⟨?_, fun j d e => ?_, fun j ds e => absurd e (noOwn j ds), fun j t nm e => ?_, fun j k ds es p _ e => absurd e (noOwn j ds)⟩, hb, fun j ds p e => absurd e (noOwn j ds)⟩ ⟨fun v d F2 H2 g2 b2 dv e => q v d F2 H2 g2 b2 dv e, fun σ' δ F2 H2 st2 e => q .non .none F2 H2 st2.g st2.b .non e, fun _ _ _ _ _ z => z.elim, fun _ _ _ _ _ z => z.elim⟩
  · unfold L2.start
    simp [hlen]
  · cases j with
    | zero => cases e
    | succ j =>
      rw [List.getElem?_cons_succ] at e
      unfold L2.start
      rw [List.map_cons, List.cons_append, List.getElem?_cons_succ]
      by_cases hj : j < (args i).length
      · rw [List.getElem?_append_left (by rw [List.length_map]; exact hj), List.getElem?_map] at e
        obtain ⟨d', h1, h2⟩ := Option.map_eq_some_iff.mp e
        cases h2
        obtain ⟨v, h3, h4⟩ := dpa_get hd h1
        refine ⟨v, ?_, h4⟩
        rw [List.getElem?_append_left (by rw [List.length_map, hlen]; exact hj), List.getElem?_map, h3]
        rfl
      · rw [List.getElem?_append_right (by rw [List.length_map]; omega), List.getElem?_replicate] at e
        split at e <;> cases e
  · cases j with
    | zero =>
      cases e
      exact ⟨rfl, rfl, rfl⟩
    | succ j =>
      rw [List.getElem?_cons_succ] at e
      have hm := List.mem_of_getElem? e
      rcases List.mem_append.mp hm with z | z
      · obtain ⟨_, _, z⟩ := List.mem_map.mp z
        cases z
      · have z := (List.mem_replicate.mp z).2
        cases z
end
section
variable {P : Program} {w : World} {K : PySem.W.Frag} {mg : Str → Option Value} {base : Heap}
/-- a def by its reading, nothing raised -/
theorem fn_raw {x : Str} {st : Stmt} {f : Addr} {fd : FuncData} {N ps : List Str} {k : Nat} {sp : Sp} (Fn : FnP K x st f fd) (S : FnScope N ps (defScope st)) (len : ∀ vs H Q E, sp vs H Q E → vs.length = ps.length)
    (hbody : ∀ (cdv : Value) (A : Around) (outer : List Env) (s : Shared) (H : Hp) (vs : List V) (Q : VK) (E : XK), Room k (A.deeper (envOfC x (defScope st) s.heap.objs.size f cdv)) → sp vs H Q E →
      ∃ t, PSs (cxOf CX0 P w K mg base N x (defScope st) f cdv A outer s H E).nox (defBody st) t ∧ t { nx := fun _ H' => Q .non H', rt := Q } (L2.start N vs) H) : FnOk P w K mg base CX0 (k + 1) f fd ps sp := by
  refine FunD.ok Fn S len (fun cdv A outer s H vs Q E hr h => ?_)
  obtain ⟨t, h1, h2⟩ := hbody cdv A outer s H vs Q E hr h
  exact ⟨t, PSs.nox h1, h2⟩
end
end Dl

set_option Elab.async false
set_option linter.all false
set_option maxRecDepth 100000
set_option maxHeartbeats 8000000
namespace Hn
open PySem PySem.Spec PyProof.Rows L2 Dl
section
variable {P : Program} {w : World} {K : PySem.W.Frag} {mg : Str → Option Value} {base : Heap}
theorem lay_ints : ∀ ns : List Int, PyData.canLayAll0 (ns.map PyData.int) = true ∧ PyData.depthAll (ns.map PyData.int) ≤ 1
  | [] => ⟨by simp [PyData.canLayAll0], by simp [PyData.depthAll]⟩
  | n :: r => by
    have h := lay_ints r
    have h2 := h.2
    refine ⟨by simp [PyData.canLayAll0, PyData.canLay0, h.1], ?_⟩
    simp only [List.map_cons, PyData.depthAll, PyData.depth]
    omega
theorem shaped_ints : ∀ ns : List Int, SeqAt.shaped (.list (ns.map PyData.int)) = true := fun ns => by
  have h := lay_ints ns
  have h2 := h.2
  unfold SeqAt.shaped
  have h3 : (1 + PyData.depthAll (ns.map PyData.int)) ≤ 64 := by omega
  simp only [PyData.canLay0, PyData.depth, h.1, Bool.true_and]
  exact decide_eq_true (by first | exact h3 | (rw [Nat.add_comm]; exact h3))
theorem ok_law_take (T : Tx K mg) : FnOk P w K mg base CX0 1 (He.ga K "_law_take") T.fd__law_take ["_law_box", "_law_many"] (spB K (ι := Int) (fun m => [.int m]) (fun m => 0 < m ∧ m.natAbs < 2 ^ 8000) (fun m d => ∃ n, d = .int n ∧ 0 ≤ n ∧ n < m)) := by
  refine fn_raw T.F__law_take sc_law_take (fun vs H Q E h => ?_) (fun cdv A outer s H vs Q E hr h => ?_)
  · obtain ⟨y, F, m, ws, rfl, _, _, hd, _⟩ := h
    rw [List.length_cons, dpa_length hd]
    rfl
  obtain ⟨x, F, m, ws, rfl, hs, hb, hd, ⟨hm, hm2⟩, q⟩ := h
  obtain rfl : ws = [.int m] := by
    cases hd with | cons a b => cases a; cases b; rfl
  refine ⟨_, (pss_cons (ps_if (pt_cmpR (r := rEqD K) (op_eqD hr.units) (pe_ix (r := rIxL K) ix_list (pv 0) pe_int (fun _ _ => rfl)) (pe_lst pa_nil) (nomark _)) (pss_cons (ps_asg (pe_op op_mod (pe_op op_mul (pe_ix (r := rIxL K) ix_list (pv 0) pe_int (fun _ _ => rfl)) pe_int) pe_int) (pg_sub (pv 0) pe_int set_list))
      (pss_one (ps_ret (pe_op op_mod (pe_op op_fdiv (pe_ix (r := rIxL K) ix_list (pv 0) pe_int (fun _ _ => rfl)) pe_int) (pv 1))))) pss_nil)
      (pss_cons (ps_set (i := 2) sc_law_take.nd rfl (.inl rfl) (pe_ix (r := rIxL K) ix_list (pe_ix (r := rIxL K) ix_list (pv 0) pe_int (fun _ _ => rfl)) pe_int (fun _ _ => rfl)))
      (pss_cons (ps_asg (pe_op op_fdivW (pv 2) (pv 1)) (pg_sub (pe_ix (r := rIxL K) ix_list (pv 0) pe_int (fun _ _ => rfl)) pe_int set_list))
      (pss_cons (ps_if (PW.pt (pw_or (pt_cmpR op_eq (pe_ix (r := rIxL K) ix_list (pe_ix (r := rIxL K) ix_list (pv 0) pe_int (fun _ _ => rfl)) pe_int (fun _ _ => rfl)) pe_int (nomark _)) (pw_or1 (pt_cmpR op_eq (pe_ix (r := rIxL K) ix_list (pe_ix (r := rIxL K) ix_list (pv 0) pe_int (fun _ _ => rfl)) pe_int (fun _ _ => rfl)) (pe_un un_neg pe_int) (nomark _))))) (pss_one (ps_expr (pe_bmK K PySem.F.plainAttrs_list PySem.F.slot_list_pop PySem.F.type_list_pop mt_popAt (pe_ix (r := rIxL K) ix_list (pv 0) pe_int (fun _ _ => rfl)) (pa_cons pe_int pa_nil)))) pss_nil)
      (pss_one (ps_ret (pe_op op_mod (pv 2) (pv 1)))))))), ?_⟩
  try (set_option simprocs false in dsimp only [cxOf, Cx.nox, Cx.wish])
  obtain ⟨ns, sv, hl, e1, e2⟩ := hb.hold
  have nebc := hb.ne
  refine ⟨_, rfl, _, _, _, _, rfl, rfl, .inl (.inl e1), rfl, Nat.zero_le _, fun p hp => ?_⟩
  have np1 : x.b ≠ p := ne_of_none e1 hp
  have np2 : x.c ≠ p := ne_of_none e2 hp
  have h1 : upd H p (.lst []) x.b = some (.lst [.ref x.c, .int sv]) := by rw [upd_ne np1]; exact e1
  have h2 : upd H p (.lst []) x.c = some (.lst (ns.map V.int)) := by rw [upd_ne np2]; exact e2
  have g1 : Gr x.M F H F (upd H p (.lst [])) := .fresh hs hp
  have tp : NdefX.TabN (upd H p (.lst [])) x.t x.nm := hb.tab.ext fun a o e => by rw [upd_ne (ne_of_none e hp)]; exact e
  refine ⟨.list (ns.map PyData.int), .list [], .lst (.inl (.inl h2)) (dpa_of_ints ns), .lst (.inl (.inl upd_same)) .nil, shaped_ints ns, rfl, _, rfl, ?_⟩
  cases ns with
  | nil =>
    refine iteT ?_
    refine ⟨_, rfl, _, _, _, _, rfl, rfl, .inl (.inl h1), rfl, _, _, rfl, rfl, .inr ⟨by decide, by decide⟩, _, _, rfl, rfl, (by show (0:Int) < 2147483647; decide), ?_⟩
    refine ⟨_, rfl, _, _, _, _, rfl, rfl, h1, rfl, ?_⟩
    refine ⟨_, rfl, _, _, _, _, rfl, rfl, .inl (.inl upd_same), rfl, _, _, rfl, rfl, ⟨by decide, by decide⟩, _, rfl, _, _, rfl, rfl, hm, ?_⟩
    refine q _ _ F _ (g1.trans (.mut g1.sub (.inl rfl) hb.fb)) ⟨nebc, hb.fb, hb.fc, hb.ft, ⟨[], _, by decide, upd_same, ?_⟩, TabN.keepL (.lst h1) tp⟩ (.int _) ⟨_, rfl, Int.emod_nonneg _ (by omega), Int.emod_lt_of_pos _ hm⟩
    rw [upd_ne (Ne.symm nebc)]
    exact h2
  | cons n r =>
    refine iteF ?_
    refine ⟨_, rfl, _, _, _, _, rfl, rfl, .inl (.inl h1), rfl, _, _, _, _, rfl, rfl, .inl (.inl h2), atI_nat (j := 0) rfl, ?_⟩
    refine ⟨_, rfl, _, rfl, _, _, rfl, rfl, ?cd, ?_⟩
    case cd => exact wide_div hm hm2 (by decide) (by decide)
    have ix0 : ∀ m : Nat, ixN (m + 1) 0 = some 0 := fun m => by
      unfold ixN
      rw [if_pos (by decide), if_pos (by omega)]
      rfl
    refine ⟨_, rfl, _, _, _, _, rfl, rfl, .inl (.inl h1), rfl, _, _, _, _, rfl, rfl, h2, (ix0 _), ?_⟩
    have h3 : ∀ o, upd (upd H p (.lst [])) x.c o x.b = some (.lst [.ref x.c, .int sv]) := fun o => by rw [upd_ne nebc]; exact h1
    have g2 : ∀ o, Gr x.M F H F (upd (upd H p (.lst [])) x.c o) := fun o => g1.trans (.mut g1.sub (.inr (.inl rfl)) hb.fc)
    have fin : ∀ ms : List Int, ms.length ≤ 63 → ∀ H', H' = upd (upd H p (.lst [])) x.c (.lst (ms.map V.int)) → Q (.int (n % m)) H' := fun ms hms H' e => by
      subst e
      exact q _ _ F _ (g2 _) ⟨nebc, hb.fb, hb.fc, hb.ft, ⟨ms, sv, hms, h3 _, upd_same⟩, TabN.keepL (.lst h2) tp⟩ (.int _) ⟨_, rfl, Int.emod_nonneg _ (by omega), Int.emod_lt_of_pos _ hm⟩
    refine ⟨_, rfl, _, _, _, _, rfl, rfl, .inl (.inl (h3 _)), rfl, _, _, _, _, rfl, rfl, .inl (.inl upd_same), atI_nat (j := 0) rfl, rfl, _, rfl, ?_⟩
    have pop : tSeq (tDrop (tBM K "list" rPopAt (tOp (rIxL K) (tVar 0) (tC (V.int 0))) (tCons (tC (V.int 0)) tNil))) (tRet (tOp (rI (fun x j => 0 < j) fun i j => V.int (i % j)) (tVar 2) (tVar 1))) { nx := fun x H' => Q V.non H', rt := Q } [some (.ref x.b), some (.int m), some (.int n)] (upd (upd H p (.lst [])) x.c (.lst ((n :: r).map V.int |>.set 0 (.int (n / m))))) := by
      refine ⟨_, rfl, _, _, _, _, rfl, rfl, .inl (.inl (h3 _)), rfl, .inl ⟨rfl, _, .inl (.inl upd_same)⟩, _, _, _, 0, _, rfl, rfl, upd_same, by decide, by decide, (ixN_seq (ix0 _)).1, rfl, ?_⟩
      refine ⟨_, rfl, _, rfl, _, _, rfl, rfl, hm, ?_⟩
      refine fin r (by rw [List.length_cons] at hl; omega) _ ?_
      rw [upd_upd]
      rfl
    have stay : tRet (tOp (rI (fun x j => 0 < j) fun i j => V.int (i % j)) (tVar 2) (tVar 1)) { nx := fun x H' => Q V.non H', rt := Q } [some (.ref x.b), some (.int m), some (.int n)] (upd (upd H p (.lst [])) x.c (.lst ((n :: r).map V.int |>.set 0 (.int (n / m))))) := by
      refine ⟨_, rfl, _, rfl, _, _, rfl, rfl, hm, ?_⟩
      exact fin (n / m :: r) (by rw [List.length_cons] at hl ⊢; omega) _ rfl
    refine ite2 (fun _ => iteT pop) (fun _ => ?_)
    refine ⟨_, rfl, _, _, _, _, rfl, rfl, .inl (.inl (h3 _)), rfl, _, _, _, _, rfl, rfl, .inl (.inl upd_same), atI_nat (j := 0) rfl, _, rfl, rfl, _, rfl, ?_⟩
    exact ite2 (fun _ => pop) (fun _ => stay)
end
end Hn

set_option Elab.async false
set_option linter.all false
set_option maxRecDepth 100000
set_option maxHeartbeats 8000000
namespace Hn
open PySem PySem.Spec PyProof.Rows L2 Dl
section
variable {P : Program} {w : World} {K : PySem.W.Frag} {mg : Str → Option Value} {base : Heap}
theorem small_abs {m : Int} (h0 : 0 < m) (h : m ≤ 10000000000000000000) : m.natAbs < 2 ^ 8000 := by
  have h1 : m.natAbs < 2 ^ 64 := by omega
  exact Nat.lt_of_lt_of_le h1 (Nat.pow_le_pow_right (by decide) (by decide))
theorem evc_take {E : XK} {te : TE} {i : Nat} {δ : List SD} {Q : D → Prop} (hb : boxAt δ i = true) (h : EvC K te δ fun d => ∃ m, d = .int m ∧ 0 < m ∧ m ≤ 10000000000000000000 ∧ ∀ n, 0 ≤ n → n < m → Q (.int n)) :
    EvC K (tCall (spB K (ι := Int) (fun m => [.int m]) (fun m => 0 < m ∧ m.natAbs < 2 ^ 8000) (fun m d => ∃ n, d = .int n ∧ 0 ≤ n ∧ n < m)) [] E (tCons (tVar i) (tCons te tNil))) δ Q :=
  evc_callB hb (evca_cons (h.imp fun d hd => evca_nil (by
    obtain ⟨m, e, h0, h1, q⟩ := hd
    exact ⟨m, by rw [e], ⟨h0, small_abs h0 h1⟩, fun d hd => by
      obtain ⟨n, e2, a, b⟩ := hd
      rw [e2]
      exact q n a b⟩)))
theorem evc_int {n : Int} {δ : List SD} {Q : D → Prop} (q : Q (.int n)) : EvC K (tC (.int n)) δ Q := evc_d evd_int q
theorem evc_non {δ : List SD} {Q : D → Prop} (q : Q .none) : EvC K (tC .non) δ Q := evc_d evd_non q
theorem evc_takeN {E : XK} {m : Int} {i : Nat} {δ : List SD} {Q : D → Prop} (hb : boxAt δ i = true) (h0 : 0 < m) (h1 : m ≤ 10000000000000000000) (h : ∀ n, 0 ≤ n → n < m → Q (.int n)) :
    EvC K (tCall (spB K (ι := Int) (fun m => [.int m]) (fun m => 0 < m ∧ m.natAbs < 2 ^ 8000) (fun m d => ∃ n, d = .int n ∧ 0 ≤ n ∧ n < m)) [] E (tCons (tVar i) (tCons (tC (.int m)) tNil))) δ Q := evc_take hb (evc_int ⟨m, rfl, h0, h1, h⟩)
/-- one of a display's items -/
theorem evc_pick {ta : TA} {tb : TE} {δ : List SD} {Q : D → Prop} (h : EvCA K ta δ fun ds => ds.length ≤ 100000 ∧ EvC K tb δ fun d2 => ∃ i : Int, d2 = .int i ∧ 0 ≤ i ∧ i < ds.length ∧ ∀ d ∈ ds, Q d) : EvC K (tOp (rIxL K) (tLst ta) tb) δ Q :=
  evc_ixL (evc_lst (h.imp fun ds hd => ⟨hd.1, hd.2.imp fun d2 hi => by
    obtain ⟨i, e, h0, h1, q⟩ := hi
    have hl : i.toNat < ds.length := by omega
    refine ⟨ds, i, ds[i.toNat], rfl, e, ?_, q _ (List.getElem_mem hl)⟩
    have e2 : i = ((i.toNat : Nat) : Int) := by omega
    have h3 := atI_nat (List.getElem?_eq_getElem hl)
    rw [← e2] at h3
    exact h3⟩))
/-- take(box, [a, b][take(box, 2)]) -/
theorem evc_take2 {E E2 : XK} {a b : Int} {i : Nat} {δ : List SD} {Q : D → Prop} (hb : boxAt δ i = true) (ha : 0 < a ∧ a ≤ 10000000000000000000) (hb2 : 0 < b ∧ b ≤ 10000000000000000000) (h : ∀ n, 0 ≤ n → (n < a ∨ n < b) → Q (.int n)) :
    EvC K (tCall (spB K (ι := Int) (fun m => [.int m]) (fun m => 0 < m ∧ m.natAbs < 2 ^ 8000) (fun m d => ∃ n, d = .int n ∧ 0 ≤ n ∧ n < m)) [] E (tCons (tVar i) (tCons (tOp (rIxL K) (tLst (tCons (tC (.int a)) (tCons (tC (.int b)) tNil))) (tCall (spB K (ι := Int) (fun m => [.int m]) (fun m => 0 < m ∧ m.natAbs < 2 ^ 8000) (fun m d => ∃ n, d = .int n ∧ 0 ≤ n ∧ n < m)) [] E2 (tCons (tVar i) (tCons (tC (.int 2)) tNil)))) tNil))) δ Q :=
  evc_take hb (evc_pick (evca_cons (evc_int (evca_cons (evc_int (evca_nil ⟨by simp, evc_takeN hb (by decide) (by decide) fun n h0 h1 => ⟨n, rfl, h0, by simpa using h1, fun d hd => by
    simp only [List.mem_cons, List.not_mem_nil, or_false] at hd
    rcases hd with rfl | rfl
    · exact ⟨a, rfl, ha.1, ha.2, fun n h0 h1 => h n h0 (.inl h1)⟩
    · exact ⟨b, rfl, hb2.1, hb2.2, fun n h0 h1 => h n h0 (.inr h1)⟩⟩⟩))))))
local macro_rules | `(tactic| walk_at "evc") => `(tactic| first
  | ((with_reducible apply evca_cons); (try set_option simprocs false in dsimp only); walk_at "evc")
  | ((with_reducible apply evca_nil); (try set_option simprocs false in dsimp only))
  | ((with_reducible apply evc_tup); walk_at "evc")
  | ((with_reducible apply evc_mod); walk_at "evc") | ((with_reducible apply evc_add); walk_at "evc") | ((with_reducible apply evc_sub); walk_at "evc") | ((with_reducible apply evc_lt); walk_at "evc") | ((with_reducible apply evc_eqI); walk_at "evc")
  | ((with_reducible apply evc_int); (try set_option simprocs false in dsimp only); walk_at "evc")
  | ((with_reducible apply evc_non); (try set_option simprocs false in dsimp only); walk_at "evc")
  | ((with_reducible refine evc_take2 ?_ ?_ ?_ ?_) <;> first | ((with_reducible intro n h0 h1); (try set_option simprocs false in dsimp only); walk_at "evc") | exact rfl | decide | skip)
  | ((with_reducible refine evc_takeN ?_ ?_ ?_ ?_) <;> first | ((with_reducible intro n h0 h1); (try set_option simprocs false in dsimp only); walk_at "evc") | exact rfl | decide | skip)
  | ((with_reducible refine evct_B ?_); walk_at "evc") | ((with_reducible refine evct_test ?_); walk_at "evc")
  | (refine evc_var rfl ?_; (try set_option simprocs false in dsimp only); walk_at "evc")
  | ((with_reducible refine ⟨_, rfl, (?_ : EvC _ _ _ _)⟩); walk_at "evc")
  | ((with_reducible refine ⟨_, rfl, (by decide : (0:Int) < 24), ?_⟩); walk_at "evc")
  | ((with_reducible refine ⟨_, rfl, ?_⟩); walk_at "evc")
  | skip)
def stretchOk (p : Int × Int) : Prop := (0 ≤ p.1 ∧ p.1 ≤ 23) ∧ (0 ≤ p.2 ∧ p.2 ≤ 23) ∧ p.1 ≠ p.2
theorem ok_law_stretches (T : Tx K mg) : FnOk P w K mg base CX0 2 (He.ga K "_law_stretches") T.fd__law_stretches ["_law_box"] (spB K (ι := Unit) (fun _ => []) (fun _ => True) (fun _ d => ∃ ps : List (Int × Int), d = .tuple (ps.map pairD) ∧ ps.length ≤ 3 ∧ ∀ p ∈ ps, stretchOk p)) := by
  have G_law_take := ok_law_take (P := P) (w := w) (base := base) T
  have b_law_take := b_law_take T
  refine fn_dataB T.F__law_stretches sc_law_stretches (fun _ => rfl) (fun cdv A outer s H E hr => ⟨_, (pss_cons (ps_set (i := 1) sc_law_stretches.nd rfl (.inl rfl) (pe_lst pa_nil))
      (pss_cons (ps_for PassesOwn.never rfl (pi_range1 (by rfl) T.z_range (pa_cons (pe_call G_law_take (hr) (by rfl) T.g__law_take T.k__law_take b_law_take .nil pass0 (pa_cons (pv 0) (pa_cons pe_int pa_nil))) pa_nil)) (pg_name (i := 2) sc_law_stretches.nd rfl (.inl rfl))
      (pss_cons (ps_set (i := 3) sc_law_stretches.nd rfl (.inl rfl) (pe_call G_law_take (hr) (by rfl) T.g__law_take T.k__law_take b_law_take .nil pass0 (pa_cons (pv 0) (pa_cons pe_int pa_nil))))
      (pss_one (ps_expr (pe_bmK K PySem.F.plainAttrs_list PySem.F.slot_list_append PySem.F.type_list_append mt_append (pv 1) (pa_cons (pe_tup (pa_cons (pv 3) (pa_cons (pe_op op_mod (pe_op op_add (pe_op op_add (pv 3) pe_int) (pe_call G_law_take (hr) (by rfl) T.g__law_take T.k__law_take b_law_take .nil pass0 (pa_cons (pv 0) (pa_cons (pe_ix (r := rIxL K) ix_list (pe_lst (pa_cons pe_int (pa_cons pe_int pa_nil))) (pe_call G_law_take (hr) (by rfl) T.g__law_take T.k__law_take b_law_take .nil pass0 (pa_cons (pv 0) (pa_cons pe_int pa_nil))) (fun _ _ => rfl)) pa_nil)))) pe_int) pa_nil))) pa_nil))))))
      (pss_one (ps_ret (pe_callTy (r := rTupD K) call_tuple_of (by rfl) T.z_tuple (by decide +kernel) (pa_cons (pv 1) pa_nil)))))), fun i tt nm hp => ?_⟩)
  skip
  try (set_option simprocs false in dsimp only [cxOf, Cx.nox, Cx.wish])
  change EvCB K _ [.box tt nm, .no, .no, .no] _
  apply ecb_seq
  refine ecb_own ?_
  show EvCB K _ _ _
  apply ecb_seq
  refine ecb_forR1 (fun k δ => ∃ (ps : List (Int × Int)) (a b : SD), δ = [.box tt nm, .own (ps.map pairD), a, b] ∧ ps.length = k ∧ ∀ p ∈ ps, stretchOk p) ⟨[], .no, .no, rfl, rfl, fun p hp => by cases hp⟩ ?_
  refine evca_cons (evc_takeN rfl (by decide) (by decide) fun n h0 h1 => evca_nil ⟨n.toNat, by rw [show ((n.toNat : Nat) : Int) = n by omega], by omega, fun k hk δk hJ => ?_, fun δn hJ => ?_⟩)
  · obtain ⟨ps, a, b, rfl, hl, hok⟩ := hJ
    set_option simprocs false in dsimp only [List.set]
    apply ecb_seq
    refine ecb_asg (evc_takeN rfl (by decide) (by decide) fun x x0 x1 => ?_)
    show EvCB K _ _ _
    refine ecb_append (ds := ps.map pairD) rfl (by rw [List.length_map]; omega) ?_
    walk_at "evc"
    rename_i y y0 y1
    refine ⟨by simp, ps ++ [(x, (x + 1 + y) % 24)], _, _, by rw [List.map_append]; rfl, by rw [List.length_append, hl]; rfl, fun p hp => ?_⟩
    rcases List.mem_append.mp hp with z | z
    · exact hok p z
    · rw [List.mem_singleton.mp z]
      exact ⟨⟨x0, by omega⟩, ⟨by omega, by omega⟩, by omega⟩
  · obtain ⟨ps, a, b, rfl, hl, hok⟩ := hJ
    show EvCB K _ _ _
    exact ecb_ret (evc_tupOwn rfl ⟨ps, rfl, by omega, hok⟩)
theorem gOk_app {k s : Int} (hk : k ≤ 7) (hs : 1 ≤ s ∧ s ≤ 12) : ∀ (gs : List (Int × Int)) (lo : Int), gOk lo gs → (∀ p ∈ gs, p.1 < k) → lo ≤ k → gOk lo (gs ++ [(k, s)])
  | [], lo, _, _, hl => ⟨hl, hk, hs.1, hs.2, trivial⟩
  | p :: r, lo, h, hlt, hl => by
    obtain ⟨h1, h2, h3, h4, h5⟩ := h
    have := hlt p (List.mem_cons_self)
    exact ⟨h1, h2, h3, h4, gOk_app hk hs r _ h5 (fun q hq => hlt q (List.mem_cons_of_mem _ hq)) (by omega)⟩
/-- what _law_rule holds between the turns -/
def RuleI (tt : Addr) (nm : Nat → Nat → Str) (i : Int) (k : Nat) (δ : List SD) : Prop := ∃ (gs : List (Int × Int)) (a : SD), δ = [.box tt nm, .val (.int i), .own (gs.map pairD), a, .no, .no] ∧ gs.length ≤ 4 ∧ gOk 0 gs ∧ ∀ p ∈ gs, p.1 < (k : Int)
theorem ok_law_rule (T : Tx K mg) : FnOk P w K mg base CX0 3 (He.ga K "_law_rule") T.fd__law_rule ["_law_box", "_law_many"] (spB K (ι := Int) (fun m => [.int m]) (fun m => 1 ≤ m ∧ m ≤ 6) (fun m d => ∃ r : PR, d = r.data ∧ r.Ok m.toNat)) := by
  have G_law_stretches := ok_law_stretches (P := P) (w := w) (base := base) T
  have b_law_stretches := b_law_stretches T
  have G_law_take := ok_law_take (P := P) (w := w) (base := base) T
  have b_law_take := b_law_take T
  refine fn_dataB T.F__law_rule sc_law_rule (fun _ => rfl) (fun cdv A outer s H E hr => ⟨_, (pss_cons (ps_set (i := 2) sc_law_rule.nd rfl (.inl rfl) (pe_lst pa_nil))
      (pss_cons (ps_for PassesOwn.never rfl (pi_range1 (by rfl) T.z_range (pa_cons pe_int pa_nil)) (pg_name (i := 3) sc_law_rule.nd rfl (.inl rfl))
      (pss_one (ps_if (PW.pt (pw_and (pt_cmpR op_lt (pe_callB (r := rLenD K) call_len_seq (by rfl) T.z_len (by decide +kernel) (pa_cons (pv 2) pa_nil)) pe_int (nomark _)) (pw_and1 (pt_cmpR op_eq (pe_call G_law_take (hr.mono (by decide)) (by rfl) T.g__law_take T.k__law_take b_law_take .nil pass0 (pa_cons (pv 0) (pa_cons pe_int pa_nil))) pe_int (nomark _))))) (pss_one (ps_expr (pe_bmK K PySem.F.plainAttrs_list PySem.F.slot_list_append PySem.F.type_list_append mt_append (pv 2) (pa_cons (pe_tup (pa_cons (pv 3) (pa_cons (pe_op op_add pe_int (pe_call G_law_take (hr.mono (by decide)) (by rfl) T.g__law_take T.k__law_take b_law_take .nil pass0 (pa_cons (pv 0) (pa_cons (pe_ix (r := rIxL K) ix_list (pe_lst (pa_cons pe_int (pa_cons pe_int pa_nil))) (pe_call G_law_take (hr.mono (by decide)) (by rfl) T.g__law_take T.k__law_take b_law_take .nil pass0 (pa_cons (pv 0) (pa_cons pe_int pa_nil))) (fun _ _ => rfl)) pa_nil)))) pa_nil))) pa_nil)))) pss_nil)))
      (pss_cons (ps_set (i := 4) sc_law_rule.nd rfl (.inl rfl) (pe_ix (r := rIxL K) ix_list (pe_lst (pa_cons pe_non (pa_cons (pe_op op_add pe_int (pe_call G_law_take (hr.mono (by decide)) (by rfl) T.g__law_take T.k__law_take b_law_take .nil pass0 (pa_cons (pv 0) (pa_cons (pe_ix (r := rIxL K) ix_list (pe_lst (pa_cons pe_int (pa_cons pe_int pa_nil))) (pe_call G_law_take (hr.mono (by decide)) (by rfl) T.g__law_take T.k__law_take b_law_take .nil pass0 (pa_cons (pv 0) (pa_cons pe_int pa_nil))) (fun _ _ => rfl)) pa_nil)))) (pa_cons pe_int pa_nil)))) (pe_call G_law_take (hr.mono (by decide)) (by rfl) T.g__law_take T.k__law_take b_law_take .nil pass0 (pa_cons (pv 0) (pa_cons pe_int pa_nil))) (fun _ _ => rfl)))
      (pss_cons (ps_set (i := 5) sc_law_rule.nd rfl (.inl rfl) (pe_ix (r := rIxL K) ix_list (pe_lst (pa_cons pe_non (pa_cons (pe_call G_law_take (hr.mono (by decide)) (by rfl) T.g__law_take T.k__law_take b_law_take .nil pass0 (pa_cons (pv 0) (pa_cons (pv 1) pa_nil))) (pa_cons (pe_call G_law_take (hr.mono (by decide)) (by rfl) T.g__law_take T.k__law_take b_law_take .nil pass0 (pa_cons (pv 0) (pa_cons (pv 1) pa_nil))) pa_nil)))) (pe_call G_law_take (hr.mono (by decide)) (by rfl) T.g__law_take T.k__law_take b_law_take .nil pass0 (pa_cons (pv 0) (pa_cons pe_int pa_nil))) (fun _ _ => rfl)))
      (pss_one (ps_ret (pe_tup (pa_cons (pe_call G_law_stretches (hr) (by rfl) T.g__law_stretches T.k__law_stretches b_law_stretches .nil pass0 (pa_cons (pv 0) pa_nil)) (pa_cons (pe_call G_law_take (hr.mono (by decide)) (by rfl) T.g__law_take T.k__law_take b_law_take .nil pass0 (pa_cons (pv 0) (pa_cons pe_int pa_nil))) (pa_cons (pe_callTy (r := rTupD K) call_tuple_of (by rfl) T.z_tuple (by decide +kernel) (pa_cons (pv 2) pa_nil)) (pa_cons (pv 4) (pa_cons (pv 5) pa_nil)))))))))))), fun i tt nm hp => ?_⟩)
  obtain ⟨m1, m6⟩ : 1 ≤ i ∧ i ≤ 6 := hp
  try (set_option simprocs false in dsimp only [cxOf, Cx.nox, Cx.wish])
  change EvCB K _ [.box tt nm, .val (.int i), .no, .no, .no, .no] _
  apply ecb_seq
  refine ecb_own ?_
  show EvCB K _ _ _
  apply ecb_seq
  refine ecb_forR1 (RuleI tt nm i) ⟨[], .no, rfl, by simp, trivial, fun p hp => by cases hp⟩ ?_
  refine evca_cons (evc_int (evca_nil ⟨8, rfl, by decide, fun k hk δk hJ => ?_, fun δn hJ => ?_⟩))
  · obtain ⟨gs, a, rfl, hl, hg, hlt⟩ := hJ
    set_option simprocs false in dsimp only [List.set]
    have keep : RuleI tt nm i (k + 1) [.box tt nm, .val (.int i), .own (gs.map pairD), .val (.int (0 + (k : Nat))), .no, .no] := ⟨gs, _, rfl, hl, hg, fun p hp => by have := hlt p hp; omega⟩
    refine ecb_if (evct_and ?_)
    apply evct_test
    refine evc_lt (evc_lenOwn rfl ⟨_, rfl, evc_int ⟨_, rfl, ⟨_, rfl, ?_⟩⟩⟩)
    by_cases h4 : ((gs.map pairD).length : Int) < 4
    · rw [if_pos (decide_eq_true h4)]
      apply evct_test
      refine evc_eqI (evc_takeN rfl (by decide) (by decide) fun x x0 x1 => ⟨_, rfl, evc_int ⟨_, rfl, ⟨_, rfl, ?_⟩⟩⟩)
      refine ite2 (fun _ => ?_) (fun _ => ecb_next keep)
      refine ecb_append (ds := gs.map pairD) rfl (by omega) ?_
      walk_at "evc"
      rename_i y y0 y1
      refine ⟨by simp, gs ++ [((k : Int), 1 + y)], _, by rw [List.map_append, show (0 + ((k : Nat) : Int)) = k by omega]; rfl, by rw [List.length_append]; rw [List.length_map] at h4; simp; omega, gOk_app (by omega) ⟨by omega, by omega⟩ gs 0 hg hlt (by omega), fun p hp => ?_⟩
      rcases List.mem_append.mp hp with z | z
      · have := hlt p z
        omega
      · rw [List.mem_singleton.mp z]
        show (k : Int) < ((k + 1 : Nat) : Int)
        omega
    · rw [if_neg (fun z => h4 (of_decide_eq_true z))]
      exact ecb_next keep
  · obtain ⟨gs, a, rfl, hl, hg, hlt⟩ := hJ
    show EvCB K _ _ _
    apply ecb_seq
    apply ecb_asg
    apply evc_pick
    walk_at "evc"
    rename_i y y0 y1
    refine ⟨by simp, evc_takeN rfl (by decide) (by decide) fun t t0 t1 => ⟨t, rfl, t0, by simpa using t1, fun d hd => ?_⟩⟩
    obtain ⟨wt, rfl, hw⟩ : ∃ wt : Option Int, d = optD wt ∧ ∀ j, wt = some j → 1 ≤ j ∧ j ≤ 24 := by
      simp only [List.mem_cons, List.not_mem_nil, or_false] at hd
      rcases hd with rfl | rfl | rfl
      · exact ⟨none, rfl, fun j z => by cases z⟩
      · exact ⟨some _, rfl, fun j z => by cases z; omega⟩
      · exact ⟨some _, rfl, fun j z => by cases z; omega⟩
    show EvCB K _ _ _
    apply ecb_seq
    apply ecb_asg
    apply evc_pick
    refine evca_cons (evc_non (evca_cons (evc_take rfl (evc_var rfl ⟨_, rfl, by omega, by omega, fun f1 f10 f11 => evca_cons (evc_take rfl (evc_var rfl ⟨_, rfl, by omega, by omega, fun f2 f20 f21 => evca_nil ⟨by simp, evc_takeN rfl (by decide) (by decide) fun t t0 t1 => ⟨t, rfl, t0, by simpa using t1, fun d hd => ?_⟩⟩⟩))⟩))))
    obtain ⟨fu, rfl, hf⟩ : ∃ fu : Option Int, d = optD fu ∧ ∀ j, fu = some j → 0 ≤ j ∧ j < i := by
      simp only [List.mem_cons, List.not_mem_nil, or_false] at hd
      rcases hd with rfl | rfl | rfl
      · exact ⟨none, rfl, fun j z => by cases z⟩
      · exact ⟨some _, rfl, fun j z => by cases z; exact ⟨f10, f11⟩⟩
      · exact ⟨some _, rfl, fun j z => by cases z; exact ⟨f20, f21⟩⟩
    show EvCB K _ _ _
    apply ecb_ret
    apply evc_tup
    refine evca_cons (evc_callB (ι := Unit) rfl (evca_nil ⟨(), rfl, trivial, fun d hd => ?_⟩))
    obtain ⟨hs, rfl, hs3, hsok⟩ := hd
    refine evca_cons (evc_takeN rfl (by decide) (by decide) fun l l0 l1 => evca_cons (evc_tupOwn (ds := gs.map pairD) rfl (evca_cons (evc_var rfl (evca_cons (evc_var rfl (evca_nil ⟨by simp, ⟨hs, l, gs, wt, fu⟩, rfl, hs3, fun p hp => hsok p hp, ⟨l0, by show l ≤ 4; omega⟩, hl, hg, hw, fun j z => by have := hf j z; omega⟩)))))))
theorem rules_of {m : Nat} : ∀ rs : List D, (∀ d ∈ rs, ∃ r : PR, d = r.data ∧ r.Ok m) → ∃ R : List PR, rs = R.map PR.data ∧ R.length = rs.length ∧ ∀ r ∈ R, r.Ok m
  | [], _ => ⟨[], rfl, rfl, fun r hr => by cases hr⟩
  | d :: rs, h => by
    obtain ⟨r, e, hr⟩ := h d List.mem_cons_self
    obtain ⟨R, e2, l2, h2⟩ := rules_of rs fun x hx => h x (List.mem_cons_of_mem _ hx)
    exact ⟨r :: R, by rw [e, e2]; rfl, by rw [List.length_cons, List.length_cons, l2], fun q hq => by
      rcases List.mem_cons.mp hq with rfl | z
      · exact hr
      · exact h2 q z⟩
theorem ok_law_rules (T : Tx K mg) : FnOk P w K mg base CX0 4 (He.ga K "_law_rules") T.fd__law_rules ["_law_box"] (spB K (ι := Unit) (fun _ => []) (fun _ => True) (fun _ d => ∃ R : List PR, d = RD R ∧ RulesOk R)) := by
  have G_law_rule := ok_law_rule (P := P) (w := w) (base := base) T
  have b_law_rule := b_law_rule T
  have G_law_take := ok_law_take (P := P) (w := w) (base := base) T
  have b_law_take := b_law_take T
  refine fn_dataB T.F__law_rules sc_law_rules (fun _ => rfl) (fun cdv A outer s H E hr => ⟨_, (pss_cons (ps_set (i := 1) sc_law_rules.nd rfl (.inr rfl) (pe_op op_add pe_int (pe_call G_law_take (hr.mono (by decide)) (by rfl) T.g__law_take T.k__law_take b_law_take .nil pass0 (pa_cons (pv 0) (pa_cons pe_int pa_nil)))))
      (pss_one (ps_ret (pe_callTy (r := rTupD K) call_tuple_of (by rfl) T.z_tuple (by decide +kernel) (pa_cons (pe_lc (own := [("_law_person", 2)]) (by rfl) sc_law_rules.nd (pi_range1 (by rfl) T.z_range (pa_cons (pv 1) pa_nil)) (blkOk_by (own := [("_law_person", 2)]) (N := ["_law_box", "_law_many", "_law_person"]) (sc := (defScope s_law_rules)) (by decide +kernel)) (fun _ _ _ _ _ => (pg_name (i := 2) sc_law_rules.nd rfl (.inl rfl))) (fun _ _ _ _ _ => pts_nil) (fun _ _ _ _ _ => (pe_call G_law_rule (hr) (by rfl) T.g__law_rule T.k__law_rule b_law_rule .nil pass0 (pa_cons (pv 0) (pa_cons (pv 1) pa_nil))))) pa_nil))))), fun i tt nm hp => ?_⟩)
  skip
  try (set_option simprocs false in dsimp only [cxOf, Cx.nox, Cx.wish])
  change EvCB K _ [.box tt nm, .no, .no] _
  apply ecb_seq
  apply ecb_asg
  refine evc_add (evc_int ⟨_, rfl, evc_takeN rfl (by decide) (by decide) fun n n0 n1 => ⟨_, rfl, ?_⟩⟩)
  show EvCB K _ _ _
  apply ecb_ret
  apply evc_tupleL
  refine evc_lcR1 (evca_cons (evc_var rfl (evca_nil ⟨(1 + n).toNat, by rw [show (((1 + n).toNat : Nat) : Int) = 1 + n by omega], by omega, fun k hk => ?_, fun rs hl hr => ?_⟩))) (φ := fun d => ∃ r : PR, d = r.data ∧ r.Ok (1 + n).toNat)
  · exact evc_callB rfl (evca_cons (evc_var rfl (evca_nil ⟨1 + n, rfl, ⟨by omega, by omega⟩, fun d hd => hd⟩)))
  · obtain ⟨R, e, l, h⟩ := rules_of rs hr
    refine ⟨rs, rfl, R, by rw [e]; rfl, by omega, by omega, fun r hr => ?_⟩
    rw [l, hl]
    exact h r hr
end
end Hn

set_option Elab.async false
set_option linter.all false
set_option maxRecDepth 100000
set_option maxHeartbeats 8000000
namespace Hn
open PySem PySem.Spec PyProof.Rows L2 Dl
section
variable {P : Program} {w : World} {K : PySem.W.Frag} {mg : Str → Option Value} {base : Heap}
local macro_rules | `(tactic| walk_at "evc") => `(tactic| first
  | ((with_reducible apply evca_cons); (try set_option simprocs false in dsimp only); walk_at "evc")
  | ((with_reducible apply evca_nil); (try set_option simprocs false in dsimp only))
  | ((with_reducible apply evc_tup); walk_at "evc")
  | ((with_reducible apply evc_mod); walk_at "evc") | ((with_reducible apply evc_add); walk_at "evc") | ((with_reducible apply evc_sub); walk_at "evc") | ((with_reducible apply evc_lt); walk_at "evc") | ((with_reducible apply evc_eqI); walk_at "evc")
  | ((with_reducible apply evc_int); (try set_option simprocs false in dsimp only); walk_at "evc")
  | ((with_reducible apply evc_non); (try set_option simprocs false in dsimp only); walk_at "evc")
  | ((with_reducible refine evc_take2 ?_ ?_ ?_ ?_) <;> first | ((with_reducible intro n h0 h1); (try set_option simprocs false in dsimp only); walk_at "evc") | exact rfl | decide | skip)
  | ((with_reducible refine evc_takeN ?_ ?_ ?_ ?_) <;> first | ((with_reducible intro n h0 h1); (try set_option simprocs false in dsimp only); walk_at "evc") | exact rfl | decide | skip)
  | ((with_reducible refine evct_B ?_); walk_at "evc") | ((with_reducible refine evct_test ?_); walk_at "evc")
  | (refine evc_var rfl ?_; (try set_option simprocs false in dsimp only); walk_at "evc")
  | ((with_reducible refine ⟨_, rfl, (?_ : EvC _ _ _ _)⟩); walk_at "evc")
  | ((with_reducible refine ⟨_, rfl, (by decide : (0:Int) < 24), ?_⟩); walk_at "evc")
  | ((with_reducible refine ⟨_, rfl, ?_⟩); walk_at "evc")
  | skip)
theorem shaped_pairs : ∀ ps : List (Int × Int), PyData.canLayAll0 (ps.map pairD) = true ∧ PyData.depthAll (ps.map pairD) ≤ 3
  | [] => ⟨by simp [PyData.canLayAll0], by simp [PyData.depthAll]⟩
  | p :: r => by
    have h := shaped_pairs r
    have h2 := h.2
    refine ⟨by simp [PyData.canLayAll0, PyData.canLay0, pairD, h.1], ?_⟩
    simp only [List.map_cons, PyData.depthAll, PyData.depth, pairD]
    omega
theorem evd_nePairs {te : TE} {δ : DS} {ps : List (Int × Int)} (h : EvD K te δ (.list (ps.map pairD))) : EvD K (tOp (rNeD K) te (tLst tNil)) δ (.bool (!ps.isEmpty)) :=
  evd_op h (evd_lst eva_nil (by simp)) (fun F H x y s dx dy Q q => by
    have h1 := shaped_pairs ps
    have h2 := h1.2
    refine ⟨_, _, dp_sub s dx, dp_sub s dy, ?_, rfl, ?_⟩
    · unfold SeqAt.shaped
      have h3 : (1 + PyData.depthAll (ps.map pairD)) ≤ 64 := by omega
      simp only [PyData.canLay0, PyData.depth, h1.1, Bool.true_and]
      exact decide_eq_true (by first | exact h3 | (rw [Nat.add_comm]; exact h3))
    · have e : PyData.eqv (.list (ps.map pairD)) (.list []) = ps.isEmpty := by
        cases ps <;> simp [PyData.eqv, PyData.eqvAll]
      rw [e]
      exact q _ F H (.refl s) (.bl _))
/-- the law's own way to tell a hushed hour -/
def hushP (h : Int) (d : D) : Bool := match d with
  | .tuple [.int b, .int e] => decide ((h - b) % 24 < (e - b) % 24)
  | _ => false
theorem hushP_in {h : Int} {p : Int × Int} (h0 : 0 ≤ h ∧ h < 24) (ok : stretchOk p) : hushP h (pairD p) = inStr p.1 p.2 h := by
  obtain ⟨b, e⟩ := p
  obtain ⟨⟨b0, b1⟩, ⟨e0, e1⟩, ne⟩ := ok
  simp only at b0 b1 e0 e1 ne
  show decide ((h - b) % 24 < (e - b) % 24) = inStr b e h
  unfold inStr
  by_cases hbe : b < e
  · rw [if_pos hbe, ← Bool.decide_and]
    exact decide_eq_decide.mpr (by omega)
  · rw [if_neg hbe, ← Bool.decide_or]
    exact decide_eq_decide.mpr (by omega)
theorem hush_filter {h : Int} (h0 : 0 ≤ h ∧ h < 24) : ∀ ps : List (Int × Int), (∀ p ∈ ps, stretchOk p) → ∃ qs : List (Int × Int), ((ps.map pairD).filter (hushP h)).map id = qs.map pairD ∧ (!qs.isEmpty) = inSome ps h
  | [], _ => ⟨[], rfl, rfl⟩
  | p :: r, hok => by
    obtain ⟨qs, e, n⟩ := hush_filter h0 r fun q hq => hok q (List.mem_cons_of_mem _ hq)
    have hp := hushP_in h0 (hok p List.mem_cons_self)
    have es : inSome (p :: r) h = (inStr p.1 p.2 h || inSome r h) := rfl
    rw [List.map_cons, List.filter_cons, hp, es]
    cases inStr p.1 p.2 h with
    | true => exact ⟨p :: qs, by rw [if_pos rfl, List.map_cons, e]; rfl, rfl⟩
    | false => exact ⟨qs, by rw [if_neg Bool.false_ne_true, e], n⟩
theorem ok_law_hush (T : Tx K mg) : FnOk P w K mg base CX0 1 (He.ga K "_law_hush") T.fd__law_hush ["_law_rule_here", "_law_moment"] (spFI K (ι := PR × Int) (fun i => [i.1.data, .int i.2]) (fun i => ∃ n, i.1.Ok n) (fun i => .bool (inSome i.1.hs (i.2 % 24)))) := by
  refine fn_dataI T.F__law_hush sc_law_hush (fun _ => rfl) (fun cdv A outer s H E hr => ⟨_, (pss_cons (ps_set (i := 2) sc_law_hush.nd rfl (.inr rfl) (pe_op op_mod (pv 1) pe_int))
      (pss_cons (ps_setLc (i := 3) (own := [("_law_begin", 4), ("_law_end", 5)]) (by rfl) sc_law_hush.nd rfl rfl (sw_true rfl rfl rfl (by decide +kernel)) (pi_tupK K (pe_ix (r := rIxT K) ix_tup (pv 0) pe_int (fun _ _ => rfl))) (blkOk_by (own := [("_law_begin", 4), ("_law_end", 5)]) (N := ["_law_rule_here", "_law_moment", "_law_hour", "_law_some", "_law_begin", "_law_end"]) (sc := (defScope s_law_hush)) (by decide +kernel)) (fun _ _ _ _ _ => (pg_tupK K 2 (by rfl) (pgs_cons (pg_name (i := 4) sc_law_hush.nd rfl (.inl rfl)) (pgs_cons (pg_name (i := 5) sc_law_hush.nd rfl (.inl rfl)) pgs_nil)))) (fun _ _ _ _ _ => (pts_one (pt_cmpR op_lt (pe_op op_mod (pe_op op_sub (pv 2) (pv 4)) pe_int) (pe_op op_mod (pe_op op_sub (pv 5) (pv 4)) pe_int) (nomark _)))) (fun _ _ _ _ _ => (pe_tup (pa_cons (pv 4) (pa_cons (pv 5) pa_nil)))))
      (pss_one (ps_ret (pe_cmpR (r := rNeD K) (op_neD hr.units) (pv 3) (pe_lst pa_nil) (nomark _)))))), fun i hp => ?_⟩)
  obtain ⟨r, m⟩ := i
  obtain ⟨n, ok⟩ : ∃ n, r.Ok n := hp
  try (set_option simprocs false in dsimp only [cxOf, Cx.nox, Cx.wish])
  change EvB K E _ [some r.data, some (.int m), none, none, none, none] _
  apply evb_seq
  refine evb_asg (evd_mod (evd_var rfl) evd_int (by decide)) ?_
  show EvB K E _ _ _
  apply evb_seq
  obtain ⟨qs, e, n⟩ := hush_filter (h := m % 24) ⟨by omega, by omega⟩ r.hs fun p hp => ok.hs p hp
  have hl := ok.hl
  refine evb_asg (e := .list (qs.map pairD)) ((evd_lcT (vs := [4, 5]) (p := hushP (m % 24)) (f := id) (ds := r.hs.map pairD) (evd_ixT (i := 0) (ds := [.tuple (r.hs.map pairD), .int r.least, .tuple (r.gs.map pairD), optD r.wait, optD r.fur]) (evd_var rfl) evd_int rfl) (by rw [List.length_map]; omega) fun d hd => ?_).to (by rw [e])) ?_
  · obtain ⟨p, _, rfl⟩ := List.mem_map.mp hd
    refine ⟨_, tgt_pair (by simp) (by simp), ?_, fun _ => ?_⟩
    · apply evt_test
      exact evd_lt (evd_mod (evd_sub (evd_var rfl) (evd_var rfl)) evd_int (by decide)) (evd_mod (evd_sub (evd_var rfl) (evd_var rfl)) evd_int (by decide))
    · exact evd_tup (eva_cons (evd_var rfl) (eva_cons (evd_var rfl) eva_nil)) (by simp)
  · show EvB K E _ _ _
    refine evb_ret (evd_nePairs (evd_var rfl)) ?_
    show PyData.bool _ = .bool _
    rw [n]
def rLstOf (K : PySem.W.Frag) : List V → Hp → VK → Prop := fun xs H Q => ∃ p ys, xs = [.ref p] ∧ (SqL K H p ys ∨ SqT K H p ys) ∧ ∀ l, H l = none → Q (.ref l) (upd H l (.lst ys))
def spBegun (K : PySem.W.Frag) : Sp := fun vs H Q _ => ∃ (v : V) (F : Hp) (ns : List Int) (t : Addr) (nm : Nat → Nat → Str), vs = [v] ∧ Sub F H ∧ Dp K F v (.list (ns.map PyData.int)) ∧ ns.length ≤ 63 ∧ F t = none ∧ NdefX.TabN H t nm ∧ ∀ (x : Bx) (F' H' : Hp), x.t = t → x.nm = nm → Gr0 F H F' H' → Box x F' H' → Q (.ref x.b) H'
theorem ok_law_begun (T : Tx K mg) : FnOk P w K mg base CX0 1 (He.ga K "_law_begun") T.fd__law_begun ["_law_script"] (spBegun K) := by
  refine fn_raw T.F__law_begun sc_law_begun (fun vs H Q E h => ?_) (fun cdv A outer s H vs Q E hr h => ?_)
  · obtain ⟨v, F, ns, t, nm, rfl, _⟩ := h
    rfl
  obtain ⟨v, F, ns, t, nm, rfl, hs, hd, hl, ft, ht, q⟩ := h
  refine ⟨_, (pss_cons (ps_set (i := 1) sc_law_begun.nd rfl (.inl rfl) pe_int)
      (pss_cons (ps_for PassesOwn.never rfl (pi_listK K (pv 0)) (pg_name (i := 2) sc_law_begun.nd rfl (.inl rfl))
      (pss_one (ps_set (i := 1) sc_law_begun.nd rfl (.inl rfl) (pe_op op_mod (pe_op op_add (pe_op op_add (pe_op op_mul (pv 1) pe_int) (pe_op op_mul (pv 2) pe_int)) pe_int) pe_int))))
      (pss_one (ps_ret (pe_lst (pa_cons (pe_callTy (r := rLstOf K) call_list_of (by rfl) T.z_list (by decide +kernel) (pa_cons (pv 0) pa_nil)) (pa_cons (pe_op op_mul (pv 1) (pe_callTy call_int1 (by rfl) T.z_int (by decide +kernel) (pa_cons (pe_cmpR op_gt (pe_callB (r := rLenD K) call_len_seq (by rfl) T.z_len (by decide +kernel) (pa_cons (pv 0) pa_nil)) pe_int (nomark _)) pa_nil))) pa_nil))))))), ?_⟩
  try (set_option simprocs false in dsimp only [cxOf, Cx.nox, Cx.wish])
  have dσ : DpS K F (L2.start ["_law_script", "_law_stirred", "_law_cell"] [v]) [some (.list (ns.map PyData.int)), none, none] := .start (.cons hd .nil)
  have lp : EvB K E (tFor (iList K (tVar 0)) (gName 2) (tAsg (tOp (rI (fun _ j => 0 < j) fun i j => .int (i % j)) (tOp (rI0 fun i j => .int (i + j)) (tOp (rI0 fun i j => .int (i + j)) (tOp (rI CMul fun i j => .int (i * j)) (tVar 1) (tC (.int 48271))) (tOp (rI CMul fun i j => .int (i * j)) (tVar 2) (tC (.int 69621)))) (tC (.int 11))) (tC (.int 2147483647))) (gName 1)))
      [some (.list (ns.map PyData.int)), some (.int 0), none] { rt := fun _ => False, nx := fun δ => ∃ (st : Int) (a : Option D), δ = [some (.list (ns.map PyData.int)), some (.int st), a] } := by
    refine evb_forL (vs := [2]) (fun _ δ => ∃ (st : Int) (a : Option D), δ = [some (.list (ns.map PyData.int)), some (.int st), a]) (evd_var rfl) ⟨_, _, rfl⟩ (fun i d hd δ hI => ?_) (fun δ hI => hI)
    obtain ⟨st, a, rfl⟩ := hI
    obtain ⟨n, rfl⟩ : ∃ n, d = .int n := by
      rw [List.getElem?_map] at hd
      obtain ⟨n, _, e⟩ := Option.map_eq_some_iff.mp hd
      exact ⟨n, e.symm⟩
    refine ⟨_, tgt_name (by simp), ?_⟩
    refine evb_asg (evd_mod (evd_add (evd_add (evd_mul (evd_var rfl) evd_int (.inr ⟨by decide, by decide⟩)) (evd_mul (evd_var rfl) evd_int (.inr ⟨by decide, by decide⟩))) evd_int) evd_int (by decide)) ?_
    exact ⟨_, _, rfl⟩
  refine lp _ F H _ (dσ.set (i := 1) (.int 0)) hs ⟨fun _ _ _ _ _ _ z => z.elim, fun _ _ _ _ _ _ z => z.elim, fun σ δ F2 H2 g2 d2 hI => ?_, fun _ _ _ _ _ _ z => z.elim, fun _ _ _ _ _ _ z => z.elim⟩
  obtain ⟨st, a, rfl⟩ := hI
  obtain ⟨v0, e0, dv0⟩ := d2.at_ 0 _ rfl
  obtain ⟨v1, e1, dv1⟩ := d2.at_ 1 _ rfl
  cases dv1
  cases dv0 with
  | lst hq hall =>
    rename_i p ys
    obtain rfl := dpa_ints hall
    refine ⟨_, e0, _, _, rfl, .inl (sql_sub g2.sub hq), fun l hl0 => ?_⟩
    have g3 : Gr0 F2 H2 F2 (upd H2 l (.lst (ns.map V.int))) := .fresh g2.sub hl0
    have hq2 := sql_sub g3.sub hq
    refine ⟨_, e1, _, e0, _, _, rfl, .inl hq2, _, _, rfl, rfl, .inr ⟨_, rfl, _, _, rfl, rfl, ?cm, (by show 2 ≤ sizeLine; decide), fun b hb => ?_⟩⟩
    case cm =>
      split
      · exact .inr ⟨by decide, by decide⟩
      · exact .inr ⟨by decide, by decide⟩
    have hcl : (upd H2 l (.lst (ns.map V.int))) l = some (.lst (ns.map V.int)) := upd_same
    have ne : b ≠ l := fun z => by rw [z, hcl] at hb; cases hb
    have fl : F2 l = none := g2.sub.gone hl0
    have fb : F2 b = none := g3.sub.gone hb
    obtain ⟨_, t1, _⟩ := id ht
    have g4 : ∀ o, Gr0 F H F2 (upd (upd H2 l (.lst (ns.map V.int))) b o) := fun o => (g2.trans g3).trans (.fresh g3.sub hb)
    refine q ⟨b, l, t, nm⟩ F2 _ rfl rfl (g4 _) ⟨ne, fb, fl, ((g4 (.lst [])).old _ _ t1).trans ft, ⟨ns, _, hl, upd_same, ?_⟩, ht.ext (g4 _).all⟩
    show upd (upd H2 l (.lst (ns.map V.int))) b _ l = _
    rw [upd_ne (Ne.symm ne)]
    exact hcl
end
end Hn

set_option Elab.async false
set_option linter.all false
set_option maxRecDepth 100000
set_option maxHeartbeats 8000000
namespace Hn
open PySem PySem.Spec PyProof.Rows L2 Dl
section
variable {P : Program} {w : World} {K : PySem.W.Frag} {mg : Str → Option Value} {base : Heap}
def rIxLT (K : PySem.W.Frag) : R2 := fun x y H Q => rIxL K x y H Q ∨ rIxT K x y H Q
theorem ix_seq {X : Cx} : IxR X (rIxLT X.K) := by
  intro value slice pins s σ H x y v u Q I rx ry h hs
  rcases h with h | h
  · exact ix_list value slice pins s σ H x y v u Q I rx ry h hs
  · exact ix_tup value slice pins s σ H x y v u Q I rx ry h hs
def seqD : Bool → List D → D
  | true, ds => .tuple ds
  | false, ds => .list ds
theorem evd_ixS {ta tb : TE} {δ : DS} {d : D} {t : Bool} {ds : List D} {i : Int} (ha : EvD K ta δ (seqD t ds)) (hb : EvD K tb δ (.int i)) (h : atI ds i = some d) : EvD K (tOp (rIxLT K) ta tb) δ d :=
  evd_op ha hb fun F H x y s dx dy Q q => by
    cases dy
    unfold atI at h
    cases t with
    | false =>
      cases dx with
      | lst hs hall =>
        rw [← dpa_length hall] at h
        obtain ⟨j, h1, h2⟩ := Option.bind_eq_some_iff.mp h
        obtain ⟨y, hy, dy⟩ := dpa_get hall h2
        exact .inl ⟨_, _, i, y, rfl, rfl, sql_sub s hs, by unfold atI; rw [h1]; exact hy, q y F H (.refl s) dy⟩
    | true =>
      cases dx with
      | tup hs hall =>
        rw [← dpa_length hall] at h
        obtain ⟨j, h1, h2⟩ := Option.bind_eq_some_iff.mp h
        obtain ⟨y, hy, dy⟩ := dpa_get hall h2
        exact .inr ⟨_, _, i, y, rfl, rfl, sqt_sub s hs, by unfold atI; rw [h1]; exact hy, q y F H (.refl s) dy⟩
def flatD : D → Bool
  | .none => true
  | .bool _ => true
  | .int _ => true
  | .str _ => true
  | _ => false
/-- one level of tuples or lists over flat ones -/
def lowD (d : D) : Prop := flatD d = true ∨ ∃ (t : Bool) (ds : List D), d = seqD t ds ∧ ds.length ≤ 1000 ∧ ∀ x ∈ ds, flatD x = true
theorem ok_law_alike1 (T : Tx K mg) : FnOk P w K mg base CX0 1 (He.ga K "_law_alike") T.fd__law_alike ["_law_found", "_law_due"] (spFI K (ι := D) (fun d => [d, d]) (fun d => flatD d = true) (fun _ => .bool true)) := by
  refine fn_dataI T.F__law_alike sc_law_alike (fun _ => rfl) (fun cdv A outer s H E hr => ⟨_, (pss_cons (ps_if (pt_cmpR op_isN (pv 1) pe_non (nomark _)) (pss_one (ps_ret (pe_cmpR op_isN (pv 0) pe_non (nomark _)))) pss_nil)
 (pss_cons (ps_if (pt_val (pe_callB (r := rIsi K) call_isi (by rfl) T.z_isinstance (by decide +kernel) (pa_cons (pv 1) (pa_cons (pe_bltn (v := .ty "bool") (by rfl) T.z_bool (by decide +kernel) rfl) pa_nil)))) (pss_one (ps_ret (pe_and (pe_callB (r := rIsi K) call_isi (by rfl) T.z_isinstance (by decide +kernel) (pa_cons (pv 0) (pa_cons (pe_bltn (v := .ty "bool") (by rfl) T.z_bool (by decide +kernel) rfl) pa_nil))) (pe_one (pe_cmpR op_eq (pv 0) (pv 1) (nomark _)))))) pss_nil)
 (pss_cons (ps_if (pt_val (pe_callB (r := rIsi K) call_isi (by rfl) T.z_isinstance (by decide +kernel) (pa_cons (pv 1) (pa_cons (pe_bltn (v := .ty "int") (by rfl) T.z_int (by decide +kernel) rfl) pa_nil)))) (pss_one (ps_ret (pe_and (pe_callB (r := rIsi K) call_isi (by rfl) T.z_isinstance (by decide +kernel) (pa_cons (pv 0) (pa_cons (pe_bltn (v := .ty "int") (by rfl) T.z_int (by decide +kernel) rfl) pa_nil))) (pe_and (pe_not (pe_callB (r := rIsi K) call_isi (by rfl) T.z_isinstance (by decide +kernel) (pa_cons (pv 0) (pa_cons (pe_bltn (v := .ty "bool") (by rfl) T.z_bool (by decide +kernel) rfl) pa_nil)))) (pe_one (pe_cmpR op_eq (pv 0) (pv 1) (nomark _))))))) pss_nil)
 (pss_cons (ps_if (pt_val (pe_callB (r := rIsi K) call_isi (by rfl) T.z_isinstance (by decide +kernel) (pa_cons (pv 1) (pa_cons (pe_bltn (v := .ty "str") (by rfl) T.z_str (by decide +kernel) rfl) pa_nil)))) (pss_one (ps_ret (pe_and (pe_callB (r := rIsi K) call_isi (by rfl) T.z_isinstance (by decide +kernel) (pa_cons (pv 0) (pa_cons (pe_bltn (v := .ty "str") (by rfl) T.z_str (by decide +kernel) rfl) pa_nil))) (pe_one (pe_cmpR op_eq (pv 0) (pv 1) (nomark _)))))) pss_nil)
 pss_never)))), fun i hp => ?_⟩)
  try (set_option simprocs false in dsimp only [cxOf, Cx.nox, Cx.wish])
  change EvB K E _ [some i, some i, none] _
  cases i with
  | none =>
    apply evb_seq
    refine evb_if (b := true) (EvT.to (evt_test (evd_isN (evd_var rfl))) rfl) (fun _ => ?_) (fun z => by cases z)
    exact evb_ret (evd_isN (evd_var rfl)) rfl
  | bool b =>
    apply evb_seq
    refine evb_if (b := false) (EvT.to (evt_test (evd_isN (evd_var rfl))) rfl) (fun z => by cases z) (fun _ => evb_next ?_)
    apply evb_seq
    refine evb_if (b := true) (EvT.to (evt_B (evd_isiD (evd_var rfl) (by simp))) rfl) (fun _ => ?_) (fun z => by cases z)
    refine evb_ret (evd_andV (evd_isiD (evd_var rfl) (by simp)) fun _ => evd_eqB (evd_var rfl) (evd_var rfl)) ?_
    simp [isD, tyD]
  | int b =>
    apply evb_seq
    refine evb_if (b := false) (EvT.to (evt_test (evd_isN (evd_var rfl))) rfl) (fun z => by cases z) (fun _ => evb_next ?_)
    apply evb_seq
    refine evb_if (b := false) (EvT.to (evt_B (evd_isiD (evd_var rfl) (by simp))) rfl) (fun z => by cases z) (fun _ => evb_next ?_)
    apply evb_seq
    refine evb_if (b := true) (EvT.to (evt_B (evd_isiD (evd_var rfl) (by simp))) rfl) (fun _ => ?_) (fun z => by cases z)
    refine evb_ret (evd_andV (evd_isiD (evd_var rfl) (by simp)) fun _ => evd_andV (evd_notV (evd_isiD (evd_var rfl) (by simp))) fun _ => evd_eqI (evd_var rfl) (evd_var rfl)) ?_
    simp [isD, tyD]
  | str b =>
    apply evb_seq
    refine evb_if (b := false) (EvT.to (evt_test (evd_isN (evd_var rfl))) rfl) (fun z => by cases z) (fun _ => evb_next ?_)
    apply evb_seq
    refine evb_if (b := false) (EvT.to (evt_B (evd_isiD (evd_var rfl) (by simp))) rfl) (fun z => by cases z) (fun _ => evb_next ?_)
    apply evb_seq
    refine evb_if (b := false) (EvT.to (evt_B (evd_isiD (evd_var rfl) (by simp))) rfl) (fun z => by cases z) (fun _ => evb_next ?_)
    apply evb_seq
    refine evb_if (b := true) (EvT.to (evt_B (evd_isiD (evd_var rfl) (by simp))) rfl) (fun _ => ?_) (fun z => by cases z)
    refine evb_ret (evd_andV (evd_isiD (evd_var rfl) (by simp)) fun _ => evd_eqS (evd_var rfl) (evd_var rfl)) ?_
    simp [isD, tyD]
  | _ => cases hp
theorem ok_law_alike (T : Tx K mg) : FnOk P w K mg base CX0 2 (He.ga K "_law_alike") T.fd__law_alike ["_law_found", "_law_due"] (spFI K (ι := D) (fun d => [d, d]) lowD (fun _ => .bool true)) := by
  have G_law_alike := ok_law_alike1 (P := P) (w := w) (base := base) T
  have b_law_alike := b_law_alike T
  refine fn_dataI T.F__law_alike sc_law_alike (fun _ => rfl) (fun cdv A outer s H E hr => ⟨_, (pss_cons (ps_if (pt_cmpR op_isN (pv 1) pe_non (nomark _)) (pss_one (ps_ret (pe_cmpR op_isN (pv 0) pe_non (nomark _)))) pss_nil)
      (pss_cons (ps_if (pt_val (pe_callB (r := rIsi K) call_isi (by rfl) T.z_isinstance (by decide +kernel) (pa_cons (pv 1) (pa_cons (pe_bltn (v := .ty "bool") (by rfl) T.z_bool (by decide +kernel) rfl) pa_nil)))) (pss_one (ps_ret (pe_and (pe_callB (r := rIsi K) call_isi (by rfl) T.z_isinstance (by decide +kernel) (pa_cons (pv 0) (pa_cons (pe_bltn (v := .ty "bool") (by rfl) T.z_bool (by decide +kernel) rfl) pa_nil))) (pe_one (pe_cmpR op_eq (pv 0) (pv 1) (nomark _)))))) pss_nil)
      (pss_cons (ps_if (pt_val (pe_callB (r := rIsi K) call_isi (by rfl) T.z_isinstance (by decide +kernel) (pa_cons (pv 1) (pa_cons (pe_bltn (v := .ty "int") (by rfl) T.z_int (by decide +kernel) rfl) pa_nil)))) (pss_one (ps_ret (pe_and (pe_callB (r := rIsi K) call_isi (by rfl) T.z_isinstance (by decide +kernel) (pa_cons (pv 0) (pa_cons (pe_bltn (v := .ty "int") (by rfl) T.z_int (by decide +kernel) rfl) pa_nil))) (pe_and (pe_not (pe_callB (r := rIsi K) call_isi (by rfl) T.z_isinstance (by decide +kernel) (pa_cons (pv 0) (pa_cons (pe_bltn (v := .ty "bool") (by rfl) T.z_bool (by decide +kernel) rfl) pa_nil)))) (pe_one (pe_cmpR op_eq (pv 0) (pv 1) (nomark _))))))) pss_nil)
      (pss_cons (ps_if (pt_val (pe_callB (r := rIsi K) call_isi (by rfl) T.z_isinstance (by decide +kernel) (pa_cons (pv 1) (pa_cons (pe_bltn (v := .ty "str") (by rfl) T.z_str (by decide +kernel) rfl) pa_nil)))) (pss_one (ps_ret (pe_and (pe_callB (r := rIsi K) call_isi (by rfl) T.z_isinstance (by decide +kernel) (pa_cons (pv 0) (pa_cons (pe_bltn (v := .ty "str") (by rfl) T.z_str (by decide +kernel) rfl) pa_nil))) (pe_one (pe_cmpR op_eq (pv 0) (pv 1) (nomark _)))))) pss_nil)
      (pss_cons (ps_if (PW.pt (pw_or (pt_cmpR op_ne (pe_callB (r := rIsi K) call_isi (by rfl) T.z_isinstance (by decide +kernel) (pa_cons (pv 1) (pa_cons (pe_bltn (v := .ty "tuple") (by rfl) T.z_tuple (by decide +kernel) rfl) pa_nil))) (pe_callB (r := rIsi K) call_isi (by rfl) T.z_isinstance (by decide +kernel) (pa_cons (pv 0) (pa_cons (pe_bltn (v := .ty "tuple") (by rfl) T.z_tuple (by decide +kernel) rfl) pa_nil))) (nomark _)) (pw_or1 (pt_cmpR op_ne (pe_callB (r := rIsi K) call_isi (by rfl) T.z_isinstance (by decide +kernel) (pa_cons (pv 1) (pa_cons (pe_bltn (v := .ty "list") (by rfl) T.z_list (by decide +kernel) rfl) pa_nil))) (pe_callB (r := rIsi K) call_isi (by rfl) T.z_isinstance (by decide +kernel) (pa_cons (pv 0) (pa_cons (pe_bltn (v := .ty "list") (by rfl) T.z_list (by decide +kernel) rfl) pa_nil))) (nomark _))))) (pss_one (ps_ret pe_bl)) pss_nil)
      (pss_cons (ps_if (pt_cmpR op_ne (pe_callB (r := rLenD K) call_len_seq (by rfl) T.z_len (by decide +kernel) (pa_cons (pv 0) pa_nil)) (pe_callB (r := rLenD K) call_len_seq (by rfl) T.z_len (by decide +kernel) (pa_cons (pv 1) pa_nil)) (nomark _)) (pss_one (ps_ret pe_bl)) pss_nil)
      (pss_cons (ps_for PassesOwn.never rfl (pi_range1 (by rfl) T.z_range (pa_cons (pe_callB (r := rLenD K) call_len_seq (by rfl) T.z_len (by decide +kernel) (pa_cons (pv 1) pa_nil)) pa_nil)) (pg_name (i := 2) sc_law_alike.nd rfl (.inl rfl))
      (pss_one (ps_if (pt_not (pt_val (pe_call G_law_alike (hr) (by rfl) T.g__law_alike T.k__law_alike b_law_alike .nil pass0 (pa_cons (pe_ix (r := rIxLT K) ix_seq (pv 0) (pv 2) (fun _ _ => rfl)) (pa_cons (pe_ix (r := rIxLT K) ix_seq (pv 1) (pv 2) (fun _ _ => rfl)) pa_nil))))) (pss_one (ps_ret pe_bl)) pss_nil)))
      (pss_one (ps_ret pe_bl))))))))), fun i hp => ?_⟩)
  try (set_option simprocs false in dsimp only [cxOf, Cx.nox, Cx.wish])
  change EvB K E _ [some i, some i, none] _
  rcases hp with hp | ⟨t, ds, rfl, hl, hf⟩
  · skip
    cases i with
    | none =>
      apply evb_seq
      refine evb_if (b := true) (EvT.to (evt_test (evd_isN (evd_var rfl))) rfl) (fun _ => ?_) (fun z => by cases z)
      exact evb_ret (evd_isN (evd_var rfl)) rfl
    | bool b =>
      apply evb_seq
      refine evb_if (b := false) (EvT.to (evt_test (evd_isN (evd_var rfl))) rfl) (fun z => by cases z) (fun _ => evb_next ?_)
      apply evb_seq
      refine evb_if (b := true) (EvT.to (evt_B (evd_isiD (evd_var rfl) (by simp))) rfl) (fun _ => ?_) (fun z => by cases z)
      refine evb_ret (evd_andV (evd_isiD (evd_var rfl) (by simp)) fun _ => evd_eqB (evd_var rfl) (evd_var rfl)) ?_
      simp [isD, tyD]
    | int b =>
      apply evb_seq
      refine evb_if (b := false) (EvT.to (evt_test (evd_isN (evd_var rfl))) rfl) (fun z => by cases z) (fun _ => evb_next ?_)
      apply evb_seq
      refine evb_if (b := false) (EvT.to (evt_B (evd_isiD (evd_var rfl) (by simp))) rfl) (fun z => by cases z) (fun _ => evb_next ?_)
      apply evb_seq
      refine evb_if (b := true) (EvT.to (evt_B (evd_isiD (evd_var rfl) (by simp))) rfl) (fun _ => ?_) (fun z => by cases z)
      refine evb_ret (evd_andV (evd_isiD (evd_var rfl) (by simp)) fun _ => evd_andV (evd_notV (evd_isiD (evd_var rfl) (by simp))) fun _ => evd_eqI (evd_var rfl) (evd_var rfl)) ?_
      simp [isD, tyD]
    | str b =>
      apply evb_seq
      refine evb_if (b := false) (EvT.to (evt_test (evd_isN (evd_var rfl))) rfl) (fun z => by cases z) (fun _ => evb_next ?_)
      apply evb_seq
      refine evb_if (b := false) (EvT.to (evt_B (evd_isiD (evd_var rfl) (by simp))) rfl) (fun z => by cases z) (fun _ => evb_next ?_)
      apply evb_seq
      refine evb_if (b := false) (EvT.to (evt_B (evd_isiD (evd_var rfl) (by simp))) rfl) (fun z => by cases z) (fun _ => evb_next ?_)
      apply evb_seq
      refine evb_if (b := true) (EvT.to (evt_B (evd_isiD (evd_var rfl) (by simp))) rfl) (fun _ => ?_) (fun z => by cases z)
      refine evb_ret (evd_andV (evd_isiD (evd_var rfl) (by simp)) fun _ => evd_eqS (evd_var rfl) (evd_var rfl)) ?_
      simp [isD, tyD]
    | _ => cases hp
  have e0 : isNone (seqD t ds) = false := by cases t <;> rfl
  have e1 : isD "bool" (seqD t ds) = false := by cases t <;> rfl
  have e2 : isD "int" (seqD t ds) = false := by cases t <;> rfl
  have e3 : isD "str" (seqD t ds) = false := by cases t <;> rfl
  have e4 : isD "tuple" (seqD t ds) = t := by cases t <;> rfl
  have e5 : isD "list" (seqD t ds) = !t := by cases t <;> rfl
  have e6 : seqLen (seqD t ds) = some ds.length := by cases t <;> rfl
  apply evb_seq
  refine evb_if (b := false) ((evt_test (evd_isN (evd_var rfl))).to e0) (fun z => by cases z) (fun _ => evb_next ?_)
  apply evb_seq
  refine evb_if (b := false) ((evt_B (evd_isiD (evd_var rfl) (by simp))).to e1) (fun z => by cases z) (fun _ => evb_next ?_)
  apply evb_seq
  refine evb_if (b := false) ((evt_B (evd_isiD (evd_var rfl) (by simp))).to e2) (fun z => by cases z) (fun _ => evb_next ?_)
  apply evb_seq
  refine evb_if (b := false) ((evt_B (evd_isiD (evd_var rfl) (by simp))).to e3) (fun z => by cases z) (fun _ => evb_next ?_)
  apply evb_seq
  refine evb_if (b := false) (?_) (fun z => by cases z) (fun _ => evb_next ?_)
  · refine EvT.to (evt_or (evt_test (evd_neB (evd_isiD (evd_var rfl) (by simp)) (evd_isiD (evd_var rfl) (by simp)))) fun _ => (evt_test (evd_neB (evd_isiD (evd_var rfl) (by simp)) (evd_isiD (evd_var rfl) (by simp))))) (by simp)
  apply evb_seq
  refine evb_if (b := false) (EvT.to (evt_test (evd_neI (evd_len (evd_var rfl) e6) (evd_len (evd_var rfl) e6))) (by simp)) (fun z => by cases z) (fun _ => evb_next ?_)
  apply evb_seq
  refine evb_forR1 (vs := [2]) (n := ds.length) (fun _ δ => ∃ a : Option D, δ = [some (seqD t ds), some (seqD t ds), a]) (eva_cons (evd_len (evd_var rfl) e6) eva_nil) (by omega) ⟨_, rfl⟩ (fun j hj δ hI => ?_) (fun δ hI => ?_)
  · obtain ⟨a, rfl⟩ := hI
    refine ⟨_, tgt_name (by simp), ?_⟩
    have hat : atI ds (0 + ((j : Nat) : Int)) = some ds[j] := by
      rw [show (0 + ((j : Nat) : Int)) = ((j : Nat) : Int) by omega]
      exact atI_nat (List.getElem?_eq_getElem hj)
    refine evb_if (b := false) (EvT.to (evt_not (evt_B (evd_callI ds[j] (eva_cons (evd_ixS (evd_var rfl) (evd_var rfl) hat) (eva_cons (evd_ixS (evd_var rfl) (evd_var rfl) hat) eva_nil)) (hf _ (List.getElem_mem hj)) rfl))) rfl) (fun z => by cases z) (fun _ => evb_next ⟨_, rfl⟩)
  · obtain ⟨a, rfl⟩ := hI
    exact evb_ret evd_bl rfl
end
end Hn

set_option Elab.async false
set_option linter.all false
set_option maxHeartbeats 2000000
namespace Hn
open PySem PySem.Spec PyProof.Rows L2 Dl
theorem cntB_append (a b : List Bool) : cntB (a ++ b) = cntB a + cntB b := by
  unfold cntB
  rw [List.map_append, List.sum_append]
theorem cntB_take {bs : List Bool} {j : Nat} {b : Bool} (h : bs[j]? = some b) : cntB (bs.take (j + 1)) = cntB (bs.take j) + b2i b := by
  rw [List.take_add_one, h, cntB_append]
  congr 1
  unfold cntB
  simp
theorem ahead_succ (hs : List (Int × Int)) (m : Int) (hm : 0 ≤ m) : aheadB (hoursB hs) (m + 1) = aheadB (hoursB hs) m + b2i (inSome hs (m % 24)) := by
  have hat : (hoursB hs)[(m % 24).toNat]? = some (inSome hs (m % 24)) := by
    unfold hoursB
    rw [List.getElem?_map, List.getElem?_range (by omega)]
    show some (inSome hs (((m % 24).toNat : Nat) : Int)) = _
    rw [show (((m % 24).toNat : Nat) : Int) = m % 24 by omega]
  have ht := cntB_take hat
  unfold aheadB
  by_cases h : m % 24 = 23
  · have e1 : (m + 1) / 24 = m / 24 + 1 := by omega
    have e2 : (m + 1) % 24 = 0 := by omega
    have e3 : (m % 24).toNat + 1 = (hoursB hs).length := by rw [hoursB_length]; omega
    rw [e3, List.take_length] at ht
    rw [e1, e2, ht, show ((0 : Int).toNat) = 0 from rfl, List.take_zero, show cntB [] = 0 from rfl, Int.add_mul]
    omega
  · have e1 : (m + 1) / 24 = m / 24 := by omega
    have e2 : ((m + 1) % 24).toNat = (m % 24).toNat + 1 := by omega
    rw [e1, e2, ht]
    omega
def hushAt (hs : List (Int × Int)) (d : D) : Bool := match d with
  | .int m => inSome hs (m % 24)
  | _ => false
theorem rng_count (hs : List (Int × Int)) (lo : Int) (h0 : 0 ≤ lo) : ∀ n : Nat, ((((rngD lo n).filter (hushAt hs)).length : Nat) : Int) = aheadB (hoursB hs) (lo + (n : Nat)) - aheadB (hoursB hs) lo
  | 0 => by
    rw [show (lo + ((0 : Nat) : Int)) = lo by omega]
    show (0 : Int) = _
    omega
  | n + 1 => by
    have ih := rng_count hs lo h0 n
    have e : rngD lo (n + 1) = rngD lo n ++ [.int (lo + (n : Nat))] := by
      unfold rngD
      rw [List.range_succ, List.map_append]
      rfl
    have es := ahead_succ hs (lo + (n : Nat)) (by omega)
    rw [show (lo + ((n + 1 : Nat) : Int)) = lo + (n : Nat) + 1 by omega, es, e, List.filter_append, List.length_append]
    have ef : ([PyData.int (lo + (n : Nat))].filter (hushAt hs)).length = if inSome hs ((lo + (n : Nat)) % 24) = true then 1 else 0 := by
      rw [List.filter_cons]
      show (if inSome hs ((lo + (n : Nat)) % 24) = true then _ else _ : List D).length = _
      split <;> rfl
    rw [ef]
    cases inSome hs ((lo + (n : Nat)) % 24) with
    | true =>
      rw [if_pos rfl]
      show _ = _ + b2i true - _
      unfold b2i
      simp only [if_true]
      omega
    | false =>
      rw [if_neg Bool.false_ne_true]
      show _ = _ + b2i false - _
      unfold b2i
      simp only [Bool.false_eq_true, if_false]
      omega
/-- the law's own way to the first hour that isn't hushed -/
def dayB (hs : List (Int × Int)) (b : Int) : List Bool := (List.range 24).map fun i => inSome hs ((b + (i : Nat)) % 24)
theorem free_none {hs : List (Int × Int)} {b : Int} (h : (dayB hs b).contains false = false) : freeD hs b = .none := by
  unfold freeD
  rw [find_range_none]
  intro j hj
  have hm : inSome hs ((b + (j : Nat)) % 24) ∈ dayB hs b := List.mem_map.mpr ⟨j, List.mem_range.mpr hj, rfl⟩
  cases e : inSome hs ((b + (j : Nat)) % 24) with
  | true => rfl
  | false =>
    rw [e] at hm
    rw [List.contains_iff_mem.mpr hm] at h
    cases h
theorem first_false : ∀ bs : List Bool, bs.contains false = true → ∃ j : Nat, bs[j]? = some false ∧ ∀ m, m < j → bs[m]? = some true
  | [], h => by cases h
  | false :: r, _ => ⟨0, rfl, fun m hm => absurd hm (Nat.not_lt_zero _)⟩
  | true :: r, h => by
    obtain ⟨j, h1, h2⟩ := first_false r (by simpa using h)
    refine ⟨j + 1, by rw [List.getElem?_cons_succ]; exact h1, fun m hm => ?_⟩
    cases m with
    | zero => rfl
    | succ m =>
      rw [List.getElem?_cons_succ]
      exact h2 m (by omega)
theorem free_some {hs : List (Int × Int)} {b : Int} (h : (dayB hs b).contains false = true) : ∃ j : Nat, (dayB hs b)[j]? = some false ∧ (∀ m, m < j → (dayB hs b)[m]? = some true) ∧ freeD hs b = .int (b + (j : Nat)) := by
  obtain ⟨j, h1, h2⟩ := first_false _ h
  have hl : (dayB hs b).length = 24 := by unfold dayB; rw [List.length_map, List.length_range]
  have hat : ∀ j, j < 24 → (dayB hs b)[j]? = some (inSome hs ((b + (j : Nat)) % 24)) := fun j hj => by
    unfold dayB
    rw [List.getElem?_map, List.getElem?_range hj]
    rfl
  have hj : j < 24 := by rw [← hl]; exact (List.getElem?_eq_some_iff.mp h1).1
  have q1 : ∀ m, m < j → (!inSome hs ((b + (m : Nat)) % 24)) = false := fun m hm => by
    have a := hat m (by omega)
    rw [h2 m hm] at a
    rw [← Option.some.inj a]
    rfl
  have q2 : (!inSome hs ((b + (j : Nat)) % 24)) = true := by
    have a := hat j hj
    rw [h1] at a
    rw [← Option.some.inj a]
    rfl
  refine ⟨j, h1, h2, ?_⟩
  unfold freeD
  rw [find_range hj q1 q2]
end Hn

set_option Elab.async false
set_option linter.all false
set_option maxRecDepth 100000
set_option maxHeartbeats 8000000
namespace Hn
open PySem PySem.Spec PyProof.Rows L2 Dl
section
variable {P : Program} {w : World} {K : PySem.W.Frag} {mg : Str → Option Value} {base : Heap}
local macro_rules | `(tactic| walk_at "evc") => `(tactic| first
  | ((with_reducible apply evca_cons); (try set_option simprocs false in dsimp only); walk_at "evc")
  | ((with_reducible apply evca_nil); (try set_option simprocs false in dsimp only))
  | ((with_reducible apply evc_tup); walk_at "evc")
  | ((with_reducible apply evc_mod); walk_at "evc") | ((with_reducible apply evc_add); walk_at "evc") | ((with_reducible apply evc_sub); walk_at "evc") | ((with_reducible apply evc_lt); walk_at "evc") | ((with_reducible apply evc_eqI); walk_at "evc")
  | ((with_reducible apply evc_int); (try set_option simprocs false in dsimp only); walk_at "evc")
  | ((with_reducible apply evc_non); (try set_option simprocs false in dsimp only); walk_at "evc")
  | ((with_reducible refine evc_take2 ?_ ?_ ?_ ?_) <;> first | ((with_reducible intro n h0 h1); (try set_option simprocs false in dsimp only); walk_at "evc") | exact rfl | decide | skip)
  | ((with_reducible refine evc_takeN ?_ ?_ ?_ ?_) <;> first | ((with_reducible intro n h0 h1); (try set_option simprocs false in dsimp only); walk_at "evc") | exact rfl | decide | skip)
  | ((with_reducible refine evct_B ?_); walk_at "evc") | ((with_reducible refine evct_test ?_); walk_at "evc")
  | (refine evc_var rfl ?_; (try set_option simprocs false in dsimp only); walk_at "evc")
  | ((with_reducible refine ⟨_, rfl, (?_ : EvC _ _ _ _)⟩); walk_at "evc")
  | ((with_reducible refine ⟨_, rfl, (by decide : (0:Int) < 24), ?_⟩); walk_at "evc")
  | ((with_reducible refine ⟨_, rfl, ?_⟩); walk_at "evc")
  | skip)
theorem evd_catT {ta tb : TE} {δ : DS} {ds es : List D} (ha : EvD K ta δ (.tuple ds)) (hb : EvD K tb δ (.tuple es)) (hl : ds.length + es.length ≤ 100000) : EvD K (tOp (rCatA K) ta tb) δ (.tuple (ds ++ es)) :=
  evd_op ha hb fun F H x y s dx dy Q q => by
    cases dx with
    | tup hx ax =>
      cases dy with
      | tup hy ay =>
        rename_i a xs b ys
        refine ⟨a, b, xs, ys, rfl, rfl, sqt_sub s hx, sqt_sub s hy, Nat.le_trans (by rw [dpa_length ax, dpa_length ay]; exact hl) (by decide), fun e => ?_, fun _ e => ?_, fun _ _ p hp => ?_⟩
        · subst e
          cases ax
          exact q _ F H (.refl s) (.tup hy ay)
        · subst e
          cases ay
          rw [List.append_nil] at q
          exact q _ F H (.refl s) (.tup hx ax)
        · exact q (.ref p) (upd F p _) _ (.new s hp) (.tup (.inl (.inl upd_same)) (dpa_sub (Sub.upd_new (s.gone hp)) (dpa_append ax ay)))
theorem cut_from1 {d : D} {ds : List D} : cutDs (d :: ds) (some 1) none = ds := by
  unfold cutDs
  rw [HT.sIx_none, show (1 : Int) = ((1 : Nat) : Int) from rfl, HT.sIx_nat, List.length_cons]
  have e : min 1 (ds.length + 1) = 1 := by omega
  rw [e, List.drop_succ_cons, List.drop_zero, List.take_of_length_le (by omega)]
theorem evd_slT1 {te tl : TE} {δ : DS} {d : D} {ds : List D} (h : EvD K te δ (.tuple (d :: ds))) (h1 : EvD K tl δ (.int 1)) : EvD K (tSl (rSlA K) te (tPart tl) tNoPart) δ (.tuple ds) := fun σ F H dσ s Q q =>
  h σ F H dσ s _ fun x F2 H2 g2 dx => (evo_some h1) σ F2 H2 (dσ.sub (g2.ext s)) g2.sub _ fun F3 H3 g3 => evo_none σ F3 H3 (dσ.sub ((g2.trans g3).ext s)) g3.sub _ fun F4 H4 g4 => by
    cases dx with
    | tup hs ha =>
      have hc := dpa_cut ha (some 1) none
      rw [cut_from1] at hc
      rename_i a xs
      have hx : xs.length = ds.length + 1 := dpa_length ha
      have ss := ((g3.trans g4).ext g2.sub)
      refine ⟨a, xs, rfl, sqt_sub (ss.trans g4.sub) hs, fun hw => ?_, fun _ p hp => q (.ref p) (upd F4 p _) _ (((g2.trans g3).trans g4).trans (.new g4.sub hp)) (.tup (.inl (.inl upd_same)) (dpa_sub (ss.trans (Sub.upd_new (g4.sub.gone hp))) hc))⟩
      exfalso
      have h0 := hw.1
      rw [show (1 : Int) = ((1 : Nat) : Int) from rfl, HT.sIx_nat] at h0
      omega
theorem inV_false : ∀ bs : List Bool, inV (.bl false) (bs.map V.bl) = bs.contains false
  | [] => rfl
  | b :: r => by
    have ih := inV_false r
    have e : inV (.bl false) ((b :: r).map V.bl) = (eqV (.bl b) (.bl false) || inV (.bl false) (r.map V.bl)) := rfl
    rw [e, ih, List.contains_cons]
    cases b <;> rfl
theorem evd_inF {te : TE} {δ : DS} {bs : List Bool} (h : EvD K te δ (.list (bs.map PyData.bool))) : EvD K (tOp (rIn K false) (tC (.bl false)) te) δ (.bool (bs.contains false)) :=
  evd_op evd_bl h fun F H x y s dx dy Q q => by
    cases dx
    cases dy with
    | lst hs ha =>
      have e := dpa_bls ha
      subst e
      refine ⟨_, _, rfl, .inl (sql_sub s hs), rfl, ?_, ?_⟩
      · rw [List.all_eq_true]
        intro x hx
        obtain ⟨b, _, rfl⟩ := List.mem_map.mp hx
        rfl
      · show Q (.bl (inV (.bl false) (bs.map V.bl))) H
        rw [inV_false]
        exact q _ F H (.refl s) (.bl _)
theorem evd_million {δ : DS} : EvD K (tOp (rI CPow fun i j => .int (i ^ j.toNat)) (tC (.int 10)) (tC (.int 6))) δ (.int 1000000) :=
  evd_I evd_int evd_int ⟨by decide, by decide, by decide⟩ fun F => by
    show Dp K F (.int 1000000) (.int 1000000)
    exact .int _
theorem evc_callXI {δ : List SD} {Q : D → Prop} {ι : Type} {args : ι → List D} {pre : ι → Prop} {f : ι → RX} {E : XK} {tr : TA} (h : EvCA K tr δ fun ds => ∃ i, ds = args i ∧ pre i ∧ ∃ d, f i = .ok d ∧ Q d) : EvC K (tCall (spXI K args pre f) [] E tr) δ Q := fun x σ F H dσ s b R k =>
  h x σ F H dσ s b _ fun vs ds F2 H2 g2 b2 dvs ⟨i, e, hp, d, hd, q⟩ => ⟨F2, i, g2.sub, by rw [List.append_nil, ← e]; exact dvs, hp, fun d' e' v F3 H3 g3 dv => by
    rw [hd] at e'
    cases e'
    exact k v _ F3 H3 (g2.trans g3.up) (b2.pure g3) dv q, fun x e' => by rw [hd] at e'; cases e'⟩
theorem ecb_seqN {δ : List SD} {t1 t2 : TS} {W : Wn2} (N : List SD → Prop) (h1 : EvCB K t1 δ { W with nx := N }) (h2 : ∀ δ', N δ' → EvCB K t2 δ' W) : EvCB K (tSeq t1 t2) δ W := fun x F0 H0 σ F H E st m =>
  h1 x F0 H0 σ F H { E with nx := t2 E } st ⟨m.rt, fun σ' δ' F2 H2 st2 hN => h2 δ' hN x F0 H0 σ' F2 H2 E st2 m, m.ct, m.bk⟩
theorem evc_min2 {tr : TA} {δ : List SD} {Q : D → Prop} (h : EvCA K tr δ fun ds => ∃ i j : Int, ds = [.int i, .int j] ∧ Q (.int (if j < i then j else i))) : EvC K (tCB (fun xs H Q => ∃ i j, xs = [.int i, .int j] ∧ Q (.int (if j < i then j else i)) H) tr) δ Q := fun x σ F H dσ s b R k =>
  h x σ F H dσ s b _ fun vs ds F2 H2 g2 b2 dvs ⟨i, j, e, q⟩ => by
    subst e
    cases dvs with
    | cons dx dn => cases dx; cases dn with
      | cons dy dn => cases dy; cases dn; exact ⟨i, j, rfl, k _ _ F2 H2 g2 b2 (.int _) q⟩
theorem evc_max2 {tr : TA} {δ : List SD} {Q : D → Prop} (h : EvCA K tr δ fun ds => ∃ i j : Int, ds = [.int i, .int j] ∧ Q (.int (if j > i then j else i))) : EvC K (tCB (fun xs H Q => ∃ i j, xs = [.int i, .int j] ∧ Q (.int (if j > i then j else i)) H) tr) δ Q := fun x σ F H dσ s b R k =>
  h x σ F H dσ s b _ fun vs ds F2 H2 g2 b2 dvs ⟨i, j, e, q⟩ => by
    subst e
    cases dvs with
    | cons dx dn => cases dx; cases dn with
      | cons dy dn => cases dy; cases dn; exact ⟨i, j, rfl, k _ _ F2 H2 g2 b2 (.int _) q⟩
def hushD (hs : List (Int × Int)) (d : D) : D := .bool (hushAt hs d)
theorem day_eq (hs : List (Int × Int)) (b : Int) : (rngD b (b + 24 - b).toNat).map (hushD hs) = (dayB hs b).map PyData.bool := by
  rw [show (b + 24 - b).toNat = 24 by omega]
  unfold rngD dayB
  rw [List.map_map, List.map_map]
  rfl
theorem isPerson_of {R : List PR} {p : Int} (h0 : 0 ≤ p) (h1 : p < R.length) : isPerson R (.int p) = true := decide_eq_true ⟨h0, h1⟩
theorem isMoment_of {m : Int} (h0 : 0 ≤ m) (h1 : m ≤ 1000000) : isMoment (.int m) = true := whole_of h0 h1
theorem hsOf_at {R : List PR} {p : Int} {r : PR} (h : R[p.toNat]? = some r) : hsOf R (.int p) = r.hs := by
  show (R[p.toNat]?.map PR.hs).getD [] = _
  rw [h]
  rfl
/-- rules, a person of them -/
structure At (R : List PR) (p : Int) (r : PR) : Prop where
  ok : RulesOk R
  p0 : 0 ≤ p
  p1 : p < R.length
  at_ : R[p.toNat]? = some r
theorem At.of {R : List PR} {p : Int} (ok : RulesOk R) (p0 : 0 ≤ p) (p1 : p < R.length) : ∃ r, At R p r := by
  have hl : p.toNat < R.length := by omega
  exact ⟨R[p.toNat], ok, p0, p1, List.getElem?_eq_getElem hl⟩
theorem At.rok {R : List PR} {p : Int} {r : PR} (h : At R p r) : r.Ok R.length := h.ok.all _ (List.mem_of_getElem? h.at_)
theorem At.ix {R : List PR} {p : Int} {r : PR} (h : At R p r) : atI (R.map PR.data) p = some r.data := by
  have h0 := h.p0
  have e : p = ((p.toNat : Nat) : Int) := by omega
  have z : atI (R.map PR.data) ((p.toNat : Nat) : Int) = some r.data := atI_nat (by rw [List.getElem?_map, h.at_]; rfl)
  rw [← e] at z
  exact z
/-- the special rules: the first person's hours are the whole day -/
theorem special {r : PR} {R : List PR} (ok : RulesOk (r :: R)) {b : Int} (b0 : 0 ≤ b) (b1 : b < 24) : RulesOk ({ r with hs := [(b, (b + 9) % 24), ((b + 9) % 24, b)] } :: R) := by
  have h := ok.all r List.mem_cons_self
  refine ⟨ok.one, ok.six, fun q hq => ?_⟩
  rcases List.mem_cons.mp hq with rfl | z
  · refine ⟨by simp, fun p hp => ?_, h.le, h.gl, h.gs, h.wt, h.fu⟩
    rcases List.mem_cons.mp hp with rfl | hp
    · exact ⟨⟨b0, by show b ≤ 23; omega⟩, ⟨by show 0 ≤ (b + 9) % 24; omega, by show (b + 9) % 24 ≤ 23; omega⟩, by show b ≠ (b + 9) % 24; omega⟩
    · rw [List.mem_singleton.mp hp]
      exact ⟨⟨by show 0 ≤ (b + 9) % 24; omega, by show (b + 9) % 24 ≤ 23; omega⟩, ⟨b0, by show b ≤ 23; omega⟩, by show (b + 9) % 24 ≠ b; omega⟩
  · exact ok.all q (List.mem_cons_of_mem _ z)
def LawJ (t : Addr) (nm : Nat → Nat → Str) (δ : List SD) : Prop := ∃ (s0 : D) (a2 a3 a4 a5 a6 a7 a8 a9 a10 a11 a12 a13 : SD), δ = [.val s0, .box t nm, a2, a3, a4, a5, a6, a7, a8, a9, a10, a11, a12, a13]
abbrev spRef (K : PySem.W.Frag) (t : Addr) (nm : Nat → Nat → Str) : Sp := spBt K t nm (ι := List PR × Int) (fun i => [RD i.1, .int i.2]) (fun i => RulesOk i.1 ∧ 0 ≤ i.2 ∧ i.2 ≤ 1000000) (fun _ d => d = .bool true)
/-- what the law wants: a list of at most 63 numbers, a table; it answers True -/
def spLaw (K : PySem.W.Frag) (t : Addr) (nm : Nat → Nat → Str) : Sp := fun vs H Q _ => ∃ (v : V) (F : Hp) (ns : List Int), vs = [v] ∧ Sub F H ∧ Dp K F v (.list (ns.map PyData.int)) ∧ ns.length ≤ 63 ∧ F t = none ∧ NdefX.TabN H t nm ∧ ∀ H', Q (.bl true) H'
theorem ok_law {t : Addr} {nm : Nat → Nat → Str} (T : Tx K mg) (G_law_is_refused : FnOk P w K mg base CX0 11 (He.ga K "_law_is_refused") T.fd__law_is_refused ["_law_box", "_law_rules_here", "_law_moment"] (spRef K t nm)) : FnOk P w K mg base (L2.CX P w) 12 (He.ga K "law") T.fd_law ["_law_script"] (spLaw K t nm) := by
  have G_law_alike := ok_law_alike (P := P) (w := w) (base := base) T
  have b_law_alike := b_law_alike T
  have G_law_begun := ok_law_begun (P := P) (w := w) (base := base) T
  have b_law_begun := b_law_begun T
  have G_law_hush := ok_law_hush (P := P) (w := w) (base := base) T
  have b_law_hush := b_law_hush T
  have b_law_is_refused := b_law_is_refused T
  have G_law_rules := ok_law_rules (P := P) (w := w) (base := base) T
  have b_law_rules := b_law_rules T
  have G_law_take := ok_law_take (P := P) (w := w) (base := base) T
  have b_law_take := b_law_take T
  have G_free_from := ok_free_from (P := P) (w := w) (base := base) T
  have b_free_from := b_free_from T
  have G_hushed_between := ok_hushed_between (P := P) (w := w) (base := base) T
  have b_hushed_between := b_hushed_between T
  have G_is_hushed := ok_is_hushed (P := P) (w := w) (base := base) T
  have b_is_hushed := b_is_hushed T
  refine FunD.ok T.F_law sc_law (fun vs H Q E h => ?_) (fun cdv A outer s H vs Q E hr h => ?_)
  · obtain ⟨v, F, ns, rfl, _⟩ := h
    rfl
  obtain ⟨v, F, ns, rfl, hs, hd, hl, ft, ht, q⟩ := h
  refine ⟨_, (pss_cons (ps_set (i := 1) sc_law.nd rfl (.inl rfl) (pe_call G_law_begun ((hr.mono (by decide))) (by rfl) T.g__law_begun T.k__law_begun b_law_begun .nil pass0 (pa_cons (pv 0) pa_nil)))
      (pss_cons (ps_for (passes_of rfl) rfl (pi_range1 (by rfl) T.z_range (pa_cons pe_int pa_nil)) (pg_name (i := 2) sc_law.nd rfl (.inl rfl))
      (pss_cons (ps_set (i := 3) sc_law.nd rfl (.inr rfl) (pe_call G_law_rules ((hr.mono (by decide))) (by rfl) T.g__law_rules T.k__law_rules b_law_rules .nil pass0 (pa_cons (pv 1) pa_nil)))
      (pss_cons (ps_set (i := 4) sc_law.nd rfl (.inr rfl) (pe_call G_law_take ((hr.mono (by decide))) (by rfl) T.g__law_take T.k__law_take b_law_take .nil pass0 (pa_cons (pv 1) (pa_cons (pe_callB (r := rLenD K) call_len_seq (by rfl) T.z_len (by decide +kernel) (pa_cons (pv 3) pa_nil)) pa_nil))))
      (pss_cons (ps_if (pt_cmpR op_eq (pe_call G_law_take ((hr.mono (by decide))) (by rfl) T.g__law_take T.k__law_take b_law_take .nil pass0 (pa_cons (pv 1) (pa_cons pe_int pa_nil))) pe_int (nomark _)) (pss_cons (ps_set (i := 5) sc_law.nd rfl (.inl rfl) (pe_call G_law_take ((hr.mono (by decide))) (by rfl) T.g__law_take T.k__law_take b_law_take .nil pass0 (pa_cons (pv 1) (pa_cons pe_int pa_nil))))
      (pss_cons (ps_set (i := 3) sc_law.nd rfl (.inr rfl) (pe_op (r := rCatA K) op_catA (pe_tup (pa_cons (pe_op (r := rCatA K) op_catA (pe_tup (pa_cons (pe_tup (pa_cons (pe_tup (pa_cons (pv 5) (pa_cons (pe_op op_mod (pe_op op_add (pv 5) pe_int) pe_int) pa_nil))) (pa_cons (pe_tup (pa_cons (pe_op op_mod (pe_op op_add (pv 5) pe_int) pe_int) (pa_cons (pv 5) pa_nil))) pa_nil))) pa_nil)) (pe_slice (r := rSlA K) sl_tupA (pe_ix (r := rIxT K) ix_tup (pv 3) pe_int (fun _ _ => rfl)) (po_some pe_int) po_none)) pa_nil)) (pe_slice (r := rSlA K) sl_tupA (pv 3) (po_some pe_int) po_none)))
      (pss_one (ps_set (i := 4) sc_law.nd rfl (.inr rfl) pe_int)))) pss_nil)
      (pss_cons (ps_set (i := 5) sc_law.nd rfl (.inl rfl) (pe_ix (r := rIxL K) ix_list (pe_lst (pa_cons (pe_call G_law_take ((hr.mono (by decide))) (by rfl) T.g__law_take T.k__law_take b_law_take .nil pass0 (pa_cons (pv 1) (pa_cons pe_int pa_nil))) (pa_cons (pe_call G_law_take ((hr.mono (by decide))) (by rfl) T.g__law_take T.k__law_take b_law_take .nil pass0 (pa_cons (pv 1) (pa_cons (pe_op op_add (pe_op op_pow pe_int pe_int) pe_int) pa_nil))) pa_nil))) (pe_call G_law_take ((hr.mono (by decide))) (by rfl) T.g__law_take T.k__law_take b_law_take .nil pass0 (pa_cons (pv 1) (pa_cons pe_int pa_nil))) (fun _ _ => rfl)))
      (pss_cons (ps_set (i := 6) sc_law.nd rfl (.inl rfl) (pe_callB (call_min2 rfl) (by rfl) T.z_min (by decide +kernel) (pa_cons (pe_op op_pow pe_int pe_int) (pa_cons (pe_callB (call_max2 rfl) (by rfl) T.z_max (by decide +kernel) (pa_cons pe_int (pa_cons (pe_op op_sub (pe_op op_add (pv 5) (pe_call G_law_take ((hr.mono (by decide))) (by rfl) T.g__law_take T.k__law_take b_law_take .nil pass0 (pa_cons (pv 1) (pa_cons (pe_ix (r := rIxL K) ix_list (pe_lst (pa_cons pe_int (pa_cons pe_int pa_nil))) (pe_call G_law_take ((hr.mono (by decide))) (by rfl) T.g__law_take T.k__law_take b_law_take .nil pass0 (pa_cons (pv 1) (pa_cons pe_int pa_nil))) (fun _ _ => rfl)) pa_nil)))) pe_int) pa_nil))) pa_nil))))
      (pss_cons (ps_setLc (i := 7) (own := [("_law_hour", 8)]) (by rfl) sc_law.nd rfl rfl (sw_true rfl rfl rfl (by decide +kernel)) (pi_range2 (by rfl) T.z_range (pa_cons (pv 5) (pa_cons (pe_op op_add (pv 5) pe_int) pa_nil))) (blkOk_by (own := [("_law_hour", 8)]) (N := ["_law_script", "_law_box", "_law_turn", "_law_rules_here", "_law_person", "_law_begin", "_law_end", "_law_day", "_law_hour", "_law_free", "_law_many", "_law_moment", "_law_again", "_law_found"]) (sc := (defScope s_law)) (by decide +kernel)) (fun _ _ _ _ _ => (pg_name (i := 8) sc_law.nd rfl (.inl rfl))) (fun _ _ _ _ _ => pts_nil) (fun _ _ _ _ _ => (pe_call G_law_hush ((hr.mono (by decide))) (by rfl) T.g__law_hush T.k__law_hush b_law_hush .nil pass0 (pa_cons (pe_ix (r := rIxT K) ix_tup (pv 3) (pv 4) (fun _ _ => rfl)) (pa_cons (pv 8) pa_nil)))))
      (pss_cons (ps_set (i := 9) sc_law.nd rfl (.inl rfl) (pe_ifExp (pt_cmpR (r := rIn K false) op_in_seq pe_bl (pv 7) (by with_unfolding_all rfl)) (pe_op op_add (pv 5) (pe_bmK K PySem.F.plainAttrs_list PySem.F.slot_list_index PySem.F.type_list_index mt_index (pv 7) (pa_cons pe_bl pa_nil))) pe_non))
      (pss_cons (ps_set (i := 10) sc_law.nd rfl (.inl rfl) (pe_callB (r := rLenD K) call_len_seq (by rfl) T.z_len (by decide +kernel) (pa_cons (pe_lc (own := [("_law_moment", 11)]) (by rfl) sc_law.nd (pi_range2 (by rfl) T.z_range (pa_cons (pv 5) (pa_cons (pv 6) pa_nil))) (blkOk_by (own := [("_law_moment", 11)]) (N := ["_law_script", "_law_box", "_law_turn", "_law_rules_here", "_law_person", "_law_begin", "_law_end", "_law_day", "_law_hour", "_law_free", "_law_many", "_law_moment", "_law_again", "_law_found"]) (sc := (defScope s_law)) (by decide +kernel)) (fun _ _ _ _ _ => (pg_name (i := 11) sc_law.nd rfl (.inl rfl))) (fun _ _ _ _ _ => (pts_one (pt_val (pe_call G_law_hush ((hr.mono (by decide))) (by rfl) T.g__law_hush T.k__law_hush b_law_hush .nil pass0 (pa_cons (pe_ix (r := rIxT K) ix_tup (pv 3) (pv 4) (fun _ _ => rfl)) (pa_cons (pv 11) pa_nil)))))) (fun _ _ _ _ _ => (pv 11))) pa_nil)))
      (pss_cons (ps_for (passes_of rfl) rfl (pi_range1 (by rfl) T.z_range (pa_cons pe_int pa_nil)) (pg_name (i := 12) sc_law.nd rfl (.inl rfl))
      (pss_cons (ps_set (i := 13) sc_law.nd rfl (.inl rfl) (pe_lst (pa_cons (pe_call G_is_hushed ((hr.mono (by decide))) (by rfl) T.g_is_hushed T.k_is_hushed b_is_hushed .nil passE (pa_cons (pv 3) (pa_cons (pv 4) (pa_cons (pv 5) pa_nil)))) (pa_cons (pe_call G_free_from ((hr.mono (by decide))) (by rfl) T.g_free_from T.k_free_from b_free_from .nil passE (pa_cons (pv 3) (pa_cons (pv 4) (pa_cons (pv 5) pa_nil)))) pa_nil))))
      (pss_one (ps_if (PW.pt (pw_or (pt_not (pt_val (pe_call G_law_alike ((hr.mono (by decide))) (by rfl) T.g__law_alike T.k__law_alike b_law_alike .nil pass0 (pa_cons (pv 13) (pa_cons (pe_lst (pa_cons (pe_ix (r := rIxL K) ix_list (pv 7) pe_int (fun _ _ => rfl)) (pa_cons (pv 9) pa_nil))) pa_nil))))) (pw_or1 (pt_not (pt_val (pe_call G_law_alike ((hr.mono (by decide))) (by rfl) T.g__law_alike T.k__law_alike b_law_alike .nil pass0 (pa_cons (pe_call G_hushed_between ((hr.mono (by decide))) (by rfl) T.g_hushed_between T.k_hushed_between b_hushed_between .nil passE (pa_cons (pv 3) (pa_cons (pv 4) (pa_cons (pv 5) (pa_cons (pv 6) pa_nil))))) (pa_cons (pv 10) pa_nil)))))))) (pss_one (ps_ret pe_bl)) pss_nil))))
      (pss_one (ps_if (pt_not (pt_val (pe_call G_law_is_refused (hr) (by rfl) T.g__law_is_refused T.k__law_is_refused b_law_is_refused .nil pass0 (pa_cons (pv 1) (pa_cons (pv 3) (pa_cons (pv 5) pa_nil)))))) (pss_one (ps_ret pe_bl)) pss_nil))))))))))))
      (pss_one (ps_ret pe_bl)))), ?_⟩
  try (set_option simprocs false in dsimp only [cxOf, Cx.nox, Cx.wish])
  refine ⟨_, rfl, v, F, ns, t, nm, rfl, hs, hd, hl, ft, ht, fun x F2 H2 xt xn g2 bx => ?_⟩
  have hd2 := dp_sub (g2.ext hs) hd
  have st : St2 K x F2 H2 F2 H2 ((L2.start ["_law_script", "_law_box", "_law_turn", "_law_rules_here", "_law_person", "_law_begin", "_law_end", "_law_day", "_law_hour", "_law_free", "_law_many", "_law_moment", "_law_again", "_law_found"] [v]).set 1 (some (.ref x.b))) [.val (.list (ns.map PyData.int)), .box t nm, .no, .no, .no, .no, .no, .no, .no, .no, .no, .no, .no, .no] := by
    have no : ∀ (j : Nat) (es : List D), ([SD.val (.list (ns.map PyData.int)), .box t nm, .no, .no, .no, .no, .no, .no, .no, .no, .no, .no, .no, .no] : List SD)[j]? ≠ some (.own es) := fun j es e => by
      have z := List.mem_of_getElem? e
      simp at z
    refine ⟨.refl g2.sub, ⟨rfl, fun j d e => ?_, fun j ds e => absurd e (no j ds), fun j t' nm' e => ?_, fun j k es fs p _ e => absurd e (no j es)⟩, bx, fun j ds p e => absurd e (no j ds)⟩
    · match j with
      | 0 =>
        cases e
        exact ⟨v, rfl, hd2⟩
      | 1 => cases e
      | n + 2 =>
        have z := List.mem_of_getElem? (show ([SD.no, .no, .no, .no, .no, .no, .no, .no, .no, .no, .no, .no] : List SD)[n]? = some (.val d) from e)
        simp at z
    · match j with
      | 0 => cases e
      | 1 =>
        cases e
        exact ⟨rfl, xt, xn⟩
      | n + 2 =>
        have z := List.mem_of_getElem? (show ([SD.no, .no, .no, .no, .no, .no, .no, .no, .no, .no, .no, .no] : List SD)[n]? = some (.box t' nm') from e)
        simp at z
  set_option simprocs false in dsimp only [gName]
  refine (?_ : EvCB K (tSeq (tFor _ _ _) (tRet _)) _ { rt := fun d => d = .bool true }) x F2 H2 _ F2 H2 _ st ⟨fun v d F3 H3 g3 b3 dv e => ?_, fun _ _ _ _ _ z => z.elim, fun _ _ _ _ _ z => z.elim, fun _ _ _ _ _ z => z.elim⟩
  rotate_left
  · subst e
    cases dv
    exact q H3
  apply ecb_seq
  refine ecb_forR1 (fun _ => LawJ t nm) ⟨_, _, _, _, _, _, _, _, _, _, _, _, _, rfl⟩ (evca_cons (evc_int (evca_nil ⟨4, rfl, by decide, fun k hk δk hJ => ?_, fun δn hJ => ecb_ret (evc_d evd_bl rfl)⟩)))
  obtain ⟨s0, a2, a3, a4, a5, a6, a7, a8, a9, a10, a11, a12, a13, rfl⟩ := hJ
  set_option simprocs false in dsimp only [List.set]
  apply ecb_seq
  refine ecb_asg (evc_callB (ι := Unit) rfl (evca_nil ⟨(), rfl, trivial, fun d hd => ?_⟩))
  obtain ⟨R, rfl, hR⟩ := hd
  set_option simprocs false in dsimp only [List.set]
  have hR1 := hR.one
  have hR6 := hR.six
  apply ecb_seq
  refine ecb_asg (evc_take rfl (evc_d (evd_len (n := (R.map PR.data).length) (evd_var rfl) rfl) ⟨_, rfl, by rw [List.length_map]; omega, by rw [List.length_map]; omega, fun p p0 p1 => ?_⟩))
  rw [List.length_map] at p1
  set_option simprocs false in dsimp only [List.set]
  refine ecb_seqN (fun δ => ∃ (R : List PR) (p : Int) (r : PR) (a5 : SD), At R p r ∧ δ = [.val s0, .box t nm, .val (.int (0 + (k : Nat))), .val (RD R), .val (.int p), a5, a6, a7, a8, a9, a10, a11, a12, a13]) ?_ ?_
  · refine ecb_if (evct_test (evc_eqI (evc_takeN rfl (by decide) (by decide) fun z z0 z1 => ⟨_, rfl, evc_int ⟨_, rfl, ⟨_, rfl, ?_⟩⟩⟩)))
    refine ite2 (fun _ => ?_) (fun _ => ecb_next ?_)
    · apply ecb_seq
      refine ecb_asg (evc_takeN rfl (by decide) (by decide) fun b b0 b1 => ?_)
      set_option simprocs false in dsimp only [List.set]
      cases R with
      | nil => exact absurd hR1 (by decide)
      | cons r R =>
        have hR' := special hR b0 b1
        apply ecb_seq
        refine ecb_asg (evc_d (d := RD ({ r with hs := [(b, (b + 9) % 24), ((b + 9) % 24, b)] } :: R)) ?_ ?_)
        · have dR : EvD K (tVar 3) (pureD [SD.val s0, .box t nm, .val (.int (0 + (k : Nat))), .val (RD (r :: R)), .val (.int p), .val (.int b), a6, a7, a8, a9, a10, a11, a12, a13]) (.tuple (r.data :: R.map PR.data)) := evd_var rfl
          have dr : EvD K (tOp (rIxT K) (tVar 3) (tC (.int 0))) (pureD [SD.val s0, .box t nm, .val (.int (0 + (k : Nat))), .val (RD (r :: R)), .val (.int p), .val (.int b), a6, a7, a8, a9, a10, a11, a12, a13]) (.tuple [.tuple (r.hs.map pairD), .int r.least, .tuple (r.gs.map pairD), optD r.wait, optD r.fur]) := evd_ixT dR evd_int (atI_nat (j := 0) rfl)
          have st1 : EvD K (tTup (tCons (tVar 5) (tCons (tOp (rI (fun _ j => 0 < j) fun i j => .int (i % j)) (tOp (rI0 fun i j => .int (i + j)) (tVar 5) (tC (.int 9))) (tC (.int 24))) tNil))) (pureD [SD.val s0, .box t nm, .val (.int (0 + (k : Nat))), .val (RD (r :: R)), .val (.int p), .val (.int b), a6, a7, a8, a9, a10, a11, a12, a13]) (.tuple [.int b, .int ((b + 9) % 24)]) := evd_tup (eva_cons (evd_var rfl) (eva_cons (evd_mod (evd_add (evd_var rfl) evd_int) evd_int (by decide)) eva_nil)) (by simp)
          refine EvD.to (evd_catT (evd_tup (eva_cons (evd_catT (evd_tup (eva_cons (evd_tup (eva_cons st1 (eva_cons (evd_tup (eva_cons (evd_mod (evd_add (evd_var rfl) evd_int) evd_int (by decide)) (eva_cons (evd_var rfl) eva_nil)) (by simp)) eva_nil)) (by simp)) eva_nil) (by simp)) (evd_slT1 dr evd_int) (by simp)) eva_nil) (by simp)) (evd_slT1 dR evd_int) (by rw [List.length_map]; simp at hR6 ⊢; omega)) ?_
          rfl
        · set_option simprocs false in dsimp only [List.set]
          refine ecb_asg (evc_int ?_)
          obtain ⟨q, hq⟩ := At.of hR' (p := 0) (by decide) (by rw [List.length_cons]; omega)
          exact ⟨_, 0, q, _, hq, rfl⟩
    · obtain ⟨r, hr⟩ := At.of hR p0 p1
      exact ⟨R, p, r, _, hr, rfl⟩
  clear p1 p0 hR1 hR6 hR
  clear p R
  rintro δ ⟨R, p, r, a5, hA, rfl⟩
  have hsO := hsOf_at hA.at_
  have hper := isPerson_of hA.p0 hA.p1
  apply ecb_seq
  apply ecb_asg
  apply evc_pick
  refine evca_cons (evc_takeN rfl (by decide) (by decide) fun b1 b10 b11 => evca_cons (evc_take rfl (evc_d (evd_add evd_million evd_int) ⟨_, rfl, by decide, by decide, fun b2 b20 b21 => evca_nil ⟨by simp, evc_takeN rfl (by decide) (by decide) fun z z0 z1 => ⟨z, rfl, z0, by simpa using z1, fun d hd => ?_⟩⟩⟩)))
  obtain ⟨b, rfl, hb0, hb1⟩ : ∃ b : Int, d = .int b ∧ 0 ≤ b ∧ b ≤ 1000000 := by
    simp only [List.mem_cons, List.not_mem_nil, or_false] at hd
    rcases hd with rfl | rfl
    · exact ⟨_, rfl, b10, by omega⟩
    · exact ⟨_, rfl, b20, by omega⟩
  clear hd z0 z1 z b1 b10 b11 b2 b20 b21
  set_option simprocs false in dsimp only [List.set]
  apply ecb_seq
  refine ecb_asg (evc_min2 (evca_cons (evc_d evd_million (evca_cons (evc_max2 (evca_cons (evc_int (evca_cons (evc_sub (evc_add (evc_var rfl ⟨_, rfl, evc_take2 rfl (by decide) (by decide) fun n n0 n1 => ⟨_, rfl, ⟨_, rfl, evc_int ⟨_, rfl, evca_nil ⟨_, _, rfl, evca_nil ⟨_, _, rfl, ?_⟩⟩⟩⟩⟩⟩)))))))))))
  obtain ⟨e, he, he0, he1, he2⟩ : ∃ e : Int, (if (if (b + n - 9 : Int) > 0 then b + n - 9 else 0) < 1000000 then (if (b + n - 9 : Int) > 0 then b + n - 9 else 0) else 1000000) = e ∧ 0 ≤ e ∧ e ≤ 1000000 ∧ e ≤ b + 200 := by
    refine ⟨_, rfl, ?_, ?_, ?_⟩ <;> (repeat' split) <;> omega
  rw [he]
  clear he n0 n1 n
  set_option simprocs false in dsimp only [List.set]
  have hushE : ∀ (δ : List SD) (j : Nat) (h : Int), δ[3]? = some (.val (RD R)) → δ[4]? = some (.val (.int p)) → δ[j]? = some (.val (.int h)) → EvD K (tCall (spFI K (ι := PR × Int) (fun i => [i.1.data, .int i.2]) (fun i => ∃ n, i.1.Ok n) (fun i => .bool (inSome i.1.hs (i.2 % 24)))) [] E0 (tCons (tOp (rIxT K) (tVar 3) (tVar 4)) (tCons (tVar j) tNil))) (pureD δ) (.bool (inSome r.hs (h % 24))) := fun δ j h h3 h4 hj => by
    have g : ∀ (i : Nat) (d : D), δ[i]? = some (.val d) → (pureD δ)[i]? = some (some d) := fun i d e => by
      unfold pureD
      rw [List.getElem?_map, e]
      rfl
    exact evd_callI (r, h) (eva_cons (evd_ixT (evd_var (g _ _ h3)) (evd_var (g _ _ h4)) hA.ix) (eva_cons (evd_var (g _ _ hj)) eva_nil)) ⟨_, hA.rok⟩ rfl
  apply ecb_seq
  refine ecb_asg (evc_d (d := .list ((dayB r.hs b).map PyData.bool)) (EvD.to (evd_lcR20 (lo := b) (hi := b + 24) (f := hushD r.hs) (eva_cons (evd_var rfl) (eva_cons (evd_add (evd_var rfl) evd_int) eva_nil)) ⟨by omega, by omega, by omega, by omega⟩ (by omega) fun h _ _ => ?_) (by rw [day_eq])) ?_)
  · exact hushE [.val s0, .box t nm, .val (.int (0 + (k : Nat))), .val (RD R), .val (.int p), .val (.int b), .val (.int e), a7, .val (.int h), a9, a10, a11, a12, a13] 8 h rfl rfl rfl
  set_option simprocs false in dsimp only [List.set]
  apply ecb_seq
  refine ecb_asg (evc_d (d := freeD r.hs b) (evd_if (evt_test (evd_inF (bs := dayB r.hs b) (evd_var rfl))) (fun hc => ?_) (fun hc => ?_)) ?_)
  · obtain ⟨j, h1, h2, h3⟩ := free_some hc
    rw [h3]
    exact evd_add (evd_var rfl) (evd_indexF (bs := dayB r.hs b) (evd_var rfl) h1 h2)
  · rw [free_none hc]
    exact evd_non
  set_option simprocs false in dsimp only [List.set]
  apply ecb_seq
  refine ecb_asg (evc_d (d := .int ((((rngD b (e - b).toNat).filter (hushAt r.hs)).map id).length : Nat)) (evd_len (evd_lcR2 (vs := [11]) (lo := b) (hi := e) (p := hushAt r.hs) (f := id) (eva_cons (evd_var rfl) (eva_cons (evd_var rfl) eva_nil)) ⟨by omega, by omega, by omega, by omega⟩ (by omega) fun h _ _ => ⟨_, tgt_name (by simp), ?_, fun _ => evd_var rfl⟩) rfl) ?_)
  · exact evt_B (hushE [.val s0, .box t nm, .val (.int (0 + (k : Nat))), .val (RD R), .val (.int p), .val (.int b), .val (.int e), .val (.list ((dayB r.hs b).map PyData.bool)), a8, .val (freeD r.hs b), a10, .val (.int h), a12, a13] 11 h rfl rfl rfl)
  have hmany : PyData.int ((((rngD b (e - b).toNat).filter (hushAt r.hs)).map id).length : Nat) = betweenD R (.int p) (.int b) (.int e) := by
    rw [List.length_map, rng_count r.hs b hb0]
    show _ = PyData.int (if e ≤ b then 0 else aheadB (hoursB (hsOf R (.int p))) e - aheadB (hoursB (hsOf R (.int p))) b)
    rw [hsO]
    by_cases hbe : e ≤ b
    · rw [if_pos hbe, show (e - b).toNat = 0 by omega, show (b + ((0 : Nat) : Int)) = b by omega]
      congr 1
      omega
    · rw [if_neg hbe, show (b + (((e - b).toNat : Nat) : Int)) = e by omega]
  rw [hmany]
  set_option simprocs false in dsimp only [List.set]
  have hfree : flatD (freeD r.hs b) = true := by
    unfold freeD
    split <;> rfl
  have hday0 : atI ((dayB r.hs b).map PyData.bool) 0 = some (.bool (inSome r.hs (b % 24))) := by
    have z : atI ((dayB r.hs b).map PyData.bool) ((0 : Nat) : Int) = some (.bool (inSome r.hs (b % 24))) := atI_nat (by
      unfold dayB
      rw [List.getElem?_map, List.getElem?_map, List.getElem?_range (by decide)]
      show some (PyData.bool (inSome r.hs ((b + ((0 : Nat) : Int)) % 24))) = _
      rw [show (b + ((0 : Nat) : Int)) = b by omega])
    exact z
  refine ecb_seqN (fun δ => ∃ a12 a13 : SD, δ = [.val s0, .box t nm, .val (.int (0 + (k : Nat))), .val (RD R), .val (.int p), .val (.int b), .val (.int e), .val (.list ((dayB r.hs b).map PyData.bool)), a8, .val (freeD r.hs b), .val (betweenD R (.int p) (.int b) (.int e)), a11, a12, a13]) ?_ ?_
  · refine ecb_forR1 (fun _ δ => ∃ a12 a13 : SD, δ = [.val s0, .box t nm, .val (.int (0 + (k : Nat))), .val (RD R), .val (.int p), .val (.int b), .val (.int e), .val (.list ((dayB r.hs b).map PyData.bool)), a8, .val (freeD r.hs b), .val (betweenD R (.int p) (.int b) (.int e)), a11, a12, a13]) ⟨_, _, rfl⟩ (evca_cons (evc_int (evca_nil ⟨2, rfl, by decide, fun k2 hk2 δk hJ => ?_, fun δn hJ => hJ⟩)))
    obtain ⟨b12, b13, rfl⟩ := hJ
    set_option simprocs false in dsimp only [List.set]
    apply ecb_seq
    refine ecb_asg (evc_lst (evca_cons (evc_callXI (evca_cons (evc_var rfl (evca_cons (evc_var rfl (evca_cons (evc_var rfl (evca_nil ⟨(R, .int p, .int b), rfl, hA.ok, .bool (inSome r.hs (b % 24)), ?g1, ?_⟩))))))))))
    case g1 =>
      show guardR K R (.int p) [.int b] (.bool (inSome (hsOf R (.int p)) (b % 24))) = _
      rw [guard_on hper (isMoment_of hb0 hb1), guard_end hper, hsO]
    refine evca_cons (evc_callXI (evca_cons (evc_var rfl (evca_cons (evc_var rfl (evca_cons (evc_var rfl (evca_nil ⟨(R, .int p, .int b), rfl, hA.ok, freeD r.hs b, ?g2, evca_nil ⟨by simp, ?_⟩⟩))))))))
    case g2 =>
      show guardR K R (.int p) [.int b] (freeD (hsOf R (.int p)) b) = _
      rw [guard_on hper (isMoment_of hb0 hb1), guard_end hper, hsO]
    set_option simprocs false in dsimp only [List.set]
    refine ecb_if (evct_or (evct_not (evct_B (evc_callI (evca_cons (evc_var rfl (evca_cons (evc_lst (evca_cons (evc_ixL (evc_var rfl (evc_int ⟨_, 0, _, rfl, rfl, hday0, evca_cons (evc_var rfl (evca_nil ⟨by simp, ?_⟩))⟩))))) )))))))
    refine evca_nil ⟨.list [.bool (inSome r.hs (b % 24)), freeD r.hs b], rfl, .inr ⟨false, _, rfl, by simp, fun y hy => ?_⟩, true, rfl, ?_⟩
    · simp only [List.mem_cons, List.not_mem_nil, or_false] at hy
      rcases hy with rfl | rfl
      · rfl
      · exact hfree
    rw [if_neg (by decide)]
    refine evct_not (evct_B (evc_callI (evca_cons (evc_callXI (evca_cons (evc_var rfl (evca_cons (evc_var rfl (evca_cons (evc_var rfl (evca_cons (evc_var rfl (evca_nil ⟨(R, .int p, .int b, .int e), rfl, hA.ok, betweenD R (.int p) (.int b) (.int e), ?g3, evca_cons (evc_var rfl (evca_nil ⟨betweenD R (.int p) (.int b) (.int e), rfl, .inl rfl, true, rfl, ?_⟩))⟩)))))))))))))
    case g3 =>
      show guardR K R (.int p) [.int b, .int e] _ = _
      rw [guard_on hper (isMoment_of hb0 hb1), guard_on hper (isMoment_of he0 he1), guard_end hper]
    rw [if_neg (by decide)]
    exact ecb_next ⟨_, _, rfl⟩
  rintro δ ⟨b12, b13, rfl⟩
  refine ecb_if (evct_not (evct_B (evc_callBt (ι := List PR × Int) rfl (evca_cons (evc_var rfl (evca_cons (evc_var rfl (evca_nil ⟨(R, b), rfl, ⟨hA.ok, hb0, hb1⟩, fun d hd => ⟨true, hd, ?_⟩⟩))))))))
  rw [if_neg (by decide)]
  exact ecb_next ⟨_, _, _, _, _, _, _, _, _, _, _, _, _, rfl⟩
end
end Hn

set_option Elab.async false
set_option linter.all false
set_option maxRecDepth 100000
set_option maxHeartbeats 4000000
/-! Lambdas as values: made, kept in lists, called later by others. -/
namespace Lm
open PySem PySem.Spec PyProof.Rows L2 LamX NdefX
/-- the function data of a lambda: F its words (no statements), e its expression, dV its defaults -/
abbrev lfd (F : NF) (e : Expr) (dV doc pm ctv : Value) : FuncData := PySem.W.kdv_fn F.name F.qual F.params (.expr e) F.scope F.cl dV doc pm (.ref F.c) ctv
def LamO (f : Addr) (F : NF) (e : Expr) (dV : Value) : HO := .ext fun h => ∃ (od : Option Addr) (sl : Array (Option Value)) (doc pm ctv : Value), h.get? f = some (⟨.type "function", od, .func (lfd F e dV doc pm ctv), sl⟩ : Obj)
theorem lamO_at {P : Program} {w : World} {H : Hp} {h : Heap} {f : Addr} {F : NF} {e : Expr} {dV : Value} (hok : HOk P w H h) (q : H f = some (LamO f F e dV)) : ∃ (od : Option Addr) (sl : Array (Option Value)) (doc pm ctv : Value), h.get? f = some (⟨.type "function", od, .func (lfd F e dV doc pm ctv), sl⟩ : Obj) := by
  obtain ⟨z, _, _⟩ := hok f _ q
  exact z
section
variable {X : Cx} {pins : List (Addr × Obj)} {σ : L2.St} {H : Hp} {s : Shared}
theorem inv_lam {F : NF} {e : Expr} {dV : Value} {o : Obj} {t' : Nat} {doc pm ctv : Value} (I : Inv X pins σ H s) (ho : o = { cls := .type "function", data := .func (lfd F e dV doc pm ctv) }) :
    Inv X pins σ (upd H s.heap.objs.size (LamO s.heap.objs.size F e dV)) { s with heap := s.heap.push o, toks := t' } := by
  subst ho
  refine I.laid (a := s.heap.objs.size) (fun b u e => Heap.get?_push_of_some _ e) (Nat.le_refl _) ?_
  have z : (s.heap.push ({ cls := .type "function", data := .func (lfd F e dV doc pm ctv) } : Obj)).get? s.heap.objs.size = some ({ cls := .type "function", data := .func (lfd F e dV doc pm ctv) } : Obj) := Heap.get?_push_size _ rfl
  exact ⟨⟨_, _, doc, pm, ctv, z⟩, ⟨_, z⟩, fun h1 h2 ⟨od, sl, d, p, t, z⟩ st => ⟨od, sl, d, p, t, st _ z⟩⟩
/-- the lambda's words -/
abbrev NF.lam (X : Cx) (params : Arguments) (scope : Scope) (c' : Addr) : NF := ⟨"<lambda>", X.env.qual ++ "<lambda>", params, [], scope, cloFrom X.env.cells scope.names [], c'⟩
/-- the lambda's object is made: its code object is new, or found in the table -/
theorem lam_tail {nm : Nat → Nat → Str} {c P : Addr} {params : Arguments} {body : Expr} {scope : Scope} {pos : Pos} {dV : Value} {E : Value → Shared → Prop} {Q : Value → Shared → Prop} (I : Inv X pins σ H s) (TB : TabB X.base X.mg c P) (hcode : X.env.code = .ref c)
    (hn : nm pos.line pos.col = X.env.qual ++ "<lambda>") (hT : TabN H P nm) (hfree : ∀ y ∈ scope.names, y.2 = .free → ∃ c, X.env.cells.lookup y.1 = some c)
    (h : ∀ (f c' : Addr) (H1 : Hp) (s' : Shared), Inv X pins σ H1 s' → (∀ b o, b ≠ P → H b = some o → H1 b = some o) → (∀ b, H1 b = Option.none → H b = Option.none) → TabN H1 P nm → H f = none → H1 f = some (LamO f (NF.lam X params scope c') body dV) → H1 c' = some (CodeO c' (X.env.qual ++ "<lambda>")) →
      (∀ b o, H1 b = some o → H b = none → b = f ∨ b = c') → Q (.ref f) s') :
    wpAny (model X.prog X.w) X.A (makeTail "<lambda>" (X.env.qual ++ "<lambda>") params (.expr body) scope X.env dV .none none pos pos.line) Q E s := by
  obtain ⟨ps, hP, ht, ha⟩ := (show TabN H P nm from hT)
  have bP : s.heap.BuiltinsAt X.mg P := TB.bm.keeps I.bk
  have hP' : s.heap.get? P = some { cls := .none, data := .fields ps } := I.hok P _ hP
  cases hc : codeAmong pos ps.toList with
  | none =>
    refine PySem.W.kdv_makeTail (mg := X.mg) (c := c) (P := P) (ps := ps) (closure_ok hfree) I.ok.glob (I.mod.glob.keeps I.bk) hcode (TB.code.keeps I.bk) hP' ht hc TB.gP bP fun c' ctv doc h' tk hx hge hlt hrec htb => ?_
    obtain ⟨c2, oc, vs, t, e2, hoc, hd, hv⟩ := hrec
    cases e2
    have nC : H c' = none := I.hok.fresh hge
    have I1 := inv_table (t' := tk) (more := #[rawInt pos.line, rawInt pos.col, .ref c']) (h' := h') I hP (fun b o hb e => hx b o hb e) htb hge ⟨oc, vs, t, hoc, hd, hv⟩
    have hE : ∀ b o, b ≠ P → H b = some o → (upd (upd H P (.tbl (ps ++ #[rawInt pos.line, rawInt pos.col, .ref c']))) c' (CodeO c' (X.env.qual ++ "<lambda>"))) b = some o := fun b o n e => by
      rw [upd_ne (ne_of_none e nC), upd_ne n]
      exact e
    have eL : (ps ++ #[rawInt pos.line, rawInt pos.col, .ref c']).toList = ps.toList ++ [rawInt pos.line, rawInt pos.col, .ref c'] := by simp
    have nP : ∀ {b : Addr} {q : Str}, H b = some (CodeO b q) → b ≠ P := fun {b q} e z => by
      rw [z, hP] at e
      exact codeO_ne _ (Option.some.inj e).symm
    have T1 : TabN (upd (upd H P (.tbl (ps ++ #[rawInt pos.line, rawInt pos.col, .ref c']))) c' (CodeO c' (X.env.qual ++ "<lambda>"))) P nm := by
      refine ⟨_, by rw [upd_ne (ne_of_none hP nC), upd_same], by rw [eL]; exact PySem.TriplesOk_snoc _ _ _ _ ht, fun p' cv hcv => ?_⟩
      rw [eL] at hcv
      rcases among_app2 _ ht hcv with z | ⟨z, z1, z2⟩
      · obtain ⟨c0, e1, e2⟩ := ha p' cv z
        exact ⟨c0, e1, hE _ _ (nP e2) e2⟩
      · refine ⟨c', z, ?_⟩
        rw [← z1, ← z2, hn]
        exact upd_same
    have nF := I1.hok.fresh (Nat.le_refl _)
    have I2 := inv_lam (F := NF.lam X params scope c') (e := body) (dV := dV) (t' := tk) (doc := doc) (pm := (X.mg "__name__").getD .none) (ctv := ctv) I1 rfl
    refine h h'.objs.size c' _ _ I2 (fun b o n e => ?_) (fun b e => upd_none (upd_none (upd_none e))) (T1.ext fun b o e => ?_) (I.hok.fresh (Nat.le_trans hge (Nat.le_of_lt hlt))) upd_same ?_ (fun b o e n => ?_)
    · have e1 := hE b o n e
      exact (upd_ne (ne_of_none e1 nF)).trans e1
    · exact (upd_ne (ne_of_none e nF)).trans e
    · exact (upd_ne (Nat.ne_of_lt hlt)).trans upd_same
    · by_cases q1 : b = h'.objs.size
      · exact .inl q1
      · rw [upd_ne q1] at e
        by_cases q2 : b = c'
        · exact .inr q2
        · rw [upd_ne q2] at e
          by_cases q3 : b = P
          · rw [q3, hP] at n
            cases n
          · rw [upd_ne q3, n] at e
            cases e
  | some cv =>
    obtain ⟨c', e, hco⟩ := ha pos cv hc
    subst e
    rw [hn] at hco
    refine PySem.W.kdv_makeTailHit (mg := X.mg) (c := c) (P := P) (ps := ps) (closure_ok hfree) I.ok.glob (I.mod.glob.keeps I.bk) hcode (TB.code.keeps I.bk) hP' ht hc bP fun ctv doc h' tk hx hsz => ?_
    have I1 : Inv X pins σ H { s with heap := h', toks := tk } := I.kept hx
    have nF : H h'.objs.size = none := I1.hok.fresh (Nat.le_refl _)
    have I2 := inv_lam (F := NF.lam X params scope c') (e := body) (dV := dV) (t' := tk) (doc := doc) (pm := (X.mg "__name__").getD .none) (ctv := ctv) I1 rfl
    refine h h'.objs.size c' _ _ I2 (fun b o n e => ?_) (fun b e => upd_none e) (hT.ext fun b o e => ?_) nF upd_same ?_ (fun b o e n => ?_)
    · exact (upd_ne (ne_of_none e nF)).trans e
    · exact (upd_ne (ne_of_none e nF)).trans e
    · exact (upd_ne (ne_of_none hco nF)).trans hco
    · by_cases q1 : b = h'.objs.size
      · exact .inl q1
      · rw [upd_ne q1, n] at e
        cases e
/-- lambda: body -/
def tLam0 (P : Addr) (nm : Nat → Nat → Str) (mk : Addr → NF) (body : Expr) : TE := fun σ H Q => TabN H P nm ∧ ∀ (f c' : Addr) (H1 : Hp), (∀ b o, b ≠ P → H b = some o → H1 b = some o) → (∀ b, H1 b = Option.none → H b = Option.none) → TabN H1 P nm → H f = none → H1 f = some (LamO f (mk c') body .none) → H1 c' = some (CodeO c' (mk c').qual) →
  (∀ b o, H1 b = some o → H b = none → b = f ∨ b = c') → Q (.ref f) H1
theorem pe_lam0 {nm : Nat → Nat → Str} {c P : Addr} {params : Arguments} {body : Expr} {scope : Scope} {pos : Pos} (TB : TabB X.base X.mg c P) (hcode : X.env.code = .ref c) (hn : nm pos.line pos.col = X.env.qual ++ "<lambda>")
    (hfree : ∀ y ∈ scope.names, y.2 = .free → X.env.scope.names.lookup y.1 = some .cell ∨ X.env.scope.names.lookup y.1 = some .free) (hdef : defaultsOf params X.env = ([], [])) : PE X (.Lambda params body scope pos) (tLam0 P nm (NF.lam X params scope) body) := by
  refine ⟨fun pins s σ H Q I h => ?_⟩
  obtain ⟨hT, h⟩ := h
  refine PySem.W.kla_eval hdef ?_
  rw [makeFunction_eq]
  simp only [List.zip_nil_right, List.filterMap_nil, List.isEmpty_nil, if_true, pure_bind]
  have hfr : ∀ y ∈ scope.names, y.2 = .free → ∃ c, X.env.cells.lookup y.1 = some c := fun y hy e => (hfree y hy e).elim (fun z => I.ok.has _ (.inl z)) fun z => I.ok.has _ (.inr z)
  refine lam_tail I TB hcode hn hT hfr fun f c' H1 s' I1 k0 k1 T1 f0 f1 c1 nw => ?_
  exact ⟨.ref f, H1, I1, rfl, h f c' H1 k0 k1 T1 f0 f1 c1 nw⟩
/-- lambda a=0: body; the defaults' tuple stands at T -/
def tLam1 (P : Addr) (nm : Nat → Nat → Str) (mk : Addr → NF) (body : Expr) (i : Int) : TE := fun σ H Q => TabN H P nm ∧ ∀ (f c' T : Addr) (H1 : Hp), (∀ b o, b ≠ P → H b = some o → H1 b = some o) → (∀ b, H1 b = Option.none → H b = Option.none) → TabN H1 P nm → H f = none → H T = none → H1 T = some (.tup [.int i]) → H1 f = some (LamO f (mk c') body (.ref T)) → H1 c' = some (CodeO c' (mk c').qual) →
  (∀ b o, H1 b = some o → H b = none → b = f ∨ b = c' ∨ b = T) → Q (.ref f) H1
theorem pe_lam1 {nm : Nat → Nat → Str} {c P : Addr} {params : Arguments} {body : Expr} {scope : Scope} {pos p1 : Pos} {i : Int} {j : Nat} (TB : TabB X.base X.mg c P) (hcode : X.env.code = .ref c) (hn : nm pos.line pos.col = X.env.qual ++ "<lambda>")
    (hfree : ∀ y ∈ scope.names, y.2 = .free → X.env.scope.names.lookup y.1 = some .cell ∨ X.env.scope.names.lookup y.1 = some .free) (hd : params.defaults = [.Constant (.int i) j p1]) (hk : params.kw_defaults = []) : PE X (.Lambda params body scope pos) (tLam1 P nm (NF.lam X params scope) body i) := by
  refine ⟨fun pins s σ H Q I h => ?_⟩
  obtain ⟨hT, h⟩ := h
  refine PySem.W.kdv_lam (by rw [hd]; rfl) hk ?_
  rw [hd]
  refine PySem.W.kdv_all1 (thn ((pe_int (X := X) (i := i) (pos := p1)).run pins s σ H (fun v H1 => v = .int i ∧ H1 = H) I ⟨rfl, rfl⟩) fun u s1 ⟨v, H1, I1, r1, q1⟩ => ?_)
  obtain ⟨ev, eH⟩ := q1
  subst ev
  rw [eH] at I1
  obtain ⟨t, rfl⟩ : ∃ t, u = .int i t := r1
  refine PySem.W.kdv_all0 ?_
  rw [makeFunction_eq]
  simp only [List.zip_nil_right, List.filterMap_nil, List.isEmpty_nil, List.isEmpty_cons, Bool.false_eq_true, if_false, if_true, pure_bind]
  refine wpAny_bind (wpAny_newTextTuple ?_)
  have hf : H s1.heap.objs.size = none := I1.hok.fresh (Nat.le_refl _)
  have I2 : Inv X pins σ (upd H s1.heap.objs.size (.tup [.int i])) { s1 with heap := s1.heap.push { cls := .type "tuple", data := .seq [Value.int i t].toArray } } := I1.laid (t' := s1.toks) (fun b u e => Heap.get?_push_of_some _ e) (Nat.le_refl _) ⟨(by show 1 ≤ sizeLine; decide), [.int i t], .cons ⟨t, rfl⟩ .nil, ⟨_, Heap.get?_push_size _ rfl, rfl, _, rfl⟩⟩
  have hfr : ∀ y ∈ scope.names, y.2 = .free → ∃ c, X.env.cells.lookup y.1 = some c := fun y hy e => (hfree y hy e).elim (fun z => I.ok.has _ (.inl z)) fun z => I.ok.has _ (.inr z)
  have hT2 : TabN (upd H s1.heap.objs.size (.tup [.int i])) P nm := hT.ext fun b o e => (upd_ne (ne_of_none e hf)).trans e
  have hTP : s1.heap.objs.size ≠ P := fun z => by
    obtain ⟨ps, hP, _⟩ := hT
    rw [z, hP] at hf
    cases hf
  refine lam_tail I2 TB hcode hn hT2 hfr fun f c' H1 s' I1 k0 k1 T1 f0 f1 c1 nw => ?_
  refine ⟨.ref f, H1, I1, rfl, h f c' s1.heap.objs.size H1 (fun b o n e => k0 b o n ((upd_ne (ne_of_none e hf)).trans e)) (fun b e => upd_none (k1 b e)) T1 (upd_none f0) hf (k0 _ _ hTP upd_same) f1 c1 (fun b o e n => ?_)⟩
  by_cases q : b = s1.heap.objs.size
  · exact .inr (.inr q)
  · rcases nw b o e ((upd_ne q).trans n) with z | z
    · exact .inl z
    · exact .inr (.inl z)
end
/-! ### calls -/
section
variable {CX : CXT} {P : Program} {w : World} {K : PySem.W.Frag} {mg : Str → Option Value} {base : Heap} {N ps fr : List Str} {F : NF} {e : Expr} {dV : Value} {f : Addr} {k : Nat} {tb : List (Option V) → XK → TE}
/-- the lambda at f, called without arguments, at every state where its cells hold ws -/
def LOk (CX : CXT) (P : Program) (w : World) (K : PySem.W.Frag) (mg : Str → Option Value) (base : Heap) (k : Nat) (f : Addr) (F : NF) (e : Expr) (dV : Value) (fr : List Str) (ws : List (Option V)) (Z : Hp → Prop) (sp : Hp → VK → XK → Prop) : Prop :=
  ∀ (A : Around) (outer : List Env) (s : Shared) (H : Hp) (Q : VK) (E : XK), Room k A → Env0 P w K mg base A outer s H → H f = some (LamO f F e dV) → H F.c = some (CodeO F.c F.qual) → Z H → CellsAt F.cl fr ws s.heap H → sp H Q E →
    codeAny (model P w) A (.call (.ref f) ⟨[], []⟩) (CR CX outer P w H s Q E) s
theorem lok_of {vs : List V} {Z : Hp → Prop} {ws : List (Option V)} {sp : Hp → VK → XK → Prop} (S : NScope N ps fr F.scope) (hl : vs.length = ps.length)
    (hb : ∀ (doc pm ctv : Value) (s : Shared) (H : Hp), HOk P w H s.heap → Z H → ∃ us, Vals vs us ∧ BindsTo s (lfd F e dV doc pm ctv) ⟨[], []⟩ (ps.zip us))
    (hbody : ∀ (A : Around) (outer : List Env) (s : Shared) (H : Hp) (Q : VK) (E : XK), Room k (A.deeper (envF F f s.heap.objs.size)) → sp H Q E → ∃ tb, PE (ncx CX P w K mg base N F f A outer s H E) e tb ∧ tb (startF N vs ws) H Q) : LOk CX P w K mg base (k + 1) f F e dV fr ws Z sp := by
  intro A outer s H Q E hr e0 hf hc hZ C hsp
  have lim : s.heap.NoLimit := e0.mod.nolimit.keeps fun b o e => (e0.bs b o e).1
  obtain ⟨od, sl, doc, pm, ctv, ho⟩ := lamO_at e0.hok hf
  obtain ⟨us, r, hbd⟩ := hb doc pm ctv s H e0.hok hZ
  refine PySem.W.kla_callFunE hr.depth ho rfl S.co S.gen rfl (codeO_at e0.hok hc) (hbd _ _ _ _ ?_)
  refine wpAny_newFunctionEnv S.nocell (fun ⟨n, _⟩ hy => S.par n (List.of_mem_zip hy).1) (fun h₁ hns hsb => ⟨lim.fresh _ hsb, ?_⟩) S.kind
  show codeAny _ _ (.expr e (envF F f s.heap.objs.size)) _ _
  have kp : ∀ b o, s.heap.get? b = some o → h₁.get? b = some o := fun b o e => hsb.extBut b o (Nat.ne_of_lt (Heap.lt_size e)) (Heap.get?_push_of_some _ e)
  obtain ⟨tb, ht, hq⟩ := hbody A outer s H Q E (hr.deeper _) hsp
  have I : Inv (ncx CX P w K mg base N F f A outer s H E) [] (startF N vs ws) H { s with heap := h₁, toks := s.toks + (ps.zip us).length } := inv_startN S hr.hd e0 hl r C hns kp
  refine PySem.W.kla_codeExpr (wpAny_mono (ht.run [] _ (startF N vs ws) H Q I hq) (fun v s' hq => ?_) fun e s' hq => hq)
  obtain ⟨w', H', J', rv, q⟩ := hq
  exact ⟨w', H', J'.os, J'.bare, J'.base, J'.hok, rv, q⟩
end
end Lm

set_option Elab.async false
set_option linter.all false
set_option maxRecDepth 100000
set_option maxHeartbeats 4000000
/-! What calls a function that it was handed; the function raises. -/
namespace Lm
open PySem PySem.Spec PyProof.Rows L2 LamX NdefX Dl
/-- the function at f, called without arguments at every later state, raises the class C -/
structure ActX (P : Program) (w : World) (K : PySem.W.Frag) (mg : Str → Option Value) (base : Heap) (k : Nat) (F H : Hp) (f C : Addr) : Prop where
  fn : ∃ (N : NF) (e : Expr) (dV : Value), H f = some (LamO f N e dV)
  call : ∀ (A : Around) (outer : List Env) (s : Shared) (F1 H1 : Hp) (Q : VK) (E : XK), Room k A → Env0 P w K mg base A outer s H1 → Gr0 F H F1 H1 → (∀ F2 H2, Gr0 F1 H1 F2 H2 → E (.ref C) none H2) →
    codeAny (model P w) A (.call (.ref f) ⟨[], []⟩) (CR (L2.CX P w) outer P w H1 s Q E) s
theorem ActX.later {P : Program} {w : World} {K : PySem.W.Frag} {mg : Str → Option Value} {base : Heap} {k : Nat} {F H F1 H1 : Hp} {f C : Addr} (a : ActX P w K mg base k F H f C) (g : Gr0 F H F1 H1) : ActX P w K mg base k F1 H1 f C :=
  ⟨a.fn.imp fun N h => h.imp fun e h => h.imp fun dV h => g.all _ _ h, fun A outer s F2 H2 Q E hr e0 g2 => a.call A outer s F2 H2 Q E hr e0 (g.trans g2)⟩
/-- the reading of work() -/
def tWork (P : Program) (w : World) (K : PySem.W.Frag) (mg : Str → Option Value) (base : Heap) (k i : Nat) (W : WX) : TE := fun σ H _ => ∃ (F : Hp) (f C : Addr), σ[i]? = some (some (.ref f)) ∧ ActX P w K mg base k F H f C ∧ Sub F H ∧ ∀ F2 H2, Gr0 F H F2 H2 → W (.ref C) none σ H2
section
variable {X : Cx}
theorem pe_work {k j i : Nat} {a : Str} {W : WX} {p1 p2 : Pos} (tk : Takes X W) (hr : Room j X.A) (hk : k ≤ j) (hN : X.N[i]? = some a) (hv : Vis X.env.scope a)
    (hd : (a == ("__debug__" : Str)) = false := by decide) (hcd : (a == ("__classdict__" : Str)) = false := by decide) : PE X (.Call (.Name a p1) [] [] p2) (tWork X.prog X.w X.K X.mg X.base k i W) := by
  refine ⟨fun pins s σ H Q I h => ?_⟩
  obtain ⟨F, f, C, hs, act, sb, hE⟩ := h
  refine wpAny_Call_Name_kw (thn ((pe_var (pos := p1) (i := i) hN hv hd hcd).run pins s σ H (fun v H1 => v = .ref f ∧ H1 = H) I ⟨.ref f, hs, rfl, rfl⟩) fun u s1 ⟨v, H1, I1, r1, q1⟩ => ?_)
  obtain ⟨ev, eH⟩ := q1
  subst ev
  rw [eH] at I1
  obtain rfl : u = Value.ref f := r1
  have fa : PySem.W.FnAt f s1.heap := by
    obtain ⟨N, e, dV, hf⟩ := act.fn
    obtain ⟨od, sl, doc, pm, ctv, ho⟩ := lamO_at I1.hok hf
    exact ⟨_, od, _, sl, ho⟩
  refine PySem.W.callWith_F0 (first := []) fa ?_
  show wpAny _ _ (call (.ref f) []) _ _ _
  refine wpAny_call (codeAny_mono (act.call X.A X.stack s1 F H Q (fun cls d H' => W cls d σ H') (hr.mono hk) I1.env0 (.refl sb) hE) fun r s' hq => ?_)
  cases r with
  | error e => exact tk e s' (XE.of_call I1 (fun cls d H' z => z) hq)
  | ok fl =>
    cases fl with
    | ret u => exact I1.after hq
    | next => exact False.elim hq
    | brk => exact False.elim hq
    | cont => exact False.elim hq
/-! ### how often a flat value stands in a list of flat ones -/
def rCntF (K : PySem.W.Frag) : V → List V → Hp → VK → Prop := fun x xs H Q => ∃ (a : Addr) (ys : List V) (y : V), x = V.ref a ∧ xs = [y] ∧ SqL K H a ys ∧ flatV y = true ∧ ys.all flatV = true ∧ Q (.int ((ys.countP fun z => eqV z y) : Nat)) H
theorem countU {y : V} : ∀ {ys : List V} {us : List Value}, Vals ys us → ys.all flatV = true → us.countP (eqU y) = ys.countP fun z => eqV z y
  | _, _, .nil, _ => rfl
  | z :: _, u :: _, .cons r rs, f => by
    have f2 : (flatV z && _) = true := f
    obtain ⟨f3, f4⟩ := Bool.and_eq_true_iff.mp f2
    have ih := countU (y := y) rs f4
    rw [List.countP_cons, List.countP_cons, ih, eqU_of r f3]
theorem mt_countF : MtR X "list.count" (rCntF X.K) := by
  intro pins s σ H x xs v us Q I rx rxs h
  obtain ⟨a, ys, y, rfl, rfl, hs, fy, fys, q⟩ := h
  cases rx
  obtain ⟨uy, rfl, ry⟩ := rxs.one
  obtain ⟨its, rv, ⟨⟨cls, dd, data, sl⟩, n, ho, hc, hdn, hd⟩, hlen⟩ := I.list hs
  simp only at hc hd
  subst hc hd
  refine call_meets PySem.F.slot_list_count ⟨_, ho, rfl⟩ PySem.F.entry_list_count (PySem.F.args_list_count_2 _ _)
    (SeqAt.list_countAt a its.toArray n dd sl uy (eqU y)) ⟨ho, fun u' hu' => mem_eqAt ry fy rv fys u' (by simpa using hu'), ?_⟩
  have ec : its.toArray.toList.countP (eqU y) = ys.countP fun z => eqV z y := countU rv fys
  refine ⟨.int ((ys.countP fun z => eqV z y) : Nat), H, I.tok _, ⟨s.toks, ?_⟩, q⟩
  show Value.int ((its.toArray.toList.countP (eqU y) : Nat) : Int) s.toks = Value.int (((ys.countP fun z => eqV z y) : Nat) : Int) s.toks
  rw [ec]
/-! ### isinstance of the caught error -/
theorem isE_rd {K : PySem.W.Frag} {D a C : Addr} {σ : L2.St} {H : Hp} {Q : VK} {b : Bool} {i : Nat} (hσ : σ[i]? = some (some (.ref a))) (k : PySem.W.kitOne K (.ref D) (.ref C) = some b) (q : Q (.bl b) H) : tCB (rIsE K D a) (tCons (tVar i) (tCons (tC (.ref C)) tNil)) σ H Q :=
  ⟨.ref a, hσ, .ref C, .ref C, b, rfl, fun u e => e, k, q⟩
theorem isE_ty {K : PySem.W.Frag} {D a : Addr} {c : String} {σ : L2.St} {H : Hp} {Q : VK} {b : Bool} {i : Nat} (hσ : σ[i]? = some (some (.ref a))) (k : PySem.W.kitOne K (.ref D) (.type c) = some b) (q : Q (.bl b) H) : tCB (rIsE K D a) (tCons (tVar i) (tCons (tC (.ty c)) tNil)) σ H Q :=
  ⟨.ref a, hσ, .ty c, .type c, b, rfl, fun u e => e, k, q⟩
theorem pe_neverE {e : Expr} : PE X e (fun _ _ _ => False) := ⟨fun _ _ _ _ _ _ h => h.elim⟩
end
end Lm

set_option Elab.async false
set_option linter.all false
set_option maxRecDepth 100000
set_option maxHeartbeats 8000000
namespace Hn
open PySem PySem.Spec PyProof.Rows L2 Dl Lm
section
variable {P : Program} {w : World} {K : PySem.W.Frag} {mg : Str → Option Value} {base : Heap}
/-- what K says of the class: it is one of the ten, a NoticeError, a ValueError -/
structure Kd_BadPerson (K : PySem.W.Frag) : Prop where
  ec : ExcC K (He.ga K "BadPerson")
  exm : PySem.W.exmOne K (.ref (He.ga K "BadPerson")) (.ref (He.ga K "NoticeError")) = some true
  ve : PySem.W.kitOne K (.ref (He.ga K "BadPerson")) (.type "ValueError") = some true
  k_BadBell : PySem.W.kitOne K (.ref (He.ga K "BadPerson")) (.ref (He.ga K "BadBell")) = some false
  k_BadDevice : PySem.W.kitOne K (.ref (He.ga K "BadPerson")) (.ref (He.ga K "BadDevice")) = some false
  k_BadHears : PySem.W.kitOne K (.ref (He.ga K "BadPerson")) (.ref (He.ga K "BadHears")) = some false
  k_BadMoment : PySem.W.kitOne K (.ref (He.ga K "BadPerson")) (.ref (He.ga K "BadMoment")) = some false
  k_BadNotices : PySem.W.kitOne K (.ref (He.ga K "BadPerson")) (.ref (He.ga K "BadNotices")) = some false
  k_BadPerson : PySem.W.kitOne K (.ref (He.ga K "BadPerson")) (.ref (He.ga K "BadPerson")) = some true
  k_BadRules : PySem.W.kitOne K (.ref (He.ga K "BadPerson")) (.ref (He.ga K "BadRules")) = some false
  k_BadText : PySem.W.kitOne K (.ref (He.ga K "BadPerson")) (.ref (He.ga K "BadText")) = some false
  k_IsOff : PySem.W.kitOne K (.ref (He.ga K "BadPerson")) (.ref (He.ga K "IsOff")) = some false
  k_NotRinging : PySem.W.kitOne K (.ref (He.ga K "BadPerson")) (.ref (He.ga K "NotRinging")) = some false
/-- what K says of the class: it is one of the ten, a NoticeError, a ValueError -/
structure Kd_BadMoment (K : PySem.W.Frag) : Prop where
  ec : ExcC K (He.ga K "BadMoment")
  exm : PySem.W.exmOne K (.ref (He.ga K "BadMoment")) (.ref (He.ga K "NoticeError")) = some true
  ve : PySem.W.kitOne K (.ref (He.ga K "BadMoment")) (.type "ValueError") = some true
  k_BadBell : PySem.W.kitOne K (.ref (He.ga K "BadMoment")) (.ref (He.ga K "BadBell")) = some false
  k_BadDevice : PySem.W.kitOne K (.ref (He.ga K "BadMoment")) (.ref (He.ga K "BadDevice")) = some false
  k_BadHears : PySem.W.kitOne K (.ref (He.ga K "BadMoment")) (.ref (He.ga K "BadHears")) = some false
  k_BadMoment : PySem.W.kitOne K (.ref (He.ga K "BadMoment")) (.ref (He.ga K "BadMoment")) = some true
  k_BadNotices : PySem.W.kitOne K (.ref (He.ga K "BadMoment")) (.ref (He.ga K "BadNotices")) = some false
  k_BadPerson : PySem.W.kitOne K (.ref (He.ga K "BadMoment")) (.ref (He.ga K "BadPerson")) = some false
  k_BadRules : PySem.W.kitOne K (.ref (He.ga K "BadMoment")) (.ref (He.ga K "BadRules")) = some false
  k_BadText : PySem.W.kitOne K (.ref (He.ga K "BadMoment")) (.ref (He.ga K "BadText")) = some false
  k_IsOff : PySem.W.kitOne K (.ref (He.ga K "BadMoment")) (.ref (He.ga K "IsOff")) = some false
  k_NotRinging : PySem.W.kitOne K (.ref (He.ga K "BadMoment")) (.ref (He.ga K "NotRinging")) = some false
theorem fresh_lst {F H : Hp} {xs : List V} {Q : VK} (sb : Sub F H) (h : ∀ p H', Gr0 F H F H' → H' p = some (.lst xs) → Q (.ref p) H') : ∀ p, H p = none → Q (.ref p) (upd H p (.lst xs)) := fun p hp => h p _ (.fresh sb hp) upd_same
theorem fresh_tup {F H : Hp} {xs : List V} {Q : VK} (sb : Sub F H) (h : ∀ p F' H', Gr0 F H F' H' → F' p = some (.tup xs) → H' p = some (.tup xs) → Q (.ref p) H') : ∀ p, H p = none → Q (.ref p) (upd H p (.tup xs)) := fun p hp => h p _ _ (.new sb hp) upd_same upd_same
theorem few {n : Nat} (h : n ≤ 100) : n ≤ sizeLine := Nat.le_trans h (by decide)
def told_body : List Stmt := match defBody s_law_told with
  | [.Expr _ _, .Try _ [.ExceptHandler _ _ b _] _ _ _] => b
  | [.Try _ [.ExceptHandler _ _ b _] _ _ _] => b
  | _ => []
theorem told_suite_BadPerson (T : Tx K mg) (KD : Kd_BadPerson K) (zV : mg "ValueError" = none) {x : Str} {f : Addr} {cdv : Value} {A : Around} {outer : List Env} {s : Shared} {H0 : Hp} {E : XK} :
    ∃ ts : Addr → TS, (∀ (a : Addr) (oe : Obj) (pn : List (Addr × Obj)), Zc (.ref (He.ga K "BadPerson")) none oe → (∃ vs, oe.data = .fields vs) → PSs ((cxOf CX0 P w K mg base ["_law_work", "e", "_law_kinds", "_law_words", "_law_word"] x (defScope s_law_told) f cdv A outer s H0 E).nox.suite a ((a, oe) :: pn)) told_body (ts a)) ∧
      ∀ (a : Addr) (D : Ends) (v : Option V) (F H : Hp), Sub F H → (∀ v' F' H', Gr0 F H F' H' → Dp K F' v' (.tuple [.str "BadPerson", .int 0]) → D.rt v' H') → ts a D [v, some (.ref a), none, none, none] H := by
  refine ⟨_, fun a oe pn hz hf => (pss_cons (ps_set (i := 2) sc_law_told.nd rfl (.inl rfl) (pe_lst (pa_cons (pe_callB (r := rIsE K (He.ga K "BadPerson") a) (call_isE KD.ec hz hf) (by rfl) T.z_isinstance (by decide +kernel) (pa_cons (pv 1) (pa_cons (pe_glob (v := .ref (He.ga K "BadBell")) (by rfl) T.g_BadBell rfl) pa_nil))) (pa_cons (pe_callB (r := rIsE K (He.ga K "BadPerson") a) (call_isE KD.ec hz hf) (by rfl) T.z_isinstance (by decide +kernel) (pa_cons (pv 1) (pa_cons (pe_glob (v := .ref (He.ga K "BadDevice")) (by rfl) T.g_BadDevice rfl) pa_nil))) (pa_cons (pe_callB (r := rIsE K (He.ga K "BadPerson") a) (call_isE KD.ec hz hf) (by rfl) T.z_isinstance (by decide +kernel) (pa_cons (pv 1) (pa_cons (pe_glob (v := .ref (He.ga K "BadHears")) (by rfl) T.g_BadHears rfl) pa_nil))) (pa_cons (pe_callB (r := rIsE K (He.ga K "BadPerson") a) (call_isE KD.ec hz hf) (by rfl) T.z_isinstance (by decide +kernel) (pa_cons (pv 1) (pa_cons (pe_glob (v := .ref (He.ga K "BadMoment")) (by rfl) T.g_BadMoment rfl) pa_nil))) pa_nil))))))
      (pss_cons (ps_set (i := 2) sc_law_told.nd rfl (.inl rfl) (pe_op op_cat (pv 2) (pe_lst (pa_cons (pe_callB (r := rIsE K (He.ga K "BadPerson") a) (call_isE KD.ec hz hf) (by rfl) T.z_isinstance (by decide +kernel) (pa_cons (pv 1) (pa_cons (pe_glob (v := .ref (He.ga K "BadNotices")) (by rfl) T.g_BadNotices rfl) pa_nil))) (pa_cons (pe_callB (r := rIsE K (He.ga K "BadPerson") a) (call_isE KD.ec hz hf) (by rfl) T.z_isinstance (by decide +kernel) (pa_cons (pv 1) (pa_cons (pe_glob (v := .ref (He.ga K "BadPerson")) (by rfl) T.g_BadPerson rfl) pa_nil))) (pa_cons (pe_callB (r := rIsE K (He.ga K "BadPerson") a) (call_isE KD.ec hz hf) (by rfl) T.z_isinstance (by decide +kernel) (pa_cons (pv 1) (pa_cons (pe_glob (v := .ref (He.ga K "BadRules")) (by rfl) T.g_BadRules rfl) pa_nil))) pa_nil))))))
      (pss_cons (ps_set (i := 2) sc_law_told.nd rfl (.inl rfl) (pe_op op_cat (pv 2) (pe_lst (pa_cons (pe_callB (r := rIsE K (He.ga K "BadPerson") a) (call_isE KD.ec hz hf) (by rfl) T.z_isinstance (by decide +kernel) (pa_cons (pv 1) (pa_cons (pe_glob (v := .ref (He.ga K "BadText")) (by rfl) T.g_BadText rfl) pa_nil))) (pa_cons (pe_callB (r := rIsE K (He.ga K "BadPerson") a) (call_isE KD.ec hz hf) (by rfl) T.z_isinstance (by decide +kernel) (pa_cons (pv 1) (pa_cons (pe_glob (v := .ref (He.ga K "IsOff")) (by rfl) T.g_IsOff rfl) pa_nil))) (pa_cons (pe_callB (r := rIsE K (He.ga K "BadPerson") a) (call_isE KD.ec hz hf) (by rfl) T.z_isinstance (by decide +kernel) (pa_cons (pv 1) (pa_cons (pe_glob (v := .ref (He.ga K "NotRinging")) (by rfl) T.g_NotRinging rfl) pa_nil))) pa_nil))))))
      (pss_cons (ps_if (PW.pt (pw_or (pt_cmpR op_ne (pe_bmK (r := rCntF K) K PySem.F.plainAttrs_list PySem.F.slot_list_count PySem.F.type_list_count mt_countF (pv 2) (pa_cons pe_bl pa_nil)) pe_int (nomark _)) (pw_or1 (pt_not (pt_val (pe_callB (r := rIsE K (He.ga K "BadPerson") a) (call_isE KD.ec hz hf) (by rfl) T.z_isinstance (by decide +kernel) (pa_cons (pv 1) (pa_cons (pe_bltn (v := .ty "ValueError") (by rfl) zV (by decide +kernel) rfl) pa_nil)))))))) (pss_one ps_never) pss_nil)
      (pss_cons (ps_set (i := 3) sc_law_told.nd rfl (.inl rfl) (pe_lst (pa_cons pe_str (pa_cons pe_str (pa_cons pe_str (pa_cons pe_str (pa_cons pe_str (pa_cons pe_str (pa_cons pe_str (pa_cons pe_str pa_nil))))))))))
      (pss_cons (ps_set (i := 4) sc_law_told.nd rfl (.inl rfl) (pe_ix (r := rIxL K) ix_list (pe_op op_cat (pv 3) (pe_lst (pa_cons pe_str (pa_cons pe_str pa_nil)))) (pe_bmK (r := rIndex K) K PySem.F.plainAttrs_list PySem.F.slot_list_index PySem.F.type_list_index mt_index (pv 2) (pa_cons pe_bl pa_nil)) (fun _ _ => rfl)))
      (pss_cons (ps_if (pt_cmpR op_eq (pv 4) pe_str (nomark _)) (pss_one ps_never) pss_nil)
      (pss_cons (ps_if (pt_cmpR op_eq (pv 4) pe_str (nomark _)) (pss_one ps_never) pss_nil)
      (pss_one (ps_ret (pe_tup (pa_cons (pv 4) (pa_cons (pe_ifExp (pt_cmpR (r := rIn K false) op_in_seq (pv 4) (pe_tup (pa_cons pe_str (pa_cons pe_str pa_nil))) (by with_unfolding_all rfl)) pe_neverE pe_int) pa_nil))))))))))))), fun a D v F H sb q => ?_⟩
  try (set_option simprocs false in dsimp only [cxOf, Cx.nox, Cx.wish])
  refine isE_rd rfl KD.k_BadBell (isE_rd rfl KD.k_BadDevice (isE_rd rfl KD.k_BadHears (isE_rd rfl KD.k_BadMoment ⟨few (by decide), fun p1 hp1 => ?_⟩)))
  have g1 : Gr0 F H F (upd H p1 (.lst [.bl false, .bl false, .bl false, .bl false])) := .fresh sb hp1
  have h1 : upd H p1 (HO.lst [.bl false, .bl false, .bl false, .bl false]) p1 = some (.lst [.bl false, .bl false, .bl false, .bl false]) := upd_same
  generalize upd H p1 (HO.lst [.bl false, .bl false, .bl false, .bl false]) = H1 at g1 h1 ⊢
  refine ⟨_, rfl, isE_rd rfl KD.k_BadNotices (isE_rd rfl KD.k_BadPerson (isE_rd rfl KD.k_BadRules ⟨few (by decide), fun p2 hp2 => ?_⟩))⟩
  have g2 : Gr0 F H1 F (upd H1 p2 (.lst [.bl false, .bl true, .bl false])) := .fresh g1.sub hp2
  have h2 : upd H1 p2 (HO.lst [.bl false, .bl true, .bl false]) p2 = some (.lst [.bl false, .bl true, .bl false]) := upd_same
  generalize upd H1 p2 (HO.lst [.bl false, .bl true, .bl false]) = H2 at g2 h2 ⊢
  refine ⟨_, _, _, _, rfl, rfl, g2.all _ _ h1, h2, few (by decide), fun p3 hp3 => ?_⟩
  have g3 : Gr0 F H2 F (upd H2 p3 (.lst ([.bl false, .bl false, .bl false, .bl false] ++ [.bl false, .bl true, .bl false]))) := .fresh g2.sub hp3
  have h3 : upd H2 p3 (HO.lst ([.bl false, .bl false, .bl false, .bl false] ++ [.bl false, .bl true, .bl false])) p3 = some (.lst ([.bl false, .bl false, .bl false, .bl false] ++ [.bl false, .bl true, .bl false])) := upd_same
  generalize upd H2 p3 (HO.lst ([.bl false, .bl false, .bl false, .bl false] ++ [.bl false, .bl true, .bl false])) = H3 at g3 h3 ⊢
  refine ⟨_, rfl, isE_rd rfl KD.k_BadText (isE_rd rfl KD.k_IsOff (isE_rd rfl KD.k_NotRinging ⟨few (by decide), fun p4 hp4 => ?_⟩))⟩
  have g4 : Gr0 F H3 F (upd H3 p4 (.lst [.bl false, .bl false, .bl false])) := .fresh g3.sub hp4
  have h4 : upd H3 p4 (HO.lst [.bl false, .bl false, .bl false]) p4 = some (.lst [.bl false, .bl false, .bl false]) := upd_same
  generalize upd H3 p4 (HO.lst [.bl false, .bl false, .bl false]) = H4 at g4 h4 ⊢
  refine ⟨_, _, _, _, rfl, rfl, g4.all _ _ h3, h4, few (by decide), fun p5 hp5 => ?_⟩
  have g5 : Gr0 F H4 F (upd H4 p5 (.lst (([.bl false, .bl false, .bl false, .bl false] ++ [.bl false, .bl true, .bl false]) ++ [.bl false, .bl false, .bl false]))) := .fresh g4.sub hp5
  have h5 : upd H4 p5 (HO.lst (([.bl false, .bl false, .bl false, .bl false] ++ [.bl false, .bl true, .bl false]) ++ [.bl false, .bl false, .bl false])) p5 = some (.lst (([.bl false, .bl false, .bl false, .bl false] ++ [.bl false, .bl true, .bl false]) ++ [.bl false, .bl false, .bl false])) := upd_same
  generalize upd H4 p5 (HO.lst (([.bl false, .bl false, .bl false, .bl false] ++ [.bl false, .bl true, .bl false]) ++ [.bl false, .bl false, .bl false])) = H5 at g5 h5 ⊢
  have g05 := (((g1.trans g2).trans g3).trans g4).trans g5
  clear g1 g2 g3 g4 g5 h1 h2 h3 h4
  have h5 : H5 p5 = some (.lst [.bl false, .bl false, .bl false, .bl false, .bl false, .bl true, .bl false, .bl false, .bl false, .bl false]) := h5
  refine ⟨_, rfl, .inl ⟨rfl, _, .inl (.inl h5)⟩, _, _, _, rfl, rfl, .inl (.inl h5), rfl, rfl, rfl, false, rfl, iteF ?_⟩
  refine isE_ty rfl KD.ve ⟨true, rfl, iteF ?_⟩
  refine ⟨few (by decide), fun p6 hp6 => ?_⟩
  have g6 : Gr0 F H5 F (upd H5 p6 (.lst [.str "BadBell", .str "BadDevice", .str "BadHears", .str "BadMoment", .str "BadNotices", .str "BadPerson", .str "BadRules", .str "BadText"])) := .fresh g05.sub hp6
  have h6 : upd H5 p6 (HO.lst [.str "BadBell", .str "BadDevice", .str "BadHears", .str "BadMoment", .str "BadNotices", .str "BadPerson", .str "BadRules", .str "BadText"]) p6 = some (.lst [.str "BadBell", .str "BadDevice", .str "BadHears", .str "BadMoment", .str "BadNotices", .str "BadPerson", .str "BadRules", .str "BadText"]) := upd_same
  generalize upd H5 p6 (HO.lst [.str "BadBell", .str "BadDevice", .str "BadHears", .str "BadMoment", .str "BadNotices", .str "BadPerson", .str "BadRules", .str "BadText"]) = H6 at g6 h6 ⊢
  refine ⟨_, rfl, few (by decide), fun p7 hp7 => ?_⟩
  have g7 : Gr0 F H6 F (upd H6 p7 (.lst [.str "IsOff", .str "NotRinging"])) := .fresh g6.sub hp7
  have h7 : upd H6 p7 (HO.lst [.str "IsOff", .str "NotRinging"]) p7 = some (.lst [.str "IsOff", .str "NotRinging"]) := upd_same
  generalize upd H6 p7 (HO.lst [.str "IsOff", .str "NotRinging"]) = H7 at g7 h7 ⊢
  refine ⟨_, _, _, _, rfl, rfl, g7.all _ _ h6, h7, few (by decide), fun p8 hp8 => ?_⟩
  have g8 : Gr0 F H7 F (upd H7 p8 (.lst ([.str "BadBell", .str "BadDevice", .str "BadHears", .str "BadMoment", .str "BadNotices", .str "BadPerson", .str "BadRules", .str "BadText"] ++ [.str "IsOff", .str "NotRinging"]))) := .fresh g7.sub hp8
  have h8 : upd H7 p8 (HO.lst ([.str "BadBell", .str "BadDevice", .str "BadHears", .str "BadMoment", .str "BadNotices", .str "BadPerson", .str "BadRules", .str "BadText"] ++ [.str "IsOff", .str "NotRinging"])) p8 = some (.lst ([.str "BadBell", .str "BadDevice", .str "BadHears", .str "BadMoment", .str "BadNotices", .str "BadPerson", .str "BadRules", .str "BadText"] ++ [.str "IsOff", .str "NotRinging"])) := upd_same
  generalize upd H7 p8 (HO.lst ([.str "BadBell", .str "BadDevice", .str "BadHears", .str "BadMoment", .str "BadNotices", .str "BadPerson", .str "BadRules", .str "BadText"] ++ [.str "IsOff", .str "NotRinging"])) = H8 at g8 h8 ⊢
  have g58 := (g6.trans g7).trans g8
  have h5' := g58.all _ _ h5
  refine ⟨_, rfl, .inl ⟨rfl, _, .inl (.inl h5')⟩, p5, _, .bl true, 5, .bl true, rfl, rfl, .inl (.inl h5'), rfl, rfl, rfl, rfl, fun m z' hm hz => ?_, _, _, _, _, rfl, rfl, .inl (.inl h8), atI_nat (j := 5) rfl, ?_⟩
  · have hm2 : m = 0 ∨ m = 1 ∨ m = 2 ∨ m = 3 ∨ m = 4 := by omega
    rcases hm2 with rfl | rfl | rfl | rfl | rfl <;> cases hz <;> rfl
  refine ⟨_, rfl, rfl, false, rfl, iteF ?_⟩
  refine ⟨_, rfl, rfl, false, rfl, iteF ?_⟩
  refine ⟨_, rfl, _, rfl, few (by decide), fun p9 hp9 => ?_⟩
  have g9 : Gr0 F H8 F (upd H8 p9 (.tup [.str "BadNotices", .str "BadHears"])) := .fresh g8.sub hp9
  have h9 : upd H8 p9 (HO.tup [.str "BadNotices", .str "BadHears"]) p9 = some (.tup [.str "BadNotices", .str "BadHears"]) := upd_same
  generalize upd H8 p9 (HO.tup [.str "BadNotices", .str "BadHears"]) = H9 at g9 h9 ⊢
  refine ⟨_, _, rfl, .inr (.inl (.inl h9)), rfl, rfl, false, rfl, iteF ?_⟩
  refine ⟨few (by decide), fun p10 hp10 => ?_⟩
  exact q _ _ _ (((g05.trans g58).trans g9).trans (.new g9.sub hp10)) (.tup (.inl (.inl upd_same)) (.cons (.str _) (.cons (.int _) .nil)))
def spTold_BadPerson (P : Program) (w : World) (K : PySem.W.Frag) (mg : Str → Option Value) (base : Heap) : Sp := fun vs H Q _ => ∃ (F : Hp) (f : Addr), vs = [.ref f] ∧ Sub F H ∧ ActX P w K mg base 8 F H f (He.ga K "BadPerson") ∧ ∀ v F' H', Gr0 F H F' H' → Dp K F' v (.tuple [.str "BadPerson", .int 0]) → Q v H'
theorem ok_law_told_BadPerson (T : Tx K mg) (KD : Kd_BadPerson K) (zV : mg "ValueError" = none) : FnOk P w K mg base CX0 9 (He.ga K "_law_told") T.fd__law_told ["_law_work"] (spTold_BadPerson P w K mg base) := by
  refine fn_raw T.F__law_told sc_law_told (fun vs H Q E h => ?_) (fun cdv A outer s H vs Q E hr h => ?_)
  · obtain ⟨F, f, rfl, _⟩ := h
    rfl
  obtain ⟨F, f, rfl, sb, act, q⟩ := h
  obtain ⟨ts, h1, h2⟩ := told_suite_BadPerson (P := P) (w := w) (base := base) T KD zV (x := "_law_told") (f := He.ga K "_law_told") (cdv := cdv) (A := A) (outer := outer) (s := s) (H0 := H) (E := E)
  refine ⟨_, pss_one (ps_try_as (i := 1) (c := .ref (He.ga K "NoticeError")) (tb := fun W => tRet (tWork P w K mg base 8 0 W)) (ts := fun a cls d D σ H => cls = .ref (He.ga K "BadPerson") ∧ d = none ∧ ts a D σ H) rfl rfl sc_law_told.nd rfl rfl ⟨(by rfl), (by decide), .inl T.g_NoticeError⟩ LamX.takes0
    (fun W pn xe tk _ => pss_one (ps_ret (pe_work tk hr (Nat.le_refl _) rfl (.inl rfl)))) (fun a oe cls d pn hz hf => ⟨fun pins s σ H D I h => ?_⟩)), ?_⟩
  · obtain ⟨rfl, rfl, h⟩ := h
    exact (h1 a oe pn hz hf).run pins s σ H D I h
  · refine ⟨F, f, _, rfl, act, sb, fun F2 H2 g => ⟨true, KD.exm, fun _ a ha => ⟨rfl, rfl, h2 a _ _ F2 H2 g.sub fun v' F' H' g' dv => q v' F' H' (g.trans g') dv⟩, fun z => by cases z⟩⟩
theorem told_suite_BadMoment (T : Tx K mg) (KD : Kd_BadMoment K) (zV : mg "ValueError" = none) {x : Str} {f : Addr} {cdv : Value} {A : Around} {outer : List Env} {s : Shared} {H0 : Hp} {E : XK} :
    ∃ ts : Addr → TS, (∀ (a : Addr) (oe : Obj) (pn : List (Addr × Obj)), Zc (.ref (He.ga K "BadMoment")) none oe → (∃ vs, oe.data = .fields vs) → PSs ((cxOf CX0 P w K mg base ["_law_work", "e", "_law_kinds", "_law_words", "_law_word"] x (defScope s_law_told) f cdv A outer s H0 E).nox.suite a ((a, oe) :: pn)) told_body (ts a)) ∧
      ∀ (a : Addr) (D : Ends) (v : Option V) (F H : Hp), Sub F H → (∀ v' F' H', Gr0 F H F' H' → Dp K F' v' (.tuple [.str "BadMoment", .int 0]) → D.rt v' H') → ts a D [v, some (.ref a), none, none, none] H := by
  refine ⟨_, fun a oe pn hz hf => (pss_cons (ps_set (i := 2) sc_law_told.nd rfl (.inl rfl) (pe_lst (pa_cons (pe_callB (r := rIsE K (He.ga K "BadMoment") a) (call_isE KD.ec hz hf) (by rfl) T.z_isinstance (by decide +kernel) (pa_cons (pv 1) (pa_cons (pe_glob (v := .ref (He.ga K "BadBell")) (by rfl) T.g_BadBell rfl) pa_nil))) (pa_cons (pe_callB (r := rIsE K (He.ga K "BadMoment") a) (call_isE KD.ec hz hf) (by rfl) T.z_isinstance (by decide +kernel) (pa_cons (pv 1) (pa_cons (pe_glob (v := .ref (He.ga K "BadDevice")) (by rfl) T.g_BadDevice rfl) pa_nil))) (pa_cons (pe_callB (r := rIsE K (He.ga K "BadMoment") a) (call_isE KD.ec hz hf) (by rfl) T.z_isinstance (by decide +kernel) (pa_cons (pv 1) (pa_cons (pe_glob (v := .ref (He.ga K "BadHears")) (by rfl) T.g_BadHears rfl) pa_nil))) (pa_cons (pe_callB (r := rIsE K (He.ga K "BadMoment") a) (call_isE KD.ec hz hf) (by rfl) T.z_isinstance (by decide +kernel) (pa_cons (pv 1) (pa_cons (pe_glob (v := .ref (He.ga K "BadMoment")) (by rfl) T.g_BadMoment rfl) pa_nil))) pa_nil))))))
      (pss_cons (ps_set (i := 2) sc_law_told.nd rfl (.inl rfl) (pe_op op_cat (pv 2) (pe_lst (pa_cons (pe_callB (r := rIsE K (He.ga K "BadMoment") a) (call_isE KD.ec hz hf) (by rfl) T.z_isinstance (by decide +kernel) (pa_cons (pv 1) (pa_cons (pe_glob (v := .ref (He.ga K "BadNotices")) (by rfl) T.g_BadNotices rfl) pa_nil))) (pa_cons (pe_callB (r := rIsE K (He.ga K "BadMoment") a) (call_isE KD.ec hz hf) (by rfl) T.z_isinstance (by decide +kernel) (pa_cons (pv 1) (pa_cons (pe_glob (v := .ref (He.ga K "BadPerson")) (by rfl) T.g_BadPerson rfl) pa_nil))) (pa_cons (pe_callB (r := rIsE K (He.ga K "BadMoment") a) (call_isE KD.ec hz hf) (by rfl) T.z_isinstance (by decide +kernel) (pa_cons (pv 1) (pa_cons (pe_glob (v := .ref (He.ga K "BadRules")) (by rfl) T.g_BadRules rfl) pa_nil))) pa_nil))))))
      (pss_cons (ps_set (i := 2) sc_law_told.nd rfl (.inl rfl) (pe_op op_cat (pv 2) (pe_lst (pa_cons (pe_callB (r := rIsE K (He.ga K "BadMoment") a) (call_isE KD.ec hz hf) (by rfl) T.z_isinstance (by decide +kernel) (pa_cons (pv 1) (pa_cons (pe_glob (v := .ref (He.ga K "BadText")) (by rfl) T.g_BadText rfl) pa_nil))) (pa_cons (pe_callB (r := rIsE K (He.ga K "BadMoment") a) (call_isE KD.ec hz hf) (by rfl) T.z_isinstance (by decide +kernel) (pa_cons (pv 1) (pa_cons (pe_glob (v := .ref (He.ga K "IsOff")) (by rfl) T.g_IsOff rfl) pa_nil))) (pa_cons (pe_callB (r := rIsE K (He.ga K "BadMoment") a) (call_isE KD.ec hz hf) (by rfl) T.z_isinstance (by decide +kernel) (pa_cons (pv 1) (pa_cons (pe_glob (v := .ref (He.ga K "NotRinging")) (by rfl) T.g_NotRinging rfl) pa_nil))) pa_nil))))))
      (pss_cons (ps_if (PW.pt (pw_or (pt_cmpR op_ne (pe_bmK (r := rCntF K) K PySem.F.plainAttrs_list PySem.F.slot_list_count PySem.F.type_list_count mt_countF (pv 2) (pa_cons pe_bl pa_nil)) pe_int (nomark _)) (pw_or1 (pt_not (pt_val (pe_callB (r := rIsE K (He.ga K "BadMoment") a) (call_isE KD.ec hz hf) (by rfl) T.z_isinstance (by decide +kernel) (pa_cons (pv 1) (pa_cons (pe_bltn (v := .ty "ValueError") (by rfl) zV (by decide +kernel) rfl) pa_nil)))))))) (pss_one ps_never) pss_nil)
      (pss_cons (ps_set (i := 3) sc_law_told.nd rfl (.inl rfl) (pe_lst (pa_cons pe_str (pa_cons pe_str (pa_cons pe_str (pa_cons pe_str (pa_cons pe_str (pa_cons pe_str (pa_cons pe_str (pa_cons pe_str pa_nil))))))))))
      (pss_cons (ps_set (i := 4) sc_law_told.nd rfl (.inl rfl) (pe_ix (r := rIxL K) ix_list (pe_op op_cat (pv 3) (pe_lst (pa_cons pe_str (pa_cons pe_str pa_nil)))) (pe_bmK (r := rIndex K) K PySem.F.plainAttrs_list PySem.F.slot_list_index PySem.F.type_list_index mt_index (pv 2) (pa_cons pe_bl pa_nil)) (fun _ _ => rfl)))
      (pss_cons (ps_if (pt_cmpR op_eq (pv 4) pe_str (nomark _)) (pss_one ps_never) pss_nil)
      (pss_cons (ps_if (pt_cmpR op_eq (pv 4) pe_str (nomark _)) (pss_one ps_never) pss_nil)
      (pss_one (ps_ret (pe_tup (pa_cons (pv 4) (pa_cons (pe_ifExp (pt_cmpR (r := rIn K false) op_in_seq (pv 4) (pe_tup (pa_cons pe_str (pa_cons pe_str pa_nil))) (by with_unfolding_all rfl)) pe_neverE pe_int) pa_nil))))))))))))), fun a D v F H sb q => ?_⟩
  try (set_option simprocs false in dsimp only [cxOf, Cx.nox, Cx.wish])
  refine isE_rd rfl KD.k_BadBell (isE_rd rfl KD.k_BadDevice (isE_rd rfl KD.k_BadHears (isE_rd rfl KD.k_BadMoment ⟨few (by decide), fun p1 hp1 => ?_⟩)))
  have g1 : Gr0 F H F (upd H p1 (.lst [.bl false, .bl false, .bl false, .bl true])) := .fresh sb hp1
  have h1 : upd H p1 (HO.lst [.bl false, .bl false, .bl false, .bl true]) p1 = some (.lst [.bl false, .bl false, .bl false, .bl true]) := upd_same
  generalize upd H p1 (HO.lst [.bl false, .bl false, .bl false, .bl true]) = H1 at g1 h1 ⊢
  refine ⟨_, rfl, isE_rd rfl KD.k_BadNotices (isE_rd rfl KD.k_BadPerson (isE_rd rfl KD.k_BadRules ⟨few (by decide), fun p2 hp2 => ?_⟩))⟩
  have g2 : Gr0 F H1 F (upd H1 p2 (.lst [.bl false, .bl false, .bl false])) := .fresh g1.sub hp2
  have h2 : upd H1 p2 (HO.lst [.bl false, .bl false, .bl false]) p2 = some (.lst [.bl false, .bl false, .bl false]) := upd_same
  generalize upd H1 p2 (HO.lst [.bl false, .bl false, .bl false]) = H2 at g2 h2 ⊢
  refine ⟨_, _, _, _, rfl, rfl, g2.all _ _ h1, h2, few (by decide), fun p3 hp3 => ?_⟩
  have g3 : Gr0 F H2 F (upd H2 p3 (.lst ([.bl false, .bl false, .bl false, .bl true] ++ [.bl false, .bl false, .bl false]))) := .fresh g2.sub hp3
  have h3 : upd H2 p3 (HO.lst ([.bl false, .bl false, .bl false, .bl true] ++ [.bl false, .bl false, .bl false])) p3 = some (.lst ([.bl false, .bl false, .bl false, .bl true] ++ [.bl false, .bl false, .bl false])) := upd_same
  generalize upd H2 p3 (HO.lst ([.bl false, .bl false, .bl false, .bl true] ++ [.bl false, .bl false, .bl false])) = H3 at g3 h3 ⊢
  refine ⟨_, rfl, isE_rd rfl KD.k_BadText (isE_rd rfl KD.k_IsOff (isE_rd rfl KD.k_NotRinging ⟨few (by decide), fun p4 hp4 => ?_⟩))⟩
  have g4 : Gr0 F H3 F (upd H3 p4 (.lst [.bl false, .bl false, .bl false])) := .fresh g3.sub hp4
  have h4 : upd H3 p4 (HO.lst [.bl false, .bl false, .bl false]) p4 = some (.lst [.bl false, .bl false, .bl false]) := upd_same
  generalize upd H3 p4 (HO.lst [.bl false, .bl false, .bl false]) = H4 at g4 h4 ⊢
  refine ⟨_, _, _, _, rfl, rfl, g4.all _ _ h3, h4, few (by decide), fun p5 hp5 => ?_⟩
  have g5 : Gr0 F H4 F (upd H4 p5 (.lst (([.bl false, .bl false, .bl false, .bl true] ++ [.bl false, .bl false, .bl false]) ++ [.bl false, .bl false, .bl false]))) := .fresh g4.sub hp5
  have h5 : upd H4 p5 (HO.lst (([.bl false, .bl false, .bl false, .bl true] ++ [.bl false, .bl false, .bl false]) ++ [.bl false, .bl false, .bl false])) p5 = some (.lst (([.bl false, .bl false, .bl false, .bl true] ++ [.bl false, .bl false, .bl false]) ++ [.bl false, .bl false, .bl false])) := upd_same
  generalize upd H4 p5 (HO.lst (([.bl false, .bl false, .bl false, .bl true] ++ [.bl false, .bl false, .bl false]) ++ [.bl false, .bl false, .bl false])) = H5 at g5 h5 ⊢
  have g05 := (((g1.trans g2).trans g3).trans g4).trans g5
  clear g1 g2 g3 g4 g5 h1 h2 h3 h4
  have h5 : H5 p5 = some (.lst [.bl false, .bl false, .bl false, .bl true, .bl false, .bl false, .bl false, .bl false, .bl false, .bl false]) := h5
  refine ⟨_, rfl, .inl ⟨rfl, _, .inl (.inl h5)⟩, _, _, _, rfl, rfl, .inl (.inl h5), rfl, rfl, rfl, false, rfl, iteF ?_⟩
  refine isE_ty rfl KD.ve ⟨true, rfl, iteF ?_⟩
  refine ⟨few (by decide), fun p6 hp6 => ?_⟩
  have g6 : Gr0 F H5 F (upd H5 p6 (.lst [.str "BadBell", .str "BadDevice", .str "BadHears", .str "BadMoment", .str "BadNotices", .str "BadPerson", .str "BadRules", .str "BadText"])) := .fresh g05.sub hp6
  have h6 : upd H5 p6 (HO.lst [.str "BadBell", .str "BadDevice", .str "BadHears", .str "BadMoment", .str "BadNotices", .str "BadPerson", .str "BadRules", .str "BadText"]) p6 = some (.lst [.str "BadBell", .str "BadDevice", .str "BadHears", .str "BadMoment", .str "BadNotices", .str "BadPerson", .str "BadRules", .str "BadText"]) := upd_same
  generalize upd H5 p6 (HO.lst [.str "BadBell", .str "BadDevice", .str "BadHears", .str "BadMoment", .str "BadNotices", .str "BadPerson", .str "BadRules", .str "BadText"]) = H6 at g6 h6 ⊢
  refine ⟨_, rfl, few (by decide), fun p7 hp7 => ?_⟩
  have g7 : Gr0 F H6 F (upd H6 p7 (.lst [.str "IsOff", .str "NotRinging"])) := .fresh g6.sub hp7
  have h7 : upd H6 p7 (HO.lst [.str "IsOff", .str "NotRinging"]) p7 = some (.lst [.str "IsOff", .str "NotRinging"]) := upd_same
  generalize upd H6 p7 (HO.lst [.str "IsOff", .str "NotRinging"]) = H7 at g7 h7 ⊢
  refine ⟨_, _, _, _, rfl, rfl, g7.all _ _ h6, h7, few (by decide), fun p8 hp8 => ?_⟩
  have g8 : Gr0 F H7 F (upd H7 p8 (.lst ([.str "BadBell", .str "BadDevice", .str "BadHears", .str "BadMoment", .str "BadNotices", .str "BadPerson", .str "BadRules", .str "BadText"] ++ [.str "IsOff", .str "NotRinging"]))) := .fresh g7.sub hp8
  have h8 : upd H7 p8 (HO.lst ([.str "BadBell", .str "BadDevice", .str "BadHears", .str "BadMoment", .str "BadNotices", .str "BadPerson", .str "BadRules", .str "BadText"] ++ [.str "IsOff", .str "NotRinging"])) p8 = some (.lst ([.str "BadBell", .str "BadDevice", .str "BadHears", .str "BadMoment", .str "BadNotices", .str "BadPerson", .str "BadRules", .str "BadText"] ++ [.str "IsOff", .str "NotRinging"])) := upd_same
  generalize upd H7 p8 (HO.lst ([.str "BadBell", .str "BadDevice", .str "BadHears", .str "BadMoment", .str "BadNotices", .str "BadPerson", .str "BadRules", .str "BadText"] ++ [.str "IsOff", .str "NotRinging"])) = H8 at g8 h8 ⊢
  have g58 := (g6.trans g7).trans g8
  have h5' := g58.all _ _ h5
  refine ⟨_, rfl, .inl ⟨rfl, _, .inl (.inl h5')⟩, p5, _, .bl true, 3, .bl true, rfl, rfl, .inl (.inl h5'), rfl, rfl, rfl, rfl, fun m z' hm hz => ?_, _, _, _, _, rfl, rfl, .inl (.inl h8), atI_nat (j := 3) rfl, ?_⟩
  · have hm2 : m = 0 ∨ m = 1 ∨ m = 2 := by omega
    rcases hm2 with rfl | rfl | rfl <;> cases hz <;> rfl
  refine ⟨_, rfl, rfl, false, rfl, iteF ?_⟩
  refine ⟨_, rfl, rfl, false, rfl, iteF ?_⟩
  refine ⟨_, rfl, _, rfl, few (by decide), fun p9 hp9 => ?_⟩
  have g9 : Gr0 F H8 F (upd H8 p9 (.tup [.str "BadNotices", .str "BadHears"])) := .fresh g8.sub hp9
  have h9 : upd H8 p9 (HO.tup [.str "BadNotices", .str "BadHears"]) p9 = some (.tup [.str "BadNotices", .str "BadHears"]) := upd_same
  generalize upd H8 p9 (HO.tup [.str "BadNotices", .str "BadHears"]) = H9 at g9 h9 ⊢
  refine ⟨_, _, rfl, .inr (.inl (.inl h9)), rfl, rfl, false, rfl, iteF ?_⟩
  refine ⟨few (by decide), fun p10 hp10 => ?_⟩
  exact q _ _ _ (((g05.trans g58).trans g9).trans (.new g9.sub hp10)) (.tup (.inl (.inl upd_same)) (.cons (.str _) (.cons (.int _) .nil)))
def spTold_BadMoment (P : Program) (w : World) (K : PySem.W.Frag) (mg : Str → Option Value) (base : Heap) : Sp := fun vs H Q _ => ∃ (F : Hp) (f : Addr), vs = [.ref f] ∧ Sub F H ∧ ActX P w K mg base 8 F H f (He.ga K "BadMoment") ∧ ∀ v F' H', Gr0 F H F' H' → Dp K F' v (.tuple [.str "BadMoment", .int 0]) → Q v H'
theorem ok_law_told_BadMoment (T : Tx K mg) (KD : Kd_BadMoment K) (zV : mg "ValueError" = none) : FnOk P w K mg base CX0 9 (He.ga K "_law_told") T.fd__law_told ["_law_work"] (spTold_BadMoment P w K mg base) := by
  refine fn_raw T.F__law_told sc_law_told (fun vs H Q E h => ?_) (fun cdv A outer s H vs Q E hr h => ?_)
  · obtain ⟨F, f, rfl, _⟩ := h
    rfl
  obtain ⟨F, f, rfl, sb, act, q⟩ := h
  obtain ⟨ts, h1, h2⟩ := told_suite_BadMoment (P := P) (w := w) (base := base) T KD zV (x := "_law_told") (f := He.ga K "_law_told") (cdv := cdv) (A := A) (outer := outer) (s := s) (H0 := H) (E := E)
  refine ⟨_, pss_one (ps_try_as (i := 1) (c := .ref (He.ga K "NoticeError")) (tb := fun W => tRet (tWork P w K mg base 8 0 W)) (ts := fun a cls d D σ H => cls = .ref (He.ga K "BadMoment") ∧ d = none ∧ ts a D σ H) rfl rfl sc_law_told.nd rfl rfl ⟨(by rfl), (by decide), .inl T.g_NoticeError⟩ LamX.takes0
    (fun W pn xe tk _ => pss_one (ps_ret (pe_work tk hr (Nat.le_refl _) rfl (.inl rfl)))) (fun a oe cls d pn hz hf => ⟨fun pins s σ H D I h => ?_⟩)), ?_⟩
  · obtain ⟨rfl, rfl, h⟩ := h
    exact (h1 a oe pn hz hf).run pins s σ H D I h
  · refine ⟨F, f, _, rfl, act, sb, fun F2 H2 g => ⟨true, KD.exm, fun _ a ha => ⟨rfl, rfl, h2 a _ _ F2 H2 g.sub fun v' F' H' g' dv => q v' F' H' (g.trans g') dv⟩, fun z => by cases z⟩⟩
end
end Hn

set_option Elab.async false
set_option linter.all false
set_option maxRecDepth 100000
set_option maxHeartbeats 4000000
/-! A frame's cells put under the ground for the time of a call: what is called may rest on what they hold. -/
namespace Lm
open PySem PySem.Spec PyProof.Rows L2 LamX NdefX Dl
/-- the ground knows the captured cells -/
structure CellsB (base : Heap) (cl : List (Str × Addr)) (fr : List Str) (ws : List (Option V)) : Prop where
  len : ws.length = fr.length
  all : ∀ y c, cl.lookup y = some c → ∃ v, base.IsCell c v
  inj : ∀ x y c, cl.lookup x = some c → cl.lookup y = some c → x = y
  has : ∀ (i : Nat) (y : Str), fr[i]? = some y → ∃ c, cl.lookup y = some c ∧ ∀ v, ws[i]? = some (some v) → ∃ u, L2.RelV v u ∧ base.IsCell c (some u)
theorem CellsB.at {base : Heap} {cl : List (Str × Addr)} {fr : List Str} {ws : List (Option V)} (C : CellsB base cl fr ws) {h : Heap} {H : Hp} (bs : ∀ b o, base.get? b = some o → h.get? b = some o ∧ H b = none) : CellsAt cl fr ws h H := by
  have up : ∀ {c : Addr} {v : Option Value}, base.IsCell c v → h.IsCell c v ∧ H c = none := fun ⟨o, e, d⟩ => ⟨⟨o, (bs _ _ e).1, d⟩, (bs _ _ e).2⟩
  refine ⟨C.len, fun y c e => ?_, C.inj, fun i y e => ?_⟩
  · obtain ⟨v, z⟩ := C.all y c e
    exact ⟨(up z).2, v, (up z).1⟩
  · obtain ⟨c, hc, hv⟩ := C.has i y e
    refine ⟨c, hc, fun v hw => ?_⟩
    obtain ⟨u, r, z⟩ := hv v hw
    exact ⟨u, r, (up z).1⟩
/-- some objects of a heap, no other -/
theorem part (h : Heap) (p : Addr → Bool) : ∃ G : Heap, (∀ b o, h.get? b = some o → p b = true → G.get? b = some o) ∧ (∀ b o, G.get? b = some o → h.get? b = some o ∧ p b = true) ∧ G.objs.size = h.objs.size := by
  have hm : ∀ b, b ∈ (List.range h.objs.size).filter (fun b => !p b) ↔ b < h.objs.size ∧ p b = false := fun b => by
    rw [List.mem_filter, List.mem_range]
    simp
  refine ⟨PySem.W.hideAll h ((List.range h.objs.size).filter fun b => !p b), fun b o e hp => PySem.W.hideAll_get _ e fun z => ?_, fun b o e => ?_, PySem.W.hideAll_size _ _⟩
  · have q := ((hm b).mp z).2
    rw [hp] at q
    cases q
  · have e2 := PySem.W.of_hideAll _ e
    refine ⟨e2, ?_⟩
    cases q : p b with
    | true => rfl
    | false =>
      have n := PySem.W.hideAll_none (h := h) _ ((hm b).mpr ⟨Heap.lt_size e2, q⟩)
      rw [e] at n
      cases n
theorem frames_up {h base base' : Heap} : ∀ {l : List Env}, h.FunFrames base l → (∀ L ∈ frs l, base'.get? L = none) → h.FunFrames base' l
  | [], _, _ => trivial
  | env :: r, ⟨hk, ⟨L, o, hf, _, ho, hd⟩, hr⟩, q => by
    have hm : L ∈ frs (env :: r) := List.mem_filterMap.mpr ⟨env, List.mem_cons_self, hf⟩
    refine ⟨hk, ⟨L, o, hf, q L hm, ho, hd⟩, frames_up hr fun L2 h2 => q L2 ?_⟩
    obtain ⟨e2, m2, f2⟩ := List.mem_filterMap.mp h2
    exact List.mem_filterMap.mpr ⟨e2, List.mem_cons_of_mem _ m2, f2⟩
section
variable {X : Cx} {pins : List (Addr × Obj)} {σ : L2.St} {H : Hp} {s : Shared}
theorem base_up (I : Inv X pins σ H s) (hfn : ∀ x, X.fn x = true) (hst : X.stack = X.env :: X.outer) (hfr : X.env.frame = some X.env.locals) :
    ∃ base', Env0 X.prog X.w X.K X.mg base' X.A X.stack s H ∧ ∀ cl fr js, Caps X cl fr js → CellsB base' cl fr (js.map (slotAt σ)) := by
  obtain ⟨G, g1, g2, g3⟩ := part s.heap fun b => (X.base.get? b).isSome || X.env.cells.any fun q => decide (X.env.cells.lookup q.1 = some b)
  have up : ∀ b o, X.base.get? b = some o → G.get? b = some o := fun b o e => g1 b o (I.bk b o e) (by rw [e]; rfl)
  have cellHere : ∀ (y : Str) (c : Addr), X.env.cells.lookup y = some c → ∀ v, s.heap.IsCell c v → G.IsCell c v := fun y c e v ⟨o, ho, hd⟩ => ⟨o, g1 c o ho (by
    rw [Bool.or_eq_true]
    exact .inr (List.any_eq_true.mpr ⟨(y, c), PySem.mem_of_lookup e, decide_eq_true e⟩)), hd⟩
  have known : ∀ b o, G.get? b = some o → (∃ o', X.base.get? b = some o') ∨ ∃ y, X.env.cells.lookup y = some b := fun b o e => by
    have hp := (g2 b o e).2
    rw [Bool.or_eq_true] at hp
    rcases hp with hp | hp
    · exact .inl (Option.isSome_iff_exists.mp hp)
    · obtain ⟨q, _, hq⟩ := List.any_eq_true.mp hp
      exact .inr ⟨q.1, of_decide_eq_true hq⟩
  have M := I.mod
  obtain ⟨mb, hb1, hb2⟩ := M.blt
  refine ⟨G, ⟨I.ok.frames, ⟨M.kin.keeps up, M.glob.keeps up, ⟨mb, hb1.keeps up, hb2⟩, M.nolimit.keeps up⟩, fun b o e => ⟨(g2 b o e).1, ?_⟩, by rw [g3]; exact Nat.le_refl _, frames_up I.stack (fun L hL => ?_), I.stkFree, I.hok, I.bare⟩, fun cl fr js cp => ?_⟩
  · rcases known b o e with ⟨o', e'⟩ | ⟨y, e'⟩
    · exact (I.bs b o' e').2
    · exact I.freeC y b e'
  · cases q : G.get? L with
    | none => rfl
    | some o =>
      exfalso
      rcases known L o q with ⟨o', e'⟩ | ⟨y, e'⟩
      · have z := (I.stack.mem hL).1
        rw [e'] at z
        cases z
      · rw [hst] at hL
        obtain ⟨env, hm, hf⟩ := List.mem_filterMap.mp hL
        rcases List.mem_cons.mp hm with rfl | hm
        · rw [hfr] at hf
          cases hf
          obtain ⟨v, o1, h1, d1⟩ := I.cell y _ e'
          obtain ⟨m, ⟨o2, es, ep, h2, d2, _⟩, _⟩ := I.loc
          rw [h1] at h2
          cases h2
          rw [d1] at d2
          cases d2
        · have hL2 : L ∈ frs X.outer := List.mem_filterMap.mpr ⟨env, hm, hf⟩
          obtain ⟨_, o3, h3, _⟩ := I.ok.funs.mem hL2
          exact absurd (I.ok.cab y L (hfn y) e') (Nat.not_le.mpr (Heap.lt_size h3))
  · have C := cells_of I cp
    refine ⟨C.len, fun y c e => ?_, C.inj, fun i y e => ?_⟩
    · obtain ⟨_, v, z⟩ := C.all y c e
      exact ⟨v, cellHere y c (cp.sub y c e) v z⟩
    · obtain ⟨c, hc, hv⟩ := C.has i y e
      refine ⟨c, hc, fun v hw => ?_⟩
      obtain ⟨u, r, z⟩ := hv v hw
      exact ⟨u, r, cellHere y c (cp.sub y c hc) _ z⟩
/-- f(..), what is called may rest on the frame's cells -/
def tCallB (X : Cx) (sp : Heap → Sp) (t : TA) : TE := fun σ H Q => t σ H fun vs H1 => ∀ base', X.Ok → (∀ cl fr js, Caps X cl fr js → CellsB base' cl fr (js.map (slotAt σ))) → sp base' vs H1 Q E0
theorem pe_callBase {x : Str} {f : Addr} {fd : FuncData} {ps : List Str} {k : Nat} {sp : Heap → Sp} {e : Expr} {es : List Expr} {t : TA} {p pos : Pos} (F : ∀ base', FnOk X.prog X.w X.K X.mg base' CX0 k f fd ps (sp base')) (hr : Room k X.A) (hg : Gl X x) (hm : X.mg x = some (.ref f)) (hk : PySem.W.keepIn X.K (.ref f) = true) (hb : Binds X.K fd ps [])
    (ha : PA X (e :: es) t) (hfn : ∀ x, X.fn x = true) (hst : X.stack = X.env :: X.outer) (hfr : X.env.frame = some X.env.locals) (hdb : (x == ("__debug__" : Str)) = false := by decide) (he : starEach (e :: es) X.env = (false, eval e X.env) :: starEach es X.env := by rfl) (hpl : (backTo pos (starEach es X.env)).any (·.1) = false := by rfl) :
    PE X (.Call (.Name x p) (e :: es) [] pos) (tCallB X sp t) := by
  refine ⟨fun pins s σ H Q I h => ?_⟩
  refine wpAny_Call_Name_kw (ld_glob I hg hm ?_ hdb)
  refine PySem.W.callWith_K (h₀ := X.base) I.ok.mod.kin hk (thn (ha.run pos pins s σ H _ I h) fun us s1 ⟨vs, H1, I1, r, q⟩ => ⟨I1.kIn, ?_⟩) he hpl
  obtain ⟨G, e0, hC⟩ := base_up I1 hfn hst hfr
  have hsp := q G I1.ok hC
  have hl : us.length = ps.length := by rw [← r.length]; exact (F G).len _ _ _ _ hsp
  have hbd : BindsTo s1 fd ⟨us, []⟩ (ps.zip us) := by
    have z := hb s1 us I1.kIn (by rw [List.append_nil]; exact hl)
    rw [List.append_nil] at z
    exact z
  show wpAny _ _ (call (.ref f) us) _ _ _
  refine wpAny_call (codeAny_mono ((F G).run X.A X.stack s1 H1 ⟨us, []⟩ us vs Q E0 hr e0 hbd r hsp) fun r s' hq => ?_)
  cases r with
  | error e => exact (show False from hq).elim
  | ok fl =>
    cases fl with
    | ret u => exact I1.after hq
    | next => exact False.elim hq
    | brk => exact False.elim hq
    | cont => exact False.elim hq
end
/-! ### a lambda that raises -/
section
variable {P : Program} {w : World} {K : PySem.W.Frag} {mg : Str → Option Value} {base : Heap}
theorem actX_of {k : Nat} {F H : Hp} {f C : Addr} {N : NF} {e : Expr} {dV : Value} {fr : List Str} {ws : List (Option V)} {Z : Hp → Prop} {sp : Hp → VK → XK → Prop} (lok : LOk (L2.CX P w) P w K mg base k f N e dV fr ws Z sp) (CB : CellsB base N.cl fr ws)
    (hf : H f = some (LamO f N e dV)) (hc : H N.c = some (CodeO N.c N.qual)) (hZ : ∀ H1, Sub H H1 → Z H1) (hsp : ∀ F1 H1 Q E, Gr0 F H F1 H1 → (∀ F2 H2, Gr0 F1 H1 F2 H2 → E (.ref C) none H2) → sp H1 Q E) : ActX P w K mg base k F H f C :=
  ⟨⟨N, e, dV, hf⟩, fun A outer s F1 H1 Q E hr e0 g hE => lok A outer s H1 Q E hr e0 (g.all _ _ hf) (g.all _ _ hc) (hZ H1 g.all) (CB.at e0.bs) (hsp F1 H1 Q E g hE)⟩
end
end Lm

set_option Elab.async false
set_option linter.all false
set_option maxRecDepth 100000
set_option maxHeartbeats 8000000
namespace Hn
open PySem PySem.Spec PyProof.Rows L2 Dl Lm
section
variable {P : Program} {w : World} {K : PySem.W.Frag} {mg : Str → Option Value} {base : Heap}
def spAll_BadPerson (P : Program) (w : World) (K : PySem.W.Frag) (mg : Str → Option Value) (base : Heap) : Sp := fun vs H Q _ => ∃ (F : Hp) (l : Addr) (fs : List Addr) (dv : V), vs = [.ref l, dv] ∧ Sub F H ∧ H l = some (.lst (fs.map V.ref)) ∧ (∀ f ∈ fs, ActX P w K mg base 8 F H f (He.ga K "BadPerson")) ∧ Dp K F dv (.tuple [.str "BadPerson", .int 0]) ∧ ∀ F' H', Gr0 F H F' H' → Q (.bl true) H'
theorem ok_law_all_BadPerson (T : Tx K mg) (KD : Kd_BadPerson K) (zV : mg "ValueError" = none) : FnOk P w K mg base CX0 10 (He.ga K "_law_all") T.fd__law_all ["_law_works", "_law_due"] (spAll_BadPerson P w K mg base) := by
  have G_law_alike := ok_law_alike (P := P) (w := w) (base := base) T
  have b_law_alike := b_law_alike T
  have G_law_told := ok_law_told_BadPerson (P := P) (w := w) (base := base) T KD zV
  have b_law_told := b_law_told T
  refine fn_raw T.F__law_all sc_law_all (fun vs H Q E h => ?_) (fun cdv A outer s H vs Q E hr h => ?_)
  · obtain ⟨F, l, fs, dv, rfl, _⟩ := h
    rfl
  obtain ⟨F, l, fs, dv, rfl, sb, hl, act, du, q⟩ := h
  refine ⟨_, (pss_one (ps_ret (pe_cmpR (r := rEqD K) (op_eqD hr.units) (pe_lc (own := [("_law_work", 2)]) (by rfl) sc_law_all.nd (pi_listK K (pv 0)) (blkOk_by (own := [("_law_work", 2)]) (N := ["_law_works", "_law_due", "_law_work"]) (sc := (defScope s_law_all)) (by decide +kernel)) (fun _ _ _ _ _ => (pg_name (i := 2) sc_law_all.nd rfl (.inl rfl))) (fun _ _ _ _ _ => (pts_one (pt_not (pt_val (pe_call G_law_alike ((hr.mono (by decide))) (by rfl) T.g__law_alike T.k__law_alike b_law_alike .nil pass0 (pa_cons (pe_call G_law_told (hr) (by rfl) T.g__law_told T.k__law_told b_law_told .nil pass0 (pa_cons (pv 2) pa_nil)) (pa_cons (pv 1) pa_nil))))))) (fun _ _ _ _ _ => (pv 2))) (pe_lst pa_nil) (nomark _)))), ?_⟩
  try (set_option simprocs false in dsimp only [cxOf, Cx.nox, Cx.wish])
  refine ⟨_, rfl, _, rfl, ⟨fs.map V.ref, .inl (.inl hl)⟩, fun Dd hD => ?_⟩
  refine lc_list (xs := fs.map V.ref) (fun i Hi => ∃ Fi, Gr0 F H Fi Hi ∧ Fi Dd = none ∧ Hi Dd = some (.lst [])) ⟨F, .fresh sb hD, sb.gone hD, upd_same⟩ (fun i Hi _ hI => ?_) (fun i x Hi hx hI => ?_) (fun Hn hI => ?_)
  · obtain ⟨Fi, G, _, _⟩ := hI
    exact .inl (.inl (G.all _ _ hl))
  · obtain ⟨Fi, G, fD, hDi⟩ := hI
    rw [List.getElem?_map] at hx
    obtain ⟨f, hf, rfl⟩ := Option.map_eq_some_iff.mp hx
    have hm := List.mem_of_getElem? hf
    refine ⟨rfl, ?_⟩
    refine ⟨_, rfl, ⟨Fi, f, rfl, G.sub, (act f hm).later G, fun v F2 H2 g2 dv2 => ?_⟩⟩
    refine ⟨_, rfl, ⟨F2, .tuple [.str "BadPerson", .int 0], g2.sub, .cons dv2 (.cons (dp_sub ((G.trans g2).ext sb) du) .nil), .inr ⟨true, _, rfl, by simp, fun y hy => ?_⟩, fun v3 F3 H3 g3 dv3 => ?_⟩⟩
    · simp only [List.mem_cons, List.not_mem_nil, or_false] at hy
      rcases hy with rfl | rfl <;> rfl
    · cases dv3
      refine ⟨true, rfl, iteF ?_⟩
      have g := g2.trans g3
      exact ⟨F3, G.trans g, (g.old Dd _ hDi).trans fD, g.all _ _ hDi⟩
  · obtain ⟨Fn, G, fD, hDn⟩ := hI
    refine ⟨few (by decide), fun p hp => ?_⟩
    have g2 : Gr0 Fn Hn Fn (upd Hn p (.lst [])) := .fresh G.sub hp
    refine ⟨.list [], .list [], .lst (.inl (.inl (g2.all _ _ hDn))) .nil, .lst (.inl (.inl upd_same)) .nil, rfl, rfl, ?_⟩
    exact q _ _ (G.trans g2)
def spAll_BadMoment (P : Program) (w : World) (K : PySem.W.Frag) (mg : Str → Option Value) (base : Heap) : Sp := fun vs H Q _ => ∃ (F : Hp) (l : Addr) (fs : List Addr) (dv : V), vs = [.ref l, dv] ∧ Sub F H ∧ H l = some (.lst (fs.map V.ref)) ∧ (∀ f ∈ fs, ActX P w K mg base 8 F H f (He.ga K "BadMoment")) ∧ Dp K F dv (.tuple [.str "BadMoment", .int 0]) ∧ ∀ F' H', Gr0 F H F' H' → Q (.bl true) H'
theorem ok_law_all_BadMoment (T : Tx K mg) (KD : Kd_BadMoment K) (zV : mg "ValueError" = none) : FnOk P w K mg base CX0 10 (He.ga K "_law_all") T.fd__law_all ["_law_works", "_law_due"] (spAll_BadMoment P w K mg base) := by
  have G_law_alike := ok_law_alike (P := P) (w := w) (base := base) T
  have b_law_alike := b_law_alike T
  have G_law_told := ok_law_told_BadMoment (P := P) (w := w) (base := base) T KD zV
  have b_law_told := b_law_told T
  refine fn_raw T.F__law_all sc_law_all (fun vs H Q E h => ?_) (fun cdv A outer s H vs Q E hr h => ?_)
  · obtain ⟨F, l, fs, dv, rfl, _⟩ := h
    rfl
  obtain ⟨F, l, fs, dv, rfl, sb, hl, act, du, q⟩ := h
  refine ⟨_, (pss_one (ps_ret (pe_cmpR (r := rEqD K) (op_eqD hr.units) (pe_lc (own := [("_law_work", 2)]) (by rfl) sc_law_all.nd (pi_listK K (pv 0)) (blkOk_by (own := [("_law_work", 2)]) (N := ["_law_works", "_law_due", "_law_work"]) (sc := (defScope s_law_all)) (by decide +kernel)) (fun _ _ _ _ _ => (pg_name (i := 2) sc_law_all.nd rfl (.inl rfl))) (fun _ _ _ _ _ => (pts_one (pt_not (pt_val (pe_call G_law_alike ((hr.mono (by decide))) (by rfl) T.g__law_alike T.k__law_alike b_law_alike .nil pass0 (pa_cons (pe_call G_law_told (hr) (by rfl) T.g__law_told T.k__law_told b_law_told .nil pass0 (pa_cons (pv 2) pa_nil)) (pa_cons (pv 1) pa_nil))))))) (fun _ _ _ _ _ => (pv 2))) (pe_lst pa_nil) (nomark _)))), ?_⟩
  try (set_option simprocs false in dsimp only [cxOf, Cx.nox, Cx.wish])
  refine ⟨_, rfl, _, rfl, ⟨fs.map V.ref, .inl (.inl hl)⟩, fun Dd hD => ?_⟩
  refine lc_list (xs := fs.map V.ref) (fun i Hi => ∃ Fi, Gr0 F H Fi Hi ∧ Fi Dd = none ∧ Hi Dd = some (.lst [])) ⟨F, .fresh sb hD, sb.gone hD, upd_same⟩ (fun i Hi _ hI => ?_) (fun i x Hi hx hI => ?_) (fun Hn hI => ?_)
  · obtain ⟨Fi, G, _, _⟩ := hI
    exact .inl (.inl (G.all _ _ hl))
  · obtain ⟨Fi, G, fD, hDi⟩ := hI
    rw [List.getElem?_map] at hx
    obtain ⟨f, hf, rfl⟩ := Option.map_eq_some_iff.mp hx
    have hm := List.mem_of_getElem? hf
    refine ⟨rfl, ?_⟩
    refine ⟨_, rfl, ⟨Fi, f, rfl, G.sub, (act f hm).later G, fun v F2 H2 g2 dv2 => ?_⟩⟩
    refine ⟨_, rfl, ⟨F2, .tuple [.str "BadMoment", .int 0], g2.sub, .cons dv2 (.cons (dp_sub ((G.trans g2).ext sb) du) .nil), .inr ⟨true, _, rfl, by simp, fun y hy => ?_⟩, fun v3 F3 H3 g3 dv3 => ?_⟩⟩
    · simp only [List.mem_cons, List.not_mem_nil, or_false] at hy
      rcases hy with rfl | rfl <;> rfl
    · cases dv3
      refine ⟨true, rfl, iteF ?_⟩
      have g := g2.trans g3
      exact ⟨F3, G.trans g, (g.old Dd _ hDi).trans fD, g.all _ _ hDi⟩
  · obtain ⟨Fn, G, fD, hDn⟩ := hI
    refine ⟨few (by decide), fun p hp => ?_⟩
    have g2 : Gr0 Fn Hn Fn (upd Hn p (.lst [])) := .fresh G.sub hp
    refine ⟨.list [], .list [], .lst (.inl (.inl (g2.all _ _ hDn))) .nil, .lst (.inl (.inl upd_same)) .nil, rfl, rfl, ?_⟩
    exact q _ _ (G.trans g2)
end
end Hn

set_option Elab.async false
set_option linter.all false
set_option maxRecDepth 100000
set_option maxHeartbeats 8000000
namespace Hn
open PySem PySem.Spec PyProof.Rows L2 Dl Lm
section
variable {P : Program} {w : World} {K : PySem.W.Frag} {mg : Str → Option Value} {base : Heap}
local macro_rules | `(tactic| walk_at "evc") => `(tactic| first
  | ((with_reducible apply evca_cons); (try set_option simprocs false in dsimp only); walk_at "evc")
  | ((with_reducible apply evca_nil); (try set_option simprocs false in dsimp only))
  | ((with_reducible apply evc_tup); walk_at "evc")
  | ((with_reducible apply evc_mod); walk_at "evc") | ((with_reducible apply evc_add); walk_at "evc") | ((with_reducible apply evc_sub); walk_at "evc") | ((with_reducible apply evc_lt); walk_at "evc") | ((with_reducible apply evc_eqI); walk_at "evc")
  | ((with_reducible apply evc_int); (try set_option simprocs false in dsimp only); walk_at "evc")
  | ((with_reducible apply evc_non); (try set_option simprocs false in dsimp only); walk_at "evc")
  | ((with_reducible refine evc_take2 ?_ ?_ ?_ ?_) <;> first | ((with_reducible intro n h0 h1); (try set_option simprocs false in dsimp only); walk_at "evc") | exact rfl | decide | skip)
  | ((with_reducible refine evc_takeN ?_ ?_ ?_ ?_) <;> first | ((with_reducible intro n h0 h1); (try set_option simprocs false in dsimp only); walk_at "evc") | exact rfl | decide | skip)
  | ((with_reducible refine evct_B ?_); walk_at "evc") | ((with_reducible refine evct_test ?_); walk_at "evc")
  | (refine evc_var rfl ?_; (try set_option simprocs false in dsimp only); walk_at "evc")
  | ((with_reducible refine ⟨_, rfl, (?_ : EvC _ _ _ _)⟩); walk_at "evc")
  | ((with_reducible refine ⟨_, rfl, (by decide : (0:Int) < 24), ?_⟩); walk_at "evc")
  | ((with_reducible refine ⟨_, rfl, ?_⟩); walk_at "evc")
  | skip)
abbrev p0 : He.Defn := ("_law_is_refused", none)
abbrev nm0 : Nat → Nat → Str := fun _ _ => "_law_is_refused.<locals>.<lambda>"
theorem passN {P : Program} {w : World} {K : PySem.W.Frag} {mg : Str → Option Value} {base : Heap} {N : List Str} {F : NdefX.NF} {f : Addr} {A : Around} {outer : List Env} {s : Shared} {H : Hp} {E : XK} : Passes (L2.CX P w) (NdefX.ncx (L2.CX P w) P w K mg base N F f A outer s H E) E :=
  passes_call (X := NdefX.ncx (L2.CX P w) P w K mg base N F f A outer s H E) (takes_of rfl rfl rfl rfl) fun _ _ _ _ z => z
theorem cb_of {base : Heap} {cl : List (Str × Addr)} {fr : List Str} {ws : List (Option V)} {js : List Nat} {σ : L2.St} (e : js.map (NdefX.slotAt σ) = ws) (h : CellsB base cl fr (js.map (NdefX.slotAt σ))) : CellsB base cl fr ws := e ▸ h
theorem keepP {P : Addr} {nm : Nat → Nat → Str} {H H1 : Hp} (k : ∀ b o, b ≠ P → H b = some o → H1 b = some o) (t : NdefX.TabN H P nm) {b : Addr} {o : HO} (e : H b = some o) (n : ∀ ps, o ≠ .tbl ps) : H1 b = some o := k b o (fun z => by
  obtain ⟨ps, h, _⟩ := t
  rw [z, h] at e
  exact n ps (Option.some.inj e).symm) e
theorem grP {x : Bx} {F H H1 : Hp} (s : Sub F H) (ft : F x.t = none) (k : ∀ b o, b ≠ x.t → H b = some o → H1 b = some o) {nm : Nat → Nat → Str} (t1 : NdefX.TabN H1 x.t nm) : Gr (fun a => a = x.t) F H F H1 :=
  ⟨fun a o e => k a o (fun z => by rw [z, ft] at e; cases e) (s a o e), fun a o n e => k a o n e, fun a o e => by
    by_cases z : a = x.t
    · obtain ⟨ps, h, _⟩ := t1
      exact ⟨_, by rw [z]; exact h⟩
    · exact ⟨o, k a o z e⟩, fun _ _ _ => rfl⟩
theorem lam_tbl {f : Addr} {N : NdefX.NF} {e : Expr} {dV : Value} (ps : Array Value) : LamO f N e dV ≠ .tbl ps := fun z => by
  unfold LamO at z
  cases z
theorem lst_tbl {xs : List V} (ps : Array Value) : HO.lst xs ≠ .tbl ps := fun z => by cases z
theorem tup_tbl {xs : List V} (ps : Array Value) : HO.tup xs ≠ .tbl ps := fun z => by cases z
theorem ok_law_is_refused (T : Tx K mg) (KP : Kd_BadPerson K) (KM : Kd_BadMoment K) (zV : mg "ValueError" = none) (TB : LamX.TabB base mg (He.cT K p0).1 (He.cT K p0).2) : FnOk P w K mg base CX0 11 (He.ga K "_law_is_refused") T.fd__law_is_refused ["_law_box", "_law_rules_here", "_law_moment"] (spRef K (He.cT K p0).2 nm0) := by
  have G_law_take := ok_law_take (P := P) (w := w) (base := base) T
  have b_law_take := b_law_take T
  have b_law_all := b_law_all T
  obtain ⟨oc, od, dV, kV, doc, pm, an, cdv, ct, osl, efd, lk, hcd, _, _⟩ := T.F__law_is_refused.ex
  obtain ⟨c, rfl⟩ := He.codeIn_ref hcd
  rw [efd] at lk ⊢
  have ec : He.codeOf K p0 = c := He.codeOf_eq lk rfl
  have TB : LamX.TabB base mg c (He.cT K p0).2 := by
    have z := TB
    rw [show (He.cT K p0).1 = c from ec] at z
    exact z
  refine fn_of lk hcd sc_law_is_refused (fun vs H Q E h => ?_) (fun A outer s H vs Q E hr h => ?_)
  · obtain ⟨x, F, i, ws, rfl, _, _, _, _, hd, _⟩ := h
    rw [List.length_cons, dpa_length hd]
    rfl
  obtain ⟨x, F, ⟨R, m⟩, ws, rfl, xt, xn, hs, hb, hd, ⟨hR, m0, m1⟩, q⟩ := h
  have hnm : ∀ {l c : Nat}, nm0 l c = (cxOf CX0 P w K mg base ["_law_box", "_law_rules_here", "_law_moment", "_law_far", "_law_out", "_law_ago", "_law_works"] "_law_is_refused" (defScope s_law_is_refused) (He.ga K "_law_is_refused") (.ref c) A outer s H E).nox.env.qual ++ "<lambda>" := fun {l c} => by kernel_rfl
  refine ⟨_, PSs.nox (pss_cons (ps_set (i := 3) sc_law_is_refused.nd rfl (.inl rfl) (pe_call G_law_take ((hr.mono (by decide))) (by rfl) T.g__law_take T.k__law_take b_law_take .nil pass0 (pa_cons (pv 0) (pa_cons (pe_ix (r := rIxL K) ix_list (pe_lst (pa_cons pe_int (pa_cons (pe_op op_pow pe_int pe_int) pa_nil))) (pe_call G_law_take ((hr.mono (by decide))) (by rfl) T.g__law_take T.k__law_take b_law_take .nil pass0 (pa_cons (pv 0) (pa_cons pe_int pa_nil))) (fun _ _ => rfl)) pa_nil))))
      (pss_cons (ps_set (i := 4) sc_law_is_refused.nd rfl (.inr rfl) (pe_ix (r := rIxL K) ix_list (pe_lst (pa_cons (pe_op op_add (pe_callB (r := rLenD K) call_len_seq (by rfl) T.z_len (by decide +kernel) (pa_cons (pv 1) pa_nil)) (pv 3)) (pa_cons (pe_op op_sub (pe_un un_neg pe_int) (pv 3)) (pa_cons pe_non (pa_cons pe_bl pa_nil))))) (pe_call G_law_take ((hr.mono (by decide))) (by rfl) T.g__law_take T.k__law_take b_law_take .nil pass0 (pa_cons (pv 0) (pa_cons pe_int pa_nil))) (fun _ _ => rfl)))
      (pss_cons (ps_set (i := 5) sc_law_is_refused.nd rfl (.inr rfl) (pe_ix (r := rIxL K) ix_list (pe_lst (pa_cons (pe_op op_sub (pe_un un_neg pe_int) (pv 3)) (pa_cons (pe_op op_add (pe_op op_add (pe_op op_pow pe_int pe_int) pe_int) (pv 3)) (pa_cons pe_non (pa_cons pe_bl pa_nil))))) (pe_call G_law_take ((hr.mono (by decide))) (by rfl) T.g__law_take T.k__law_take b_law_take .nil pass0 (pa_cons (pv 0) (pa_cons pe_int pa_nil))) (fun _ _ => rfl)))
      (pss_cons (ps_set (i := 6) sc_law_is_refused.nd rfl (.inl rfl) (pe_lst (pa_cons (Lm.pe_lam0 TB rfl hnm (NdefX.ndef_free (sc := defScope s_law_is_refused) (fr := []) (by decide +kernel)) rfl) (pa_cons (Lm.pe_lam1 TB rfl hnm (NdefX.ndef_free (sc := defScope s_law_is_refused) (fr := []) (by decide +kernel)) rfl rfl) pa_nil))))
      (pss_cons (ps_if (pt_not (pt_val (pe_callBase (sp := fun b => spAll_BadPerson P w K mg b) (fun b => ok_law_all_BadPerson (P := P) (w := w) (base := b) T KP zV) hr (by rfl) T.g__law_all T.k__law_all b_law_all (pa_cons (pe_op op_cat (pv 6) (pe_lst (pa_cons (Lm.pe_lam1 TB rfl hnm (NdefX.ndef_free (sc := defScope s_law_is_refused) (fr := []) (by decide +kernel)) rfl rfl) pa_nil))) (pa_cons (pe_tup (pa_cons pe_str (pa_cons pe_int pa_nil))) pa_nil)) (fun _ => rfl) rfl rfl))) (pss_one (ps_ret pe_bl)) pss_nil)
      (pss_cons (ps_set (i := 6) sc_law_is_refused.nd rfl (.inl rfl) (pe_lst (pa_cons (Lm.pe_lam0 TB rfl hnm (NdefX.ndef_free (sc := defScope s_law_is_refused) (fr := []) (by decide +kernel)) rfl) (pa_cons (Lm.pe_lam1 TB rfl hnm (NdefX.ndef_free (sc := defScope s_law_is_refused) (fr := []) (by decide +kernel)) rfl rfl) pa_nil))))
      (pss_cons (ps_set (i := 6) sc_law_is_refused.nd rfl (.inl rfl) (pe_op op_cat (pv 6) (pe_lst (pa_cons (Lm.pe_lam1 TB rfl hnm (NdefX.ndef_free (sc := defScope s_law_is_refused) (fr := []) (by decide +kernel)) rfl rfl) pa_nil))))
      (pss_cons (ps_expr (pe_bmK K PySem.F.plainAttrs_list PySem.F.slot_list_append PySem.F.type_list_append mt_append (pv 6) (pa_cons (Lm.pe_lam1 TB rfl hnm (NdefX.ndef_free (sc := defScope s_law_is_refused) (fr := []) (by decide +kernel)) rfl rfl) pa_nil)))
      (pss_one (ps_ret (pe_callBase (sp := fun b => spAll_BadMoment P w K mg b) (fun b => ok_law_all_BadMoment (P := P) (w := w) (base := b) T KM zV) hr (by rfl) T.g__law_all T.k__law_all b_law_all (pa_cons (pv 6) (pa_cons (pe_tup (pa_cons pe_str (pa_cons pe_int pa_nil))) pa_nil)) (fun _ => rfl) rfl rfl))))))))))), ?_⟩
  obtain ⟨v1, rfl, d1⟩ : ∃ v1, ws = [v1, .int m] ∧ Dp K F v1 (RD R) := by
    cases hd with | cons a b => cases b with | cons c d => cases c; cases d; exact ⟨_, rfl, a⟩
  try (set_option simprocs false in dsimp only [cxOf, Cx.nox, Cx.wish])
  have st : St2 K x F H F H (L2.start ["_law_box", "_law_rules_here", "_law_moment", "_law_far", "_law_out", "_law_ago", "_law_works"] [.ref x.b, v1, .int m]) [.box (He.cT K p0).2 nm0, .val (RD R), .val (.int m), .no, .no, .no, .no] := by
    have no : ∀ (j : Nat) (es : List D), ([SD.box (He.cT K p0).2 nm0, .val (RD R), .val (.int m), .no, .no, .no, .no] : List SD)[j]? ≠ some (.own es) := fun j es e => by
      have z := List.mem_of_getElem? e
      simp at z
    refine ⟨.refl hs, ⟨rfl, fun j d e => ?_, fun j ds e => absurd e (no j ds), fun j t' nm' e => ?_, fun j k es fs p _ e => absurd e (no j es)⟩, hb, fun j ds p e => absurd e (no j ds)⟩
    · match j with
      | 0 => cases e
      | 1 =>
        cases e
        exact ⟨v1, rfl, d1⟩
      | 2 =>
        cases e
        exact ⟨_, rfl, .int m⟩
      | n + 3 =>
        have z := List.mem_of_getElem? (show ([SD.no, .no, .no, .no] : List SD)[n]? = some (.val d) from e)
        simp at z
    · match j with
      | 0 =>
        cases e
        exact ⟨rfl, xt, xn⟩
      | 1 => cases e
      | 2 => cases e
      | n + 3 =>
        have z := List.mem_of_getElem? (show ([SD.no, .no, .no, .no] : List SD)[n]? = some (.box t' nm') from e)
        simp at z
  refine (?_ : EvCB K (tSeq _ _) _ { rt := fun d => d = .bool true }) x F H _ F H _ st ⟨fun v d F3 H3 g3 b3 dv e => q v d F3 H3 g3 b3 dv e, fun _ _ _ _ _ z => z.elim, fun _ _ _ _ _ z => z.elim, fun _ _ _ _ _ z => z.elim⟩
  clear st
  have hR : RulesOk R := hR
  have m0 : 0 ≤ m := m0
  have m1 : m ≤ 1000000 := m1
  clear q hd d1 hs hb xt xn
  apply ecb_seq
  refine ecb_asg (evc_take rfl (evc_pick (evca_cons (evc_int (evca_cons (evc_d (d := .int 1000000000000000000) (evd_I evd_int evd_int ⟨by decide, by decide, by decide⟩ (fun F => ?pw)) (evca_nil ⟨by simp, evc_takeN rfl (by decide) (by decide) fun z z0 z1 => ⟨z, rfl, z0, by simpa using z1, fun d hd => ?_⟩⟩)))))))
  case pw =>
    show Dp K F (.int 1000000000000000000) (.int 1000000000000000000)
    exact .int _
  obtain ⟨fm, rfl, fm0, fm1⟩ : ∃ fm : Int, d = .int fm ∧ 0 < fm ∧ fm ≤ 1000000000000000000 := by
    simp only [List.mem_cons, List.not_mem_nil, or_false] at hd
    rcases hd with rfl | rfl
    · exact ⟨_, rfl, by decide, by decide⟩
    · exact ⟨_, rfl, by decide, by decide⟩
  refine ⟨fm, rfl, fm0, by omega, fun far far0 far1 => ?_⟩
  clear hd z z0 z1
  set_option simprocs false in dsimp only [List.set]
  apply ecb_seq
  have hlen : seqLen (RD R) = some (R.map PR.data).length := rfl
  refine ecb_asg (evc_pick (evca_cons (evc_d (evd_add (evd_len (evd_var rfl) hlen) (evd_var rfl)) (evca_cons (evc_d (evd_sub (evd_neg evd_int) (evd_var rfl)) (evca_cons (evc_non (evca_cons (evc_d evd_bl (evca_nil ⟨by simp, evc_takeN rfl (by decide) (by decide) fun z z0 z1 => ⟨z, rfl, z0, by simpa using z1, fun out hd => ?_⟩⟩))))))))))
  have hout : isPerson R out = false := by
    rw [List.length_map] at hd
    simp only [List.mem_cons, List.not_mem_nil, or_false] at hd
    rcases hd with rfl | rfl | rfl | rfl
    · exact decide_eq_false (by omega)
    · exact decide_eq_false (by omega)
    · rfl
    · rfl
  clear hd z z0 z1
  set_option simprocs false in dsimp only [List.set]
  apply ecb_seq
  refine ecb_asg (evc_pick (evca_cons (evc_d (evd_sub (evd_neg evd_int) (evd_var rfl)) (evca_cons (evc_d (evd_add (evd_add evd_million evd_int) (evd_var rfl)) (evca_cons (evc_non (evca_cons (evc_d evd_bl (evca_nil ⟨by simp, evc_takeN rfl (by decide) (by decide) fun z z0 z1 => ⟨z, rfl, z0, by simpa using z1, fun ago hd => ?_⟩⟩))))))))))
  have hago : isMoment ago = false := by
    simp only [List.mem_cons, List.not_mem_nil, or_false] at hd
    rcases hd with rfl | rfl | rfl | rfl
    · show (decide (0 ≤ (-1 - far : Int)) && decide ((-1 - far : Int) ≤ 1000000)) = false
      rw [decide_eq_false (by omega)]
      rfl
    · show (decide (0 ≤ (1000000 + 1 + far : Int)) && decide ((1000000 + 1 + far : Int) ≤ 1000000)) = false
      rw [decide_eq_false (p := (1000000 + 1 + far : Int) ≤ 1000000) (by omega), Bool.and_false]
    · rfl
    · rfl
  clear hd z z0 z1
  set_option simprocs false in dsimp only [List.set]
  have hm := isMoment_of m0 m1
  have hp0 := isPerson_of (R := R) (p := 0) (by decide) (by have := hR.one; omega)
  clear far0 far1 fm0 fm1
  intro y F0 H0 σ F H E' st mt
  obtain ⟨_, yt, yn⟩ := st.s.box 0 _ _ rfl
  obtain ⟨v1, s1, d1⟩ := st.s.val 1 _ rfl
  obtain ⟨v2, s2, d2⟩ := st.s.val 2 _ rfl
  obtain ⟨v4, s4, d4⟩ := st.s.val 4 _ rfl
  obtain ⟨v5, s5, d5⟩ := st.s.val 5 _ rfl
  have tb := st.b.tab
  rw [yt, yn] at tb
  refine ⟨tb, fun f1 c1 H1 k1 _ t1 f10 f11 c11 n1 => ⟨t1, fun f2 c2 T2 H2 k2 m2 t2 f20 T20 T22 f22 c22 n2 => ⟨few (by show 2 ≤ 100; decide), fun l1 l10 => ?_⟩⟩⟩
  set_option simprocs false in dsimp only [gName]
  have ft := st.b.ft
  rw [← yt] at k1 k2 t1 t2 tb
  have g1 := grP st.g.sub ft k1 t1
  have g2 := grP g1.sub ft k2 t2
  have f12 := keepP k2 t1 f11 lam_tbl
  have c12 := keepP k2 t1 c11 LamX.codeO_ne
  have g3 : Gr (fun a => a = y.t) F H2 F (upd H2 l1 (.lst [.ref f1, .ref f2])) := .fresh g2.sub l10
  have h1 : upd H2 l1 (HO.lst [.ref f1, .ref f2]) l1 = some (.lst [.ref f1, .ref f2]) := upd_same
  have t3 : NdefX.TabN (upd H2 l1 (HO.lst [.ref f1, .ref f2])) y.t nm0 := t2.ext fun b o e => (upd_ne (ne_of_none e l10)).trans e
  have up3 : ∀ b o, H2 b = some o → upd H2 l1 (HO.lst [.ref f1, .ref f2]) b = some o := fun b o e => (upd_ne (ne_of_none e l10)).trans e
  have f13 := up3 _ _ f12
  have c13 := up3 _ _ c12
  have f23 := up3 _ _ f22
  have c23 := up3 _ _ c22
  have T23 := up3 _ _ T22
  clear f11 c11 f12 c12 f22 c22 T22 up3
  generalize upd H2 l1 (HO.lst [.ref f1, .ref f2]) = H3 at g3 h1 t3 f13 c13 f23 c23 T23 ⊢
  have g03 := (g1.trans g2).trans g3
  clear g1 g2 g3 k1 k2 n1 n2 f10 f20 T20 l10 m2 t1 t2
  have sl6 : ∀ u, (σ.set 6 u)[6]? = some u := fun u => List.getElem?_set_self (by rw [st.s.len]; show 6 < 7; decide)
  have slN : ∀ u j z, j ≠ 6 → σ[j]? = some z → (σ.set 6 u)[j]? = some z := fun u j z n e => (List.getElem?_set_ne (fun q => n q.symm)).trans e
  refine ⟨_, sl6 _, ?_⟩
  rw [← yt]
  refine ⟨t3, fun f3 c3 T3 H4 k4 _ t4 f30 T30 T34 f34 c34 n4 => ⟨few (by show 1 ≤ 100; decide), fun l2 l20 => ⟨_, _, _, _, rfl, rfl, (upd_ne (ne_of_none (keepP k4 t3 h1 lst_tbl) l20)).trans (keepP k4 t3 h1 lst_tbl), upd_same, few (by show 3 ≤ 100; decide), fun l3 l30 => ⟨few (by show 2 ≤ 100; decide), fun l4 l40 base' ok hC => ?_⟩⟩⟩⟩
  set_option simprocs false in dsimp only [gName]
  have g4 := grP g03.sub ft k4 t4
  have up4 : ∀ b o, H4 b = some o → (upd (upd (upd H4 l2 (HO.lst [V.ref f3])) l3 (HO.lst ([V.ref f1, V.ref f2] ++ [V.ref f3]))) l4 (HO.tup [V.str "BadPerson", V.int 0])) b = some o := fun b o e => by
    have e2 := (upd_ne (o := HO.lst [V.ref f3]) (ne_of_none e l20)).trans e
    have e3 := (upd_ne (o := HO.lst ([V.ref f1, V.ref f2] ++ [V.ref f3])) (ne_of_none e2 l30)).trans e2
    exact (upd_ne (ne_of_none e3 l40)).trans e3
  have f15 := up4 _ _ (keepP k4 t3 f13 lam_tbl)
  have c15 := up4 _ _ (keepP k4 t3 c13 LamX.codeO_ne)
  have f25 := up4 _ _ (keepP k4 t3 f23 lam_tbl)
  have c25 := up4 _ _ (keepP k4 t3 c23 LamX.codeO_ne)
  have hT2 := up4 _ _ (keepP k4 t3 T23 tup_tbl)
  have f35 := up4 _ _ f34
  have c35 := up4 _ _ c34
  have hT3 := up4 _ _ T34
  have t5 := t4.ext up4
  have g5 : Gr (fun a => a = y.t) F H4 F (upd H4 l2 (HO.lst [V.ref f3])) := .fresh g4.sub l20
  have g6 : Gr (fun a => a = y.t) F _ F (upd (upd H4 l2 (HO.lst [V.ref f3])) l3 (HO.lst ([V.ref f1, V.ref f2] ++ [V.ref f3]))) := .fresh g5.sub l30
  have g7 : Gr (fun a => a = y.t) F _ (upd F l4 (HO.tup [V.str "BadPerson", V.int 0])) (upd (upd (upd H4 l2 (HO.lst [V.ref f3])) l3 (HO.lst ([V.ref f1, V.ref f2] ++ [V.ref f3]))) l4 (HO.tup [V.str "BadPerson", V.int 0])) := .new g6.sub l40
  have hl3 : (upd (upd (upd H4 l2 (HO.lst [V.ref f3])) l3 (HO.lst ([V.ref f1, V.ref f2] ++ [V.ref f3]))) l4 (HO.tup [V.str "BadPerson", V.int 0])) l3 = some (.lst ([f1, f2, f3].map V.ref)) := (upd_ne (ne_of_none upd_same l40)).trans upd_same
  have due : Dp K (upd F l4 (HO.tup [V.str "BadPerson", V.int 0])) (.ref l4) (.tuple [.str "BadPerson", .int 0]) := .tup (.inl (.inl upd_same)) (.cons (.str _) (.cons (.int _) .nil))
  have g07 := (((g03.trans g4).trans g5).trans g6).trans g7
  clear g4 g5 g6 g7 up4 k4 n4
  generalize upd (upd (upd H4 l2 (HO.lst [V.ref f3])) l3 (HO.lst ([V.ref f1, V.ref f2] ++ [V.ref f3]))) l4 (HO.tup [V.str "BadPerson", V.int 0]) = H5 at g07 f15 c15 f25 c25 f35 c35 hT2 hT3 t5 hl3 ⊢
  have ex0 := g07.ext st.g.sub
  have e1 := dp_sub ex0 d1
  have e2 := dp_sub ex0 d2
  have e4 := dp_sub ex0 d4
  have e5 := dp_sub ex0 d5
  generalize upd F l4 (HO.tup [V.str "BadPerson", V.int 0]) = F5 at g07 due ex0 e1 e2 e4 e5
  have sub5 := g07.sub
  refine ⟨F5, l3, [f1, f2, f3], .ref l4, rfl, sub5, hl3, fun f hf => ?_, due, fun F6 H6 g => ⟨true, rfl, iteF ?_⟩⟩
  · simp only [List.mem_cons, List.not_mem_nil, or_false] at hf
    rcases hf with rfl | rfl | rfl
    · refine actX_of (k := 8) (fr := ["_law_rules_here", "_law_out", "_law_ago"]) (ws := [some v1, some v4, some v5]) (Z := fun _ => True) (sp := fun H Q E => ∃ F, Dl.Sub F H ∧ Dp K F v1 (RD R) ∧ Dp K F v4 (out) ∧ Dp K F v5 (ago) ∧ ∀ F2 H2, Gr0 F H F2 H2 → E (.ref (He.ga K "BadPerson")) none H2) (lok_of (N := ["_law_rules_here", "_law_out", "_law_ago"]) (ps := []) (vs := []) (NdefX.nscope_by ?names2) rfl (fun doc pm ctv s H _ _ => ⟨[], .nil, .of_eq rfl⟩) (fun A outer s H Q E hr hsp => ?bodyL)) ?cells2 f15 c15 (fun _ _ => trivial) (fun F1 H1 Q E g hE => ⟨F1, g.sub, dp_sub (g.ext sub5) e1, dp_sub (g.ext sub5) e4, dp_sub (g.ext sub5) e5, hE⟩)
      case names2 => kernel_rfl
      case cells2 => exact cb_of (js := [1, 4, 5]) (by show [_, _, _] = _; rw [NdefX.slotAt_of (slN _ 1 _ (by decide) s1), NdefX.slotAt_of (slN _ 4 _ (by decide) s4), NdefX.slotAt_of (slN _ 5 _ (by decide) s5)]) (hC _ _ _ (NdefX.Caps.made ok (NdefX.ndef_free (sc := defScope s_law_is_refused) (fr := ["_law_rules_here", "_law_out", "_law_ago"]) (by decide +kernel)) (NdefX.ndef_fr (sc := defScope s_law_is_refused) (fr := ["_law_rules_here", "_law_out", "_law_ago"]) (by decide +kernel)) rfl))
      case bodyL =>
        obtain ⟨F, sb, b1, b4, b5, hE⟩ := hsp
        refine ⟨_, pe_call (ok_is_hushed (P := P) (w := w) (base := base') T) hr (by rfl) T.g_is_hushed T.k_is_hushed (b_is_hushed T) .nil passN (pa_cons (pv 0) (pa_cons (pv 1) (pa_cons (pv 2) pa_nil))), ?_⟩
        have hg : ∀ d, guardR K R out [ago] d = .ex ⟨He.ga K "BadPerson", none⟩ := fun d => by rw [guard_ex hout]
        exact ⟨v1, rfl, v4, rfl, v5, rfl, F, (R, out, ago), sb, (.cons b1 (.cons b4 (.cons b5 .nil))), hR, fun d z => (by cases (hg _).symm.trans z), fun x z d F2 H2 g hx => (by cases (hg _).symm.trans z; obtain rfl : d = none := hx; exact hE F2 H2 g)⟩
    · refine actX_of (k := 8) (fr := ["_law_rules_here", "_law_out", "_law_ago"]) (ws := [some v1, some v4, some v5]) (Z := fun H => H T2 = some (.tup [.int 0])) (sp := fun H Q E => ∃ F, Dl.Sub F H ∧ Dp K F v1 (RD R) ∧ Dp K F v4 (out) ∧ Dp K F v5 (ago) ∧ ∀ F2 H2, Gr0 F H F2 H2 → E (.ref (He.ga K "BadPerson")) none H2) (lok_of (N := ["_law_a", "_law_rules_here", "_law_out", "_law_ago"]) (ps := ["_law_a"]) (vs := [.int 0]) (NdefX.nscope_by ?names2) rfl (fun doc pm ctv s H hok hZ => ?dflt2) (fun A outer s H Q E hr hsp => ?bodyL)) ?cells2 f25 c25 (fun H1 sb => sb _ _ hT2) (fun F1 H1 Q E g hE => ⟨F1, g.sub, dp_sub (g.ext sub5) e1, dp_sub (g.ext sub5) e4, dp_sub (g.ext sub5) e5, hE⟩)
      case names2 => kernel_rfl
      case dflt2 =>
        obtain ⟨_, its, r, o, ho, hcl, n, hdt⟩ := hok T2 _ hZ
        obtain ⟨u, rfl, ru⟩ := r.one
        exact ⟨[u], r, .of_defaults (T := T2) rfl ho hdt rfl rfl⟩
      case cells2 => exact cb_of (js := [1, 4, 5]) (by show [_, _, _] = _; rw [NdefX.slotAt_of (slN _ 1 _ (by decide) s1), NdefX.slotAt_of (slN _ 4 _ (by decide) s4), NdefX.slotAt_of (slN _ 5 _ (by decide) s5)]) (hC _ _ _ (NdefX.Caps.made ok (NdefX.ndef_free (sc := defScope s_law_is_refused) (fr := ["_law_rules_here", "_law_out", "_law_ago"]) (by decide +kernel)) (NdefX.ndef_fr (sc := defScope s_law_is_refused) (fr := ["_law_rules_here", "_law_out", "_law_ago"]) (by decide +kernel)) rfl))
      case bodyL =>
        obtain ⟨F, sb, b1, b4, b5, hE⟩ := hsp
        refine ⟨_, pe_call (ok_free_from (P := P) (w := w) (base := base') T) hr (by rfl) T.g_free_from T.k_free_from (b_free_from T) .nil passN (pa_cons (pv 1) (pa_cons (pv 2) (pa_cons (pv 3) pa_nil))), ?_⟩
        have hg : ∀ d, guardR K R out [ago] d = .ex ⟨He.ga K "BadPerson", none⟩ := fun d => by rw [guard_ex hout]
        exact ⟨v1, rfl, v4, rfl, v5, rfl, F, (R, out, ago), sb, (.cons b1 (.cons b4 (.cons b5 .nil))), hR, fun d z => (by cases (hg _).symm.trans z), fun x z d F2 H2 g hx => (by cases (hg _).symm.trans z; obtain rfl : d = none := hx; exact hE F2 H2 g)⟩
    · refine actX_of (k := 8) (fr := ["_law_rules_here", "_law_out", "_law_ago"]) (ws := [some v1, some v4, some v5]) (Z := fun H => H T3 = some (.tup [.int 0])) (sp := fun H Q E => ∃ F, Dl.Sub F H ∧ Dp K F v1 (RD R) ∧ Dp K F v4 (out) ∧ Dp K F v5 (ago) ∧ ∀ F2 H2, Gr0 F H F2 H2 → E (.ref (He.ga K "BadPerson")) none H2) (lok_of (N := ["_law_b", "_law_rules_here", "_law_out", "_law_ago"]) (ps := ["_law_b"]) (vs := [.int 0]) (NdefX.nscope_by ?names2) rfl (fun doc pm ctv s H hok hZ => ?dflt2) (fun A outer s H Q E hr hsp => ?bodyL)) ?cells2 f35 c35 (fun H1 sb => sb _ _ hT3) (fun F1 H1 Q E g hE => ⟨F1, g.sub, dp_sub (g.ext sub5) e1, dp_sub (g.ext sub5) e4, dp_sub (g.ext sub5) e5, hE⟩)
      case names2 => kernel_rfl
      case dflt2 =>
        obtain ⟨_, its, r, o, ho, hcl, n, hdt⟩ := hok T3 _ hZ
        obtain ⟨u, rfl, ru⟩ := r.one
        exact ⟨[u], r, .of_defaults (T := T3) rfl ho hdt rfl rfl⟩
      case cells2 => exact cb_of (js := [1, 4, 5]) (by show [_, _, _] = _; rw [NdefX.slotAt_of (slN _ 1 _ (by decide) s1), NdefX.slotAt_of (slN _ 4 _ (by decide) s4), NdefX.slotAt_of (slN _ 5 _ (by decide) s5)]) (hC _ _ _ (NdefX.Caps.made ok (NdefX.ndef_free (sc := defScope s_law_is_refused) (fr := ["_law_rules_here", "_law_out", "_law_ago"]) (by decide +kernel)) (NdefX.ndef_fr (sc := defScope s_law_is_refused) (fr := ["_law_rules_here", "_law_out", "_law_ago"]) (by decide +kernel)) rfl))
      case bodyL =>
        obtain ⟨F, sb, b1, b4, b5, hE⟩ := hsp
        refine ⟨_, pe_call (ok_hushed_between (P := P) (w := w) (base := base') T) hr (by rfl) T.g_hushed_between T.k_hushed_between (b_hushed_between T) .nil passN (pa_cons (pv 1) (pa_cons (pv 2) (pa_cons (pv 3) (pa_cons (pv 3) pa_nil)))), ?_⟩
        have hg : ∀ d, guardR K R out [ago, ago] d = .ex ⟨He.ga K "BadPerson", none⟩ := fun d => by rw [guard_ex hout]
        exact ⟨v1, rfl, v4, rfl, v5, rfl, v5, rfl, F, (R, out, ago, ago), sb, (.cons b1 (.cons b4 (.cons b5 (.cons b5 .nil)))), hR, fun d z => (by cases (hg _).symm.trans z), fun x z d F2 H2 g hx => (by cases (hg _).symm.trans z; obtain rfl : d = none := hx; exact hE F2 H2 g)⟩
  clear hl3 due f15 c15 f25 c25 f35 c35 hT2 hT3 f13 c13 f23 c23 T23 f34 c34 T34 h1
  have ft6 : F6 y.t = none := by
    obtain ⟨ps, h, _⟩ := st.b.tab
    exact ((g07.trans g.up).old _ _ h).trans ft
  have t6 := t5.ext g.all
  have g08 : Gr (fun a => a = y.t) F H F6 H6 := g07.trans g.up
  have ex6 := g.ext sub5
  have i1 := dp_sub ex6 e1
  have i2 := dp_sub ex6 e2
  have i4 := dp_sub ex6 e4
  have i5 := dp_sub ex6 e5
  have sub6 := g.sub
  refine ⟨t6, fun u1 b1 H7 k1 _ t7 u10 u11 b11 n1 => ⟨t7, fun u2 b2 S2 H8 k2 m2 t8 u20 S20 S22 u22 b22 n2 => ⟨few (by show 2 ≤ 100; decide), fun l5 l50 => ?_⟩⟩⟩
  set_option simprocs false in dsimp only [gName]
  rw [List.set_set]
  have j1 := grP sub6 ft6 k1 t7
  have j2 := grP j1.sub ft6 k2 t8
  have up9 : ∀ b o, H8 b = some o → upd H8 l5 (HO.lst [V.ref u1, V.ref u2]) b = some o := fun b o e => (upd_ne (ne_of_none e l50)).trans e
  have u13 := up9 _ _ (keepP k2 t7 u11 lam_tbl)
  have b13 := up9 _ _ (keepP k2 t7 b11 LamX.codeO_ne)
  have u23 := up9 _ _ u22
  have b23 := up9 _ _ b22
  have S23 := up9 _ _ S22
  have t9 := t8.ext up9
  have j3 : Gr (fun a => a = y.t) F6 H8 F6 (upd H8 l5 (HO.lst [V.ref u1, V.ref u2])) := .fresh j2.sub l50
  have h5 : upd H8 l5 (HO.lst [V.ref u1, V.ref u2]) l5 = some (.lst [.ref u1, .ref u2]) := upd_same
  have j03 := ((g08.trans j1).trans j2).trans j3
  clear up9 j1 j2 j3 k1 k2 n1 n2 u11 b11 u22 b22 S22 u10 u20 S20 m2
  generalize upd H8 l5 (HO.lst [V.ref u1, V.ref u2]) = H9 at j03 h5 t9 u13 b13 u23 b23 S23 ⊢
  refine ⟨_, sl6 _, t9, fun u3 b3 S3 HA k3 _ tA u30 S30 S34 u34 b34 n3 => ⟨few (by show 1 ≤ 100; decide), fun l6 l60 => ⟨_, _, _, _, rfl, rfl, (upd_ne (ne_of_none (keepP k3 t9 h5 lst_tbl) l60)).trans (keepP k3 t9 h5 lst_tbl), upd_same, few (by show 3 ≤ 100; decide), fun l7 l70 => ?_⟩⟩⟩
  set_option simprocs false in dsimp only [gName]
  rw [List.set_set]
  have j4 := grP j03.sub ft6 k3 tA
  have upB : ∀ b o, HA b = some o → (upd (upd HA l6 (HO.lst [V.ref u3])) l7 (HO.lst ([V.ref u1, V.ref u2] ++ [V.ref u3]))) b = some o := fun b o e => by
    have q2 := (upd_ne (o := HO.lst [V.ref u3]) (ne_of_none e l60)).trans e
    exact (upd_ne (ne_of_none q2 l70)).trans q2
  have u15 := upB _ _ (keepP k3 t9 u13 lam_tbl)
  have b15 := upB _ _ (keepP k3 t9 b13 LamX.codeO_ne)
  have u25 := upB _ _ (keepP k3 t9 u23 lam_tbl)
  have b25 := upB _ _ (keepP k3 t9 b23 LamX.codeO_ne)
  have S25 := upB _ _ (keepP k3 t9 S23 tup_tbl)
  have u35 := upB _ _ u34
  have b35 := upB _ _ b34
  have S35 := upB _ _ S34
  have tB := tA.ext upB
  have j5 : Gr (fun a => a = y.t) F6 HA F6 (upd HA l6 (HO.lst [V.ref u3])) := .fresh j4.sub l60
  have j6 : Gr (fun a => a = y.t) F6 _ F6 (upd (upd HA l6 (HO.lst [V.ref u3])) l7 (HO.lst ([V.ref u1, V.ref u2] ++ [V.ref u3]))) := .fresh j5.sub l70
  have h7 : (upd (upd HA l6 (HO.lst [V.ref u3])) l7 (HO.lst ([V.ref u1, V.ref u2] ++ [V.ref u3]))) l7 = some (.lst ([V.ref u1, V.ref u2] ++ [V.ref u3])) := upd_same
  have l7H : H l7 = none := ((j03.trans j4).trans j5).free l70
  have l7F : F6 l7 = none := j5.sub.gone l70
  have j06 := ((j03.trans j4).trans j5).trans j6
  clear j4 j5 j6 upB k3 n3 h5 u13 b13 u23 b23 S23 u34 b34 S34 u30 S30 l60 l70
  generalize upd (upd HA l6 (HO.lst [V.ref u3])) l7 (HO.lst ([V.ref u1, V.ref u2] ++ [V.ref u3])) = HB at j06 h7 tB u15 b15 u25 b25 S25 u35 b35 S35 ⊢
  refine ⟨_, sl6 _, .inl ⟨rfl, _, .inl (.inl h7)⟩, tB, fun u4 b4 S4 HC k4 _ tC u40 S40 S44 u44 b44 n4 => ⟨l7, _, .ref u4, rfl, rfl, keepP k4 tB h7 lst_tbl, Nat.lt_of_le_of_lt (show 3 ≤ 100 by decide) (by decide), ?_⟩⟩
  have h8 := keepP k4 tB h7 lst_tbl
  have kl : KeepL HC (upd HC l7 (.lst (([V.ref u1, V.ref u2] ++ [V.ref u3]) ++ [V.ref u4]))) := .lst h8
  have u16 := kl _ _ (keepP k4 tB u15 lam_tbl) (fun ys z => by unfold LamO at z; cases z)
  have b16 := kl _ _ (keepP k4 tB b15 LamX.codeO_ne) (fun ys z => by unfold LamX.CodeO at z; cases z)
  have u26 := kl _ _ (keepP k4 tB u25 lam_tbl) (fun ys z => by unfold LamO at z; cases z)
  have b26 := kl _ _ (keepP k4 tB b25 LamX.codeO_ne) (fun ys z => by unfold LamX.CodeO at z; cases z)
  have S26 := kl _ _ (keepP k4 tB S25 tup_tbl) (fun ys z => by cases z)
  have u36 := kl _ _ (keepP k4 tB u35 lam_tbl) (fun ys z => by unfold LamO at z; cases z)
  have b36 := kl _ _ (keepP k4 tB b35 LamX.codeO_ne) (fun ys z => by unfold LamX.CodeO at z; cases z)
  have S36 := kl _ _ (keepP k4 tB S35 tup_tbl) (fun ys z => by cases z)
  have u46 := kl _ _ u44 (fun ys z => by unfold LamO at z; cases z)
  have b46 := kl _ _ b44 (fun ys z => by unfold LamX.CodeO at z; cases z)
  have S46 := kl _ _ S44 (fun ys z => by cases z)
  have tD := TabN.keepL kl tC
  have j7 := grP j06.sub ft6 k4 tC
  have j08 : Gr (fun a => a = y.t) F H F6 (upd HC l7 (.lst (([V.ref u1, V.ref u2] ++ [V.ref u3]) ++ [V.ref u4]))) := (j06.trans j7).own l7H l7F
  have h9 : (upd HC l7 (HO.lst (([V.ref u1, V.ref u2] ++ [V.ref u3]) ++ [V.ref u4]))) l7 = some (.lst (([V.ref u1, V.ref u2] ++ [V.ref u3]) ++ [V.ref u4])) := upd_same
  clear kl j7 k4 n4 u15 b15 u25 b25 S25 u35 b35 S35 u44 b44 S44
  generalize upd HC l7 (HO.lst (([V.ref u1, V.ref u2] ++ [V.ref u3]) ++ [V.ref u4])) = HD at j08 h9 tD u16 b16 u26 b26 S26 u36 b36 S36 u46 b46 S46 ⊢
  refine ⟨_, sl6 _, few (by show 2 ≤ 100; decide), fun l8 l80 base' ok hC => ?_⟩
  have upE : ∀ b o, HD b = some o → upd HD l8 (HO.tup [V.str "BadMoment", V.int 0]) b = some o := fun b o e => (upd_ne (ne_of_none e l80)).trans e
  have u17 := upE _ _ u16
  have b17 := upE _ _ b16
  have u27 := upE _ _ u26
  have b27 := upE _ _ b26
  have hS2 := upE _ _ S26
  have u37 := upE _ _ u36
  have b37 := upE _ _ b36
  have hS3 := upE _ _ S36
  have u47 := upE _ _ u46
  have b47 := upE _ _ b46
  have hS4 := upE _ _ S46
  have hl7 := upE _ _ h9
  have tE := tD.ext upE
  have due : Dp K (upd F6 l8 (HO.tup [V.str "BadMoment", V.int 0])) (.ref l8) (.tuple [.str "BadMoment", .int 0]) := .tup (.inl (.inl upd_same)) (.cons (.str _) (.cons (.int _) .nil))
  have j9 : Gr (fun a => a = y.t) F6 HD (upd F6 l8 (HO.tup [V.str "BadMoment", V.int 0])) (upd HD l8 (HO.tup [V.str "BadMoment", V.int 0])) := .new j08.sub l80
  have j09 := j08.trans j9
  have ex7 := j9.ext j08.sub
  have o1 := dp_sub ex7 i1
  have o2 := dp_sub ex7 i2
  have o4 := dp_sub ex7 i4
  have o5 := dp_sub ex7 i5
  clear upE j9 u16 b16 u26 b26 S26 u36 b36 S36 u46 b46 S46 h9
  generalize upd HD l8 (HO.tup [V.str "BadMoment", V.int 0]) = HE at j09 hl7 tE u17 b17 u27 b27 hS2 u37 b37 hS3 u47 b47 hS4 ⊢
  generalize upd F6 l8 (HO.tup [V.str "BadMoment", V.int 0]) = F7 at j09 due o1 o2 o4 o5
  have sub7 := j09.sub
  refine ⟨F7, l7, [u1, u2, u3, u4], .ref l8, rfl, sub7, hl7, fun f hf => ?_, due, fun F8 H8' g' => ?_⟩
  · simp only [List.mem_cons, List.not_mem_nil, or_false] at hf
    rcases hf with rfl | rfl | rfl | rfl
    · refine actX_of (k := 8) (fr := ["_law_rules_here", "_law_ago"]) (ws := [some v1, some v5]) (Z := fun _ => True) (sp := fun H Q E => ∃ F, Dl.Sub F H ∧ Dp K F v1 (RD R) ∧ Dp K F v5 (ago) ∧ ∀ F2 H2, Gr0 F H F2 H2 → E (.ref (He.ga K "BadMoment")) none H2) (lok_of (N := ["_law_rules_here", "_law_ago"]) (ps := []) (vs := []) (NdefX.nscope_by ?names2) rfl (fun doc pm ctv s H _ _ => ⟨[], .nil, .of_eq rfl⟩) (fun A outer s H Q E hr hsp => ?bodyL)) ?cells2 u17 b17 (fun _ _ => trivial) (fun F1 H1 Q E g hE => ⟨F1, g.sub, dp_sub (g.ext sub7) o1, dp_sub (g.ext sub7) o5, hE⟩)
      case names2 => kernel_rfl
      case cells2 => exact cb_of (js := [1, 5]) (by show [_, _] = _; rw [NdefX.slotAt_of (slN _ 1 _ (by decide) s1), NdefX.slotAt_of (slN _ 5 _ (by decide) s5)]) (hC _ _ _ (NdefX.Caps.made ok (NdefX.ndef_free (sc := defScope s_law_is_refused) (fr := ["_law_rules_here", "_law_ago"]) (by decide +kernel)) (NdefX.ndef_fr (sc := defScope s_law_is_refused) (fr := ["_law_rules_here", "_law_ago"]) (by decide +kernel)) rfl))
      case bodyL =>
        obtain ⟨F, sb, b1, b5, hE⟩ := hsp
        refine ⟨_, pe_call (ok_is_hushed (P := P) (w := w) (base := base') T) hr (by rfl) T.g_is_hushed T.k_is_hushed (b_is_hushed T) .nil passN (pa_cons (pv 0) (pa_cons pe_int (pa_cons (pv 1) pa_nil))), ?_⟩
        have hg : ∀ d, guardR K R (.int 0) [ago] d = .ex ⟨He.ga K "BadMoment", none⟩ := fun d => by rw [guard_m hp0 hago]
        exact ⟨v1, rfl, v5, rfl, F, (R, .int 0, ago), sb, (.cons b1 (.cons (.int 0) (.cons b5 .nil))), hR, fun d z => (by cases (hg _).symm.trans z), fun x z d F2 H2 g hx => (by cases (hg _).symm.trans z; obtain rfl : d = none := hx; exact hE F2 H2 g)⟩
    · refine actX_of (k := 8) (fr := ["_law_rules_here", "_law_ago"]) (ws := [some v1, some v5]) (Z := fun H => H S2 = some (.tup [.int 0])) (sp := fun H Q E => ∃ F, Dl.Sub F H ∧ Dp K F v1 (RD R) ∧ Dp K F v5 (ago) ∧ ∀ F2 H2, Gr0 F H F2 H2 → E (.ref (He.ga K "BadMoment")) none H2) (lok_of (N := ["_law_a", "_law_rules_here", "_law_ago"]) (ps := ["_law_a"]) (vs := [.int 0]) (NdefX.nscope_by ?names2) rfl (fun doc pm ctv s H hok hZ => ?dflt2) (fun A outer s H Q E hr hsp => ?bodyL)) ?cells2 u27 b27 (fun H1 sb => sb _ _ hS2) (fun F1 H1 Q E g hE => ⟨F1, g.sub, dp_sub (g.ext sub7) o1, dp_sub (g.ext sub7) o5, hE⟩)
      case names2 => kernel_rfl
      case dflt2 =>
        obtain ⟨_, its, r, o, ho, hcl, n, hdt⟩ := hok S2 _ hZ
        obtain ⟨u, rfl, ru⟩ := r.one
        exact ⟨[u], r, .of_defaults (T := S2) rfl ho hdt rfl rfl⟩
      case cells2 => exact cb_of (js := [1, 5]) (by show [_, _] = _; rw [NdefX.slotAt_of (slN _ 1 _ (by decide) s1), NdefX.slotAt_of (slN _ 5 _ (by decide) s5)]) (hC _ _ _ (NdefX.Caps.made ok (NdefX.ndef_free (sc := defScope s_law_is_refused) (fr := ["_law_rules_here", "_law_ago"]) (by decide +kernel)) (NdefX.ndef_fr (sc := defScope s_law_is_refused) (fr := ["_law_rules_here", "_law_ago"]) (by decide +kernel)) rfl))
      case bodyL =>
        obtain ⟨F, sb, b1, b5, hE⟩ := hsp
        refine ⟨_, pe_call (ok_free_from (P := P) (w := w) (base := base') T) hr (by rfl) T.g_free_from T.k_free_from (b_free_from T) .nil passN (pa_cons (pv 1) (pa_cons pe_int (pa_cons (pv 2) pa_nil))), ?_⟩
        have hg : ∀ d, guardR K R (.int 0) [ago] d = .ex ⟨He.ga K "BadMoment", none⟩ := fun d => by rw [guard_m hp0 hago]
        exact ⟨v1, rfl, v5, rfl, F, (R, .int 0, ago), sb, (.cons b1 (.cons (.int 0) (.cons b5 .nil))), hR, fun d z => (by cases (hg _).symm.trans z), fun x z d F2 H2 g hx => (by cases (hg _).symm.trans z; obtain rfl : d = none := hx; exact hE F2 H2 g)⟩
    · refine actX_of (k := 8) (fr := ["_law_rules_here", "_law_ago", "_law_moment"]) (ws := [some v1, some v5, some v2]) (Z := fun H => H S3 = some (.tup [.int 0])) (sp := fun H Q E => ∃ F, Dl.Sub F H ∧ Dp K F v1 (RD R) ∧ Dp K F v5 (ago) ∧ Dp K F v2 (.int m) ∧ ∀ F2 H2, Gr0 F H F2 H2 → E (.ref (He.ga K "BadMoment")) none H2) (lok_of (N := ["_law_b", "_law_rules_here", "_law_ago", "_law_moment"]) (ps := ["_law_b"]) (vs := [.int 0]) (NdefX.nscope_by ?names2) rfl (fun doc pm ctv s H hok hZ => ?dflt2) (fun A outer s H Q E hr hsp => ?bodyL)) ?cells2 u37 b37 (fun H1 sb => sb _ _ hS3) (fun F1 H1 Q E g hE => ⟨F1, g.sub, dp_sub (g.ext sub7) o1, dp_sub (g.ext sub7) o5, dp_sub (g.ext sub7) o2, hE⟩)
      case names2 => kernel_rfl
      case dflt2 =>
        obtain ⟨_, its, r, o, ho, hcl, n, hdt⟩ := hok S3 _ hZ
        obtain ⟨u, rfl, ru⟩ := r.one
        exact ⟨[u], r, .of_defaults (T := S3) rfl ho hdt rfl rfl⟩
      case cells2 => exact cb_of (js := [1, 5, 2]) (by show [_, _, _] = _; rw [NdefX.slotAt_of (slN _ 1 _ (by decide) s1), NdefX.slotAt_of (slN _ 5 _ (by decide) s5), NdefX.slotAt_of (slN _ 2 _ (by decide) s2)]) (hC _ _ _ (NdefX.Caps.made ok (NdefX.ndef_free (sc := defScope s_law_is_refused) (fr := ["_law_rules_here", "_law_ago", "_law_moment"]) (by decide +kernel)) (NdefX.ndef_fr (sc := defScope s_law_is_refused) (fr := ["_law_rules_here", "_law_ago", "_law_moment"]) (by decide +kernel)) rfl))
      case bodyL =>
        obtain ⟨F, sb, b1, b5, b2, hE⟩ := hsp
        refine ⟨_, pe_call (ok_hushed_between (P := P) (w := w) (base := base') T) hr (by rfl) T.g_hushed_between T.k_hushed_between (b_hushed_between T) .nil passN (pa_cons (pv 1) (pa_cons pe_int (pa_cons (pv 2) (pa_cons (pv 3) pa_nil)))), ?_⟩
        have hg : ∀ d, guardR K R (.int 0) [ago, .int m] d = .ex ⟨He.ga K "BadMoment", none⟩ := fun d => by rw [guard_m hp0 hago]
        exact ⟨v1, rfl, v5, rfl, v2, rfl, F, (R, .int 0, ago, .int m), sb, (.cons b1 (.cons (.int 0) (.cons b5 (.cons b2 .nil)))), hR, fun d z => (by cases (hg _).symm.trans z), fun x z d F2 H2 g hx => (by cases (hg _).symm.trans z; obtain rfl : d = none := hx; exact hE F2 H2 g)⟩
    · refine actX_of (k := 8) (fr := ["_law_rules_here", "_law_moment", "_law_ago"]) (ws := [some v1, some v2, some v5]) (Z := fun H => H S4 = some (.tup [.int 0])) (sp := fun H Q E => ∃ F, Dl.Sub F H ∧ Dp K F v1 (RD R) ∧ Dp K F v2 (.int m) ∧ Dp K F v5 (ago) ∧ ∀ F2 H2, Gr0 F H F2 H2 → E (.ref (He.ga K "BadMoment")) none H2) (lok_of (N := ["_law_c", "_law_rules_here", "_law_moment", "_law_ago"]) (ps := ["_law_c"]) (vs := [.int 0]) (NdefX.nscope_by ?names2) rfl (fun doc pm ctv s H hok hZ => ?dflt2) (fun A outer s H Q E hr hsp => ?bodyL)) ?cells2 u47 b47 (fun H1 sb => sb _ _ hS4) (fun F1 H1 Q E g hE => ⟨F1, g.sub, dp_sub (g.ext sub7) o1, dp_sub (g.ext sub7) o2, dp_sub (g.ext sub7) o5, hE⟩)
      case names2 => kernel_rfl
      case dflt2 =>
        obtain ⟨_, its, r, o, ho, hcl, n, hdt⟩ := hok S4 _ hZ
        obtain ⟨u, rfl, ru⟩ := r.one
        exact ⟨[u], r, .of_defaults (T := S4) rfl ho hdt rfl rfl⟩
      case cells2 => exact cb_of (js := [1, 2, 5]) (by show [_, _, _] = _; rw [NdefX.slotAt_of (slN _ 1 _ (by decide) s1), NdefX.slotAt_of (slN _ 2 _ (by decide) s2), NdefX.slotAt_of (slN _ 5 _ (by decide) s5)]) (hC _ _ _ (NdefX.Caps.made ok (NdefX.ndef_free (sc := defScope s_law_is_refused) (fr := ["_law_rules_here", "_law_moment", "_law_ago"]) (by decide +kernel)) (NdefX.ndef_fr (sc := defScope s_law_is_refused) (fr := ["_law_rules_here", "_law_moment", "_law_ago"]) (by decide +kernel)) rfl))
      case bodyL =>
        obtain ⟨F, sb, b1, b2, b5, hE⟩ := hsp
        refine ⟨_, pe_call (ok_hushed_between (P := P) (w := w) (base := base') T) hr (by rfl) T.g_hushed_between T.k_hushed_between (b_hushed_between T) .nil passN (pa_cons (pv 1) (pa_cons pe_int (pa_cons (pv 2) (pa_cons (pv 3) pa_nil)))), ?_⟩
        have hg : ∀ d, guardR K R (.int 0) [.int m, ago] d = .ex ⟨He.ga K "BadMoment", none⟩ := fun d => by rw [guard_on hp0 hm, guard_m hp0 hago]
        exact ⟨v1, rfl, v2, rfl, v5, rfl, F, (R, .int 0, .int m, ago), sb, (.cons b1 (.cons (.int 0) (.cons b2 (.cons b5 .nil)))), hR, fun d z => (by cases (hg _).symm.trans z), fun x z d F2 H2 g hx => (by cases (hg _).symm.trans z; obtain rfl : d = none := hx; exact hE F2 H2 g)⟩
  · obtain ⟨ns, stv, hlen, q1, q2⟩ := st.b.hold
    obtain ⟨ps, q3, _⟩ := st.b.tab
    have G := j09.trans g'.up
    refine mt.rt _ (.bool true) F8 H8' (st.g.trans (G.mono fun a z => .inr (.inr z))) ⟨st.b.ne, (G.old _ _ q1).trans st.b.fb, (G.old _ _ q2).trans st.b.fc, (G.old _ _ q3).trans ft, ⟨ns, stv, hlen, G.keep _ _ (fun z => ?_) q1, G.keep _ _ (fun z => ?_) q2⟩, ?_⟩ (.bl true) rfl
    · rw [z, q3] at q1
      cases q1
    · rw [z, q3] at q2
      cases q2
    · rw [yn]
      exact tE.ext g'.all
end
end Hn

set_option Elab.async false
set_option linter.all false
set_option maxRecDepth 100000
set_option maxHeartbeats 0
namespace Hn
open PySem PySem.Spec PyProof.Rows L2 Dl
def d_is_whole : He.DefD := ⟨("is_whole", none), "is_whole", "is_whole", defArgs s_is_whole, defBody s_is_whole, defScope s_is_whole, [], []⟩
def d_is_tuple_of : He.DefD := ⟨("is_tuple_of", none), "is_tuple_of", "is_tuple_of", defArgs s_is_tuple_of, defBody s_is_tuple_of, defScope s_is_tuple_of, [], []⟩
def d_is_tuple_up_to : He.DefD := ⟨("is_tuple_up_to", none), "is_tuple_up_to", "is_tuple_up_to", defArgs s_is_tuple_up_to, defBody s_is_tuple_up_to, defScope s_is_tuple_up_to, [], []⟩
def d_is_stretch : He.DefD := ⟨("is_stretch", none), "is_stretch", "is_stretch", defArgs s_is_stretch, defBody s_is_stretch, defScope s_is_stretch, [], []⟩
def d_can_be_hushed : He.DefD := ⟨("can_be_hushed", none), "can_be_hushed", "can_be_hushed", defArgs s_can_be_hushed, defBody s_can_be_hushed, defScope s_can_be_hushed, [], []⟩
def d_can_be_gather : He.DefD := ⟨("can_be_gather", none), "can_be_gather", "can_be_gather", defArgs s_can_be_gather, defBody s_can_be_gather, defScope s_can_be_gather, [], []⟩
def d_first_bad_part : He.DefD := ⟨("first_bad_part", none), "first_bad_part", "first_bad_part", defArgs s_first_bad_part, defBody s_first_bad_part, defScope s_first_bad_part, [], []⟩
def d_refuse_bad_rules : He.DefD := ⟨("refuse_bad_rules", none), "refuse_bad_rules", "refuse_bad_rules", defArgs s_refuse_bad_rules, defBody s_refuse_bad_rules, defScope s_refuse_bad_rules, [], []⟩
def d_refuse_bad_person : He.DefD := ⟨("refuse_bad_person", none), "refuse_bad_person", "refuse_bad_person", defArgs s_refuse_bad_person, defBody s_refuse_bad_person, defScope s_refuse_bad_person, [], []⟩
def d_refuse_bad_moment : He.DefD := ⟨("refuse_bad_moment", none), "refuse_bad_moment", "refuse_bad_moment", defArgs s_refuse_bad_moment, defBody s_refuse_bad_moment, defScope s_refuse_bad_moment, [], []⟩
def d_is_in_stretch : He.DefD := ⟨("is_in_stretch", none), "is_in_stretch", "is_in_stretch", defArgs s_is_in_stretch, defBody s_is_in_stretch, defScope s_is_in_stretch, [], []⟩
def d_hushed_hours : He.DefD := ⟨("hushed_hours", none), "hushed_hours", "hushed_hours", defArgs s_hushed_hours, defBody s_hushed_hours, defScope s_hushed_hours, [], []⟩
def d_judged_hours : He.DefD := ⟨("judged_hours", none), "judged_hours", "judged_hours", defArgs s_judged_hours, defBody s_judged_hours, defScope s_judged_hours, [], []⟩
def d_hushed_ahead_of : He.DefD := ⟨("hushed_ahead_of", none), "hushed_ahead_of", "hushed_ahead_of", defArgs s_hushed_ahead_of, defBody s_hushed_ahead_of, defScope s_hushed_ahead_of, [], []⟩
def d_is_hushed : He.DefD := ⟨("is_hushed", none), "is_hushed", "is_hushed", defArgs s_is_hushed, defBody s_is_hushed, defScope s_is_hushed, [], []⟩
def d_free_from : He.DefD := ⟨("free_from", none), "free_from", "free_from", defArgs s_free_from, defBody s_free_from, defScope s_free_from, [], []⟩
def d_hushed_between : He.DefD := ⟨("hushed_between", none), "hushed_between", "hushed_between", defArgs s_hushed_between, defBody s_hushed_between, defScope s_hushed_between, [], []⟩
def d_law_begun : He.DefD := ⟨("_law_begun", none), "_law_begun", "_law_begun", defArgs s_law_begun, defBody s_law_begun, defScope s_law_begun, [], []⟩
def d_law_take : He.DefD := ⟨("_law_take", none), "_law_take", "_law_take", defArgs s_law_take, defBody s_law_take, defScope s_law_take, [], []⟩
def d_law_alike : He.DefD := ⟨("_law_alike", none), "_law_alike", "_law_alike", defArgs s_law_alike, defBody s_law_alike, defScope s_law_alike, [], []⟩
def d_law_told : He.DefD := ⟨("_law_told", none), "_law_told", "_law_told", defArgs s_law_told, defBody s_law_told, defScope s_law_told, [], []⟩
def d_law_all : He.DefD := ⟨("_law_all", none), "_law_all", "_law_all", defArgs s_law_all, defBody s_law_all, defScope s_law_all, [], []⟩
def d_law_stretches : He.DefD := ⟨("_law_stretches", none), "_law_stretches", "_law_stretches", defArgs s_law_stretches, defBody s_law_stretches, defScope s_law_stretches, [], []⟩
def d_law_rule : He.DefD := ⟨("_law_rule", none), "_law_rule", "_law_rule", defArgs s_law_rule, defBody s_law_rule, defScope s_law_rule, [], []⟩
def d_law_rules : He.DefD := ⟨("_law_rules", none), "_law_rules", "_law_rules", defArgs s_law_rules, defBody s_law_rules, defScope s_law_rules, [], []⟩
def d_law_hush : He.DefD := ⟨("_law_hush", none), "_law_hush", "_law_hush", defArgs s_law_hush, defBody s_law_hush, defScope s_law_hush, [], []⟩
def d_law_is_refused : He.DefD := ⟨("_law_is_refused", none), "_law_is_refused", "_law_is_refused", defArgs s_law_is_refused, defBody s_law_is_refused, defScope s_law_is_refused, [], []⟩
def d_law : He.DefD := ⟨("law", none), "law", "law", defArgs s_law, defBody s_law, defScope s_law, [], []⟩
def fn_0 : List He.DefD := [d_is_whole, d_is_tuple_of, d_is_tuple_up_to, d_is_stretch, d_can_be_hushed, d_can_be_gather, d_first_bad_part, d_refuse_bad_rules, d_refuse_bad_person, d_refuse_bad_moment, d_is_in_stretch, d_hushed_hours, d_judged_hours, d_hushed_ahead_of, d_is_hushed, d_free_from, d_hushed_between, d_law_begun, d_law_take, d_law_alike, d_law_told, d_law_all, d_law_stretches, d_law_rule, d_law_rules, d_law_hush, d_law_is_refused, d_law]
def fn : List He.DefD := fn_0
def fa_0 : List He.Fa := [.glo "is_whole", .glo "is_tuple_of", .glo "is_tuple_up_to", .glo "is_stretch", .glo "can_be_hushed", .glo "can_be_gather", .glo "first_bad_part", .glo "refuse_bad_rules", .glo "refuse_bad_person", .glo "refuse_bad_moment", .glo "is_in_stretch", .glo "hushed_hours", .glo "judged_hours", .glo "hushed_ahead_of", .glo "is_hushed", .glo "free_from", .glo "hushed_between", .glo "_law_begun", .glo "_law_take", .glo "_law_alike", .glo "_law_told", .glo "_law_all", .glo "_law_stretches", .glo "_law_rule", .glo "_law_rules", .glo "_law_hush", .glo "_law_is_refused", .glo "law", .glo "NoticeError", .glo "BadRules"]
def fa_1 : List He.Fa := [.glo "BadPerson", .glo "BadMoment", .glo "BadNotices", .glo "BadHears", .glo "BadDevice", .glo "BadBell", .glo "NotRinging", .glo "IsOff", .glo "BadText", .free "isinstance", .free "bool", .free "int", .free "tuple", .free "list", .free "len", .free "all", .free "any", .free "range", .free "min", .free "max", .free "sum", .free "ValueError", .free "str", .exc "NoticeError", .exc "BadPerson", .exc "BadMoment", .exc "BadDevice", .exc "BadBell", .exc "NotRinging", .exc "IsOff"]
def fa_2 : List He.Fa := [.int "MOST_PERSONS" (6), .int "MANY_PARTS" (5), .int "MOST_STRETCHES" (3), .int "LAST_HOUR" (23), .int "MOST_LEAST" (4), .int "MOST_GATHERED" (4), .int "LAST_KIND" (7), .int "MOST_SPAN" (12), .int "MOST_WAIT" (24), .int "LAST_MOMENT" (1000000), .int "NO_PART" (-1), .int "DAY" (24), .keep "NoticeError", .keep "BadRules", .keep "BadPerson", .keep "BadMoment", .keep "BadNotices", .keep "BadHears", .keep "BadDevice", .keep "BadBell", .keep "NotRinging", .keep "IsOff", .keep "BadText", .exm "NoticeError" "NoticeError" true, .exm "BadRules" "NoticeError" true, .exm "BadPerson" "NoticeError" true, .exm "BadMoment" "NoticeError" true, .exm "BadNotices" "NoticeError" true, .exm "BadHears" "NoticeError" true, .exm "BadDevice" "NoticeError" true]
def fa_3 : List He.Fa := [.exm "BadBell" "NoticeError" true, .exm "NotRinging" "NoticeError" true, .exm "IsOff" "NoticeError" true, .exm "BadText" "NoticeError" true]
def fa : List He.Fa := fa_0 ++ fa_1 ++ fa_2 ++ fa_3
def tf : List He.Defn := [("_law_is_refused", none)]
def names_0 : List PySem.Str := ["NoticeError", "BadRules", "BadPerson", "BadMoment", "BadNotices", "BadHears", "BadDevice", "BadBell", "NotRinging", "IsOff", "BadText", "MOST_PERSONS", "MANY_PARTS", "MOST_STRETCHES", "LAST_HOUR", "MOST_LEAST", "MOST_GATHERED", "LAST_KIND", "MOST_SPAN", "MOST_WAIT", "LAST_MOMENT", "NO_PART", "is_whole", "is_tuple_of", "is_tuple_up_to", "is_stretch", "can_be_hushed", "can_be_gather", "first_bad_part", "refuse_bad_rules"]
def names_1 : List PySem.Str := ["refuse_bad_person", "refuse_bad_moment", "DAY", "is_in_stretch", "hushed_hours", "judged_hours", "hushed_ahead_of", "is_hushed", "free_from", "hushed_between", "_law_begun", "_law_take", "_law_alike", "_law_told", "_law_all", "_law_stretches", "_law_rule", "_law_rules", "_law_hush", "_law_is_refused"]
def names : List PySem.Str := names_0 ++ names_1
def exOne (K : PySem.W.Frag) (X : Str) (L : List (Str × Bool)) : Bool := He.eqO (PySem.W.findIn K (.ref (He.ga K X)) "__getattribute__") (some (some (.builtin "BaseException.__getattribute__"))) && (He.eqO (PySem.W.findIn K (.ref (He.ga K X)) "__getattr__") (some none) &&
  (decide (PySem.W.subIn K (.ref (He.ga K X)) (.type "BaseException") = some true) && (PySem.W.hasDictIn K (He.ga K X) && (He.eqO (PySem.W.findIn K (.ref (He.ga K X)) "__class__") (some (some (.builtin "object.__class__"))) && (He.eqO (PySem.W.specialIn K (.builtin "object.__class__") "__get__") (some (some (.builtin "getset_descriptor.__get__"))) &&
  (decide (PySem.W.takesIn K (.builtin "object.__class__") = some true) && (decide (PySem.W.mroIn K (He.ga K X) (.type "object") = some true) && (decide (PySem.W.kitOne K (.ref (He.ga K X)) (.type "ValueError") = some true) && L.all fun q => decide (PySem.W.kitOne K (.ref (He.ga K X)) (.ref (He.ga K q.1)) = some q.2)))))))))
theorem exOne_ok {K : PySem.W.Frag} {X : Str} {L : List (Str × Bool)} (h : exOne K X L = true) : ExcC K (He.ga K X) ∧ PySem.W.kitOne K (.ref (He.ga K X)) (.type "ValueError") = some true ∧ ∀ q ∈ L, PySem.W.kitOne K (.ref (He.ga K X)) (.ref (He.ga K q.1)) = some q.2 := by
  obtain ⟨h1, h⟩ := He.ba h
  obtain ⟨h2, h⟩ := He.ba h
  obtain ⟨h3, h⟩ := He.ba h
  obtain ⟨h4, h⟩ := He.ba h
  obtain ⟨h5, h⟩ := He.ba h
  obtain ⟨h6, h⟩ := He.ba h
  obtain ⟨h7, h⟩ := He.ba h
  obtain ⟨h8, h⟩ := He.ba h
  obtain ⟨h9, h⟩ := He.ba h
  exact ⟨⟨He.eqO_ok h1, He.eqO_ok h2, of_decide_eq_true h3, h4, He.eqO_ok h5, He.eqO_ok h6, of_decide_eq_true h7, of_decide_eq_true h8⟩, of_decide_eq_true h9, fun q hq => of_decide_eq_true (List.all_eq_true.mp h q hq)⟩
def kin_BadPerson : List (Str × Bool) := [("BadBell", false), ("BadDevice", false), ("BadHears", false), ("BadMoment", false), ("BadNotices", false), ("BadPerson", true), ("BadRules", false), ("BadText", false), ("IsOff", false), ("NotRinging", false)]
def kin_BadMoment : List (Str × Bool) := [("BadBell", false), ("BadDevice", false), ("BadHears", false), ("BadMoment", true), ("BadNotices", false), ("BadPerson", false), ("BadRules", false), ("BadText", false), ("IsOff", false), ("NotRinging", false)]
def exb (K : PySem.W.Frag) : Bool := exOne K "BadPerson" kin_BadPerson && exOne K "BadMoment" kin_BadMoment
abbrev R : PySem.W.OpenRow := PySem.W.OpenLaw.row PySem.Challenge.rw_hushnotice_k02_hours
abbrev hk : PySem.W.Hook := He.hookX 5 fa fn [] tf exb
def ob (s : PySem.W.SharedT) : He.AlX := He.obsX 5 fa fn [] tf exb (HandSHeadRun.getT s)
theorem ob_eq (s : PySem.W.SharedT) : ob s = hk.obs s.abs := He.obsX_eq (HandSHeadRun.getT_eq s)
theorem run (w : World) : HandSHeadRun.RunEq R (PySem.W.view R.prog [54]) hk ob 5000 names w := by
  intro os
  kernel_rfl
theorem tx_of {w : World} {h : Heap} {K : PySem.W.Frag} {mg : Str → Option Value} (X : K.In h) (G : h.Ns mainGlobals mg) (c : He.SaysX fa fn [] tf exb w h K) : Nonempty (Tx K mg) := by
  obtain ⟨f0, F0⟩ := c.t.d.def_ 0 (d := d_is_whole) rfl
  obtain ⟨f1, F1⟩ := c.t.d.def_ 1 (d := d_is_tuple_of) rfl
  obtain ⟨f2, F2⟩ := c.t.d.def_ 2 (d := d_is_tuple_up_to) rfl
  obtain ⟨f3, F3⟩ := c.t.d.def_ 3 (d := d_is_stretch) rfl
  obtain ⟨f4, F4⟩ := c.t.d.def_ 4 (d := d_can_be_hushed) rfl
  obtain ⟨f5, F5⟩ := c.t.d.def_ 5 (d := d_can_be_gather) rfl
  obtain ⟨f6, F6⟩ := c.t.d.def_ 6 (d := d_first_bad_part) rfl
  obtain ⟨f7, F7⟩ := c.t.d.def_ 7 (d := d_refuse_bad_rules) rfl
  obtain ⟨f8, F8⟩ := c.t.d.def_ 8 (d := d_refuse_bad_person) rfl
  obtain ⟨f9, F9⟩ := c.t.d.def_ 9 (d := d_refuse_bad_moment) rfl
  obtain ⟨f10, F10⟩ := c.t.d.def_ 10 (d := d_is_in_stretch) rfl
  obtain ⟨f11, F11⟩ := c.t.d.def_ 11 (d := d_hushed_hours) rfl
  obtain ⟨f12, F12⟩ := c.t.d.def_ 12 (d := d_judged_hours) rfl
  obtain ⟨f13, F13⟩ := c.t.d.def_ 13 (d := d_hushed_ahead_of) rfl
  obtain ⟨f14, F14⟩ := c.t.d.def_ 14 (d := d_is_hushed) rfl
  obtain ⟨f15, F15⟩ := c.t.d.def_ 15 (d := d_free_from) rfl
  obtain ⟨f16, F16⟩ := c.t.d.def_ 16 (d := d_hushed_between) rfl
  obtain ⟨f17, F17⟩ := c.t.d.def_ 17 (d := d_law_begun) rfl
  obtain ⟨f18, F18⟩ := c.t.d.def_ 18 (d := d_law_take) rfl
  obtain ⟨f19, F19⟩ := c.t.d.def_ 19 (d := d_law_alike) rfl
  obtain ⟨f20, F20⟩ := c.t.d.def_ 20 (d := d_law_told) rfl
  obtain ⟨f21, F21⟩ := c.t.d.def_ 21 (d := d_law_all) rfl
  obtain ⟨f22, F22⟩ := c.t.d.def_ 22 (d := d_law_stretches) rfl
  obtain ⟨f23, F23⟩ := c.t.d.def_ 23 (d := d_law_rule) rfl
  obtain ⟨f24, F24⟩ := c.t.d.def_ 24 (d := d_law_rules) rfl
  obtain ⟨f25, F25⟩ := c.t.d.def_ 25 (d := d_law_hush) rfl
  obtain ⟨f26, F26⟩ := c.t.d.def_ 26 (d := d_law_is_refused) rfl
  obtain ⟨f27, F27⟩ := c.t.d.def_ 27 (d := d_law) rfl
  exact ⟨{
    fd_is_whole := f0
    F_is_whole := F0
    fd_is_tuple_of := f1
    F_is_tuple_of := F1
    fd_is_tuple_up_to := f2
    F_is_tuple_up_to := F2
    fd_is_stretch := f3
    F_is_stretch := F3
    fd_can_be_hushed := f4
    F_can_be_hushed := F4
    fd_can_be_gather := f5
    F_can_be_gather := F5
    fd_first_bad_part := f6
    F_first_bad_part := F6
    fd_refuse_bad_rules := f7
    F_refuse_bad_rules := F7
    fd_refuse_bad_person := f8
    F_refuse_bad_person := F8
    fd_refuse_bad_moment := f9
    F_refuse_bad_moment := F9
    fd_is_in_stretch := f10
    F_is_in_stretch := F10
    fd_hushed_hours := f11
    F_hushed_hours := F11
    fd_judged_hours := f12
    F_judged_hours := F12
    fd_hushed_ahead_of := f13
    F_hushed_ahead_of := F13
    fd_is_hushed := f14
    F_is_hushed := F14
    fd_free_from := f15
    F_free_from := F15
    fd_hushed_between := f16
    F_hushed_between := F16
    fd__law_begun := f17
    F__law_begun := F17
    fd__law_take := f18
    F__law_take := F18
    fd__law_alike := f19
    F__law_alike := F19
    fd__law_told := f20
    F__law_told := F20
    fd__law_all := f21
    F__law_all := F21
    fd__law_stretches := f22
    F__law_stretches := F22
    fd__law_rule := f23
    F__law_rule := F23
    fd__law_rules := f24
    F__law_rules := F24
    fd__law_hush := f25
    F__law_hush := F25
    fd__law_is_refused := f26
    F__law_is_refused := F26
    fd_law := f27
    F_law := F27
    g_is_whole := He.glo_ok X G (c.t.d.fact 0 (f := .glo "is_whole") rfl)
    k_is_whole := F0.kp
    g_is_tuple_of := He.glo_ok X G (c.t.d.fact 1 (f := .glo "is_tuple_of") rfl)
    k_is_tuple_of := F1.kp
    g_is_tuple_up_to := He.glo_ok X G (c.t.d.fact 2 (f := .glo "is_tuple_up_to") rfl)
    k_is_tuple_up_to := F2.kp
    g_is_stretch := He.glo_ok X G (c.t.d.fact 3 (f := .glo "is_stretch") rfl)
    k_is_stretch := F3.kp
    g_can_be_hushed := He.glo_ok X G (c.t.d.fact 4 (f := .glo "can_be_hushed") rfl)
    k_can_be_hushed := F4.kp
    g_can_be_gather := He.glo_ok X G (c.t.d.fact 5 (f := .glo "can_be_gather") rfl)
    k_can_be_gather := F5.kp
    g_first_bad_part := He.glo_ok X G (c.t.d.fact 6 (f := .glo "first_bad_part") rfl)
    k_first_bad_part := F6.kp
    g_refuse_bad_rules := He.glo_ok X G (c.t.d.fact 7 (f := .glo "refuse_bad_rules") rfl)
    k_refuse_bad_rules := F7.kp
    g_refuse_bad_person := He.glo_ok X G (c.t.d.fact 8 (f := .glo "refuse_bad_person") rfl)
    k_refuse_bad_person := F8.kp
    g_refuse_bad_moment := He.glo_ok X G (c.t.d.fact 9 (f := .glo "refuse_bad_moment") rfl)
    k_refuse_bad_moment := F9.kp
    g_is_in_stretch := He.glo_ok X G (c.t.d.fact 10 (f := .glo "is_in_stretch") rfl)
    k_is_in_stretch := F10.kp
    g_hushed_hours := He.glo_ok X G (c.t.d.fact 11 (f := .glo "hushed_hours") rfl)
    k_hushed_hours := F11.kp
    g_judged_hours := He.glo_ok X G (c.t.d.fact 12 (f := .glo "judged_hours") rfl)
    k_judged_hours := F12.kp
    g_hushed_ahead_of := He.glo_ok X G (c.t.d.fact 13 (f := .glo "hushed_ahead_of") rfl)
    k_hushed_ahead_of := F13.kp
    g_is_hushed := He.glo_ok X G (c.t.d.fact 14 (f := .glo "is_hushed") rfl)
    k_is_hushed := F14.kp
    g_free_from := He.glo_ok X G (c.t.d.fact 15 (f := .glo "free_from") rfl)
    k_free_from := F15.kp
    g_hushed_between := He.glo_ok X G (c.t.d.fact 16 (f := .glo "hushed_between") rfl)
    k_hushed_between := F16.kp
    g__law_begun := He.glo_ok X G (c.t.d.fact 17 (f := .glo "_law_begun") rfl)
    k__law_begun := F17.kp
    g__law_take := He.glo_ok X G (c.t.d.fact 18 (f := .glo "_law_take") rfl)
    k__law_take := F18.kp
    g__law_alike := He.glo_ok X G (c.t.d.fact 19 (f := .glo "_law_alike") rfl)
    k__law_alike := F19.kp
    g__law_told := He.glo_ok X G (c.t.d.fact 20 (f := .glo "_law_told") rfl)
    k__law_told := F20.kp
    g__law_all := He.glo_ok X G (c.t.d.fact 21 (f := .glo "_law_all") rfl)
    k__law_all := F21.kp
    g__law_stretches := He.glo_ok X G (c.t.d.fact 22 (f := .glo "_law_stretches") rfl)
    k__law_stretches := F22.kp
    g__law_rule := He.glo_ok X G (c.t.d.fact 23 (f := .glo "_law_rule") rfl)
    k__law_rule := F23.kp
    g__law_rules := He.glo_ok X G (c.t.d.fact 24 (f := .glo "_law_rules") rfl)
    k__law_rules := F24.kp
    g__law_hush := He.glo_ok X G (c.t.d.fact 25 (f := .glo "_law_hush") rfl)
    k__law_hush := F25.kp
    g__law_is_refused := He.glo_ok X G (c.t.d.fact 26 (f := .glo "_law_is_refused") rfl)
    k__law_is_refused := F26.kp
    g_law := He.glo_ok X G (c.t.d.fact 27 (f := .glo "law") rfl)
    k_law := F27.kp
    g_NoticeError := He.glo_ok X G (c.t.d.fact 28 (f := .glo "NoticeError") rfl)
    k_NoticeError := He.keep_ok (c.t.d.fact 72 (f := .keep "NoticeError") rfl)
    g_BadRules := He.glo_ok X G (c.t.d.fact 29 (f := .glo "BadRules") rfl)
    k_BadRules := He.keep_ok (c.t.d.fact 73 (f := .keep "BadRules") rfl)
    g_BadPerson := He.glo_ok X G (c.t.d.fact 30 (f := .glo "BadPerson") rfl)
    k_BadPerson := He.keep_ok (c.t.d.fact 74 (f := .keep "BadPerson") rfl)
    g_BadMoment := He.glo_ok X G (c.t.d.fact 31 (f := .glo "BadMoment") rfl)
    k_BadMoment := He.keep_ok (c.t.d.fact 75 (f := .keep "BadMoment") rfl)
    g_BadNotices := He.glo_ok X G (c.t.d.fact 32 (f := .glo "BadNotices") rfl)
    k_BadNotices := He.keep_ok (c.t.d.fact 76 (f := .keep "BadNotices") rfl)
    g_BadHears := He.glo_ok X G (c.t.d.fact 33 (f := .glo "BadHears") rfl)
    k_BadHears := He.keep_ok (c.t.d.fact 77 (f := .keep "BadHears") rfl)
    g_BadDevice := He.glo_ok X G (c.t.d.fact 34 (f := .glo "BadDevice") rfl)
    k_BadDevice := He.keep_ok (c.t.d.fact 78 (f := .keep "BadDevice") rfl)
    g_BadBell := He.glo_ok X G (c.t.d.fact 35 (f := .glo "BadBell") rfl)
    k_BadBell := He.keep_ok (c.t.d.fact 79 (f := .keep "BadBell") rfl)
    g_NotRinging := He.glo_ok X G (c.t.d.fact 36 (f := .glo "NotRinging") rfl)
    k_NotRinging := He.keep_ok (c.t.d.fact 80 (f := .keep "NotRinging") rfl)
    g_IsOff := He.glo_ok X G (c.t.d.fact 37 (f := .glo "IsOff") rfl)
    k_IsOff := He.keep_ok (c.t.d.fact 81 (f := .keep "IsOff") rfl)
    g_BadText := He.glo_ok X G (c.t.d.fact 38 (f := .glo "BadText") rfl)
    k_BadText := He.keep_ok (c.t.d.fact 82 (f := .keep "BadText") rfl)
    x_NoticeError := (He.exc_ok (c.t.d.fact 53 (f := .exc "NoticeError") rfl)).1
    e_NoticeError := (He.exc_ok (c.t.d.fact 53 (f := .exc "NoticeError") rfl)).2.2.1
    t_NoticeError := (He.exc_ok (c.t.d.fact 53 (f := .exc "NoticeError") rfl)).2.2.2
    x_BadPerson := (He.exc_ok (c.t.d.fact 54 (f := .exc "BadPerson") rfl)).1
    e_BadPerson := (He.exc_ok (c.t.d.fact 54 (f := .exc "BadPerson") rfl)).2.2.1
    t_BadPerson := (He.exc_ok (c.t.d.fact 54 (f := .exc "BadPerson") rfl)).2.2.2
    x_BadMoment := (He.exc_ok (c.t.d.fact 55 (f := .exc "BadMoment") rfl)).1
    e_BadMoment := (He.exc_ok (c.t.d.fact 55 (f := .exc "BadMoment") rfl)).2.2.1
    t_BadMoment := (He.exc_ok (c.t.d.fact 55 (f := .exc "BadMoment") rfl)).2.2.2
    x_BadDevice := (He.exc_ok (c.t.d.fact 56 (f := .exc "BadDevice") rfl)).1
    e_BadDevice := (He.exc_ok (c.t.d.fact 56 (f := .exc "BadDevice") rfl)).2.2.1
    t_BadDevice := (He.exc_ok (c.t.d.fact 56 (f := .exc "BadDevice") rfl)).2.2.2
    x_BadBell := (He.exc_ok (c.t.d.fact 57 (f := .exc "BadBell") rfl)).1
    e_BadBell := (He.exc_ok (c.t.d.fact 57 (f := .exc "BadBell") rfl)).2.2.1
    t_BadBell := (He.exc_ok (c.t.d.fact 57 (f := .exc "BadBell") rfl)).2.2.2
    x_NotRinging := (He.exc_ok (c.t.d.fact 58 (f := .exc "NotRinging") rfl)).1
    e_NotRinging := (He.exc_ok (c.t.d.fact 58 (f := .exc "NotRinging") rfl)).2.2.1
    t_NotRinging := (He.exc_ok (c.t.d.fact 58 (f := .exc "NotRinging") rfl)).2.2.2
    x_IsOff := (He.exc_ok (c.t.d.fact 59 (f := .exc "IsOff") rfl)).1
    e_IsOff := (He.exc_ok (c.t.d.fact 59 (f := .exc "IsOff") rfl)).2.2.1
    t_IsOff := (He.exc_ok (c.t.d.fact 59 (f := .exc "IsOff") rfl)).2.2.2
    i_MOST_PERSONS := He.int_ok X G (c.t.d.fact 60 (f := .int "MOST_PERSONS" (6)) rfl)
    i_MANY_PARTS := He.int_ok X G (c.t.d.fact 61 (f := .int "MANY_PARTS" (5)) rfl)
    i_MOST_STRETCHES := He.int_ok X G (c.t.d.fact 62 (f := .int "MOST_STRETCHES" (3)) rfl)
    i_LAST_HOUR := He.int_ok X G (c.t.d.fact 63 (f := .int "LAST_HOUR" (23)) rfl)
    i_MOST_LEAST := He.int_ok X G (c.t.d.fact 64 (f := .int "MOST_LEAST" (4)) rfl)
    i_MOST_GATHERED := He.int_ok X G (c.t.d.fact 65 (f := .int "MOST_GATHERED" (4)) rfl)
    i_LAST_KIND := He.int_ok X G (c.t.d.fact 66 (f := .int "LAST_KIND" (7)) rfl)
    i_MOST_SPAN := He.int_ok X G (c.t.d.fact 67 (f := .int "MOST_SPAN" (12)) rfl)
    i_MOST_WAIT := He.int_ok X G (c.t.d.fact 68 (f := .int "MOST_WAIT" (24)) rfl)
    i_LAST_MOMENT := He.int_ok X G (c.t.d.fact 69 (f := .int "LAST_MOMENT" (1000000)) rfl)
    i_NO_PART := He.int_ok X G (c.t.d.fact 70 (f := .int "NO_PART" (-1)) rfl)
    i_DAY := He.int_ok X G (c.t.d.fact 71 (f := .int "DAY" (24)) rfl)
    z_isinstance := He.free_ok X G (c.t.d.fact 39 (f := .free "isinstance") rfl)
    z_bool := He.free_ok X G (c.t.d.fact 40 (f := .free "bool") rfl)
    z_int := He.free_ok X G (c.t.d.fact 41 (f := .free "int") rfl)
    z_tuple := He.free_ok X G (c.t.d.fact 42 (f := .free "tuple") rfl)
    z_list := He.free_ok X G (c.t.d.fact 43 (f := .free "list") rfl)
    z_len := He.free_ok X G (c.t.d.fact 44 (f := .free "len") rfl)
    z_all := He.free_ok X G (c.t.d.fact 45 (f := .free "all") rfl)
    z_any := He.free_ok X G (c.t.d.fact 46 (f := .free "any") rfl)
    z_range := He.free_ok X G (c.t.d.fact 47 (f := .free "range") rfl)
    z_min := He.free_ok X G (c.t.d.fact 48 (f := .free "min") rfl)
    z_max := He.free_ok X G (c.t.d.fact 49 (f := .free "max") rfl)
    z_sum := He.free_ok X G (c.t.d.fact 50 (f := .free "sum") rfl)
    z_str := He.free_ok X G (c.t.d.fact 52 (f := .free "str") rfl) }⟩
theorem kd_BadPerson {w : World} {h : Heap} {K : PySem.W.Frag} (c : He.SaysX fa fn [] tf exb w h K) : Kd_BadPerson K := by
  obtain ⟨h1, h2, h3⟩ := exOne_ok (He.ba c.more).1
  exact ⟨h1, He.exm_ok (c.t.d.fact 85 (f := .exm "BadPerson" "NoticeError" true) rfl), h2, h3 ("BadBell", false) (List.mem_of_getElem? (i := 0) rfl), h3 ("BadDevice", false) (List.mem_of_getElem? (i := 1) rfl), h3 ("BadHears", false) (List.mem_of_getElem? (i := 2) rfl), h3 ("BadMoment", false) (List.mem_of_getElem? (i := 3) rfl), h3 ("BadNotices", false) (List.mem_of_getElem? (i := 4) rfl), h3 ("BadPerson", true) (List.mem_of_getElem? (i := 5) rfl), h3 ("BadRules", false) (List.mem_of_getElem? (i := 6) rfl), h3 ("BadText", false) (List.mem_of_getElem? (i := 7) rfl), h3 ("IsOff", false) (List.mem_of_getElem? (i := 8) rfl), h3 ("NotRinging", false) (List.mem_of_getElem? (i := 9) rfl)⟩
theorem kd_BadMoment {w : World} {h : Heap} {K : PySem.W.Frag} (c : He.SaysX fa fn [] tf exb w h K) : Kd_BadMoment K := by
  obtain ⟨h1, h2, h3⟩ := exOne_ok (He.ba c.more).2
  exact ⟨h1, He.exm_ok (c.t.d.fact 86 (f := .exm "BadMoment" "NoticeError" true) rfl), h2, h3 ("BadBell", false) (List.mem_of_getElem? (i := 0) rfl), h3 ("BadDevice", false) (List.mem_of_getElem? (i := 1) rfl), h3 ("BadHears", false) (List.mem_of_getElem? (i := 2) rfl), h3 ("BadMoment", true) (List.mem_of_getElem? (i := 3) rfl), h3 ("BadNotices", false) (List.mem_of_getElem? (i := 4) rfl), h3 ("BadPerson", false) (List.mem_of_getElem? (i := 5) rfl), h3 ("BadRules", false) (List.mem_of_getElem? (i := 6) rfl), h3 ("BadText", false) (List.mem_of_getElem? (i := 7) rfl), h3 ("IsOff", false) (List.mem_of_getElem? (i := 8) rfl), h3 ("NotRinging", false) (List.mem_of_getElem? (i := 9) rfl)⟩
theorem zv_of {w : World} {h : Heap} {K : PySem.W.Frag} {mg : Str → Option Value} (X : K.In h) (G : h.Ns mainGlobals mg) (c : He.SaysX fa fn [] tf exb w h K) : mg "ValueError" = none := He.free_ok X G (c.t.d.fact 51 (f := .free "ValueError") rfl)
end Hn
open PySem PySem.W PySem.Calls PyProof.Rows
theorem PySem.Challenge.cw_hushnotice_k02_hours_holds : PySem.Challenge.rw_hushnotice_k02_hours.Holds := by
  w_on; o_law
  refine HandSHeadRun.head_any (r := OpenLaw.row PySem.Challenge.rw_hushnotice_k02_hours) (q := view (OpenLaw.row PySem.Challenge.rw_hushnotice_k02_hours).prog [54]) (H := Hn.hk) (ob := Hn.ob) (M := 5000) (loose := Hn.names) (d := HandSHeadRun.topDef (OpenLaw.row PySem.Challenge.rw_hushnotice_k02_hours).prog 54) (kwd := []) Hn.ob_eq
    (by kernel_rfl) (fun s => by kernel_rfl) Hn.run (by kernel_rfl) (by kernel_rfl) (by kernel_rfl) (by rfl) (by first | assumption | decide +kernel) (by decide +kernel) ⟨rfl, rfl, rfl, rfl, rfl, by decide +kernel⟩ ?hw ?hc
  case hw => w_witness2
  case hc =>
    refine LamX.walk_ofTsE (l := PySem.Challenge.rw_hushnotice_k02_hours) (n := 63) (k := 12) (CX := fun w => L2.CX PySem.Challenge.rw_hushnotice_k02_hours.prog w) (x := "_law_script") rfl (by decide) rfl ⟨rfl, by decide, by decide⟩ (fun w mg fa h hY hns hmg => ?_) (fun w H s e s' hx => ?_)
    · obtain ⟨K, X, c⟩ := hY
      obtain ⟨T⟩ := Hn.tx_of X hns c
      have ef : fa = He.ga K "law" := by
        have z : mg "law" = some (.ref fa) := hmg
        rw [T.g_law] at z
        cases z
        rfl
      subst ef
      refine ⟨K, X, T.fd_law, Hn.tf.map fun p => He.cT K p, Hn.spLaw K (He.cT K ("_law_is_refused", none)).2 (fun _ _ => "_law_is_refused.<locals>.<lambda>"), fun p hp => ?_, fun p hp => ?_, fun p hp => ?_, fun s u => ?_, fun H a ns hl hb ht hq => ?_, fun base XB GB TB => ?_⟩
      · obtain ⟨q, hq, rfl⟩ := List.mem_map.mp hp
        exact c.empty q hq
      · obtain ⟨q, hq, rfl⟩ := List.mem_map.mp hp
        exact c.out q hq
      · obtain ⟨q, hq, rfl⟩ := List.mem_map.mp hp
        exact PySem.W.codeHd_of_K X (c.hd q hq)
      · obtain ⟨oc, od, dV, kV, doc, pm, an, cdv, ct, osl, e, lk, hcd, hD, hK⟩ := T.F_law.ex
        rw [e]
        rcases hD with ⟨_, rfl⟩ | ⟨n, _⟩
        · exact .of_eq rfl
        · exact absurd rfl n
      · have hmem : He.cT K ("_law_is_refused", none) ∈ Hn.tf.map fun p => He.cT K p := List.mem_map.mpr ⟨_, List.mem_singleton.mpr rfl, rfl⟩
        have h0 := ht _ hmem
        refine ⟨_, fun y => match H y with | some (.lst xs) => some (.lst xs) | some (.frz o u) => some (.frz o u) | _ => none, ns, rfl, fun y o e => ?_, ?_, hl, ?_, .nil h0, fun H' => rfl⟩
        · show H y = some o
          have e : (match H y with | some (.lst xs) => some (.lst xs) | some (.frz o u) => some (.frz o u) | _ => none : Option L2.HO) = some o := e
          split at e
          · rename_i q
            rw [q, e]
          · rename_i q
            rw [q, e]
          · cases e
        · refine .lst ?_ (Dl.dpa_of_ints ns)
          rcases hq with (hq | ⟨o, hq⟩) | hq
          · refine .inl (.inl ?_)
            show (match H a with | some (.lst xs) => some (.lst xs) | some (.frz o u) => some (.frz o u) | _ => none : Option L2.HO) = _
            rw [hq]
          · refine .inl (.inr ⟨o, ?_⟩)
            show (match H a with | some (.lst xs) => some (.lst xs) | some (.frz o u) => some (.frz o u) | _ => none : Option L2.HO) = _
            rw [hq]
          · exact .inr hq
        · show (match H _ with | some (.lst xs) => some (.lst xs) | some (.frz o u) => some (.frz o u) | _ => none : Option L2.HO) = none
          rw [h0]
      · exact Hn.ok_law T (Hn.ok_law_is_refused T (Hn.kd_BadPerson c) (Hn.kd_BadMoment c) (Hn.zv_of X hns c) (TB _ (List.mem_map.mpr ⟨_, List.mem_singleton.mpr rfl, rfl⟩)))
    · obtain ⟨_, _, _, _, _, _, _, _, _, _, _, _, z⟩ := hx
      exact z

