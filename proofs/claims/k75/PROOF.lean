import PyProof.Rows.All
import Wide.All
import OpenK.AllK
import Wide.FinOn
import HandS.ForMost
import HandS.ForExc
import HandS.IsInst
import HandS.Deep
import HandS.TupMul
import HandS.TupAny
import KE.GoesEnum
import HandS.Zip
import HandS.Property
import HandS.ClsMeth
import HandS.Walk
import HandS.Conv
import HandS.Strs
import HandS.Style
import HandS.ExcInit
import HandS.ExcField
import HandS.ExcValue
import HandS.ExcIs
import KE.KExcIs
import HandS.ExcBuiltin
import PySem.Challenge.RW_twolistings_k75_errors_and_fields
set_option Elab.async false
section
set_option linter.all false
set_option maxRecDepth 100000
set_option maxHeartbeats 2000000
namespace Z
open PySem L2

def Ex (H H' : Hp) : Prop := ∀ a o, H a = some o → H' a = some o
theorem Ex.refl (H : Hp) : Ex H H := fun _ _ h => h
theorem Ex.trans {H H1 H2 : Hp} (a : Ex H H1) (b : Ex H1 H2) : Ex H H2 := fun x o h => b x o (a x o h)
theorem Ex.new {H : Hp} {p : Addr} {o : HO} (h : H p = none) : Ex H (upd H p o) := fun a u e => by
  rw [upd_ne (ne_of_none e h)]
  exact e
theorem Ex.sl {K : PySem.W.Frag} {H H' : Hp} {a : Addr} {xs : List V} (e : Ex H H') (h : SqL K H a xs) : SqL K H' a xs := by
  rcases h with (h | ⟨o, h⟩) | h
  · exact .inl (.inl (e _ _ h))
  · exact .inl (.inr ⟨o, e _ _ h⟩)
  · exact .inr h
theorem Ex.st {K : PySem.W.Frag} {H H' : Hp} {a : Addr} {xs : List V} (e : Ex H H') (h : SqT K H a xs) : SqT K H' a xs := by
  rcases h with (h | ⟨o, h⟩) | h
  · exact .inl (.inl (e _ _ h))
  · exact .inl (.inr ⟨o, e _ _ h⟩)
  · exact .inr h
mutual
/-- a value that is read as data: its lists are tracked and stand still -/
inductive Rp (K : PySem.W.Frag) (H : Hp) : V → PyData → Prop
  | non : Rp K H .non .none
  | bl (b : Bool) : Rp K H (.bl b) (.bool b)
  | int (i : Int) : Rp K H (.int i) (.int i)
  | str (x : Str) : Rp K H (.str x) (.str x)
  | lst {a : Addr} {xs : List V} {ds : List PyData} : H a = some (.lst xs) → RpAll K H xs ds → Rp K H (.ref a) (.list ds)
  | tup {a : Addr} {xs : List V} {ds : List PyData} : SqT K H a xs → RpAll K H xs ds → Rp K H (.ref a) (.tuple ds)
inductive RpAll (K : PySem.W.Frag) (H : Hp) : List V → List PyData → Prop
  | nil : RpAll K H [] []
  | cons {v : V} {vs : List V} {d : PyData} {ds : List PyData} : Rp K H v d → RpAll K H vs ds → RpAll K H (v :: vs) (d :: ds)
end
mutual
theorem Ex.dp {K : PySem.W.Frag} {H H' : Hp} (e : Ex H H') : ∀ (d : PyData) (v : V), Rp K H v d → Rp K H' v d
  | .none, _, h => by cases h; exact .non
  | .bool b, _, h => by cases h; exact .bl b
  | .int i, _, h => by cases h; exact .int i
  | .str x, _, h => by cases h; exact .str x
  | .list ds, _, h => by
    cases h with
    | lst hs ha => exact .lst (e _ _ hs) (Ex.dps e ds _ ha)
  | .tuple ds, _, h => by
    cases h with
    | tup hs ha => exact .tup (e.st hs) (Ex.dps e ds _ ha)
  | .dict _, _, h => by cases h
theorem Ex.dps {K : PySem.W.Frag} {H H' : Hp} (e : Ex H H') : ∀ (ds : List PyData) (vs : List V), RpAll K H vs ds → RpAll K H' vs ds
  | [], _, h => by cases h; exact .nil
  | d :: ds, _, h => by
    cases h with
    | cons h1 h2 => exact .cons (Ex.dp e d _ h1) (Ex.dps e ds _ h2)
end
mutual
theorem Rp.dp {K : PySem.W.Frag} {H : Hp} : ∀ (d : PyData) (v : V), Rp K H v d → Dp K H v d
  | .none, _, h => by cases h; exact .non
  | .bool b, _, h => by cases h; exact .bl b
  | .int i, _, h => by cases h; exact .int i
  | .str x, _, h => by cases h; exact .str x
  | .list ds, _, h => by
    cases h with
    | lst hs ha => exact .lst (.of hs) (RpAll.dp ds _ ha)
  | .tuple ds, _, h => by
    cases h with
    | tup hs ha => exact .tup hs (RpAll.dp ds _ ha)
  | .dict _, _, h => by cases h
theorem RpAll.dp {K : PySem.W.Frag} {H : Hp} : ∀ (ds : List PyData) (vs : List V), RpAll K H vs ds → DpAll K H vs ds
  | [], _, h => by cases h; exact .nil
  | d :: ds, _, h => by
    cases h with
    | cons h1 h2 => exact .cons (Rp.dp d _ h1) (RpAll.dp ds _ h2)
end
theorem RpAll.len {K : PySem.W.Frag} {H : Hp} : ∀ {ds : List PyData} {vs : List V}, RpAll K H vs ds → vs.length = ds.length
  | [], _, h => by cases h; rfl
  | d :: ds, _, h => by
    cases h with
    | cons h1 h2 => simp [RpAll.len h2]
theorem RpAll.get {K : PySem.W.Frag} {H : Hp} : ∀ {ds : List PyData} {vs : List V} {i : Nat} {d : PyData}, RpAll K H vs ds → ds[i]? = some d → ∃ v, vs[i]? = some v ∧ Rp K H v d
  | [], _, i, d, h, e => by simp at e
  | c :: ds, _, 0, d, h, e => by
    cases h with
    | cons h1 h2 =>
      simp at e
      subst e
      exact ⟨_, rfl, h1⟩
  | c :: ds, _, i + 1, d, h, e => by
    cases h with
    | cons h1 h2 =>
      obtain ⟨v, a, b⟩ := RpAll.get (i := i) (d := d) h2 (by simpa using e)
      exact ⟨v, by simpa using a, b⟩
theorem RpAll.app {K : PySem.W.Frag} {H : Hp} : ∀ {ds es : List PyData} {vs us : List V}, RpAll K H vs ds → RpAll K H us es → RpAll K H (vs ++ us) (ds ++ es)
  | [], _, _, _, h, k => by cases h; exact k
  | d :: ds, _, _, _, h, k => by
    cases h with
    | cons h1 h2 => exact .cons h1 (RpAll.app h2 k)
theorem RpAll.take {K : PySem.W.Frag} {H : Hp} : ∀ (n : Nat) {ds : List PyData} {vs : List V}, RpAll K H vs ds → RpAll K H (vs.take n) (ds.take n)
  | 0, _, _, _ => .nil
  | n + 1, [], _, h => by cases h; exact .nil
  | n + 1, d :: ds, _, h => by
    cases h with
    | cons h1 h2 => exact .cons h1 (RpAll.take n h2)
theorem RpAll.drop {K : PySem.W.Frag} {H : Hp} : ∀ (n : Nat) {ds : List PyData} {vs : List V}, RpAll K H vs ds → RpAll K H (vs.drop n) (ds.drop n)
  | 0, _, _, h => h
  | n + 1, [], _, h => by cases h; exact .nil
  | n + 1, d :: ds, _, h => by
    cases h with
    | cons h1 h2 => exact RpAll.drop n h2
theorem RpAll.rep {K : PySem.W.Frag} {H : Hp} {ds : List PyData} {vs : List V} (h : RpAll K H vs ds) : ∀ n : Nat, RpAll K H (List.replicate n vs).flatten (List.replicate n ds).flatten
  | 0 => .nil
  | n + 1 => by
    rw [List.replicate_succ, List.replicate_succ, List.flatten_cons, List.flatten_cons]
    exact h.app (RpAll.rep h n)

/-- what is known of a value, as long as the steady part of the heap only grows -/
structure Kind where
  ok : PySem.W.Frag → Hp → V → Prop
  up : ∀ K G G' v, Ex G G' → ok K G v → ok K G' v
inductive DV where
  | d (x : PyData)
  | v (x : V)
  | o (k : Kind)
def rel (K : PySem.W.Frag) (G : Hp) : DV → V → Prop
  | .d x, v => Rp K G v x
  | .v x, v => v = x
  | .o k, v => k.ok K G v
theorem rel.up {K : PySem.W.Frag} {G G' : Hp} (e : Ex G G') : ∀ {r : DV} {v : V}, rel K G r v → rel K G' r v
  | .d x, v, h => Ex.dp e x v h
  | .v x, v, h => h
  | .o k, v, h => k.up K G G' v e h
/-- the drawing list, two ints -/
def FeedAt (H : Hp) (a : Addr) : Prop := ∃ m n : Int, H a = some (.lst [.int m, .int n])
structure Sat (p : Option Addr) (G H : Hp) : Prop where
  ex : Ex G H
  fd : ∀ a, p = some a → G a = none ∧ FeedAt H a
structure Go (p : Option Addr) (G H G2 H2 : Hp) : Prop where
  ex : Ex G G2
  nw : ∀ a o, G2 a = some o → G a = some o ∨ H a = none
  sat : Sat p G2 H2
  kp : ∀ a o, p ≠ some a → H a = some o → H2 a = some o
theorem Go.refl {p : Option Addr} {G H : Hp} (s : Sat p G H) : Go p G H G H := ⟨.refl G, fun _ _ e => .inl e, s, fun _ _ _ e => e⟩
theorem Go.trans {p : Option Addr} {G H G1 H1 G2 H2 : Hp} (a : Go p G H G1 H1) (b : Go p G1 H1 G2 H2) (s : Sat p G H) : Go p G H G2 H2 :=
  ⟨a.ex.trans b.ex, (fun x o e => by
    rcases b.nw x o e with h | h
    · exact a.nw x o h
    · refine .inr ?_
      cases q : H x with
      | none => rfl
      | some u =>
        exfalso
        by_cases hp : p = some x
        · obtain ⟨_, m, n, z⟩ := a.sat.fd x hp
          rw [z] at h
          cases h
        · rw [a.kp x u hp q] at h
          cases h), b.sat, fun x o hp e => b.kp x o hp (a.kp x o hp e)⟩
theorem Sat.fresh {p : Option Addr} {G H : Hp} (s : Sat p G H) {a : Addr} (h : H a = none) : G a = none := by
  cases q : G a with
  | none => rfl
  | some o =>
    rw [s.ex a o q] at h
    cases h
theorem Sat.ne {p : Option Addr} {G H : Hp} (s : Sat p G H) {a : Addr} (h : H a = none) : p ≠ some a := fun e => by
  obtain ⟨_, m, n, z⟩ := s.fd a e
  rw [z] at h
  cases h
theorem Go.alloc {p : Option Addr} {G H : Hp} {a : Addr} {o : HO} (s : Sat p G H) (h : H a = none) : Go p G H (upd G a o) (upd H a o) := by
  have hg := s.fresh h
  refine ⟨Ex.new hg, fun x u e => ?_, ⟨fun x u e => ?_, fun x e => ?_⟩, fun x u _ e => by rw [upd_ne (ne_of_none e h)]; exact e⟩
  · by_cases hx : x = a
    · exact .inr (by rw [hx]; exact h)
    · rw [upd_ne hx] at e
      exact .inl e
  · by_cases hx : x = a
    · subst hx
      rw [upd_same] at e ⊢
      exact e
    · rw [upd_ne hx] at e ⊢
      exact s.ex x u e
  · obtain ⟨h1, m, n, h2⟩ := s.fd x e
    have hx : x ≠ a := fun z => s.ne h (z ▸ e)
    exact ⟨by rw [upd_ne hx]; exact h1, m, n, by rw [upd_ne hx]; exact h2⟩
/-- an object that isn't tracked in the steady part comes -/
theorem Go.side {p : Option Addr} {G H : Hp} {a : Addr} {o : HO} (s : Sat p G H) (h : H a = none) : Go p G H G (upd H a o) :=
  ⟨.refl G, fun _ _ e => .inl e, ⟨s.ex.trans (Ex.new h), fun x e => by
    obtain ⟨h1, m, n, h2⟩ := s.fd x e
    have hx : x ≠ a := fun z => s.ne h (z ▸ e)
    exact ⟨h1, m, n, by rw [upd_ne hx]; exact h2⟩⟩, fun x u _ e => by rw [upd_ne (ne_of_none e h)]; exact e⟩

/-- what is known of the slots -/
structure EnvD (K : PySem.W.Frag) (G : Hp) (δ : List (Option DV)) (σ : St) : Prop where
  len : δ.length = σ.length
  at_ : ∀ (i : Nat) (r : DV), δ[i]? = some (some r) → ∃ v, σ[i]? = some (some v) ∧ rel K G r v
theorem EnvD.up {K : PySem.W.Frag} {G G' : Hp} {δ : List (Option DV)} {σ : St} (h : EnvD K G δ σ) (e : Ex G G') : EnvD K G' δ σ :=
  ⟨h.len, fun i r q => let ⟨v, a, b⟩ := h.at_ i r q; ⟨v, a, b.up e⟩⟩
theorem EnvD.set {K : PySem.W.Frag} {G : Hp} {δ : List (Option DV)} {σ : St} (h : EnvD K G δ σ) {i : Nat} {r : DV} {v : V} (hr : rel K G r v) : EnvD K G (δ.set i (some r)) (σ.set i (some v)) := by
  refine ⟨by simp [h.len], fun j q e => ?_⟩
  by_cases hj : j = i
  · subst hj
    by_cases hl : j < δ.length
    · rw [List.getElem?_set_self hl] at e
      cases e
      exact ⟨v, List.getElem?_set_self (by rw [← h.len]; exact hl), hr⟩
    · rw [List.getElem?_eq_none (by simp; omega)] at e
      cases e
  · rw [List.getElem?_set_ne (Ne.symm hj)] at e ⊢
    exact h.at_ j q e

/-! ### what a piece of syntax does -/
def wpE (X : Cx) (e : Expr) : TE := fun σ H Q => ∀ (pins : List (Addr × Obj)) (s : Shared), Inv X pins σ H s → wpAny (model X.prog X.w) X.A (eval e X.env) (EP X pins σ Q) X.xe s
def wpT (X : Cx) (e : Expr) : TT := fun σ H Q => ∀ (pins : List (Addr × Obj)) (s : Shared), Inv X pins σ H s → wpAny (model X.prog X.w) X.A (isTrue e X.env (eval e X.env)) (TP X pins σ Q) X.xe s
def wpA (X : Cx) (es : List Expr) : TA := fun σ H Q => ∀ (pos : Pos) (pins : List (Addr × Obj)) (s : Shared), Inv X pins σ H s → wpAny (model X.prog X.w) X.A (spliced (backTo pos (starEach es X.env))) (AP X pins σ Q) X.xe s
def wpS (X : Cx) (st : Stmt) : TS := fun D σ H => ∀ (pins : List (Addr × Obj)) (s : Shared), Inv X pins σ H s → wpAny (model X.prog X.w) X.A (exec st X.env) (SP X pins D) X.xe s
def wpSs (X : Cx) (st : List Stmt) : TS := fun D σ H => ∀ (pins : List (Addr × Obj)) (s : Shared), Inv X pins σ H s → wpAny (model X.prog X.w) X.A (execs st X.env) (SP X pins D) X.xe s
def wpW (X : Cx) (e : Expr) : TT := fun σ H Q => ∀ (whole : Sem Value) (pins : List (Addr × Obj)) (s : Shared), Inv X pins σ H s → wpAny (model X.prog X.w) X.A (isTrue e X.env whole) (TP X pins σ Q) X.xe s
section
variable {X : Cx}
theorem peW (e : Expr) : PE X e (wpE X e) := ⟨fun pins s σ H Q I h => h pins s I⟩
theorem ptW (e : Expr) : PT X e (wpT X e) := ⟨fun pins s σ H Q I h => h pins s I⟩
theorem paW (es : List Expr) : PA X es (wpA X es) := ⟨fun pos pins s σ H Q I h => h pos pins s I⟩
theorem psW (st : Stmt) : PS X st (wpS X st) := ⟨fun pins s σ H D I h => h pins s I⟩
theorem pssW (st : List Stmt) : PSs X st (wpSs X st) := ⟨fun pins s σ H D I h => h pins s I⟩
theorem pwW (e : Expr) : PW X e (wpW X e) := ⟨fun wh pins s σ H Q I h => h wh pins s I⟩
theorem ofE {e : Expr} {t : TE} (h : PE X e t) {σ : St} {H : Hp} {Q : VK} (q : t σ H Q) : wpE X e σ H Q := fun pins s I => h.run pins s σ H Q I q
theorem ofT {e : Expr} {t : TT} (h : PT X e t) {σ : St} {H : Hp} {Q : Bool → Hp → Prop} (q : t σ H Q) : wpT X e σ H Q := fun pins s I => h.run pins s σ H Q I q
theorem ofW {e : Expr} {t : TT} (h : PW X e t) {σ : St} {H : Hp} {Q : Bool → Hp → Prop} (q : t σ H Q) : wpW X e σ H Q := fun wh pins s I => h.run wh pins s σ H Q I q
theorem ofA {es : List Expr} {t : TA} (h : PA X es t) {σ : St} {H : Hp} {Q : List V → Hp → Prop} (q : t σ H Q) : wpA X es σ H Q := fun pos pins s I => h.run pos pins s σ H Q I q
theorem ofS {st : Stmt} {t : TS} (h : PS X st t) {σ : St} {H : Hp} {D : Ends} (q : t D σ H) : wpS X st D σ H := fun pins s I => h.run pins s σ H D I q
theorem ofSs {st : List Stmt} {t : TS} (h : PSs X st t) {σ : St} {H : Hp} {D : Ends} (q : t D σ H) : wpSs X st D σ H := fun pins s I => h.run pins s σ H D I q
end

/-! ### the judgements over what is known -/
abbrev En := List (Option DV)
def DE (X : Cx) (p : Option Addr) (δ : En) (e : Expr) (Kp : DV → Prop) : Prop := ∀ σ G H, EnvD X.K G δ σ → Sat p G H → ∀ Q : VK, (∀ v r G2 H2, Kp r → Go p G H G2 H2 → rel X.K G2 r v → Q v H2) → wpE X e σ H Q
def DT (X : Cx) (p : Option Addr) (δ : En) (e : Expr) (Kp : Bool → Prop) : Prop := ∀ σ G H, EnvD X.K G δ σ → Sat p G H → ∀ Q : Bool → Hp → Prop, (∀ b G2 H2, Kp b → Go p G H G2 H2 → Q b H2) → wpT X e σ H Q
def DW (X : Cx) (p : Option Addr) (δ : En) (e : Expr) (Kp : Bool → Prop) : Prop := ∀ σ G H, EnvD X.K G δ σ → Sat p G H → ∀ Q : Bool → Hp → Prop, (∀ b G2 H2, Kp b → Go p G H G2 H2 → Q b H2) → wpW X e σ H Q
inductive Rels (K : PySem.W.Frag) (G : Hp) : List DV → List V → Prop
  | nil : Rels K G [] []
  | cons {r v rs vs} : rel K G r v → Rels K G rs vs → Rels K G (r :: rs) (v :: vs)
theorem Rels.up {K : PySem.W.Frag} {G G' : Hp} (e : Ex G G') : ∀ {rs : List DV} {vs : List V}, Rels K G rs vs → Rels K G' rs vs
  | _, _, .nil => .nil
  | _, _, .cons a b => .cons (a.up e) (Rels.up e b)
theorem Rels.length {K : PySem.W.Frag} {G : Hp} : ∀ {rs : List DV} {vs : List V}, Rels K G rs vs → vs.length = rs.length
  | _, _, .nil => rfl
  | _, _, .cons _ b => by simp [Rels.length b]
theorem Rels.dp {K : PySem.W.Frag} {G : Hp} : ∀ {ds : List PyData} {vs : List V}, Rels K G (ds.map DV.d) vs → RpAll K G vs ds
  | [], _, h => by cases h; exact .nil
  | d :: ds, _, h => by
    cases h with
    | cons a b => exact .cons a (Rels.dp b)
theorem Rels.ofDp {K : PySem.W.Frag} {G : Hp} : ∀ {ds : List PyData} {vs : List V}, RpAll K G vs ds → Rels K G (ds.map DV.d) vs
  | [], _, h => by cases h; exact .nil
  | d :: ds, _, h => by
    cases h with
    | cons a b => exact .cons a (Rels.ofDp b)
def DA (X : Cx) (p : Option Addr) (δ : En) (es : List Expr) (Kp : List DV → Prop) : Prop := ∀ σ G H, EnvD X.K G δ σ → Sat p G H → ∀ Q : List V → Hp → Prop, (∀ vs rs G2 H2, Kp rs → Go p G H G2 H2 → Rels X.K G2 rs vs → Q vs H2) → wpA X es σ H Q
/-- a statement's ends -/
inductive Out where
  | nx (δ : En) | rt (r : DV) | bk (δ : En) | ct (δ : En)
structure EndsOk (X : Cx) (p : Option Addr) (G H : Hp) (P : Out → Prop) (D : Ends) : Prop where
  nx : ∀ δ σ G2 H2, P (.nx δ) → Go p G H G2 H2 → EnvD X.K G2 δ σ → D.nx σ H2
  rt : ∀ r v G2 H2, P (.rt r) → Go p G H G2 H2 → rel X.K G2 r v → D.rt v H2
  bk : ∀ δ σ G2 H2, P (.bk δ) → Go p G H G2 H2 → EnvD X.K G2 δ σ → D.bk σ H2
  ct : ∀ δ σ G2 H2, P (.ct δ) → Go p G H G2 H2 → EnvD X.K G2 δ σ → D.ct σ H2
def DS (X : Cx) (p : Option Addr) (δ : En) (st : Stmt) (P : Out → Prop) : Prop := ∀ σ G H, EnvD X.K G δ σ → Sat p G H → ∀ D : Ends, EndsOk X p G H P D → wpS X st D σ H
def DSs (X : Cx) (p : Option Addr) (δ : En) (st : List Stmt) (P : Out → Prop) : Prop := ∀ σ G H, EnvD X.K G δ σ → Sat p G H → ∀ D : Ends, EndsOk X p G H P D → wpSs X st D σ H

section
variable {X : Cx} {p : Option Addr} {δ : En} {Kp : DV → Prop} {a b c e : Expr} {pos : Pos}
theorem DE.imp {Kq : DV → Prop} (h : DE X p δ e Kp) (k : ∀ r, Kp r → Kq r) : DE X p δ e Kq := fun σ G H he hs Q hq => h σ G H he hs Q fun v r G2 H2 q => hq v r G2 H2 (k r q)
theorem de_var {i : Nat} {x : Str} {r : DV} (hN : X.N[i]? = some x) (hv : Vis X.env.scope x) (hr : δ[i]? = some (some r)) (k : Kp r)
    (hd : (x == ("__debug__" : Str)) = false := by decide) (hcd : (x == ("__classdict__" : Str)) = false := by decide) : DE X p δ (.Name x pos) Kp := fun σ G H he hs Q hq => by
  obtain ⟨v, h1, h2⟩ := he.at_ i r hr
  exact ofE (pe_var hN hv hd hcd) ⟨v, h1, hq v r G H k (.refl hs) h2⟩
theorem de_int {i j} (k : Kp (.d (.int i))) : DE X p δ (.Constant (.int i) j pos) Kp := fun σ G H he hs Q hq => ofE pe_int (hq _ _ G H k (.refl hs) (Rp.int i))
theorem de_bl {i j} (k : Kp (.d (.bool i))) : DE X p δ (.Constant (.bool i) j pos) Kp := fun σ G H he hs Q hq => ofE pe_bl (hq _ _ G H k (.refl hs) (Rp.bl i))
theorem de_non {j} (k : Kp (.d .none)) : DE X p δ (.Constant .none j pos) Kp := fun σ G H he hs Q hq => ofE pe_non (hq _ _ G H k (.refl hs) Rp.non)
theorem de_str {i j} (k : Kp (.d (.str i))) : DE X p δ (.Constant (.str i) j pos) Kp := fun σ G H he hs Q hq => ofE pe_str (hq _ _ G H k (.refl hs) (Rp.str i))
theorem de_glob {x : Str} {v : V} {u : Value} {r : DV} (hg : Gl X x) (hm : X.mg x = some u) (rv : RelV v u) (hr : ∀ G, rel X.K G r v) (k : Kp r) (hd : (x == ("__debug__" : Str)) = false := by decide) : DE X p δ (.Name x pos) Kp :=
  fun σ G H he hs Q hq => ofE (pe_glob hg hm rv hd) (hq v r G H k (.refl hs) (hr G))

/-- two operands, an operation by values -/
theorem de_op2 {R : R2} {t : TE → TE → TE} (ht : ∀ ta tb, PE X a ta → PE X b tb → PE X e (t ta tb)) (hR : ∀ ta tb σ H Q, ta σ H (fun x H1 => tb σ H1 fun y H2 => R x y H2 Q) → t ta tb σ H Q)
    (h : DE X p δ a fun x => DE X p δ b fun y => ∀ G H vx vy, Sat p G H → rel X.K G x vx → rel X.K G y vy → ∀ Q : VK, (∀ v r G2 H2, Kp r → Go p G H G2 H2 → rel X.K G2 r v → Q v H2) → R vx vy H Q) : DE X p δ e Kp := fun σ G H he hs Q hq => by
  refine ofE (ht _ _ (peW a) (peW b)) (hR _ _ _ _ _ ?_)
  refine h σ G H he hs _ fun vx x G1 H1 kx g1 rx => ?_
  refine kx σ G1 H1 (he.up g1.ex) g1.sat _ fun vy y G2 H2 ky g2 ry => ?_
  exact ky G2 H2 vx vy g2.sat (rx.up g2.ex) ry Q fun v r G3 H3 kr g3 rr => hq v r G3 H3 kr ((g1.trans g2 hs).trans g3 hs) rr
theorem de_bop {op : Operator} {R : R2} (ho : OpR X (binaryOp op) R)
    (h : DE X p δ a fun x => DE X p δ b fun y => ∀ G H vx vy, Sat p G H → rel X.K G x vx → rel X.K G y vy → ∀ Q : VK, (∀ v r G2 H2, Kp r → Go p G H G2 H2 → rel X.K G2 r v → Q v H2) → R vx vy H Q) : DE X p δ (.BinOp a op b pos) Kp :=
  de_op2 (t := tOp R) (fun _ _ ha hb => pe_op ho ha hb) (fun _ _ _ _ _ h => h) h
theorem de_cmp {op : CmpOp} {R : R2} (ho : OpR X (compareOp op) R) (hm : behindInMarks op b = false)
    (h : DE X p δ a fun x => DE X p δ b fun y => ∀ G H vx vy, Sat p G H → rel X.K G x vx → rel X.K G y vy → ∀ Q : VK, (∀ v r G2 H2, Kp r → Go p G H G2 H2 → rel X.K G2 r v → Q v H2) → R vx vy H Q) : DE X p δ (.Compare a [op] [b] pos) Kp :=
  de_op2 (t := tOp R) (fun _ _ ha hb => pe_cmpR ho ha hb hm) (fun _ _ _ _ _ h => h) h
end
end Z
end

section
set_option linter.all false
set_option maxRecDepth 100000
set_option maxHeartbeats 2000000
namespace Z
open PySem L2
section
variable {X : Cx} {p : Option Addr} {δ : En} {Kp : DV → Prop} {a b c e : Expr} {pos : Pos}

/-- what two operands must give -/
def H2 (X : Cx) (p : Option Addr) (δ : En) (a b : Expr) (R : R2) (Kp : DV → Prop) : Prop := DE X p δ a fun x => DE X p δ b fun y => ∀ G H vx vy, Sat p G H → rel X.K G x vx → rel X.K G y vy → ∀ Q : VK, (∀ v r G2 H2, Kp r → Go p G H G2 H2 → rel X.K G2 r v → Q v H2) → R vx vy H Q
theorem dt_cmp0 {op : CmpOp} {R : R2} {Kb : Bool → Prop} (ho : OpR X (compareOp op) R) (hm : behindInMarks op b = false) (h : H2 X p δ a b R fun x => ∃ t, x = .d (.bool t) ∧ Kb t) : DT X p δ (.Compare a [op] [b] pos) Kb := fun σ G H he hs Q hq => by
  refine ofT (pt_cmpR ho (peW a) (peW b) hm) ?_
  refine h σ G H he hs _ fun vx x G1 H1 kx g1 rx => ?_
  refine kx σ G1 H1 (he.up g1.ex) g1.sat _ fun vy y G2 H2 ky g2 ry => ?_
  refine ky G2 H2 vx vy g2.sat (rx.up g2.ex) ry _ fun v r G3 H3 ⟨t, hr, kt⟩ g3 rr => ?_
  subst hr
  cases rr
  exact ⟨t, rfl, hq t G3 H3 kt ((g1.trans g2 hs).trans g3 hs)⟩
/-! ### ints -/
theorem de_bopI {op : Operator} {C : Int → Int → Prop} {g : Int → Int → Int} (ho : OpR X (binaryOp op) (rI C fun i j => .int (g i j)))
    (h : DE X p δ a fun x => ∃ i, x = .d (.int i) ∧ DE X p δ b fun y => ∃ j, y = .d (.int j) ∧ C i j ∧ Kp (.d (.int (g i j)))) : DE X p δ (.BinOp a op b pos) Kp :=
  de_bop ho (h.imp fun x ⟨i, hx, hb⟩ => hb.imp fun y ⟨j, hy, hc, k⟩ G H vx vy s rx ry Q q => by
    subst hx hy
    cases rx
    cases ry
    exact ⟨i, j, rfl, rfl, hc, q _ _ G H k (.refl s) (Rp.int _)⟩)
theorem de_bopI0 {op : Operator} {g : Int → Int → Int} (ho : OpR X (binaryOp op) (rI0 fun i j => .int (g i j)))
    (h : DE X p δ a fun x => ∃ i, x = .d (.int i) ∧ DE X p δ b fun y => ∃ j, y = .d (.int j) ∧ Kp (.d (.int (g i j)))) : DE X p δ (.BinOp a op b pos) Kp :=
  de_bop ho (h.imp fun x ⟨i, hx, hb⟩ => hb.imp fun y ⟨j, hy, k⟩ G H vx vy s rx ry Q q => by
    subst hx hy
    cases rx
    cases ry
    exact ⟨i, j, rfl, rfl, q _ _ G H k (.refl s) (Rp.int _)⟩)
theorem de_add (h : DE X p δ a fun x => ∃ i, x = .d (.int i) ∧ DE X p δ b fun y => ∃ j, y = .d (.int j) ∧ Kp (.d (.int (i + j)))) : DE X p δ (.BinOp a .Add b pos) Kp := de_bopI0 op_add h
theorem de_sub (h : DE X p δ a fun x => ∃ i, x = .d (.int i) ∧ DE X p δ b fun y => ∃ j, y = .d (.int j) ∧ Kp (.d (.int (i - j)))) : DE X p δ (.BinOp a .Sub b pos) Kp := de_bopI0 op_sub h
theorem de_mul (h : DE X p δ a fun x => ∃ i, x = .d (.int i) ∧ DE X p δ b fun y => ∃ j, y = .d (.int j) ∧ CMul i j ∧ Kp (.d (.int (i * j)))) : DE X p δ (.BinOp a .Mult b pos) Kp := de_bopI op_mul h
theorem de_fdiv (h : DE X p δ a fun x => ∃ i, x = .d (.int i) ∧ DE X p δ b fun y => ∃ j, y = .d (.int j) ∧ CDiv i j ∧ Kp (.d (.int (i / j)))) : DE X p δ (.BinOp a .FloorDiv b pos) Kp := de_bopI op_fdiv h
theorem de_mod (h : DE X p δ a fun x => ∃ i, x = .d (.int i) ∧ DE X p δ b fun y => ∃ j, y = .d (.int j) ∧ 0 < j ∧ Kp (.d (.int (i % j)))) : DE X p δ (.BinOp a .Mod b pos) Kp := de_bopI op_mod h
theorem de_pow (h : DE X p δ a fun x => ∃ i, x = .d (.int i) ∧ DE X p δ b fun y => ∃ j, y = .d (.int j) ∧ CPow i j ∧ Kp (.d (.int (i ^ j.toNat)))) : DE X p δ (.BinOp a .Pow b pos) Kp := de_bopI op_pow h
theorem h_cmpI {g : Int → Int → Bool} (h : DE X p δ a fun x => ∃ i, x = .d (.int i) ∧ DE X p δ b fun y => ∃ j, y = .d (.int j) ∧ Kp (.d (.bool (g i j)))) : H2 X p δ a (b) (rI0 fun i j => .bl (g i j)) Kp :=
  h.imp fun x ⟨i, hx, hb⟩ => hb.imp fun y ⟨j, hy, k⟩ G H vx vy s rx ry Q q => by
    subst hx hy
    cases rx
    cases ry
    exact ⟨i, j, rfl, rfl, q _ _ G H k (.refl s) (Rp.bl _)⟩
theorem de_cmpI {op : CmpOp} {g : Int → Int → Bool} (ho : OpR X (compareOp op) (rI0 fun i j => .bl (g i j))) (hm : behindInMarks op b = false)
    (h : DE X p δ a fun x => ∃ i, x = .d (.int i) ∧ DE X p δ b fun y => ∃ j, y = .d (.int j) ∧ Kp (.d (.bool (g i j)))) : DE X p δ (.Compare a [op] [b] pos) Kp := de_cmp ho hm (h_cmpI h)
theorem dt_cmpI {Kb : Bool → Prop} {op : CmpOp} {g : Int → Int → Bool} (ho : OpR X (compareOp op) (rI0 fun i j => .bl (g i j))) (hm : behindInMarks op b = false)
    (h : DE X p δ a fun x => ∃ i, x = .d (.int i) ∧ DE X p δ b fun y => ∃ j, y = .d (.int j) ∧ Kb ((g i j))) : DT X p δ (.Compare a [op] [b] pos) Kb := dt_cmp0 ho hm (h_cmpI (h.imp fun x ⟨i, hx, hb⟩ => ⟨i, hx, hb.imp fun y ⟨j, hy, k⟩ => ⟨j, hy, _, rfl, k⟩⟩))
theorem dt_lt {Kb : Bool → Prop} (h : DE X p δ a fun x => ∃ i, x = .d (.int i) ∧ DE X p δ b fun y => ∃ j, y = .d (.int j) ∧ Kb (decide (i < j))) : DT X p δ (.Compare a [.Lt] [b] pos) Kb := dt_cmpI op_lt (nomark _) h
theorem de_lt (h : DE X p δ a fun x => ∃ i, x = .d (.int i) ∧ DE X p δ b fun y => ∃ j, y = .d (.int j) ∧ Kp (.d (.bool (decide (i < j))))) : DE X p δ (.Compare a [.Lt] [b] pos) Kp := de_cmpI op_lt (nomark _) h
theorem dt_le {Kb : Bool → Prop} (h : DE X p δ a fun x => ∃ i, x = .d (.int i) ∧ DE X p δ b fun y => ∃ j, y = .d (.int j) ∧ Kb (decide (i ≤ j))) : DT X p δ (.Compare a [.LtE] [b] pos) Kb := dt_cmpI op_le (nomark _) h
theorem de_le (h : DE X p δ a fun x => ∃ i, x = .d (.int i) ∧ DE X p δ b fun y => ∃ j, y = .d (.int j) ∧ Kp (.d (.bool (decide (i ≤ j))))) : DE X p δ (.Compare a [.LtE] [b] pos) Kp := de_cmpI op_le (nomark _) h
theorem dt_gt {Kb : Bool → Prop} (h : DE X p δ a fun x => ∃ i, x = .d (.int i) ∧ DE X p δ b fun y => ∃ j, y = .d (.int j) ∧ Kb (decide (j < i))) : DT X p δ (.Compare a [.Gt] [b] pos) Kb := dt_cmpI op_gt (nomark _) h
theorem de_gt (h : DE X p δ a fun x => ∃ i, x = .d (.int i) ∧ DE X p δ b fun y => ∃ j, y = .d (.int j) ∧ Kp (.d (.bool (decide (j < i))))) : DE X p δ (.Compare a [.Gt] [b] pos) Kp := de_cmpI op_gt (nomark _) h
theorem dt_ge {Kb : Bool → Prop} (h : DE X p δ a fun x => ∃ i, x = .d (.int i) ∧ DE X p δ b fun y => ∃ j, y = .d (.int j) ∧ Kb (decide (j ≤ i))) : DT X p δ (.Compare a [.GtE] [b] pos) Kb := dt_cmpI op_ge (nomark _) h
theorem de_ge (h : DE X p δ a fun x => ∃ i, x = .d (.int i) ∧ DE X p δ b fun y => ∃ j, y = .d (.int j) ∧ Kp (.d (.bool (decide (j ≤ i))))) : DE X p δ (.Compare a [.GtE] [b] pos) Kp := de_cmpI op_ge (nomark _) h
/-- lo <= x < hi -/
theorem de_chain {op op' : CmpOp} {g g' : Int → Int → Bool} (hm : lastMarks [op, op'] [b, c] = false) (ho : OpR X (compareOp op) (rI0 fun i j => .bl (g i j))) (ho' : OpR X (compareOp op') (rI0 fun i j => .bl (g' i j)))
    (h : DE X p δ a fun x => ∃ i, x = .d (.int i) ∧ DE X p δ b fun y => ∃ j, y = .d (.int j) ∧ (g i j = true → DE X p δ c fun z => ∃ k, z = .d (.int k) ∧ Kp (.d (.bool (g' j k)))) ∧ (g i j = false → Kp (.d (.bool false)))) : DE X p δ (.Compare a [op, op'] [b, c] pos) Kp := fun σ G H he hs Q hq => by
  refine ofE (pe_chain ho ho' (peW a) (peW b) (peW c) (hm := hm)) ?_
  refine h σ G H he hs _ fun vx x G1 H1 ⟨i, hx, hb⟩ g1 rx => ?_
  subst hx
  cases rx
  refine hb σ G1 H1 (he.up g1.ex) g1.sat _ fun vy y G2 H2 ⟨j, hy, k1, k2⟩ g2 ry => ?_
  subst hy
  cases ry
  refine ⟨i, j, rfl, rfl, _, rfl, ?_⟩
  have g12 := g1.trans g2 hs
  cases hg : g i j with
  | true =>
    rw [if_pos rfl]
    refine k1 hg σ G2 H2 (he.up g12.ex) g2.sat _ fun vz z G3 H3 ⟨k, hz, kk⟩ g3 rz => ?_
    subst hz
    cases rz
    exact ⟨j, k, rfl, rfl, hq _ _ G3 H3 kk (g12.trans g3 hs) (Rp.bl _)⟩
  | false =>
    rw [if_neg Bool.false_ne_true]
    exact hq _ _ G2 H2 (k2 hg) g12 (Rp.bl _)

theorem dt_chain {op op' : CmpOp} {g g' : Int → Int → Bool} {Kb : Bool → Prop} (hm : lastMarks [op, op'] [b, c] = false) (ho : OpR X (compareOp op) (rI0 fun i j => .bl (g i j))) (ho' : OpR X (compareOp op') (rI0 fun i j => .bl (g' i j)))
    (h : DE X p δ a fun x => ∃ i, x = .d (.int i) ∧ DE X p δ b fun y => ∃ j, y = .d (.int j) ∧ (g i j = true → DE X p δ c fun z => ∃ k, z = .d (.int k) ∧ Kb (g' j k)) ∧ (g i j = false → Kb false)) : DT X p δ (.Compare a [op, op'] [b, c] pos) Kb := fun σ G H he hs Q hq => by
  refine ofT (pt_chain ho ho' (peW a) (peW b) (peW c) (hm := hm)) ?_
  refine h σ G H he hs _ fun vx x G1 H1 ⟨i, hx, hb⟩ g1 rx => ?_
  subst hx
  cases rx
  refine hb σ G1 H1 (he.up g1.ex) g1.sat _ fun vy y G2 H2 ⟨j, hy, k1, k2⟩ g2 ry => ?_
  subst hy
  cases ry
  have g12 := g1.trans g2 hs
  refine ⟨i, j, rfl, rfl, _, rfl, ?_⟩
  cases hg : g i j with
  | true =>
    rw [if_pos rfl]
    refine k1 hg σ G2 H2 (he.up g12.ex) g2.sat _ fun vz z G3 H3 ⟨k, hz, kk⟩ g3 rz => ?_
    subst hz
    cases rz
    exact ⟨j, k, rfl, rfl, _, rfl, hq _ G3 H3 kk (g12.trans g3 hs)⟩
  | false =>
    rw [if_neg Bool.false_ne_true]
    exact ⟨_, rfl, hq _ G2 H2 (k2 hg) g12⟩

/-! ### equality, in, is -/
theorem h_eqD (h : DE X p δ a fun x => ∃ d, x = .d d ∧ SeqAt.shaped d = true ∧ DE X p δ b fun y => ∃ d', y = .d d' ∧ SeqAt.shaped d' = true ∧ Kp (.d (.bool (PyData.eqv d d')))) : H2 X p δ a (b) (rEqD X.K) Kp :=
  h.imp fun x ⟨d, hx, s1, hb⟩ => hb.imp fun y ⟨d', hy, s2, k⟩ G H vx vy s rx ry Q q => by
    subst hx hy
    exact ⟨d, d', Rp.dp _ _ (Ex.dp s.ex _ _ rx), Rp.dp _ _ (Ex.dp s.ex _ _ ry), s1, s2, q _ _ G H k (.refl s) (Rp.bl _)⟩
theorem de_eqD (hu : X.A.units + 64 < cLine) (h : DE X p δ a fun x => ∃ d, x = .d d ∧ SeqAt.shaped d = true ∧ DE X p δ b fun y => ∃ d', y = .d d' ∧ SeqAt.shaped d' = true ∧ Kp (.d (.bool (PyData.eqv d d')))) : DE X p δ (.Compare a [.Eq] [b] pos) Kp := de_cmp (op_eqD hu) (nomark _) (h_eqD h)
theorem dt_eqD {Kb : Bool → Prop} (hu : X.A.units + 64 < cLine) (h : DE X p δ a fun x => ∃ d, x = .d d ∧ SeqAt.shaped d = true ∧ DE X p δ b fun y => ∃ d', y = .d d' ∧ SeqAt.shaped d' = true ∧ Kb ((PyData.eqv d d'))) : DT X p δ (.Compare a [.Eq] [b] pos) Kb := dt_cmp0 (op_eqD hu) (nomark _) (h_eqD (h.imp fun x ⟨d, hx, s1, hb⟩ => ⟨d, hx, s1, hb.imp fun y ⟨d', hy, s2, k⟩ => ⟨d', hy, s2, _, rfl, k⟩⟩))
theorem h_neD (h : DE X p δ a fun x => ∃ d, x = .d d ∧ SeqAt.shaped d = true ∧ DE X p δ b fun y => ∃ d', y = .d d' ∧ SeqAt.shaped d' = true ∧ Kp (.d (.bool (!PyData.eqv d d')))) : H2 X p δ a (b) (rNeD X.K) Kp :=
  h.imp fun x ⟨d, hx, s1, hb⟩ => hb.imp fun y ⟨d', hy, s2, k⟩ G H vx vy s rx ry Q q => by
    subst hx hy
    exact ⟨d, d', Rp.dp _ _ (Ex.dp s.ex _ _ rx), Rp.dp _ _ (Ex.dp s.ex _ _ ry), s1, s2, q _ _ G H k (.refl s) (Rp.bl _)⟩
theorem de_neD (hu : X.A.units + 64 < cLine) (h : DE X p δ a fun x => ∃ d, x = .d d ∧ SeqAt.shaped d = true ∧ DE X p δ b fun y => ∃ d', y = .d d' ∧ SeqAt.shaped d' = true ∧ Kp (.d (.bool (!PyData.eqv d d')))) : DE X p δ (.Compare a [.NotEq] [b] pos) Kp := de_cmp (op_neD hu) (nomark _) (h_neD h)
theorem dt_neD {Kb : Bool → Prop} (hu : X.A.units + 64 < cLine) (h : DE X p δ a fun x => ∃ d, x = .d d ∧ SeqAt.shaped d = true ∧ DE X p δ b fun y => ∃ d', y = .d d' ∧ SeqAt.shaped d' = true ∧ Kb ((!PyData.eqv d d'))) : DT X p δ (.Compare a [.NotEq] [b] pos) Kb := dt_cmp0 (op_neD hu) (nomark _) (h_neD (h.imp fun x ⟨d, hx, s1, hb⟩ => ⟨d, hx, s1, hb.imp fun y ⟨d', hy, s2, k⟩ => ⟨d', hy, s2, _, rfl, k⟩⟩))
/-- x in t, t a list or tuple of data -/
def itemsOf : PyData → Option (List PyData)
  | .list ds => some ds
  | .tuple ds => some ds
  | _ => none
def rInS (K : PySem.W.Frag) (neg : Bool) : R2 := fun x y H Q => ∃ d c ds, Dp K H x d ∧ Dp K H y c ∧ itemsOf c = some ds ∧ SeqAt.shaped d = true ∧ SeqAt.shaped c = true ∧ Q (.bl (if neg then !ds.any (fun z => PyData.eqv z d) else ds.any (fun z => PyData.eqv z d))) H
theorem canLayAll_of {ds : List PyData} {c : PyData} (h : SeqAt.shaped c = true) (e : itemsOf c = some ds) : PyData.canLayAll0 ds = true := by
  have q := SeqAt.canLay_of_shaped h
  cases c with
  | list xs => cases e; exact q
  | tuple xs => cases e; exact q
  | none => cases e
  | bool _ => cases e
  | int _ => cases e
  | str _ => cases e
  | dict _ => cases e
theorem op_inS (hu : X.A.units + 65 < cLine) : OpR X (compareOp .In) (rInS X.K false) := by
  intro pins s σ H x y v u Q I rx ry h
  obtain ⟨d, c, ds, hd, hc, e, sd, sc, q⟩ := h
  obtain ⟨as, r1⟩ := Dp.reads I d x v hd rx
  obtain ⟨bs, r2⟩ := Dp.reads I c y u hc ry
  have hl := canLayAll_of sc e
  cases c with
  | list xs => cases e; exact SeqAt.in_list_reads r2 r1 hl (SeqAt.canLay_of_shaped sd) (PyProof.Rows.room_in_shaped sd hu) ⟨.bl _, H, I, rfl, q⟩
  | tuple xs => cases e; exact SeqAt.in_tuple_reads r2 r1 hl (SeqAt.canLay_of_shaped sd) (PyProof.Rows.room_in_shaped sd hu) ⟨.bl _, H, I, rfl, q⟩
  | none => cases e
  | bool _ => cases e
  | int _ => cases e
  | str _ => cases e
  | dict _ => cases e
theorem op_notInS (hu : X.A.units + 65 < cLine) : OpR X (compareOp .NotIn) (rInS X.K true) := by
  intro pins s σ H x y v u Q I rx ry h
  obtain ⟨d, c, ds, hd, hc, e, sd, sc, q⟩ := h
  obtain ⟨as, r1⟩ := Dp.reads I d x v hd rx
  obtain ⟨bs, r2⟩ := Dp.reads I c y u hc ry
  have hl := canLayAll_of sc e
  cases c with
  | list xs => cases e; exact SeqAt.notIn_list_reads r2 r1 hl (SeqAt.canLay_of_shaped sd) (PyProof.Rows.room_in_shaped sd hu) ⟨.bl _, H, I, rfl, q⟩
  | tuple xs => cases e; exact SeqAt.notIn_tuple_reads r2 r1 hl (SeqAt.canLay_of_shaped sd) (PyProof.Rows.room_in_shaped sd hu) ⟨.bl _, H, I, rfl, q⟩
  | none => cases e
  | bool _ => cases e
  | int _ => cases e
  | str _ => cases e
  | dict _ => cases e
theorem h_in (h : DE X p δ a fun x => ∃ d, x = .d d ∧ SeqAt.shaped d = true ∧ DE X p δ b fun y => ∃ c ds, y = .d c ∧ itemsOf c = some ds ∧ SeqAt.shaped c = true ∧ Kp (.d (.bool (ds.any fun z => PyData.eqv z d)))) : H2 X p δ a (b) (rInS X.K false) Kp :=
  h.imp fun x ⟨d, hx, s1, hb⟩ => hb.imp fun y ⟨c, ds, hy, e, s2, k⟩ G H vx vy s rx ry Q q => by
    subst hx hy
    exact ⟨d, c, ds, Rp.dp _ _ (Ex.dp s.ex _ _ rx), Rp.dp _ _ (Ex.dp s.ex _ _ ry), e, s1, s2, q _ _ G H k (.refl s) (Rp.bl _)⟩
theorem de_in (hu : X.A.units + 65 < cLine) (hm : behindInMarks .In b = false) (h : DE X p δ a fun x => ∃ d, x = .d d ∧ SeqAt.shaped d = true ∧ DE X p δ b fun y => ∃ c ds, y = .d c ∧ itemsOf c = some ds ∧ SeqAt.shaped c = true ∧ Kp (.d (.bool (ds.any fun z => PyData.eqv z d)))) : DE X p δ (.Compare a [.In] [b] pos) Kp := de_cmp (op_inS hu) hm (h_in h)
theorem dt_in {Kb : Bool → Prop} (hu : X.A.units + 65 < cLine) (hm : behindInMarks .In b = false) (h : DE X p δ a fun x => ∃ d, x = .d d ∧ SeqAt.shaped d = true ∧ DE X p δ b fun y => ∃ c ds, y = .d c ∧ itemsOf c = some ds ∧ SeqAt.shaped c = true ∧ Kb ((ds.any fun z => PyData.eqv z d))) : DT X p δ (.Compare a [.In] [b] pos) Kb := dt_cmp0 (op_inS hu) hm (h_in (h.imp fun x ⟨d, hx, s1, hb⟩ => ⟨d, hx, s1, hb.imp fun y ⟨c, ds, hy, e, s2, k⟩ => ⟨c, ds, hy, e, s2, _, rfl, k⟩⟩))
theorem h_notIn (h : DE X p δ a fun x => ∃ d, x = .d d ∧ SeqAt.shaped d = true ∧ DE X p δ b fun y => ∃ c ds, y = .d c ∧ itemsOf c = some ds ∧ SeqAt.shaped c = true ∧ Kp (.d (.bool (!ds.any fun z => PyData.eqv z d)))) : H2 X p δ a (b) (rInS X.K true) Kp :=
  h.imp fun x ⟨d, hx, s1, hb⟩ => hb.imp fun y ⟨c, ds, hy, e, s2, k⟩ G H vx vy s rx ry Q q => by
    subst hx hy
    exact ⟨d, c, ds, Rp.dp _ _ (Ex.dp s.ex _ _ rx), Rp.dp _ _ (Ex.dp s.ex _ _ ry), e, s1, s2, q _ _ G H k (.refl s) (Rp.bl _)⟩
theorem de_notIn (hu : X.A.units + 65 < cLine) (hm : behindInMarks .NotIn b = false) (h : DE X p δ a fun x => ∃ d, x = .d d ∧ SeqAt.shaped d = true ∧ DE X p δ b fun y => ∃ c ds, y = .d c ∧ itemsOf c = some ds ∧ SeqAt.shaped c = true ∧ Kp (.d (.bool (!ds.any fun z => PyData.eqv z d)))) : DE X p δ (.Compare a [.NotIn] [b] pos) Kp := de_cmp (op_notInS hu) hm (h_notIn h)
theorem dt_notIn {Kb : Bool → Prop} (hu : X.A.units + 65 < cLine) (hm : behindInMarks .NotIn b = false) (h : DE X p δ a fun x => ∃ d, x = .d d ∧ SeqAt.shaped d = true ∧ DE X p δ b fun y => ∃ c ds, y = .d c ∧ itemsOf c = some ds ∧ SeqAt.shaped c = true ∧ Kb ((!ds.any fun z => PyData.eqv z d))) : DT X p δ (.Compare a [.NotIn] [b] pos) Kb := dt_cmp0 (op_notInS hu) hm (h_notIn (h.imp fun x ⟨d, hx, s1, hb⟩ => ⟨d, hx, s1, hb.imp fun y ⟨c, ds, hy, e, s2, k⟩ => ⟨c, ds, hy, e, s2, _, rfl, k⟩⟩))
def isNone : DV → Bool
  | .d .none => true
  | .v .non => true
  | _ => false
theorem rel_none {K : PySem.W.Frag} {G : Hp} : ∀ {d : PyData} {v : V}, Rp K G v d → decide (v = .non) = (match d with | .none => true | _ => false)
  | _, _, .non => rfl
  | _, _, .bl _ => rfl
  | _, _, .int _ => rfl
  | _, _, .str _ => rfl
  | _, _, .lst _ _ => rfl
  | _, _, .tup _ _ => rfl
theorem h_isN {j pos'} (h : DE X p δ a fun x => ∃ d, x = .d d ∧ Kp (.d (.bool (match d with | .none => true | _ => false)))) : H2 X p δ a (.Constant .none j pos') (fun x y H Q => y = .non ∧ Q (.bl (decide (x = .non))) H) Kp :=
  h.imp fun x ⟨d, hx, k⟩ => de_non fun G H vx vy s rx ry Q q => by
    subst hx
    cases ry
    refine ⟨rfl, q _ _ G H k (.refl s) ?_⟩
    rw [rel_none rx]
    exact Rp.bl _
theorem de_isN {j pos'} (h : DE X p δ a fun x => ∃ d, x = .d d ∧ Kp (.d (.bool (match d with | .none => true | _ => false)))) : DE X p δ (.Compare a [.Is] [.Constant .none j pos'] pos) Kp := de_cmp op_isN (nomark _) (h_isN h)
theorem dt_isN {Kb : Bool → Prop} {j pos'} (h : DE X p δ a fun x => ∃ d, x = .d d ∧ Kb ((match d with | .none => true | _ => false))) : DT X p δ (.Compare a [.Is] [.Constant .none j pos'] pos) Kb := dt_cmp0 op_isN (nomark _) (h_isN (h.imp fun x ⟨d, hx, k⟩ => ⟨d, hx, _, rfl, k⟩))
theorem h_notN {j pos'} (h : DE X p δ a fun x => ∃ d, x = .d d ∧ Kp (.d (.bool (!match d with | .none => true | _ => false)))) : H2 X p δ a (.Constant .none j pos') (fun x y H Q => y = .non ∧ Q (.bl (!decide (x = .non))) H) Kp :=
  h.imp fun x ⟨d, hx, k⟩ => de_non fun G H vx vy s rx ry Q q => by
    subst hx
    cases ry
    refine ⟨rfl, q _ _ G H k (.refl s) ?_⟩
    rw [rel_none rx]
    exact Rp.bl _
theorem de_notN {j pos'} (h : DE X p δ a fun x => ∃ d, x = .d d ∧ Kp (.d (.bool (!match d with | .none => true | _ => false)))) : DE X p δ (.Compare a [.IsNot] [.Constant .none j pos'] pos) Kp := de_cmp op_notN (nomark _) (h_notN h)
theorem dt_notN {Kb : Bool → Prop} {j pos'} (h : DE X p δ a fun x => ∃ d, x = .d d ∧ Kb ((!match d with | .none => true | _ => false))) : DT X p δ (.Compare a [.IsNot] [.Constant .none j pos'] pos) Kb := dt_cmp0 op_notN (nomark _) (h_notN (h.imp fun x ⟨d, hx, k⟩ => ⟨d, hx, _, rfl, k⟩))
/-! ### and, or, not, if -/
theorem de_one {op} (h : DE X p δ a Kp) : DE X p δ (.BoolOp op [a] pos) Kp := fun σ G H he hs Q hq => ofE (pe_one (peW a)) (h σ G H he hs Q hq)
theorem de_and {rest : List Expr} (h : DE X p δ a fun x => ∃ t, x = .d (.bool t) ∧ (t = true → DE X p δ (.BoolOp .And (b :: rest) pos) Kp) ∧ (t = false → Kp (.d (.bool false)))) : DE X p δ (.BoolOp .And (a :: b :: rest) pos) Kp := fun σ G H he hs Q hq => by
  refine ofE (pe_and (peW a) (peW _)) (h σ G H he hs _ fun v r G2 H2 ⟨t, hr, k1, k2⟩ g rv => ?_)
  subst hr
  cases rv
  refine ⟨t, rfl, ?_⟩
  cases t with
  | true =>
    rw [if_pos rfl]
    exact k1 rfl σ G2 H2 (he.up g.ex) g.sat Q fun v r G3 H3 k g3 rv => hq v r G3 H3 k (g.trans g3 hs) rv
  | false =>
    rw [if_neg Bool.false_ne_true]
    exact hq _ _ G2 H2 (k2 rfl) g (Rp.bl _)
theorem de_or {rest : List Expr} (h : DE X p δ a fun x => ∃ t, x = .d (.bool t) ∧ (t = false → DE X p δ (.BoolOp .Or (b :: rest) pos) Kp) ∧ (t = true → Kp (.d (.bool true)))) : DE X p δ (.BoolOp .Or (a :: b :: rest) pos) Kp := fun σ G H he hs Q hq => by
  refine ofE (pe_or (peW a) (peW _)) (h σ G H he hs _ fun v r G2 H2 ⟨t, hr, k1, k2⟩ g rv => ?_)
  subst hr
  cases rv
  refine ⟨t, rfl, ?_⟩
  cases t with
  | false =>
    rw [if_neg Bool.false_ne_true]
    exact k1 rfl σ G2 H2 (he.up g.ex) g.sat Q fun v r G3 H3 k g3 rv => hq v r G3 H3 k (g.trans g3 hs) rv
  | true =>
    rw [if_pos rfl]
    exact hq _ _ G2 H2 (k2 rfl) g (Rp.bl _)
theorem de_not (h : DE X p δ a fun x => ∃ t, x = .d (.bool t) ∧ Kp (.d (.bool (!t)))) : DE X p δ (.UnaryOp .Not a pos) Kp := fun σ G H he hs Q hq => by
  refine ofE (pe_not (peW a)) (h σ G H he hs _ fun v r G2 H2 ⟨t, hr, k⟩ g rv => ?_)
  subst hr
  cases rv
  exact ⟨t, rfl, hq _ _ G2 H2 k g (Rp.bl _)⟩
theorem de_ifE (h : DT X p δ c fun t => (t = true → DE X p δ a Kp) ∧ (t = false → DE X p δ b Kp)) : DE X p δ (.IfExp c a b pos) Kp := fun σ G H he hs Q hq => by
  refine ofE (pe_ifExp (ptW c) (peW a) (peW b)) (h σ G H he hs _ fun t G2 H2 ⟨k1, k2⟩ g => ?_)
  cases t with
  | true =>
    rw [if_pos rfl]
    exact k1 rfl σ G2 H2 (he.up g.ex) g.sat Q fun v r G3 H3 k g3 rv => hq v r G3 H3 k (g.trans g3 hs) rv
  | false =>
    rw [if_neg Bool.false_ne_true]
    exact k2 rfl σ G2 H2 (he.up g.ex) g.sat Q fun v r G3 H3 k g3 rv => hq v r G3 H3 k (g.trans g3 hs) rv
/-! ### tests -/
variable {Kb : Bool → Prop}
theorem dt_val (h : DE X p δ e fun x => ∃ t, x = .d (.bool t) ∧ Kb t) (hE : ∀ whole, isTrue e X.env whole = (do let v ← whole; standAt e.pos; holding [v] (truthy v)) := by intro _; rfl) : DT X p δ e Kb := fun σ G H he hs Q hq => by
  refine ofT (pt_val (peW e) hE) (h σ G H he hs _ fun v r G2 H2 ⟨t, hr, k⟩ g rv => ?_)
  subst hr
  cases rv
  exact ⟨t, rfl, hq t G2 H2 k g⟩
theorem dt_w (h : DW X p δ e Kb) : DT X p δ e Kb := fun σ G H he hs Q hq => ofT (pwW e).pt (h σ G H he hs Q hq)
theorem dw_and1 (h : DT X p δ a Kb) : DW X p δ (.BoolOp .And [a] pos) Kb := fun σ G H he hs Q hq => ofW (pw_and1 (ptW a)) (h σ G H he hs Q hq)
theorem dw_or1 (h : DT X p δ a Kb) : DW X p δ (.BoolOp .Or [a] pos) Kb := fun σ G H he hs Q hq => ofW (pw_or1 (ptW a)) (h σ G H he hs Q hq)
theorem dw_and {rest : List Expr} (h : DT X p δ a fun t => (t = true → DW X p δ (.BoolOp .And (b :: rest) pos) Kb) ∧ (t = false → Kb false)) : DW X p δ (.BoolOp .And (a :: b :: rest) pos) Kb := fun σ G H he hs Q hq => by
  refine ofW (pw_and (ptW a) (pwW _)) (h σ G H he hs _ fun t G2 H2 ⟨k1, k2⟩ g => ?_)
  cases t with
  | true =>
    rw [if_pos rfl]
    exact k1 rfl σ G2 H2 (he.up g.ex) g.sat Q fun t G3 H3 k g3 => hq t G3 H3 k (g.trans g3 hs)
  | false =>
    rw [if_neg Bool.false_ne_true]
    exact hq _ G2 H2 (k2 rfl) g
theorem dw_or {rest : List Expr} (h : DT X p δ a fun t => (t = false → DW X p δ (.BoolOp .Or (b :: rest) pos) Kb) ∧ (t = true → Kb true)) : DW X p δ (.BoolOp .Or (a :: b :: rest) pos) Kb := fun σ G H he hs Q hq => by
  refine ofW (pw_or (ptW a) (pwW _)) (h σ G H he hs _ fun t G2 H2 ⟨k1, k2⟩ g => ?_)
  cases t with
  | false =>
    rw [if_neg Bool.false_ne_true]
    exact k1 rfl σ G2 H2 (he.up g.ex) g.sat Q fun t G3 H3 k g3 => hq t G3 H3 k (g.trans g3 hs)
  | true =>
    rw [if_pos rfl]
    exact hq _ G2 H2 (k2 rfl) g
theorem dt_not (h : DT X p δ a fun t => Kb (!t)) : DT X p δ (.UnaryOp .Not a pos) Kb := fun σ G H he hs Q hq => ofT (pt_not (ptW a)) (h σ G H he hs _ fun t G2 H2 k g => hq _ G2 H2 k g)

/-! ### arguments, displays -/
variable {Ka : List DV → Prop} {es : List Expr}
theorem da_nil (k : Ka []) : DA X p δ [] Ka := fun σ G H he hs Q hq => ofA pa_nil (hq [] [] G H k (.refl hs) .nil)
theorem da_cons (h : DE X p δ e fun x => DA X p δ es fun xs => Ka (x :: xs)) (hst : starEach (e :: es) X.env = (false, eval e X.env) :: starEach es X.env := by rfl) : DA X p δ (e :: es) Ka := fun σ G H he hs Q hq => by
  refine ofA (pa_cons (peW e) (paW es) hst) (h σ G H he hs _ fun v x G1 H1 k1 g1 rv => ?_)
  exact k1 σ G1 H1 (he.up g1.ex) g1.sat _ fun vs xs G2 H2 k2 g2 rvs => hq _ _ G2 H2 k2 (g1.trans g2 hs) (.cons (rv.up g2.ex) rvs)
theorem Rels.rp {K : PySem.W.Frag} {G : Hp} : ∀ {ds : List PyData} {vs : List V}, Rels K G (ds.map DV.d) vs → RpAll K G vs ds
  | [], _, h => by cases h; exact .nil
  | d :: ds, _, h => by
    cases h with
    | cons a b => exact .cons a (Rels.rp b)
/-- all are data -/
def datas : List DV → Option (List PyData)
  | [] => some []
  | .d x :: rs => (datas rs).map (x :: ·)
  | _ :: _ => none
theorem datas_map : ∀ {rs : List DV} {ds : List PyData}, datas rs = some ds → rs = ds.map DV.d
  | [], ds, h => by cases h; rfl
  | .d x :: rs, ds, h => by
    cases q : datas rs with
    | none => simp [datas, q] at h
    | some l =>
      simp [datas, q] at h
      subst h
      simp [datas_map q]
  | .v _ :: _, _, h => by cases h
  | .o _ :: _, _, h => by cases h
theorem de_tup {x1} (h : DA X p δ es fun rs => ∃ ds, datas rs = some ds ∧ ds.length ≤ sizeLine ∧ Kp (.d (.tuple ds))) : DE X p δ (.Tuple es x1 pos) Kp := fun σ G H he hs Q hq => by
  refine ofE (pe_tup (paW es)) (h σ G H he hs _ fun vs rs G1 H1 ⟨ds, e, hl, k⟩ g1 rv => ?_)
  have q := datas_map e
  subst q
  have ra := Rels.rp rv
  refine ⟨by rw [ra.len]; exact hl, fun q hq' => ?_⟩
  have g2 := Go.alloc (o := .tup vs) g1.sat hq'
  exact hq _ _ _ _ k (g1.trans g2 hs) (Rp.tup (.of upd_same) (Ex.dps g2.ex _ _ ra))
theorem de_lst (h : DA X p δ es fun rs => ∃ ds, datas rs = some ds ∧ ds.length ≤ sizeLine ∧ Kp (.d (.list ds))) : DE X p δ (.List es pos) Kp := fun σ G H he hs Q hq => by
  refine ofE (pe_lst (paW es)) (h σ G H he hs _ fun vs rs G1 H1 ⟨ds, e, hl, k⟩ g1 rv => ?_)
  have q := datas_map e
  subst q
  have ra := Rels.rp rv
  refine ⟨by rw [ra.len]; exact hl, fun q hq' => ?_⟩
  have g2 := Go.alloc (o := .lst vs) g1.sat hq'
  exact hq _ _ _ _ k (g1.trans g2 hs) (Rp.lst upd_same (Ex.dps g2.ex _ _ ra))

/-! ### items, slices, sums of lists -/
theorem atI_len {α β : Type} {xs : List α} {ys : List β} (h : xs.length = ys.length) {i : Int} {y : β} (e : atI ys i = some y) : ∃ j : Nat, ys[j]? = some y ∧ ∀ x, xs[j]? = some x → atI xs i = some x := by
  unfold atI at e ⊢
  rw [h]
  cases q : ixN ys.length i with
  | none => rw [q] at e; cases e
  | some j => exact ⟨j, by rw [q] at e; exact e, fun x hx => hx⟩
theorem de_ixL (hp : PlainIx b) (h : DE X p δ a fun x => ∃ ds, x = .d (.list ds) ∧ DE X p δ b fun y => ∃ i d, y = .d (.int i) ∧ atI ds i = some d ∧ Kp (.d d)) : DE X p δ (.Subscript a b pos) Kp :=
  de_op2 (t := tOp (rIxL X.K)) (fun _ _ ha hb => pe_ix ix_list ha hb hp) (fun _ _ _ _ _ h => h) (h.imp fun x ⟨ds, hx, hb⟩ => hb.imp fun y ⟨i, d, hy, e, k⟩ G H vx vy s rx ry Q q => by
    subst hx hy
    cases ry
    cases rx with
    | lst hl ha =>
      obtain ⟨j, hj, f⟩ := atI_len ha.len e
      obtain ⟨v, hv, rv⟩ := ha.get hj
      exact ⟨_, _, i, v, rfl, rfl, .of (s.ex _ _ hl), f v hv, q v (.d d) G H k (.refl s) rv⟩)
theorem de_ixT (hp : PlainIx b) (h : DE X p δ a fun x => ∃ ds, x = .d (.tuple ds) ∧ DE X p δ b fun y => ∃ i d, y = .d (.int i) ∧ atI ds i = some d ∧ Kp (.d d)) : DE X p δ (.Subscript a b pos) Kp :=
  de_op2 (t := tOp (rIxT X.K)) (fun _ _ ha hb => pe_ix ix_tup ha hb hp) (fun _ _ _ _ _ h => h) (h.imp fun x ⟨ds, hx, hb⟩ => hb.imp fun y ⟨i, d, hy, e, k⟩ G H vx vy s rx ry Q q => by
    subst hx hy
    cases ry
    cases rx with
    | tup hl ha =>
      obtain ⟨j, hj, f⟩ := atI_len ha.len e
      obtain ⟨v, hv, rv⟩ := ha.get hj
      exact ⟨_, _, i, v, rfl, rfl, s.ex.st hl, f v hv, q v (.d d) G H k (.refl s) rv⟩)
/-- an item of a list or a tuple of data -/
theorem de_ix (hp : PlainIx b) (h : DE X p δ a fun x => ∃ c ds, x = .d c ∧ itemsOf c = some ds ∧ DE X p δ b fun y => ∃ i d, y = .d (.int i) ∧ atI ds i = some d ∧ Kp (.d d)) : DE X p δ (.Subscript a b pos) Kp :=
  de_op2 (t := tOp (rIx X.K)) (fun _ _ ha hb => pe_ix ix_seq ha hb hp) (fun _ _ _ _ _ h => h) (h.imp fun x ⟨c, ds, hx, ec, hb⟩ => hb.imp fun y ⟨i, d, hy, e, k⟩ G H vx vy s rx ry Q q => by
    subst hx hy
    cases ry
    cases rx with
    | lst hl ha =>
      cases ec
      obtain ⟨j, hj, f⟩ := atI_len ha.len e
      obtain ⟨v, hv, rv⟩ := ha.get hj
      exact .inl ⟨_, _, i, v, rfl, rfl, .of (s.ex _ _ hl), f v hv, q v (.d d) G H k (.refl s) rv⟩
    | tup hl ha =>
      cases ec
      obtain ⟨j, hj, f⟩ := atI_len ha.len e
      obtain ⟨v, hv, rv⟩ := ha.get hj
      exact .inr (.inl ⟨_, _, i, v, rfl, rfl, s.ex.st hl, f v hv, q v (.d d) G H k (.refl s) rv⟩)
    | non => cases ec
    | bl _ => cases ec
    | int _ => cases ec
    | str _ => cases ec)
theorem de_cat (h : DE X p δ a fun x => ∃ ds, x = .d (.list ds) ∧ DE X p δ b fun y => ∃ es, y = .d (.list es) ∧ ds.length + es.length ≤ sizeLine ∧ Kp (.d (.list (ds ++ es)))) : DE X p δ (.BinOp a .Add b pos) Kp :=
  de_bop op_cat (h.imp fun x ⟨ds, hx, hb⟩ => hb.imp fun y ⟨es, hy, hz, k⟩ G H vx vy s rx ry Q q => by
    subst hx hy
    cases rx with
    | lst hl ha =>
      cases ry with
      | lst hl' ha' =>
        refine ⟨_, _, _, _, rfl, rfl, s.ex _ _ hl, s.ex _ _ hl', by rw [ha.len, ha'.len]; exact hz, fun q' hq' => ?_⟩
        exact q _ _ _ _ k (Go.alloc s hq') (Rp.lst upd_same (Ex.dps (Ex.new (s.fresh hq')) _ _ (ha.app ha'))))
theorem de_catT (h : DE X p δ a fun x => ∃ ds, x = .d (.tuple ds) ∧ DE X p δ b fun y => ∃ es, y = .d (.tuple es) ∧ ds.length + es.length ≤ sizeLine ∧ Kp (.d (.tuple (ds ++ es)))) : DE X p δ (.BinOp a .Add b pos) Kp :=
  de_bop op_catA (h.imp fun x ⟨ds, hx, hb⟩ => hb.imp fun y ⟨es, hy, hz, k⟩ G H vx vy s rx ry Q q => by
    subst hx hy
    cases rx with
    | tup hl ha =>
      cases ry with
      | tup hl' ha' =>
        refine ⟨_, _, _, _, rfl, rfl, s.ex.st hl, s.ex.st hl', by rw [ha.len, ha'.len]; exact hz, fun e0 => ?_, fun _ e0 => ?_, fun _ _ q' hq' => ?_⟩
        · subst e0
          have : ds = [] := by have := ha.len; simp at this; exact List.eq_nil_of_length_eq_zero this.symm
          subst this
          exact q _ _ G H k (.refl s) (Rp.tup hl' ha')
        · subst e0
          have : es = [] := by have := ha'.len; simp at this; exact List.eq_nil_of_length_eq_zero this.symm
          subst this
          rw [List.append_nil] at k
          exact q _ _ G H k (.refl s) (Rp.tup hl ha)
        · exact q _ _ _ _ k (Go.alloc s hq') (Rp.tup (.of upd_same) (Ex.dps (Ex.new (s.fresh hq')) _ _ (ha.app ha'))))
theorem de_rep (h : DE X p δ a fun x => ∃ ds, x = .d (.list ds) ∧ DE X p δ b fun y => ∃ i : Int, y = .d (.int i) ∧ -(2 ^ 63) ≤ i ∧ i < 2 ^ 63 ∧ ds.length * i.toNat ≤ sizeLine ∧ Kp (.d (.list (List.replicate i.toNat ds).flatten))) : DE X p δ (.BinOp a .Mult b pos) Kp :=
  de_bop op_rep (h.imp fun x ⟨ds, hx, hb⟩ => hb.imp fun y ⟨i, hy, h1, h2, h3, k⟩ G H vx vy s rx ry Q q => by
    subst hx hy
    cases ry
    cases rx with
    | lst hl ha =>
      refine ⟨_, i, _, rfl, rfl, s.ex _ _ hl, h1, h2, by rw [ha.len]; exact h3, fun q' hq' => ?_⟩
      exact q _ _ _ _ k (Go.alloc s hq') (Rp.lst upd_same (Ex.dps (Ex.new (s.fresh hq')) _ _ (ha.rep _))))
end
end Z
end

section
set_option linter.all false
set_option maxRecDepth 100000
set_option maxHeartbeats 2000000
namespace Z
open PySem L2
section
variable {X : Cx} {p : Option Addr} {δ : En} {Kp : DV → Prop} {P : Out → Prop} {a b c e : Expr} {pos : Pos} {st : Stmt} {rest body orelse : List Stmt}

theorem EndsOk.go {G H G1 H1 : Hp} {D : Ends} (h : EndsOk X p G H P D) (hs : Sat p G H) (g : Go p G H G1 H1) : EndsOk X p G1 H1 P D :=
  ⟨fun δ σ G2 H2 k g2 => h.nx δ σ G2 H2 k (g.trans g2 hs), fun r v G2 H2 k g2 => h.rt r v G2 H2 k (g.trans g2 hs), fun δ σ G2 H2 k g2 => h.bk δ σ G2 H2 k (g.trans g2 hs), fun δ σ G2 H2 k g2 => h.ct δ σ G2 H2 k (g.trans g2 hs)⟩
theorem DSs.imp {Q : Out → Prop} {st : List Stmt} (h : DSs X p δ st P) (k : ∀ o, P o → Q o) : DSs X p δ st Q := fun σ G H he hs D d => h σ G H he hs D
  ⟨fun δ σ G2 H2 q => d.nx δ σ G2 H2 (k _ q), fun r v G2 H2 q => d.rt r v G2 H2 (k _ q), fun δ σ G2 H2 q => d.bk δ σ G2 H2 (k _ q), fun δ σ G2 H2 q => d.ct δ σ G2 H2 (k _ q)⟩
theorem DS.imp {Q : Out → Prop} (h : DS X p δ st P) (k : ∀ o, P o → Q o) : DS X p δ st Q := fun σ G H he hs D d => h σ G H he hs D
  ⟨fun δ σ G2 H2 q => d.nx δ σ G2 H2 (k _ q), fun r v G2 H2 q => d.rt r v G2 H2 (k _ q), fun δ σ G2 H2 q => d.bk δ σ G2 H2 (k _ q), fun δ σ G2 H2 q => d.ct δ σ G2 H2 (k _ q)⟩
/-- what follows a statement -/
def thenP (Nx : En → Prop) (P : Out → Prop) : Out → Prop
  | .nx δ => Nx δ
  | .rt r => P (.rt r)
  | .bk δ => P (.bk δ)
  | .ct δ => P (.ct δ)
theorem dss_nil (k : P (.nx δ)) : DSs X p δ [] P := fun σ G H he hs D d => ofSs pss_nil (d.nx δ σ G H k (.refl hs) he)
theorem dss_cons (h : DS X p δ st (thenP (fun δ' => DSs X p δ' rest P) P)) : DSs X p δ (st :: rest) P := fun σ G H he hs D d => by
  refine ofSs (pss_cons (psW st) (pssW rest)) ?_
  refine h σ G H he hs { D with nx := wpSs X rest D } ⟨fun δ' σ' G2 H2 k g he' => ?_, fun r v G2 H2 k g => d.rt r v G2 H2 k g, fun δ' σ' G2 H2 k g => d.bk δ' σ' G2 H2 k g, fun δ' σ' G2 H2 k g => d.ct δ' σ' G2 H2 k g⟩
  exact k σ' G2 H2 he' g.sat D (d.go hs g)
theorem ds_pass (k : P (.nx δ)) : DS X p δ (.Pass pos) P := fun σ G H he hs D d => ofS ps_pass (d.nx δ σ G H k (.refl hs) he)
theorem ds_break (k : P (.bk δ)) : DS X p δ (.Break pos) P := fun σ G H he hs D d => ofS ps_break (d.bk δ σ G H k (.refl hs) he)
theorem ds_cont (k : P (.ct δ)) : DS X p δ (.Continue pos) P := fun σ G H he hs D d => ofS ps_continue (d.ct δ σ G H k (.refl hs) he)
theorem ds_doc {x j pos'} (k : P (.nx δ)) : DS X p δ (.Expr (.Constant (.str x) j pos) pos') P := fun σ G H he hs D d => ofS ps_doc (d.nx δ σ G H k (.refl hs) he)
theorem ds_expr (h : DE X p δ e fun _ => P (.nx δ)) (hw : swapsWith e none pos.line X.env = pure false := by rfl) : DS X p δ (.Expr e pos) P := fun σ G H he hs D d =>
  ofS (ps_expr (peW e) hw) (h σ G H he hs _ fun v r G2 H2 k g rv => d.nx δ σ G2 H2 k g (he.up g.ex))
theorem ds_ret (h : DE X p δ e fun r => P (.rt r)) : DS X p δ (.Return (some e) pos) P := fun σ G H he hs D d => ofS (ps_ret (peW e)) (h σ G H he hs _ fun v r G2 H2 k g rv => d.rt r v G2 H2 k g rv)
theorem ds_retN (k : P (.rt (.d .none))) : DS X p δ (.Return none pos) P := fun σ G H he hs D d => ofS ps_retN (d.rt _ _ G H k (.refl hs) Rp.non)
theorem ds_if (h : DT X p δ c fun t => (t = true → DSs X p δ body P) ∧ (t = false → DSs X p δ orelse P)) : DS X p δ (.If c body orelse pos) P := fun σ G H he hs D d => by
  refine ofS (ps_if (ptW c) (pssW body) (pssW orelse)) (h σ G H he hs _ fun t G2 H2 ⟨k1, k2⟩ g => ?_)
  cases t with
  | true =>
    rw [if_pos rfl]
    exact k1 rfl σ G2 H2 (he.up g.ex) g.sat D (d.go hs g)
  | false =>
    rw [if_neg Bool.false_ne_true]
    exact k2 rfl σ G2 H2 (he.up g.ex) g.sat D (d.go hs g)
theorem ds_set {i : Nat} {x : Str} {pos' : Pos} (hN : X.N.Nodup) (hi : X.N[i]? = some x) (hx : Loc X.env.scope x) (h : DE X p δ e fun r => P (.nx (δ.set i (some r)))) (hw : swapsWith e (some (.Name x pos')) pos.line X.env = pure false := by rfl)
    (hf : X.fn x = true ∨ X.env.scope.names.lookup x = some .local := by first | exact .inl rfl | exact .inr rfl | assumption) : DS X p δ (.Assign [.Name x pos'] e pos) P := fun σ G H he hs D d =>
  ofS (ps_set hN hi hx (peW e) hw hf) (h σ G H he hs _ fun v r G2 H2 k g rv => d.nx _ _ G2 H2 k g ((he.up g.ex).set rv))

/-! ### targets -/
/-- a target takes a value: what is known of the slots behind it -/
def DG (X : Cx) (p : Option Addr) (δ : En) (tg : Expr) (r : DV) (N : En → Prop) : Prop := ∃ t, PG X tg t ∧ ∀ σ G H v, EnvD X.K G δ σ → Sat p G H → rel X.K G r v → ∀ Q : St → Hp → Prop, (∀ δ' σ', N δ' → EnvD X.K G δ' σ' → Q σ' H) → t v σ H Q
def DGs (X : Cx) (p : Option Addr) (δ : En) (tgs : List Expr) (rs : List DV) (N : En → Prop) : Prop := ∃ t, PGs X tgs t ∧ ∀ σ G H vs, EnvD X.K G δ σ → Sat p G H → Rels X.K G rs vs → ∀ Q : St → Hp → Prop, (∀ δ' σ', N δ' → EnvD X.K G δ' σ' → Q σ' H) → t vs σ H Q
end

/-! ### loops -/
section
variable {X : Cx} {p : Option Addr} {δ : En} {P : Out → Prop} {it tg : Expr} {pos : Pos} {body : List Stmt}
/-- what a turn of a loop is to reach -/
def turnP (I : En → Prop) (P : Out → Prop) : Out → Prop
  | .nx δ => I δ
  | .ct δ => I δ
  | .bk δ => P (.nx δ)
  | .rt r => P (.rt r)
/-- over a list of data; the target told by t -/
theorem ds_forL (hp : PassesOwn (model X.prog X.w) X.A X.env X.xe) (hc : X.calm = true) {t : TG} (hg : PG X tg t) (S : En → PyData → En)
    (hS : ∀ δ' d σ' G' H' v, EnvD X.K G' δ' σ' → Rp X.K G' v d → Sat p G' H' → ∀ Q : St → Hp → Prop, (∀ σ2, EnvD X.K G' (S δ' d) σ2 → Q σ2 H') → t v σ' H' Q)
    (h : DE X p δ it fun r => ∃ ds, r = .d (.list ds) ∧ ∃ I : Nat → En → Prop, I 0 δ ∧ (∀ k δ' d, ds[k]? = some d → I k δ' → DSs X p (S δ' d) body (turnP (I (k + 1)) P)) ∧ ∀ δ', I ds.length δ' → P (.nx δ'))
    (hs : ∀ x, foldedSetIterable it X.env x = pure x := by intro _; rfl) : DS X p δ (.For tg it body [] pos) P := fun σ G H he hst D d => by
  refine ofS (ps_for hp hc (pi_list (peW it)) hg (pssW body) hs) ?_
  refine h σ G H he hst _ fun v r G1 H1 ⟨ds, hr, I, i0, i1, i2⟩ g1 rv => ?_
  subst hr
  cases rv with
  | @lst a xs _ hl ha =>
    refine ⟨a, rfl, ⟨xs, .of (g1.sat.ex _ _ hl)⟩, for_list (xs := xs) (fun k σ' H' => ∃ δ' G', I k δ' ∧ EnvD X.K G' δ' σ' ∧ Go p G H G' H' ∧ Ex G1 G') ⟨δ, G1, i0, he.up g1.ex, g1, .refl _⟩ (fun k σ' H' _ ⟨δ', G', _, _, g', e'⟩ => .of (g'.sat.ex _ _ (e' _ _ hl))) ?_ ?_⟩
    · rintro k x σ' H' hx ⟨δ', G', ik, he', g', e'⟩
      have hk : k < xs.length := (List.getElem?_eq_some_iff.mp hx).1
      have hd : ds[k]? = some (ds[k]'(by rw [← ha.len]; exact hk)) := List.getElem?_eq_getElem _
      obtain ⟨v, hv, rv⟩ := ha.get hd
      rw [hx] at hv
      cases hv
      refine hS δ' _ σ' G' H' x he' (Ex.dp e' _ _ rv) g'.sat _ fun σ2 he2 => ?_
      exact i1 k δ' _ hd ik σ2 G' H' he2 g'.sat _ ⟨fun δ2 σ2 G2 H2 k2 g2 he2 => ⟨δ2, G2, k2, he2, g'.trans g2 hst, e'.trans g2.ex⟩, fun r v G2 H2 k2 g2 rv => d.rt r v G2 H2 k2 (g'.trans g2 hst) rv, fun δ2 σ2 G2 H2 k2 g2 he2 => d.nx δ2 σ2 G2 H2 k2 (g'.trans g2 hst) he2, fun δ2 σ2 G2 H2 k2 g2 he2 => ⟨δ2, G2, k2, he2, g'.trans g2 hst, e'.trans g2.ex⟩⟩
    · rintro σ' H' ⟨δ', G', ik, he', g', e'⟩
      rw [ha.len] at ik
      exact d.nx δ' σ' G' H' (i2 δ' ik) g' he'
/-- over a tuple of data -/
theorem ds_forT (hp : PassesOwn (model X.prog X.w) X.A X.env X.xe) (hc : X.calm = true) {t : TG} (hg : PG X tg t) (S : En → PyData → En)
    (hS : ∀ δ' d σ' G' H' v, EnvD X.K G' δ' σ' → Rp X.K G' v d → Sat p G' H' → ∀ Q : St → Hp → Prop, (∀ σ2, EnvD X.K G' (S δ' d) σ2 → Q σ2 H') → t v σ' H' Q)
    (h : DE X p δ it fun r => ∃ ds, r = .d (.tuple ds) ∧ ∃ I : Nat → En → Prop, I 0 δ ∧ (∀ k δ' d, ds[k]? = some d → I k δ' → DSs X p (S δ' d) body (turnP (I (k + 1)) P)) ∧ ∀ δ', I ds.length δ' → P (.nx δ'))
    (hs : ∀ x, foldedSetIterable it X.env x = pure x := by intro _; rfl) : DS X p δ (.For tg it body [] pos) P := fun σ G H he hst D d => by
  refine ofS (ps_for hp hc (pi_tup (peW it)) hg (pssW body) hs) ?_
  refine h σ G H he hst _ fun v r G1 H1 ⟨ds, hr, I, i0, i1, i2⟩ g1 rv => ?_
  subst hr
  cases rv with
  | @tup a xs _ hl ha =>
    refine ⟨a, rfl, ⟨xs, g1.sat.ex.st hl⟩, for_tup (xs := xs) (fun k σ' H' => ∃ δ' G', I k δ' ∧ EnvD X.K G' δ' σ' ∧ Go p G H G' H' ∧ Ex G1 G') ⟨δ, G1, i0, he.up g1.ex, g1, .refl _⟩ (fun k σ' H' _ ⟨δ', G', _, _, g', e'⟩ => g'.sat.ex.st (e'.st hl)) ?_ ?_⟩
    · rintro k x σ' H' hx ⟨δ', G', ik, he', g', e'⟩
      have hk : k < xs.length := (List.getElem?_eq_some_iff.mp hx).1
      have hd : ds[k]? = some (ds[k]'(by rw [← ha.len]; exact hk)) := List.getElem?_eq_getElem _
      obtain ⟨v, hv, rv⟩ := ha.get hd
      rw [hx] at hv
      cases hv
      refine hS δ' _ σ' G' H' x he' (Ex.dp e' _ _ rv) g'.sat _ fun σ2 he2 => ?_
      exact i1 k δ' _ hd ik σ2 G' H' he2 g'.sat _ ⟨fun δ2 σ2 G2 H2 k2 g2 he2 => ⟨δ2, G2, k2, he2, g'.trans g2 hst, e'.trans g2.ex⟩, fun r v G2 H2 k2 g2 rv => d.rt r v G2 H2 k2 (g'.trans g2 hst) rv, fun δ2 σ2 G2 H2 k2 g2 he2 => d.nx δ2 σ2 G2 H2 k2 (g'.trans g2 hst) he2, fun δ2 σ2 G2 H2 k2 g2 he2 => ⟨δ2, G2, k2, he2, g'.trans g2 hst, e'.trans g2.ex⟩⟩
    · rintro σ' H' ⟨δ', G', ik, he', g', e'⟩
      rw [ha.len] at ik
      exact d.nx δ' σ' G' H' (i2 δ' ik) g' he'
theorem ds_forR1 {a : Expr} {x : Str} {px pc pf : Pos} {i : Nat} (hp : PassesOwn (model X.prog X.w) X.A X.env X.xe) (hc : X.calm = true) (hN : X.N.Nodup) (hi : X.N[i]? = some x) (hx : Loc X.env.scope x) (hg : Gl X "range") (hm : X.mg "range" = none)
    (h : DA X p δ [a] fun rs => ∃ n : Int, rs = [.d (.int n)] ∧ -(2 ^ 62) ≤ n ∧ n < 2 ^ 62 ∧ ∃ I : Nat → En → Prop, I 0 δ ∧ (∀ (k : Nat) δ', (k : Int) < n → I k δ' → DSs X p (δ'.set i (some (.d (.int (k : Int))))) body (turnP (I (k + 1)) P)) ∧ ∀ δ', I n.toNat δ' → P (.nx δ'))
    (hf : X.fn x = true ∨ X.env.scope.names.lookup x = some .local := by first | exact .inl rfl | exact .inr rfl | assumption) (hst : starEach [a] X.env = [(false, eval a X.env)] := by rfl)
    (hs : ∀ v, foldedSetIterable (.Call (.Name "range" pf) [a] [] pc) X.env v = pure v := by intro _; rfl) : DS X p δ (.For (.Name x px) (.Call (.Name "range" pf) [a] [] pc) body [] pos) P := fun σ G H he hst' D d => by
  refine ofS (ps_for hp hc (pi_range1 hg hm (paW [a]) hst) (pg_name hN hi hx hf) (pssW body) hs) ?_
  refine h σ G H he hst' _ fun vs rs G1 H1 ⟨n, hr, n1, n2, I, i0, i1, i2⟩ g1 rv => ?_
  subst hr
  cases rv with
  | cons r1 r2 =>
    cases r1
    cases r2
    refine ⟨n, rfl, n1, n2, for_range (lo := 0) (n := n.toNat) (fun k σ' H' => ∃ δ' G', I k δ' ∧ EnvD X.K G' δ' σ' ∧ Go p G H G' H') ⟨δ, G1, i0, he.up g1.ex, g1⟩ ?_ ?_⟩
    · rintro k σ' H' hk ⟨δ', G', ik, he', g'⟩
      show wpSs X body _ (σ'.set i (some (.int ((0 : Int) + (k : Int))))) H'
      have e0 : (0 : Int) + (k : Int) = (k : Int) := Int.zero_add _
      rw [e0]
      exact i1 k δ' (by omega) ik _ G' H' (he'.set (Rp.int _)) g'.sat _ ⟨fun δ2 σ2 G2 H2 k2 g2 he2 => ⟨δ2, G2, k2, he2, g'.trans g2 hst'⟩, fun r v G2 H2 k2 g2 rv => d.rt r v G2 H2 k2 (g'.trans g2 hst') rv, fun δ2 σ2 G2 H2 k2 g2 he2 => d.nx δ2 σ2 G2 H2 k2 (g'.trans g2 hst') he2, fun δ2 σ2 G2 H2 k2 g2 he2 => ⟨δ2, G2, k2, he2, g'.trans g2 hst'⟩⟩
    · rintro σ' H' ⟨δ', G', ik, he', g'⟩
      exact d.nx δ' σ' G' H' (i2 δ' ik) g' he'
theorem ds_forR2 {a b : Expr} {x : Str} {px pc pf : Pos} {i : Nat} (hp : PassesOwn (model X.prog X.w) X.A X.env X.xe) (hc : X.calm = true) (hN : X.N.Nodup) (hi : X.N[i]? = some x) (hx : Loc X.env.scope x) (hg : Gl X "range") (hm : X.mg "range" = none)
    (h : DA X p δ [a, b] fun rs => ∃ lo n : Int, rs = [.d (.int lo), .d (.int n)] ∧ (-(2 ^ 62) ≤ lo ∧ lo < 2 ^ 62 ∧ -(2 ^ 62) ≤ n ∧ n < 2 ^ 62) ∧ ∃ I : Nat → En → Prop, I 0 δ ∧ (∀ (k : Nat) δ', lo + (k : Int) < n → I k δ' → DSs X p (δ'.set i (some (.d (.int (lo + (k : Int)))))) body (turnP (I (k + 1)) P)) ∧ ∀ δ', I (n - lo).toNat δ' → P (.nx δ'))
    (hf : X.fn x = true ∨ X.env.scope.names.lookup x = some .local := by first | exact .inl rfl | exact .inr rfl | assumption) (hst : starEach [a, b] X.env = [(false, eval a X.env), (false, eval b X.env)] := by rfl) (hst2 : starEach [b] X.env = [(false, eval b X.env)] := by rfl)
    (hs : ∀ v, foldedSetIterable (.Call (.Name "range" pf) [a, b] [] pc) X.env v = pure v := by intro _; rfl) : DS X p δ (.For (.Name x px) (.Call (.Name "range" pf) [a, b] [] pc) body [] pos) P := fun σ G H he hst' D d => by
  refine ofS (ps_for hp hc (pi_range2 hg hm (paW [a, b]) hst hst2) (pg_name hN hi hx hf) (pssW body) hs) ?_
  refine h σ G H he hst' _ fun vs rs G1 H1 ⟨lo, n, hr, n1, I, i0, i1, i2⟩ g1 rv => ?_
  subst hr
  cases rv with
  | cons r1 r2 =>
    cases r2 with
    | cons r2 r3 =>
      cases r1
      cases r2
      cases r3
      refine ⟨lo, n, rfl, n1, for_range (lo := lo) (n := (n - lo).toNat) (fun k σ' H' => ∃ δ' G', I k δ' ∧ EnvD X.K G' δ' σ' ∧ Go p G H G' H') ⟨δ, G1, i0, he.up g1.ex, g1⟩ ?_ ?_⟩
      · rintro k σ' H' hk ⟨δ', G', ik, he', g'⟩
        exact i1 k δ' (by omega) ik _ G' H' (he'.set (Rp.int _)) g'.sat _ ⟨fun δ2 σ2 G2 H2 k2 g2 he2 => ⟨δ2, G2, k2, he2, g'.trans g2 hst'⟩, fun r v G2 H2 k2 g2 rv => d.rt r v G2 H2 k2 (g'.trans g2 hst') rv, fun δ2 σ2 G2 H2 k2 g2 he2 => d.nx δ2 σ2 G2 H2 k2 (g'.trans g2 hst') he2, fun δ2 σ2 G2 H2 k2 g2 he2 => ⟨δ2, G2, k2, he2, g'.trans g2 hst'⟩⟩
      · rintro σ' H' ⟨δ', G', ik, he', g'⟩
        exact d.nx δ' σ' G' H' (i2 δ' ik) g' he'
end

/-! ### comprehensions -/
/-- a reading at what is known -/
def Lc (X : Cx) (p : Option Addr) (δ : En) (t : TE) (Kp : DV → Prop) : Prop := ∀ σ G H, EnvD X.K G δ σ → Sat p G H → ∀ Q : VK, (∀ v r G2 H2, Kp r → Go p G H G2 H2 → rel X.K G2 r v → Q v H2) → t σ H Q
theorem de_of {X : Cx} {p : Option Addr} {δ : En} {e : Expr} {t : TE} {Kp : DV → Prop} (h : PE X e t) (k : Lc X p δ t Kp) : DE X p δ e Kp := fun σ G H he hs Q hq => ofE h (k σ G H he hs Q hq)
theorem ds_setOf {X : Cx} {p : Option Addr} {δ : En} {st : Stmt} {t : TE} {i : Nat} {P : Out → Prop} (h : PS X st (tAsg t (gName i))) (k : Lc X p δ t fun r => P (.nx (δ.set i (some r)))) : DS X p δ st P := fun σ G H he hs D d =>
  ofS h (k σ G H he hs _ fun v r G2 H2 k g rv => d.nx _ _ G2 H2 k g ((he.up g.ex).set rv))
def wipeE (δ : En) : List Nat → En
  | [] => δ
  | v :: vs => (wipeE δ vs).set v none
theorem EnvD.wipe {K : PySem.W.Frag} {G : Hp} {δ : En} {σ : St} (h : EnvD K G δ σ) : ∀ vs : List Nat, EnvD K G (wipeE δ vs) (L2.wipe σ vs)
  | [] => h
  | v :: vs => by
    have q := EnvD.wipe h vs
    refine ⟨by simp [wipeE, L2.wipe, q.len], fun i r e => ?_⟩
    show ∃ u, ((L2.wipe σ vs).set v none)[i]? = some (some u) ∧ rel K G r u
    have e : ((wipeE δ vs).set v none)[i]? = some (some r) := e
    by_cases hi : v = i
    · subst hi
      by_cases hv : v < (wipeE δ vs).length
      · rw [List.getElem?_set_self hv] at e; cases e
      · rw [List.getElem?_eq_none (by simpa using hv)] at e; cases e
    · rw [List.getElem?_set_ne hi] at e ⊢
      exact q.at_ i r e
def wpTs (X : Cx) (ifs : List Expr) : TT := fun σ H Q => ∀ (pins : List (Addr × Obj)) (s : Shared), Inv X pins σ H s → wpAny (model X.prog X.w) X.A (forIn ifs true fun c r => if r = true then do let ok ← isTrue c X.env (eval c X.env); pure (ForInStep.yield ok) else pure (ForInStep.yield r)) (TP X pins σ Q) X.xe s
def DTs (X : Cx) (p : Option Addr) (δ : En) (ifs : List Expr) (Kb : Bool → Prop) : Prop := ∀ σ G H, EnvD X.K G δ σ → Sat p G H → ∀ Q : Bool → Hp → Prop, (∀ b G2 H2, Kb b → Go p G H G2 H2 → Q b H2) → wpTs X ifs σ H Q
theorem dts_nil {X : Cx} {p : Option Addr} {δ : En} {Kb : Bool → Prop} (k : Kb true) : DTs X p δ [] Kb := fun σ G H he hs Q hq pins s I => (pts_nil (X := X)).run pins s σ H Q I (hq true G H k (.refl hs))
theorem dts_one {X : Cx} {p : Option Addr} {δ : En} {c : Expr} {Kb : Bool → Prop} (k : DT X p δ c Kb) : DTs X p δ [c] Kb := fun σ G H he hs Q hq pins s I => (pts_one (ptW c)).run pins s σ H Q I (k σ G H he hs Q hq)
/-- within the block, whatever its frame -/
def wpEB (X : Cx) (scope : Scope) (e : Expr) : TE := fun σ H Q => ∀ (s : Shared) (H0 : Hp) (C : Addr) (cl : List (Str × Addr)) (fp : List Addr), wpE (X.blk s H0 scope (compEnvC scope cl C X.env) fp) e σ H Q
def wpTsB (X : Cx) (scope : Scope) (ifs : List Expr) : TT := fun σ H Q => ∀ (s : Shared) (H0 : Hp) (C : Addr) (cl : List (Str × Addr)) (fp : List Addr), wpTs (X.blk s H0 scope (compEnvC scope cl C X.env) fp) ifs σ H Q
theorem Go.mut {p : Option Addr} {G H G2 H2 : Hp} {D : Addr} {o : HO} (g : Go p G H G2 H2) (hs : Sat p G H) (h1 : H D = none) (h2 : G2 D = none) : Go p G H G2 (upd H2 D o) := by
  refine ⟨g.ex, g.nw, ⟨fun a u e => ?_, fun a e => ?_⟩, fun a u hp e => ?_⟩
  · rw [upd_ne (ne_of_none e h2)]
    exact g.sat.ex a u e
  · obtain ⟨q1, m, n, q2⟩ := g.sat.fd a e
    have hx : a ≠ D := fun z => hs.ne h1 (z ▸ e)
    exact ⟨q1, m, n, by rw [upd_ne hx]; exact q2⟩
  · rw [upd_ne (ne_of_none e h1)]
    exact g.kp a u hp e
/-- a new object is known from now on -/
theorem Go.fix {p : Option Addr} {G H G2 H2 : Hp} {D : Addr} {o : HO} (g : Go p G H G2 H2) (hs : Sat p G H) (h1 : H D = none) (h2 : G2 D = none) (h3 : H2 D = some o) : Go p G H (upd G2 D o) H2 := by
  refine ⟨g.ex.trans (Ex.new h2), fun a u e => ?_, ⟨fun a u e => ?_, fun a e => ?_⟩, g.kp⟩
  · by_cases ha : a = D
    · exact .inr (by rw [ha]; exact h1)
    · rw [upd_ne ha] at e
      exact g.nw a u e
  · by_cases ha : a = D
    · subst ha
      rw [upd_same] at e
      rw [← e]
      exact h3
    · rw [upd_ne ha] at e
      exact g.sat.ex a u e
  · obtain ⟨q1, q2⟩ := g.sat.fd a e
    have hx : a ≠ D := fun z => hs.ne h1 (z ▸ e)
    exact ⟨by rw [upd_ne hx]; exact q1, q2⟩
section
variable {X : Cx} {p : Option Addr} {δ : En} {Kp : DV → Prop} {it elt : Expr} {ifs : List Expr} {scope : Scope} {i : Nat} {vs : List Nat}
/-- the state of a comprehension's list behind k items -/
def LcAt (K : PySem.W.Frag) (p : Option Addr) (G H : Hp) (I : Nat → List PyData → Prop) (D : Addr) (k : Nat) (H' : Hp) : Prop := ∃ acc us G', I k acc ∧ RpAll K G' us acc ∧ H' D = some (.lst us) ∧ G' D = none ∧ Go p G H G' H' ∧ acc.length ≤ k
theorem lc_turn {σ : St} {G1 H1 : Hp} {I : Nat → List PyData → Prop} {D : Addr} {k : Nat} {H' : Hp} {v : V} {r : DV} (hs1 : Sat p G1 H1) (he : EnvD X.K G1 δ σ) (hD : H1 D = none) (hk : k < 1000000) (hq : LcAt X.K p G1 H1 I D k H') (rv : rel X.K G1 r v)
    (ht : ∀ (s : Shared) (H0 : Hp) (C : Addr) (cl : List (Str × Addr)) (fp : List Addr) acc, I k acc → DTs (X.blk s H0 scope (compEnvC scope cl C X.env) fp) p ((wipeE δ vs).set i (some r)) ifs fun b =>
      if b = true then ∀ (s : Shared) (H0 : Hp) (C : Addr) (cl : List (Str × Addr)) (fp : List Addr), DE (X.blk s H0 scope (compEnvC scope cl C X.env) fp) p ((wipeE δ vs).set i (some r)) elt fun y => ∃ d, y = .d d ∧ I (k + 1) (acc ++ [d]) else I (k + 1) acc) :
    wpTsB X scope ifs ((wipe σ vs).set i (some v)) H' fun b H3 => if b = true then wpEB X scope elt ((wipe σ vs).set i (some v)) H3 fun y H4 => ∃ acc, H4 D = some (.lst acc) ∧ acc.length < sizeLine ∧ LcAt X.K p G1 H1 I D (k + 1) (upd H4 D (.lst (acc ++ [y]))) else LcAt X.K p G1 H1 I D (k + 1) H3 := by
  obtain ⟨acc, us, G', ik, ra, hd, gd, g, hl⟩ := hq
  have heW : EnvD X.K G' ((wipeE δ vs).set i (some r)) ((wipe σ vs).set i (some v)) := ((he.up g.ex).wipe vs).set (rv.up g.ex)
  have pD : p ≠ some D := hs1.ne hD
  intro s H0 C cl fp
  refine ht s H0 C cl fp acc ik _ G' H' heW g.sat _ fun b G2 H2 kb g2 => ?_
  have gd2 : G2 D = none := by
    cases q : G2 D with
    | none => rfl
    | some o =>
      rcases g2.nw D o q with z | z
      · rw [gd] at z; cases z
      · rw [hd] at z; cases z
  have hd2 := g2.kp D _ pD hd
  cases b with
  | true =>
    rw [if_pos rfl] at kb ⊢
    intro s H0 C cl fp
    refine kb s H0 C cl fp _ G2 H2 (heW.up g2.ex) g2.sat _ fun y ry G3 H3 ⟨d, hy, i3⟩ g3 rv3 => ?_
    subst hy
    have gd3 : G3 D = none := by
      cases q : G3 D with
      | none => rfl
      | some o =>
        rcases g3.nw D o q with z | z
        · rw [gd2] at z; cases z
        · rw [hd2] at z; cases z
    have hd3 := g3.kp D _ pD hd2
    have g23 := g2.ex.trans g3.ex
    refine ⟨us, hd3, by rw [ra.len, sizeLine_eq]; omega, acc ++ [d], us ++ [y], G3, i3, (Ex.dps g23 _ _ ra).app (.cons rv3 .nil), upd_same, gd3, ((g.trans g2 hs1).trans g3 hs1).mut hs1 hD gd3, by simp; omega⟩
  | false =>
    rw [if_neg Bool.false_ne_true] at kb ⊢
    exact ⟨acc, us, G2, kb, Ex.dps g2.ex _ _ ra, hd2, gd2, g.trans g2 hs1, by omega⟩
theorem LcAt.start {K : PySem.W.Frag} {G1 H1 : Hp} {I : Nat → List PyData → Prop} {D : Addr} (hs1 : Sat p G1 H1) (hD : H1 D = none) (i0 : I 0 []) : LcAt K p G1 H1 I D 0 (upd H1 D (.lst [])) :=
  ⟨[], [], G1, i0, .nil, upd_same, hs1.fresh hD, Go.side hs1 hD, Nat.le_refl _⟩
/-- over a list of data, the target one name -/
theorem lc_L (hw : ∀ (σ : St) x, wipe ((wipe σ vs).set i (some x)) vs = wipe σ vs)
    (h : DE X p δ it fun r => ∃ ds, r = .d (.list ds) ∧ ds.length < 1000000 ∧ ∃ I : Nat → List PyData → Prop, I 0 [] ∧ (∀ k d, ds[k]? = some d →
      ∀ (s : Shared) (H0 : Hp) (C : Addr) (cl : List (Str × Addr)) (fp : List Addr) acc, I k acc → DTs (X.blk s H0 scope (compEnvC scope cl C X.env) fp) p ((wipeE δ vs).set i (some (.d d))) ifs fun b =>
      if b = true then ∀ (s : Shared) (H0 : Hp) (C : Addr) (cl : List (Str × Addr)) (fp : List Addr), DE (X.blk s H0 scope (compEnvC scope cl C X.env) fp) p ((wipeE δ vs).set i (some (.d d))) elt fun y => ∃ d, y = .d d ∧ I (k + 1) (acc ++ [d]) else I (k + 1) acc) ∧
      ∀ acc, I ds.length acc → Kp (.d (.list acc))) : Lc X p δ (tLc (iList X.K (wpE X it)) (gName i) (wpTsB X scope ifs) (wpEB X scope elt) vs) Kp := fun σ G H he hs Q hq => by
  refine h σ G H he hs _ fun v r G1 H1 ⟨ds, hr, hz, I, i0, i1, i2⟩ g1 rv => ?_
  subst hr
  cases rv with
  | @lst a xs _ hl ha =>
    refine ⟨a, rfl, ⟨xs, .of (g1.sat.ex _ _ hl)⟩, fun D hD => lc_list (xs := xs) (LcAt X.K p G1 H1 I D) (LcAt.start g1.sat hD i0) (fun k H' _ ⟨_, _, G', _, _, _, _, g', _⟩ => .of (g'.sat.ex _ _ (g'.ex _ _ hl))) ?_ ?_⟩
    · intro k x H' hx hq'
      have hk : k < xs.length := (List.getElem?_eq_some_iff.mp hx).1
      have hd : ds[k]? = some (ds[k]'(by rw [← ha.len]; exact hk)) := List.getElem?_eq_getElem _
      obtain ⟨v, hv, rv⟩ := ha.get hd
      rw [hx] at hv
      cases hv
      exact ⟨hw σ x, lc_turn (scope := scope) (ifs := ifs) (elt := elt) g1.sat (he.up g1.ex) hD (by have := ha.len; omega) hq' (r := .d _) rv (i1 k _ hd)⟩
    · rintro H' ⟨acc, us, G', ik, ra, hd, gd, g', _⟩
      rw [ha.len] at ik
      have gf := g'.fix g1.sat hD gd hd
      exact hq _ (.d (.list acc)) _ H' (i2 acc ik) (g1.trans gf hs) (Rp.lst upd_same (Ex.dps (Ex.new gd) _ _ ra))
/-- over a tuple -/
theorem lc_T (hw : ∀ (σ : St) x, wipe ((wipe σ vs).set i (some x)) vs = wipe σ vs)
    (h : DE X p δ it fun r => ∃ ds, r = .d (.tuple ds) ∧ ds.length < 1000000 ∧ ∃ I : Nat → List PyData → Prop, I 0 [] ∧ (∀ k d, ds[k]? = some d →
      ∀ (s : Shared) (H0 : Hp) (C : Addr) (cl : List (Str × Addr)) (fp : List Addr) acc, I k acc → DTs (X.blk s H0 scope (compEnvC scope cl C X.env) fp) p ((wipeE δ vs).set i (some (.d d))) ifs fun b =>
      if b = true then ∀ (s : Shared) (H0 : Hp) (C : Addr) (cl : List (Str × Addr)) (fp : List Addr), DE (X.blk s H0 scope (compEnvC scope cl C X.env) fp) p ((wipeE δ vs).set i (some (.d d))) elt fun y => ∃ d, y = .d d ∧ I (k + 1) (acc ++ [d]) else I (k + 1) acc) ∧
      ∀ acc, I ds.length acc → Kp (.d (.list acc))) : Lc X p δ (tLc (iTup X.K (wpE X it)) (gName i) (wpTsB X scope ifs) (wpEB X scope elt) vs) Kp := fun σ G H he hs Q hq => by
  refine h σ G H he hs _ fun v r G1 H1 ⟨ds, hr, hz, I, i0, i1, i2⟩ g1 rv => ?_
  subst hr
  cases rv with
  | @tup a xs _ hl ha =>
    refine ⟨a, rfl, ⟨xs, g1.sat.ex.st hl⟩, fun D hD => lc_tup (xs := xs) (LcAt X.K p G1 H1 I D) (LcAt.start g1.sat hD i0) (fun k H' _ ⟨_, _, G', _, _, _, _, g', _⟩ => g'.sat.ex.st (g'.ex.st hl)) ?_ ?_⟩
    · intro k x H' hx hq'
      have hk : k < xs.length := (List.getElem?_eq_some_iff.mp hx).1
      have hd : ds[k]? = some (ds[k]'(by rw [← ha.len]; exact hk)) := List.getElem?_eq_getElem _
      obtain ⟨v, hv, rv⟩ := ha.get hd
      rw [hx] at hv
      cases hv
      exact ⟨hw σ x, lc_turn (scope := scope) (ifs := ifs) (elt := elt) g1.sat (he.up g1.ex) hD (by have := ha.len; omega) hq' (r := .d _) rv (i1 k _ hd)⟩
    · rintro H' ⟨acc, us, G', ik, ra, hd, gd, g', _⟩
      rw [ha.len] at ik
      have gf := g'.fix g1.sat hD gd hd
      exact hq _ (.d (.list acc)) _ H' (i2 acc ik) (g1.trans gf hs) (Rp.lst upd_same (Ex.dps (Ex.new gd) _ _ ra))
/-- over range(n) -/
theorem lc_R1 {ta : TA} {a : Expr} (hw : ∀ (σ : St) x, wipe ((wipe σ vs).set i (some x)) vs = wipe σ vs)
    (h : DA X p δ [a] fun rs => ∃ n : Int, rs = [.d (.int n)] ∧ n < 1000000 ∧ -(2 ^ 62) ≤ n ∧ ∃ I : Nat → List PyData → Prop, I 0 [] ∧ (∀ k : Nat, (k : Int) < n →
      ∀ (s : Shared) (H0 : Hp) (C : Addr) (cl : List (Str × Addr)) (fp : List Addr) acc, I k acc → DTs (X.blk s H0 scope (compEnvC scope cl C X.env) fp) p ((wipeE δ vs).set i (some (.d (.int (k : Int))))) ifs fun b =>
      if b = true then ∀ (s : Shared) (H0 : Hp) (C : Addr) (cl : List (Str × Addr)) (fp : List Addr), DE (X.blk s H0 scope (compEnvC scope cl C X.env) fp) p ((wipeE δ vs).set i (some (.d (.int (k : Int))))) elt fun y => ∃ d, y = .d d ∧ I (k + 1) (acc ++ [d]) else I (k + 1) acc) ∧
      ∀ acc, I n.toNat acc → Kp (.d (.list acc))) : Lc X p δ (tLc (iRng1 (wpA X [a])) (gName i) (wpTsB X scope ifs) (wpEB X scope elt) vs) Kp := fun σ G H he hs Q hq => by
  refine h σ G H he hs _ fun us rs G1 H1 ⟨n, hr, hz, hz2, I, i0, i1, i2⟩ g1 rv => ?_
  subst hr
  cases rv with
  | cons r1 r2 =>
    cases r1
    cases r2
    refine ⟨n, rfl, hz2, by omega, fun D hD => lc_range (lo := 0) (n := n.toNat) (LcAt X.K p G1 H1 I D) (LcAt.start g1.sat hD i0) ?_ ?_⟩
    · intro k H' hk hq'
      have e0 : (0 : Int) + (k : Int) = (k : Int) := Int.zero_add _
      rw [e0]
      exact ⟨hw σ _, lc_turn (scope := scope) (ifs := ifs) (elt := elt) g1.sat (he.up g1.ex) hD (by omega) hq' (r := .d (.int (k : Int))) (Rp.int _) (i1 k (by omega))⟩
    · rintro H' ⟨acc, us, G', ik, ra, hd, gd, g', _⟩
      have gf := g'.fix g1.sat hD gd hd
      exact hq _ (.d (.list acc)) _ H' (i2 acc ik) (g1.trans gf hs) (Rp.lst upd_same (Ex.dps (Ex.new gd) _ _ ra))
end
end Z
end

section
set_option linter.all false
set_option maxRecDepth 100000
set_option maxHeartbeats 2000000
namespace Z
open PySem L2 PyProof.Rows

/-! ### a def's promise where no repr is under way -/
structure FnG (P : Program) (w : World) (K : PySem.W.Frag) (mg : Str → Option Value) (base : Heap) (CX : CXT) (k : Nat) (f : Addr) (fd : FuncData) (ps : List Str) (sp : Sp) : Prop where
  len : ∀ vs H Q E, sp vs H Q E → vs.length = ps.length
  run : ∀ (A : Around) (outer : List Env) (s : Shared) (H : Hp) (args : Args) (us : List Value) (vs : List V) (Q : VK) (E : XK), A.guards = some [] → Room k A → Env0 P w K mg base A outer s H →
    BindsTo s fd args (ps.zip us) → Vals vs us → sp vs H Q E → codeAny (model P w) A (.call (.ref f) args) (CR CX outer P w H s Q E) s
theorem FnG.mono {P : Program} {w : World} {K : PySem.W.Frag} {mg : Str → Option Value} {base : Heap} {CX : CXT} {j k : Nat} {f : Addr} {fd : FuncData} {ps : List Str} {sp : Sp} (F : FnG P w K mg base CX j f fd ps sp) (h : j ≤ k) : FnG P w K mg base CX k f fd ps sp :=
  ⟨F.len, fun A outer s H args us vs Q E g hr => F.run A outer s H args us vs Q E g (hr.mono h)⟩

/-- the context of a def's body -/
abbrev bx (CX : CXT) (P : Program) (w : World) (K : PySem.W.Frag) (mg : Str → Option Value) (base : Heap) (N : List Str) (qual : Str) (st : Stmt) (f : Addr) (cdv : Value) (A : Around) (outer : List Env) (s : Shared) (H : Hp) (E : XK) : Cx :=
  cxOf CX P w K mg base N qual (defScope st) f cdv A outer s H E
theorem fnG_of {CX : CXT} {P : Program} {w : World} {K : PySem.W.Frag} {mg : Str → Option Value} {base : Heap} {k : Nat} {f : Addr} {x qual : Str} {st : Stmt} {fd : FuncData} {N ps : List Str} {sp : Sp} (F : Fun K x qual st f fd) (S : FnScope N ps (defScope st))
    (len : ∀ vs H Q E, sp vs H Q E → vs.length = ps.length)
    (hb : ∀ (cdv : Value) (A : Around) (outer : List Env) (s : Shared) (H : Hp) (vs : List V) (Q : VK) (E : XK), A.guards = some [] → Room k (bx CX P w K mg base N qual st f cdv A outer s H E).A → sp vs H Q E →
      wpSs (bx CX P w K mg base N qual st f cdv A outer s H E) (defBody st) { nx := fun _ H' => Q .non H', rt := Q } (start N vs) H) : FnG P w K mg base CX (k + 1) f fd ps sp := by
  obtain ⟨oc, od, kV, doc, pm, an, cdv, ct, osl, rfl, lk, hcd⟩ := F.ex
  refine ⟨len, fun A outer s H args us vs Q E hg hr e0 bnd rv hsp => ?_⟩
  have hlen := len _ _ _ _ hsp
  have KX : K.In s.heap := e0.mod.kin.keeps fun b o e => (e0.bs b o e).1
  have lim : s.heap.NoLimit := e0.mod.nolimit.keeps fun b o e => (e0.bs b o e).1
  have kinds : ∀ y ∈ ps.zip us, (defScope st).names.lookup y.1 = some .local ∨ ((defScope st).names.lookup y.1 = some .cell ∧ ((cellsFrom (s.heap.objs.size + 1) (defScope st).names []).lookup y.1).isSome = true) := by
    rintro ⟨n, v⟩ hy
    rcases S.par n (List.of_mem_zip hy).1 with q | q
    · exact .inl q
    · exact .inr ⟨q, PySem.W.cellsFrom_some _ _ _ (.inl q)⟩
  refine codeAny_call_function hr.depth (KX _ _ lk) rfl S.co S.gen rfl (PySem.W.codeRec_of KX hcd) (bnd _ _ _ _ ?_)
  refine wpAny_newFunctionEnv_cells S.kind kinds fun env he s1 x => ?_
  subst he
  refine ⟨lim.keeps x.toInCall.keep, codeAny_func ?_⟩
  have I := inv_start (CX := CX) (qual := qual) (f := f) (cd := cdv) (E := E) S hr.hd e0 hlen rv x
  have main := hb cdv A outer s H vs Q E hg (hr.deeper _) hsp [] s1 I
  refine wpAny_mono main (fun fl s' hs => ?_) fun e s' hs => hs
  cases fl with
  | ret u =>
    obtain ⟨v, σ', H', J, r2, q⟩ := hs
    exact ⟨v, H', J.os, J.bare, J.base, J.hok, r2, q⟩
  | next =>
    obtain ⟨σ', H', J, q⟩ := hs
    exact ⟨V.non, H', J.os, J.bare, J.base, J.hok, rfl, q⟩
  | brk =>
    obtain ⟨_, _, _, q⟩ := hs
    exact q.elim
  | cont =>
    obtain ⟨_, _, _, q⟩ := hs
    exact q.elim
section
variable {X : Cx} {CX : CXT} {k : Nat} {f : Addr} {fd : FuncData} {ps : List Str} {sp : Sp} {E : XK} {x : Str} {q pos : Pos} {e : Expr} {es : List Expr}
theorem runG {pins : List (Addr × Obj)} {σ : L2.St} {H : Hp} {s : Shared} {Q : VK} {us : List Value} {vs : List V} (F : FnG X.prog X.w X.K X.mg X.base CX k f fd ps sp) (hg : X.A.guards = some []) (hr : Room k X.A) (hb : Binds X.K fd ps []) (hx : Passes CX X E)
    (I : Inv X pins σ H s) (r : Vals vs us) (h : sp vs H Q E) : wpAny (model X.prog X.w) X.A (call (.ref f) us) (EP X pins σ Q) X.xe s := by
  have hl : (us ++ []).length = ps.length := by rw [List.append_nil, ← r.length]; exact F.len _ _ _ _ h
  have bt := hb s us I.kIn hl
  rw [List.append_nil] at bt
  refine wpAny_call (codeAny_mono (F.run X.A X.stack s H ⟨us, []⟩ us vs Q E hg hr I.env0 bt r h) fun r s' hq => ?_)
  cases r with
  | error e => exact hx pins σ H s e s' I hq
  | ok fl =>
    cases fl with
    | ret u => exact I.after hq
    | next => exact hq.elim
    | brk => exact hq.elim
    | cont => exact hq.elim
theorem pe_callG (F : FnG X.prog X.w X.K X.mg X.base CX k f fd ps sp) (hgd : X.A.guards = some []) (hr : Room k X.A) (hg : Gl X x) (hm : X.mg x = some (.ref f)) (hk : PySem.W.keepIn X.K (.ref f) = true) (hb : Binds X.K fd ps []) (hx : Passes CX X E)
    (hdb : (x == ("__debug__" : Str)) = false := by decide) (he : starEach (e :: es) X.env = (false, eval e X.env) :: starEach es X.env := by rfl) (hpl : (backTo pos (starEach es X.env)).any (·.1) = false := by rfl) :
    PE X (.Call (.Name x q) (e :: es) [] pos) (fun σ H Q => wpA X (e :: es) σ H fun vs H1 => sp vs H1 Q E) := by
  refine ⟨fun pins s σ H Q I h => wpAny_Call_Name_kw (ld_glob I hg hm ?_ hdb)⟩
  refine PySem.W.callWith_K (h₀ := X.base) I.ok.mod.kin hk (thn ((paW (e :: es)).run pos pins s σ H _ I h) fun us s1 ⟨vs, H1, I1, r, q⟩ => ⟨I1.kIn, ?_⟩) he hpl
  exact runG F hgd hr hb hx I1 r q
theorem pe_callG0 (F : FnG X.prog X.w X.K X.mg X.base CX k f fd ps sp) (hgd : X.A.guards = some []) (hr : Room k X.A) (hg : Gl X x) (hm : X.mg x = some (.ref f)) (hk : PySem.W.keepIn X.K (.ref f) = true) (hb : Binds X.K fd ps []) (hx : Passes CX X E)
    (hdb : (x == ("__debug__" : Str)) = false := by decide) : PE X (.Call (.Name x q) [] [] pos) (fun σ H Q => sp [] H Q E) := by
  refine ⟨fun pins s σ H Q I h => wpAny_Call_Name_kw (ld_glob I hg hm ?_ hdb)⟩
  exact PySem.W.callWith_K0 I.kIn hk (runG (us := []) F hgd hr hb hx I .nil h)
end

/-! ### promises over what is known -/
/-- what a def does of what is known: the drawing list, the arguments, what is wanted of the answer -/
abbrev DSp := Option Addr → List DV → (DV → Prop) → Prop
def spD (K : PySem.W.Frag) (F : DSp) : Sp := fun vs H Q _ => ∃ p G ds Kp, Sat p G H ∧ Rels K G ds vs ∧ F p ds Kp ∧ ∀ v r G2 H2, Kp r → Go p G H G2 H2 → rel K G2 r v → Q v H2
structure Callee (P : Program) (w : World) (K : PySem.W.Frag) (mg : Str → Option Value) (base : Heap) (x : Str) (k : Nat) (F : DSp) : Prop where
  ex : ∃ f fd ps, mg x = some (.ref f) ∧ PySem.W.keepIn K (.ref f) = true ∧ Binds K fd ps [] ∧ FnG P w K mg base CX0 k f fd ps (spD K F)
section
variable {X : Cx} {p : Option Addr} {δ : En} {Kp : DV → Prop} {k : Nat} {F : DSp} {x : Str} {q pos : Pos} {e : Expr} {es : List Expr}
theorem de_call (c : Callee X.prog X.w X.K X.mg X.base x k F) (hgd : X.A.guards = some []) (hr : Room k X.A) (hg : Gl X x) (h : DA X p δ (e :: es) fun rs => F p rs Kp)
    (hdb : (x == ("__debug__" : Str)) = false := by decide) (he : starEach (e :: es) X.env = (false, eval e X.env) :: starEach es X.env := by rfl) (hpl : (backTo pos (starEach es X.env)).any (·.1) = false := by rfl) : DE X p δ (.Call (.Name x q) (e :: es) [] pos) Kp := fun σ G H he' hs Q hq => by
  obtain ⟨f, fd, ps, c1, c2, c3, c4⟩ := c.ex
  refine ofE (pe_callG c4 hgd hr hg c1 c2 c3 pass0 hdb he hpl) (h σ G H he' hs _ fun vs rs G1 H1 hf g1 rv => ?_)
  exact ⟨p, G1, rs, Kp, g1.sat, rv, hf, fun v r G2 H2 k g2 rr => hq v r G2 H2 k (g1.trans g2 hs) rr⟩
theorem de_call0 (c : Callee X.prog X.w X.K X.mg X.base x k F) (hgd : X.A.guards = some []) (hr : Room k X.A) (hg : Gl X x) (h : F p [] Kp) (hdb : (x == ("__debug__" : Str)) = false := by decide) : DE X p δ (.Call (.Name x q) [] [] pos) Kp := fun σ G H he' hs Q hq => by
  obtain ⟨f, fd, ps, c1, c2, c3, c4⟩ := c.ex
  exact ofE (pe_callG0 c4 hgd hr hg c1 c2 c3 pass0 hdb) ⟨p, G, [], Kp, hs, .nil, h, fun v r G2 H2 k g2 rr => hq v r G2 H2 k g2 rr⟩
/-- a built-in function by its values -/
theorem de_callB {id : String} {r : List V → Hp → VK → Prop} (hc : CallR X (.builtin id) r) (hg : Gl X x) (hm : X.mg x = none) (hv : bootBuiltins x = some (.builtin id))
    (h : DA X p δ (e :: es) fun rs => ∀ G H vs, Sat p G H → Rels X.K G rs vs → ∀ Q : VK, (∀ v r G2 H2, Kp r → Go p G H G2 H2 → rel X.K G2 r v → Q v H2) → r vs H Q)
    (hn : x ≠ "__name__" := by decide) (hdb : (x == ("__debug__" : Str)) = false := by decide) (he : starEach (e :: es) X.env = (false, eval e X.env) :: starEach es X.env := by rfl) (hpl : (backTo pos (starEach es X.env)).any (·.1) = false := by rfl) :
    DE X p δ (.Call (.Name x q) (e :: es) [] pos) Kp := fun σ G H he' hs Q hq =>
  ofE (pe_callB hc hg hm hv (paW _) hn hdb he hpl) (h σ G H he' hs _ fun vs rs G1 H1 k1 g1 rv => k1 G1 H1 vs g1.sat rv Q fun v r G2 H2 k g2 rr => hq v r G2 H2 k (g1.trans g2 hs) rr)
theorem de_callTy {T : String} {r : List V → Hp → VK → Prop} (hc : CallR X (.type T) r) (hg : Gl X x) (hm : X.mg x = none) (hv : bootBuiltins x = some (.type T))
    (h : DA X p δ (e :: es) fun rs => ∀ G H vs, Sat p G H → Rels X.K G rs vs → ∀ Q : VK, (∀ v r G2 H2, Kp r → Go p G H G2 H2 → rel X.K G2 r v → Q v H2) → r vs H Q)
    (hn : x ≠ "__name__" := by decide) (hdb : (x == ("__debug__" : Str)) = false := by decide) (he : starEach (e :: es) X.env = (false, eval e X.env) :: starEach es X.env := by rfl) (hpl : (backTo pos (starEach es X.env)).any (·.1) = false := by rfl) :
    DE X p δ (.Call (.Name x q) (e :: es) [] pos) Kp := fun σ G H he' hs Q hq =>
  ofE (pe_callTy hc hg hm hv (paW _) hn hdb he hpl) (h σ G H he' hs _ fun vs rs G1 H1 k1 g1 rv => k1 G1 H1 vs g1.sat rv Q fun v r G2 H2 k g2 rr => hq v r G2 H2 k (g1.trans g2 hs) rr)
/-- len of data -/
def lenD : PyData → Option Nat
  | .list ds => some ds.length
  | .tuple ds => some ds.length
  | .str x => if x.length ≤ sizeLine then some x.length else none
  | _ => none
theorem de_len (hg : Gl X "len") (hm : X.mg "len" = none) (h : DE X p δ e fun r => ∃ d n, r = .d d ∧ lenD d = some n ∧ Kp (.d (.int (n : Int))))
    (he : starEach [e] X.env = (false, eval e X.env) :: starEach [] X.env := by rfl) : DE X p δ (.Call (.Name "len" q) [e] [] pos) Kp :=
  de_callB call_len hg hm PySem.boot_len (da_cons (h.imp fun r ⟨d, n, hr, hl, k⟩ => da_nil fun G H vs s rv Q hq => by
    subst hr
    cases rv with
    | cons r1 r2 =>
      cases r2
      refine ⟨_, n, rfl, ?_, hq _ _ G H k (.refl s) (Rp.int _)⟩
      cases r1 with
      | non => cases hl
      | bl _ => cases hl
      | int _ => cases hl
      | str y =>
        have hl : (if y.length ≤ sizeLine then some y.length else none) = some n := hl
        by_cases hz : y.length ≤ sizeLine
        · rw [if_pos hz] at hl
          cases hl
          exact ⟨hz, rfl⟩
        · rw [if_neg hz] at hl
          cases hl
      | lst hl' ha =>
        cases hl
        exact .inl ⟨_, .of (s.ex _ _ hl'), ha.len.symm⟩
      | tup hl' ha =>
        cases hl
        exact .inr ⟨_, s.ex.st hl', ha.len.symm⟩) he) (he := he)
/-- the name of the class of data -/
def tyN : PyData → String
  | .none => "NoneType"
  | .bool _ => "bool"
  | .int _ => "int"
  | .str _ => "str"
  | .list _ => "list"
  | .tuple _ => "tuple"
  | .dict _ => "dict"
theorem ty_of {K : PySem.W.Frag} {G H : Hp} {d : PyData} {v : V} (e : Ex G H) (h : Rp K G v d) : TyX K H v (.type (tyN d)) := by
  cases h with
  | non => exact .base .non
  | bl b => exact .base (.bl b)
  | int i => exact .base (.int i)
  | str x => exact .base (.str x)
  | lst hl ha => exact .base (.lst (e _ _ hl))
  | tup hl ha =>
    rcases e.st hl with (h | ⟨o, h⟩) | ⟨o, its, n, hk, hc, _⟩
    · exact .base (.tup h)
    · exact .fTuple h
    · exact .kTuple hk hc
theorem de_isi {T : String} {c : Expr} {b : PyData → Bool} (hT : ∀ d, (∀ l, d ≠ .dict l) → kitB (tyN d) T = some (b d)) (hg : Gl X "isinstance") (hm : X.mg "isinstance" = none)
    (hc : ∀ Kq : DV → Prop, Kq (.v (.ty T)) → DE X p δ c Kq) (h : DE X p δ e fun r => ∃ d, r = .d d ∧ Kp (.d (.bool (b d))))
    (he : starEach [e, c] X.env = (false, eval e X.env) :: starEach [c] X.env := by rfl) (he2 : starEach [c] X.env = (false, eval c X.env) :: starEach [] X.env := by rfl) (hpl : (backTo pos (starEach [c] X.env)).any (·.1) = false := by rfl) : DE X p δ (.Call (.Name "isinstance" q) [e, c] [] pos) Kp :=
  de_callB call_isi hg hm (by decide +kernel) (da_cons (h.imp fun r ⟨d, hr, k⟩ => da_cons (hc _ (da_nil fun G H vs s rv Q hq => by
    subst hr
    cases rv with
    | cons r1 r2 =>
      cases r2 with
      | cons r2 r3 =>
        cases r3
        cases r2
        refine ⟨_, _, _, _, b d, rfl, .ty T, ty_of s.ex r1, kit_ty (hT d fun l z => ?_), hq _ _ G H k (.refl s) (Rp.bl _)⟩
        subst z
        cases r1)) he2) he) (he := he) (hpl := hpl)
theorem de_ty {T : String} {Kq : DV → Prop} (hg : Gl X x) (hm : X.mg x = none) (hv : bootBuiltins x = some (.type T)) (k : Kq (.v (.ty T))) (hn : x ≠ "__name__" := by decide) (hdb : (x == ("__debug__" : Str)) = false := by decide) : DE X p δ (.Name x pos) Kq := fun σ G H he hs Q hq =>
  ofE (pe_bltn (v := .ty T) hg hm hv rfl hn hdb) (hq _ (.v (.ty T)) G H k (.refl hs) rfl)
/-- int(n), n an int or a bool -/
theorem de_intI (hg : Gl X "int") (hm : X.mg "int" = none) (h : DE X p δ e fun r => ∃ i, r = .d (.int i) ∧ Kp (.d (.int i))) (he : starEach [e] X.env = (false, eval e X.env) :: starEach [] X.env := by rfl) : DE X p δ (.Call (.Name "int" q) [e] [] pos) Kp :=
  de_callTy call_int1 hg hm (by decide +kernel) (da_cons (h.imp fun r ⟨i, hr, k⟩ => da_nil fun G H vs s rv Q hq => by
    subst hr
    cases rv with
    | cons r1 r2 =>
      cases r2
      cases r1
      exact .inl ⟨i, rfl, hq _ _ G H k (.refl s) (Rp.int _)⟩) he) (he := he)
theorem de_intB (hg : Gl X "int") (hm : X.mg "int" = none) (h : DE X p δ e fun r => ∃ b, r = .d (.bool b) ∧ Kp (.d (.int (if b then 1 else 0)))) (he : starEach [e] X.env = (false, eval e X.env) :: starEach [] X.env := by rfl) : DE X p δ (.Call (.Name "int" q) [e] [] pos) Kp :=
  de_callTy call_int1 hg hm (by decide +kernel) (da_cons (h.imp fun r ⟨b, hr, k⟩ => da_nil fun G H vs s rv Q hq => by
    subst hr
    cases rv with
    | cons r1 r2 =>
      cases r2
      cases r1
      exact .inr ⟨b, rfl, hq _ _ G H k (.refl s) (Rp.int _)⟩) he) (he := he)
theorem de_abs (hg : Gl X "abs") (hm : X.mg "abs" = none) (h : DE X p δ e fun r => ∃ i, r = .d (.int i) ∧ Kp (.d (.int (if i < 0 then -i else i)))) (he : starEach [e] X.env = (false, eval e X.env) :: starEach [] X.env := by rfl) : DE X p δ (.Call (.Name "abs" q) [e] [] pos) Kp :=
  de_callB call_abs hg hm (by decide +kernel) (da_cons (h.imp fun r ⟨i, hr, k⟩ => da_nil fun G H vs s rv Q hq => by
    subst hr
    cases rv with
    | cons r1 r2 =>
      cases r2
      cases r1
      exact ⟨i, rfl, hq _ _ G H k (.refl s) (Rp.int _)⟩) he) (he := he)
theorem de_max2 {c : Expr} (hcm : X.calm = true) (hg : Gl X "max") (hm : X.mg "max" = none) (h : DE X p δ e fun r => ∃ i, r = .d (.int i) ∧ DE X p δ c fun r2 => ∃ j, r2 = .d (.int j) ∧ Kp (.d (.int (if j > i then j else i))))
    (he : starEach [e, c] X.env = (false, eval e X.env) :: starEach [c] X.env := by rfl) (he2 : starEach [c] X.env = (false, eval c X.env) :: starEach [] X.env := by rfl) (hpl : (backTo pos (starEach [c] X.env)).any (·.1) = false := by rfl) : DE X p δ (.Call (.Name "max" q) [e, c] [] pos) Kp :=
  de_callB (call_max2 hcm) hg hm (by decide +kernel) (da_cons (h.imp fun r ⟨i, hr, h2⟩ => da_cons (h2.imp fun r2 ⟨j, hr2, k⟩ => da_nil fun G H vs s rv Q hq => by
    subst hr hr2
    cases rv with
    | cons r1 r2 =>
      cases r2 with
      | cons r2 r3 =>
        cases r3
        cases r1
        cases r2
        exact ⟨i, j, rfl, hq _ _ G H k (.refl s) (Rp.int _)⟩) he2) he) (he := he) (hpl := hpl)
theorem de_min2 {c : Expr} (hcm : X.calm = true) (hg : Gl X "min") (hm : X.mg "min" = none) (h : DE X p δ e fun r => ∃ i, r = .d (.int i) ∧ DE X p δ c fun r2 => ∃ j, r2 = .d (.int j) ∧ Kp (.d (.int (if j < i then j else i))))
    (he : starEach [e, c] X.env = (false, eval e X.env) :: starEach [c] X.env := by rfl) (he2 : starEach [c] X.env = (false, eval c X.env) :: starEach [] X.env := by rfl) (hpl : (backTo pos (starEach [c] X.env)).any (·.1) = false := by rfl) : DE X p δ (.Call (.Name "min" q) [e, c] [] pos) Kp :=
  de_callB (call_min2 hcm) hg hm (by decide +kernel) (da_cons (h.imp fun r ⟨i, hr, h2⟩ => da_cons (h2.imp fun r2 ⟨j, hr2, k⟩ => da_nil fun G H vs s rv Q hq => by
    subst hr hr2
    cases rv with
    | cons r1 r2 =>
      cases r2 with
      | cons r2 r3 =>
        cases r3
        cases r1
        cases r2
        exact ⟨i, j, rfl, hq _ _ G H k (.refl s) (Rp.int _)⟩) he2) he) (he := he) (hpl := hpl)
/-- list(xs) -/
theorem de_listOf (hg : Gl X "list") (hm : X.mg "list" = none) (h : DE X p δ e fun r => ∃ d ds, r = .d d ∧ itemsOf d = some ds ∧ Kp (.d (.list ds))) (he : starEach [e] X.env = (false, eval e X.env) :: starEach [] X.env := by rfl) : DE X p δ (.Call (.Name "list" q) [e] [] pos) Kp :=
  de_callTy call_list_of hg hm (by decide +kernel) (da_cons (h.imp fun r ⟨d, ds, hr, hi, k⟩ => da_nil fun G H vs s rv Q hq => by
    subst hr
    cases rv with
    | cons r1 r2 =>
      cases r2
      cases r1 with
      | lst hl ha =>
        cases hi
        exact ⟨_, _, rfl, .inl (.of (s.ex _ _ hl)), fun l hn => hq _ _ _ _ k (Go.alloc s hn) (Rp.lst upd_same (Ex.dps (Ex.new (s.fresh hn)) _ _ ha))⟩
      | tup hl ha =>
        cases hi
        exact ⟨_, _, rfl, .inr (s.ex.st hl), fun l hn => hq _ _ _ _ k (Go.alloc s hn) (Rp.lst upd_same (Ex.dps (Ex.new (s.fresh hn)) _ _ ha))⟩
      | non => cases hi
      | bl _ => cases hi
      | int _ => cases hi
      | str _ => cases hi) he) (he := he)
/-- repr of data -/
def rReprD (K : PySem.W.Frag) : List V → Hp → VK → Prop := fun xs H Q => ∃ v d, xs = [v] ∧ Dp K H v d ∧ d.canLay0 = true ∧ d.depth ≤ 60 ∧ d.showable = true ∧ d.shown.length ≤ sizeLine ∧ Q (.str d.shown) H
theorem call_reprD (hgd : X.A.guards = some []) (hu : X.A.units + 64 < cLine) : CallR X (.builtin "repr") (rReprD X.K) := by
  intro pins s σ H xs us Q I r h
  obtain ⟨v, d, rfl, hd, hc, hdp, hsh, hz, k⟩ := h
  obtain ⟨u, rfl, ru⟩ := vals1 r
  obtain ⟨as, rd⟩ := Dp.reads I d v u hd ru
  have fin : ∀ h' t tk, (∀ b o, s.heap.get? b = some o → h'.get? b = some o) → EP X pins σ Q (.str d.shown t) { s with heap := h', toks := tk } := fun h' t tk hk => ⟨.str d.shown, H, I.kept hk, ⟨t, rfl⟩, k⟩
  have nd : d.hasDict = true → sysModules ∉ as := PyData.noDict_hsm (PyData.hasDict_of_canLay d hc)
  cases rd with
  | none => exact PySem.P.repr_of_none (fin s.heap _ _ fun _ _ e => e)
  | bool b => exact PySem.P.repr_of_bool (fin s.heap _ _ fun _ _ e => e)
  | int i t => exact PySem.P.repr_of_int (by simpa [PyData.showable] using hsh) (fin s.heap _ _ fun _ _ e => e)
  | str y t => exact PySem.P.repr_of_str (fin s.heap _ _ fun _ _ e => e) (by simpa [PyData.shown] using hz)
  | list h1 h2 h3 h4 => exact repr_of_reads' (.list h1 h2 h3 h4) hsh nd hgd (by omega) (fun _ _ e => e) fin hz
  | tuple h1 h2 h3 h4 => exact repr_of_reads' (.tuple h1 h2 h3 h4) hsh nd hgd (by omega) (fun _ _ e => e) fin hz
  | dict _ _ _ _ _ => cases hc
end
end Z
end

section
set_option linter.all false
set_option maxRecDepth 100000
set_option maxHeartbeats 2000000
namespace Z
open PySem L2 PyProof.Rows

def retP (Kp : DV → Prop) : Out → Prop
  | .rt r => Kp r
  | .nx _ => Kp (.d .none)
  | .bk _ => False
  | .ct _ => False
def startD (N : List Str) (ds : List DV) : En := ds.map some ++ List.replicate (N.length - ds.length) none
theorem env_start {K : PySem.W.Frag} {G : Hp} {N : List Str} : ∀ {ds : List DV} {vs : List V}, Rels K G ds vs → ds.length ≤ N.length → EnvD K G (startD N ds) (L2.start N vs) := by
  intro ds vs h hl
  have hlen := h.length
  refine ⟨by simp [startD, L2.start, hlen], fun i r e => ?_⟩
  unfold startD at e
  unfold L2.start
  by_cases hi : i < ds.length
  · rw [List.getElem?_append_left (by simpa using hi), List.getElem?_map] at e
    rw [List.getElem?_append_left (by simpa [hlen] using hi), List.getElem?_map]
    have key : ∀ {ds : List DV} {vs : List V} (i : Nat), Rels K G ds vs → ∀ r, ds[i]? = some r → ∃ v, vs[i]? = some v ∧ rel K G r v := by
      intro ds vs i h
      induction h generalizing i with
      | nil => intro r e; simp at e
      | cons a b ih =>
        intro r e
        cases i with
        | zero => simp at e; subst e; exact ⟨_, rfl, a⟩
        | succ i => obtain ⟨v, h1, h2⟩ := ih i r (by simpa using e); exact ⟨v, by simpa using h1, h2⟩
    cases q : ds[i]? with
    | none => rw [q] at e; cases e
    | some d =>
      rw [q] at e
      cases e
      obtain ⟨v, h1, h2⟩ := key i h _ q
      exact ⟨v, by rw [h1]; rfl, h2⟩
  · rw [List.getElem?_append_right (by simpa using hi), List.getElem?_replicate] at e
    split at e <;> cases e
theorem fnD_of {P : Program} {w : World} {K : PySem.W.Frag} {mg : Str → Option Value} {base : Heap} {k : Nat} {f : Addr} {x qual : Str} {st : Stmt} {fd : FuncData} {N ps : List Str} (F : Fun K x qual st f fd) (S : FnScope N ps (defScope st)) (Fp : DSp)
    (len : ∀ p ds Kp, Fp p ds Kp → ds.length = ps.length)
    (body : ∀ (cdv : Value) (A : Around) (outer : List Env) (s : Shared) (H : Hp) (E : XK), A.guards = some [] → Room k (bx CX0 P w K mg base N qual st f cdv A outer s H E).nox.A → ∀ p ds Kp, Fp p ds Kp →
      DSs (bx CX0 P w K mg base N qual st f cdv A outer s H E).nox p (startD N ds) (defBody st) (retP Kp)) : FnG P w K mg base CX0 (k + 1) f fd ps (spD K Fp) := by
  have hN : ps.length ≤ N.length := by have := congrArg List.length S.pre; rw [List.length_take] at this; omega
  refine fnG_of F S (fun vs H Q E ⟨p, G, ds, Kp, hs, rv, hf, _⟩ => by rw [rv.length]; exact len p ds Kp hf) fun cdv A outer s H vs Q E hg hr hsp => ?_
  obtain ⟨p, G, ds, Kp, hs, rv, hf, k⟩ := hsp
  intro pins s1 I
  refine (PSs.nox (pssW _)).run pins s1 _ H _ I ?_
  refine body cdv A outer s H E hg hr p ds Kp hf _ G H (env_start rv (by rw [len p ds Kp hf]; exact hN)) hs _ ⟨fun δ σ G2 H2 q g _ => k .non (.d .none) G2 H2 q g Rp.non, fun r v G2 H2 q g rr => k v r G2 H2 q g rr, fun _ _ _ _ q => q.elim, fun _ _ _ _ q => q.elim⟩

/-! ### sums and products of data of any kind -/
def addD : PyData → PyData → Option PyData
  | .int i, .int j => some (.int (i + j))
  | .list a, .list b => if a.length + b.length ≤ sizeLine then some (.list (a ++ b)) else none
  | .tuple a, .tuple b => if a.length + b.length ≤ sizeLine then some (.tuple (a ++ b)) else none
  | _, _ => none
def mulD : PyData → PyData → Option PyData
  | .list a, .int k => if -(2 ^ 63) ≤ k ∧ k < 2 ^ 63 ∧ a.length * k.toNat ≤ sizeLine then some (.list (List.replicate k.toNat a).flatten) else none
  | _, _ => none
theorem opr_or {X : Cx} {f : Value → Value → Sem Value} {r1 r2 : R2} (h1 : OpR X f r1) (h2 : OpR X f r2) : OpR X f (fun x y H Q => r1 x y H Q ∨ r2 x y H Q) := fun pins s σ H x y v u Q I rx ry h => h.elim (h1 pins s σ H x y v u Q I rx ry) (h2 pins s σ H x y v u Q I rx ry)
section
variable {X : Cx} {p : Option Addr} {δ : En} {Kp : DV → Prop} {P : Out → Prop} {a b e : Expr} {pos : Pos}
theorem de_addD (h : DE X p δ a fun x => ∃ c, x = .d c ∧ DE X p δ b fun y => ∃ d r, y = .d d ∧ addD c d = some r ∧ Kp (.d r)) : DE X p δ (.BinOp a .Add b pos) Kp :=
  de_bop (opr_or op_add (opr_or op_cat op_catA)) (h.imp fun x ⟨c, hx, hb⟩ => hb.imp fun y ⟨d, r, hy, hr, k⟩ G H vx vy s rx ry Q q => by
    subst hx hy
    cases rx with
    | int i =>
      cases ry with
      | int j => cases hr; exact .inl ⟨i, j, rfl, rfl, q _ _ G H k (.refl s) (Rp.int _)⟩
      | non => cases hr
      | bl _ => cases hr
      | str _ => cases hr
      | lst _ _ => cases hr
      | tup _ _ => cases hr
    | @lst a1 xs ds hl ha =>
      cases ry with
      | @lst a2 ys es hl' ha' =>
        have hr : (if ds.length + es.length ≤ sizeLine then some (PyData.list (ds ++ es)) else none) = some r := hr
        by_cases hz : ds.length + es.length ≤ sizeLine
        · rw [if_pos hz] at hr
          cases hr
          exact .inr (.inl ⟨_, _, _, _, rfl, rfl, s.ex _ _ hl, s.ex _ _ hl', by rw [ha.len, ha'.len]; exact hz, fun q' hq' => q _ _ _ _ k (Go.alloc s hq') (Rp.lst upd_same (Ex.dps (Ex.new (s.fresh hq')) _ _ (ha.app ha')))⟩)
        · rw [if_neg hz] at hr
          cases hr
      | int j => cases hr
      | non => cases hr
      | bl _ => cases hr
      | str _ => cases hr
      | tup _ _ => cases hr
    | @tup a1 xs ds hl ha =>
      cases ry with
      | @tup a2 ys es hl' ha' =>
        have hr : (if ds.length + es.length ≤ sizeLine then some (PyData.tuple (ds ++ es)) else none) = some r := hr
        by_cases hz : ds.length + es.length ≤ sizeLine
        · rw [if_pos hz] at hr
          cases hr
          refine .inr (.inr ⟨_, _, _, _, rfl, rfl, s.ex.st hl, s.ex.st hl', by rw [ha.len, ha'.len]; exact hz, fun e0 => ?_, fun _ e0 => ?_, fun _ _ q' hq' => ?_⟩)
          · subst e0
            have : ds = [] := List.eq_nil_of_length_eq_zero (by have := ha.len; simpa using this.symm)
            subst this
            exact q _ _ G H k (.refl s) (Rp.tup hl' ha')
          · subst e0
            have : es = [] := List.eq_nil_of_length_eq_zero (by have := ha'.len; simpa using this.symm)
            subst this
            rw [List.append_nil] at k
            exact q _ _ G H k (.refl s) (Rp.tup hl ha)
          · exact q _ _ _ _ k (Go.alloc s hq') (Rp.tup (.of upd_same) (Ex.dps (Ex.new (s.fresh hq')) _ _ (ha.app ha')))
        · rw [if_neg hz] at hr
          cases hr
      | int j => cases hr
      | non => cases hr
      | bl _ => cases hr
      | str _ => cases hr
      | lst _ _ => cases hr
    | non => cases ry <;> cases hr
    | bl _ => cases ry <;> cases hr
    | str _ => cases ry <;> cases hr)

/-! ### the drawing list -/
variable {fd : Addr}
theorem de_feed {i : Nat} {x : Str} {px : Pos} {z : Int} {j : Nat} {pz : Pos} (hN : X.N[i]? = some x) (hv : Vis X.env.scope x) (hr : δ[i]? = some (some (.v (.ref fd)))) (hz : z = 0 ∨ z = 1) (k : ∀ m : Int, Kp (.d (.int m)))
    (hd : (x == ("__debug__" : Str)) = false := by decide) (hcd : (x == ("__classdict__" : Str)) = false := by decide) (hp : PlainIx (.Constant (.int z) j pz) := by exact fun _ _ => rfl) : DE X (some fd) δ (.Subscript (.Name x px) (.Constant (.int z) j pz) pos) Kp := fun σ G H he hs Q hq => by
  obtain ⟨v, h1, h2⟩ := he.at_ i _ hr
  cases h2
  obtain ⟨_, m, n, hf⟩ := hs.fd fd rfl
  refine ofE (pe_ix ix_list (pe_var hN hv hd hcd) pe_int hp) ⟨_, h1, ?_⟩
  rcases hz with rfl | rfl
  · exact ⟨fd, [.int m, .int n], 0, .int m, rfl, rfl, .of hf, rfl, hq _ (.d (.int m)) G H (k m) (.refl hs) (Rp.int m)⟩
  · exact ⟨fd, [.int m, .int n], 1, .int n, rfl, rfl, .of hf, rfl, hq _ (.d (.int n)) G H (k n) (.refl hs) (Rp.int n)⟩
theorem Go.feed {G H : Hp} (s : Sat (some fd) G H) {m n : Int} : Go (some fd) G H G (upd H fd (.lst [.int m, .int n])) := by
  obtain ⟨h1, _⟩ := s.fd fd rfl
  refine ⟨.refl G, fun _ _ e => .inl e, ⟨fun a u e => ?_, fun a e => ?_⟩, fun a u hp e => ?_⟩
  · rw [upd_ne (ne_of_none e h1)]
    exact s.ex a u e
  · cases e
    exact ⟨h1, m, n, upd_same⟩
  · rw [upd_ne (fun z => hp (by rw [z]))]
    exact e
theorem ds_feed {i : Nat} {x : Str} {px ps pz pst : Pos} {z : Int} {j : Nat} (hN : X.N[i]? = some x) (hv : Vis X.env.scope x) (hr : δ[i]? = some (some (.v (.ref fd)))) (hz : z = 0 ∨ z = 1) (h : DE X (some fd) δ e fun r => ∃ m : Int, r = .d (.int m) ∧ P (.nx δ))
    (hd : (x == ("__debug__" : Str)) = false := by decide) (hcd : (x == ("__classdict__" : Str)) = false := by decide)
    (hp : PS X (.Assign [.Subscript (.Name x px) (.Constant (.int z) j pz) ps] e pst) (tAsg (wpE X e) (gSub (tVar i) (tC (.int z)) rSetL)) := by exact ps_asg (peW _) (pg_sub (pv _) pe_int set_list)) : DS X (some fd) δ (.Assign [.Subscript (.Name x px) (.Constant (.int z) j pz) ps] e pst) P := fun σ G H he hs D d => by
  refine ofS hp ?_
  refine h σ G H he hs _ fun v r G1 H1 ⟨m, hr', k⟩ g1 rv => ?_
  subst hr'
  cases rv
  obtain ⟨u, h1, h2⟩ := (he.up g1.ex).at_ i _ hr
  cases h2
  obtain ⟨_, m0, n0, hf⟩ := g1.sat.fd fd rfl
  refine ⟨_, h1, ?_⟩
  rcases hz with rfl | rfl
  · exact ⟨fd, [.int m0, .int n0], 0, 0, rfl, rfl, hf, rfl, d.nx δ σ _ _ k (g1.trans (Go.feed g1.sat) hs) (he.up g1.ex)⟩
  · exact ⟨fd, [.int m0, .int n0], 1, 1, rfl, rfl, hf, rfl, d.nx δ σ _ _ k (g1.trans (Go.feed g1.sat) hs) (he.up g1.ex)⟩
end
end Z
end

section
set_option linter.all false
set_option maxRecDepth 100000
set_option maxHeartbeats 2000000
namespace Z
open PySem L2 PyProof.Rows

/-! ### the end of a law's row: the call of law, where no repr is under way -/
section
variable {P : Program} {w : World} {K : PySem.W.Frag} {mg mb : Str → Option Value} {CX : CXT} {k : Nat} {fa a : Addr} {fd : FuncData} {x : Str} {sp : Sp} {s₁ : Shared} {vs : List Value} {ns : List Int}
abbrev GoodEnd (s₁ : Shared) : Result → Shared → Prop := fun r s' => r = .ok (.ret (.bool true)) ∧ OldK s₁.heap s'.heap ∧ s'.os = s₁.os ∧ AllBare s'.gens
theorem law_core (H : Hp) (hO : Only H) (KX : K.In s₁.heap) (hns : s₁.heap.Ns mainGlobals mg) (hb : s₁.heap.Ns builtinsNs mb) (hbb : ∀ x : Str, x ≠ "__name__" → mb x = bootBuiltins x) (hlim : s₁.heap.NoLimit) (hg : s₁.gens = #[])
    (ha : s₁.heap.get? a = some { cls := .type "list", data := .seq vs.toArray }) (hr : Room k callerA) (F : ∀ base : Heap, K.In base → base.Ns mainGlobals mg → FnG P w K mg base CX k fa fd [x] sp)
    (hbind : ∀ (s : Shared) (u : Value), BindsTo s fd ⟨[u], []⟩ [(x, u)]) (hsp : sp [.ref a] H (fun v _ => v = .bl true) fun _ _ _ => False) (hCX : ∀ H e s', CX [] H s₁ (fun _ _ _ => False) e s' → False)
    (ok : HOk P w H s₁.heap) (hA : ∀ b, H b ≠ none → b = a) (hK : H a ≠ none → K.lookup a = none) : codeAny (model P w) callerA (.call (.ref fa) ⟨[.ref a], []⟩) (GoodEnd s₁) s₁ := by
  have free : ∀ {b : Addr} {o : Obj}, s₁.heap.get? b = some o → (b = a → False) → H b = none := fun {b o} _ nb => by
    cases q : H b with
    | none => rfl
    | some u => exact (nb (hA b (by rw [q]; simp))).elim
  have notDict : ∀ {b : Addr} {o : Obj} {es : Array DictEntry} {ep : Nat}, s₁.heap.get? b = some o → o.data = .dict es ep → H b = none := fun {b o es ep} e d => free e fun z => by
    subst z
    rw [ha] at e
    cases e
    cases (show Data.seq vs.toArray _ = Data.dict es ep from d)
  have hideNs : ∀ {b : Addr} {m : Str → Option Value}, s₁.heap.Ns b m → (hidT s₁.heap H).Ns b m := fun {b m} ⟨o, es, ep, e, d, r⟩ => ⟨o, es, ep, hidT_get e (notDict e d), d, r⟩
  have hideK : K.In (hidT s₁.heap H) := fun b o e => hidT_get (KX b o e) (by
    cases q : H b with
    | none => rfl
    | some u =>
      obtain rfl := hA b (by rw [q]; simp)
      rw [hK (by rw [q]; simp)] at e
      cases e)
  have hM : Mod K mg (hidT s₁.heap H) := ⟨hideK, hideNs hns, ⟨mb, hideNs hb, hbb⟩, let ⟨mc, h1, h2⟩ := hlim; ⟨mc, hideNs h1, h2⟩⟩
  have e0 : Env0 P w K mg (hidT s₁.heap H) callerA [] s₁ H := ⟨rfl, hM, fun b o e => of_hidT e, Nat.le_of_eq (hidT_size _ _), trivial, fun b hb => (nomatch (show b ∈ ([] : List Addr) from hb)), ok, .of_eq hg⟩
  refine codeAny_mono ((F _ hideK (hideNs hns)).run callerA [] s₁ H ⟨[.ref a], []⟩ [.ref a] [.ref a] _ _ rfl hr e0 (hbind s₁ (.ref a)) (.cons rfl .nil) hsp) fun r s' h => ?_
  match r, h with
  | .error e, h => exact (hCX H e s' h).elim
  | .ok .next, h => exact h.elim
  | .ok .brk, h => exact h.elim
  | .ok .cont, h => exact h.elim
  | .ok (.ret u), ⟨v, H', os, bare, un, hok', r', q⟩ =>
    have q' : v = .bl true := q
    subst q'
    obtain rfl : u = Value.bool true := r'
    refine ⟨rfl, OldK.of_keep fun b o e => ?_, os, bare⟩
    cases q : H b with
    | none => exact un.keep b o e q (fun z => nomatch (show b ∈ ([] : List Addr) from z)) (by simp)
    | some u =>
      rcases hO b with z | ⟨ob, xs, z⟩
      · rw [q] at z
        cases z
      · obtain ⟨e1, _⟩ := ok b _ z
        obtain ⟨e2, _⟩ := hok' b _ (un.frzs b ob _ z)
        rw [e] at e1
        cases e1
        exact e2
theorem law_callG (KX : K.In s₁.heap) (hns : s₁.heap.Ns mainGlobals mg) (hb : s₁.heap.Ns builtinsNs mb) (hbb : ∀ x : Str, x ≠ "__name__" → mb x = bootBuiltins x) (hlim : s₁.heap.NoLimit) (hg : s₁.gens = #[])
    (ha : s₁.heap.get? a = some { cls := .type "list", data := .seq vs.toArray }) (hi : IntsAre vs ns) (hl : ns.length ≤ sizeLine) (hr : Room k callerA) (F : ∀ base : Heap, K.In base → base.Ns mainGlobals mg → FnG P w K mg base CX k fa fd [x] sp)
    (hbind : ∀ (s : Shared) (u : Value), BindsTo s fd ⟨[u], []⟩ [(x, u)]) (hsp : ∀ H : Hp, Only H → SqL K H a (ns.map V.int) → sp [.ref a] H (fun v _ => v = .bl true) fun _ _ _ => False)
    (hCX : ∀ H e s', CX [] H s₁ (fun _ _ _ => False) e s' → False) : codeAny (model P w) callerA (.call (.ref fa) ⟨[.ref a], []⟩) (GoodEnd s₁) s₁ := by
  have rv := vals_ints hi
  have lenV := hi.length
  cases hk : K.lookup a with
  | some o =>
    have e := KX a o hk
    rw [ha] at e
    cases e
    have hO : Only fun _ => none := fun _ => .inl rfl
    exact law_core (fun _ => none) hO KX hns hb hbb hlim hg ha hr F hbind (hsp _ hO (.inr ⟨_, vs.toArray, _, hk, rfl, rfl, rfl, by rw [List.size_toArray, lenV]; exact hl, by simpa using rv⟩)) hCX (fun b u z => nomatch (show (none : Option HO) = some u from z)) (fun b z => absurd rfl z) fun z => absurd rfl z
  | none =>
    have hO : Only fun b => if b = a then some (.frz { cls := .type "list", data := .seq vs.toArray } (.lst (ns.map V.int))) else none := fun b => by
      by_cases hb : b = a
      · exact .inr ⟨_, _, if_pos hb⟩
      · exact .inl (if_neg hb)
    refine law_core _ hO KX hns hb hbb hlim hg ha hr F hbind (hsp _ hO (.inl (.inr ⟨{ cls := .type "list", data := .seq vs.toArray }, if_pos rfl⟩))) hCX (fun b u z => ?_) (fun b z => ?_) fun _ => hk
    · by_cases hb : b = a
      · have z' := (if_pos hb).symm.trans z
        cases z'
        subst hb
        exact ⟨ha, by rw [List.length_map]; exact hl, vs, _, rv, ha⟩
      · have z' := (if_neg hb).symm.trans z
        cases z'
    · by_cases hb : b = a
      · exact hb
      · exact absurd (if_neg hb) z
end
/-- a law that gives True for every script -/
def spTrue (K : PySem.W.Frag) : Sp := fun vs H Q _ => ∃ (a : Addr) (ns : List Int), vs = [.ref a] ∧ SqL K H a (ns.map V.int) ∧ ns.length ≤ 63 ∧ Only H ∧ ∀ H', Q (.bl true) H'
theorem walk_G {l : PySem.W.OpenLaw} {k : Nat} {q : Program} {loose : List Str} {XP : (Str → Option Value) → Heap → Prop} {YP : World → Heap → Prop} {d : DefRec} {K : Params → PySem.W.Frag} {x : Str}
    (hn : l.most = some 63) (hdf : d.params.defaults = []) (hr : Room k callerA) (hY : ∀ (w : World) (h : Heap), YP w h → (K w.params).In h)
    (F : ∀ (w : World) (mg : Str → Option Value) (fa : Addr) (h : Heap), (K w.params).In h → h.Ns mainGlobals mg → mg d.name = some (.ref fa) →
      ∃ fd : FuncData, (∀ (s : Shared) (u : Value), BindsTo s fd ⟨[u], []⟩ [(x, u)]) ∧ ∀ base : Heap, (K w.params).In base → base.Ns mainGlobals mg → FnG l.prog w (K w.params) mg base CX0 k fa fd [x] (spTrue (K w.params))) :
    PySem.W.WalkO q loose XP YP l.row.toRowW d [] (fun f vs => PySem.call f vs) := by
  refine Att.attach_call hn hdf fun w s₀ s₁ mg mb fa o pm cd doc a vs ns G Y ho hd hcd hmg hobj hints hlen hg => ?_
  obtain ⟨fd, hb, hF⟩ := F w mg fa _ (hY w _ Y) G.T.g hmg
  exact law_callG (hY w _ Y) G.T.g G.T.b G.T.builtins G.T.nolimit hg hobj hints (Nat.le_trans hlen (by decide)) hr hF hb (fun H hO hS => ⟨a, ns, rfl, hS, hlen, hO, fun _ => rfl⟩) fun H e s' h => h.elim
end Z
end

section
set_option linter.all false
set_option maxRecDepth 100000
set_option maxHeartbeats 2000000
namespace Z
open PySem L2 PyProof.Rows

/-! ### zip of a tuple and a list -/
def ItzTL (K : PySem.W.Frag) (a b : Addr) : It :=
  ⟨fun i H => ∃ (xs ys : List V) (x y : V), SqT K H a xs ∧ SqL K H b ys ∧ xs[i]? = some x ∧ ys[i]? = some y,
    fun i H v H' => ∃ t x y, v = .ref t ∧ H t = none ∧ H' = upd H t (.tup [x, y]) ∧ (∀ xs, SqT K H a xs → xs[i]? = some x) ∧ ∀ ys, SqL K H b ys → ys[i]? = some y,
    fun i H => ∃ xs ys : List V, SqT K H a xs ∧ SqL K H b ys ∧ (xs.length = i ∧ i ≤ ys.length ∨ ys.length = i ∧ i ≤ xs.length)⟩
theorem turn_zipTL {P : Program} {w : World} {K : PySem.W.Frag} {elts : List Expr} {kk : Nat} {tpos : Pos} {a b z TI TO i1 i2 : Addr} (D : ZipSep2 z TI TO i1 i2 [i1, a] [i2, b]) (na : a ≠ i1) (nb : b ≠ i2) :
    Turn P w K (.Tuple elts kk tpos) (ItzTL K a b) [z, TI, TO, i1, i2] z (fun i h => IsZip h z TI TO .none ∧ IsTupOf2 h TI (.ref i1) (.ref i2) ∧ (∃ x y, IsTupOf2 h TO x y) ∧ h.IsTupleIter i1 a i ∧ h.IsListIter i2 b i) where
  mem := by simp
  obj := fun i h ⟨hz, hTI, ⟨x, y, hTO⟩, ⟨o1, e1, _, d1⟩, ⟨o2, e2, _, d2⟩⟩ c hc => by
    simp only [List.mem_cons, List.not_mem_nil, or_false] at hc
    rcases hc with rfl | rfl | rfl | rfl | rfl
    · exact ⟨_, hz, fun v q => nomatch q⟩
    · exact ⟨_, hTI, fun v q => nomatch q⟩
    · exact ⟨_, hTO, fun v q => nomatch q⟩
    · exact ⟨o1, e1, fun v q => by rw [d1] at q; cases q⟩
    · exact ⟨o2, e2, fun v q => by rw [d2] at q; cases q⟩
  keep := fun i h h' ⟨hz, hTI, ⟨x, y, hTO⟩, h1, h2⟩ k => ⟨k z (by simp) _ hz, k TI (by simp) _ hTI, ⟨x, y, k TO (by simp) _ hTO⟩, h1.at fun o q => k i1 (by simp) o q, h2.at fun o q => k i2 (by simp) o q⟩
  item := by
    intro X hP hw hK hc i pins s σ H E I hf st hg
    subst hP hw hK
    obtain ⟨hz, hTI, ⟨x0, y0, hTO⟩, h1, h2⟩ := st
    obtain ⟨xs, ys, x, y, hqx, hqy, hx, hy⟩ := hg
    obtain ⟨its, rv, p, _⟩ := I.tuple hqx
    obtain ⟨its2, rv2, p2, _⟩ := I.list hqy
    obtain ⟨u, hu, ru⟩ := rv.get hx
    obtain ⟨u2, hu2, ru2⟩ := rv2.get hy
    have hzl : z < s.heap.objs.size := Heap.lt_size hz
    have hh := I.ok.hd hc
    have D1 := Draws.tuple (prog := X.prog) (w := X.w) (A := X.A.in1) hh i1 a na its.toArray
    have D2 := Draws.list (prog := X.prog) (w := X.w) (A := X.A.in1) hh i2 b nb its2.toArray
    have l1 : i < its.toArray.size := by have := (List.getElem?_eq_some_iff.mp hu).1; simpa using this
    have l2 : i < its2.toArray.size := by have := (List.getElem?_eq_some_iff.mp hu2).1; simpa using this
    refine wpAny_pyNext_zipD2_item D D1 D2 hz hTI hTO ⟨h1, show s.heap.IsTuple a its.toArray from p⟩ ⟨h2, p2.isList⟩ l1 l2 fun v1 v2 h' tk q1 q2 z' TO' st1' st2' hT hsz hk => ?_
    have e1 : v1 = u := by rw [show its.toArray[i]? = some u by simpa using hu] at q1; exact (Option.some.inj q1).symm
    have e2 : v2 = u2 := by rw [show its2.toArray[i]? = some u2 by simpa using hu2] at q2; exact (Option.some.inj q2).symm
    subst e1 e2
    refine ⟨_, rfl, wpAny_letOwnedTupleGo_zip (s := { s with heap := h', toks := tk }) z' fun h'' z'' sb => ?_⟩
    have hT2 : h''.get? s.heap.objs.size = some { cls := .type "tuple", data := .seq #[v1, v2] } := (sb.2 _ (Nat.ne_of_gt hzl)).trans hT
    have new : ObjOk X.prog X.w (upd H s.heap.objs.size (.tup [x, y])) h'' s.heap.objs.size (.tup [x, y]) := ⟨by show 2 ≤ sizeLine; decide, [v1, v2], .cons ru (.cons ru2 .nil), ⟨_, hT2, rfl, _, rfl⟩⟩
    have all : ∀ c o, c ∉ [z, TI, TO, i1, i2] → s.heap.get? c = some o → h''.get? c = some o := fun c o hb q => by
      simp only [List.mem_cons, List.not_mem_nil, or_false, not_or] at hb
      exact (sb.2 c hb.1).trans (hk c o hb.1 hb.2.2.1 hb.2.2.2.1 hb.2.2.2.2 q)
    have I1 : Inv X pins σ (upd H s.heap.objs.size (.tup [x, y])) { s with heap := h'', toks := tk } := I.turnedNew (t' := tk) (ch := [z, TI, TO, i1, i2]) all hf (Nat.le_refl _) new
    refine ⟨.ref s.heap.objs.size, _, I1, rfl, ⟨_, x, y, rfl, I.hok.fresh (Nat.le_refl _), rfl, fun l hl => by rw [I.tuple_inj hl hqx]; exact hx, fun l hl => by rw [I.list_inj hl hqy]; exact hy⟩, ⟨z'', ?_, ⟨v1, v2, ?_⟩, ?_, ?_⟩, fun c hcm => ?_⟩
    · exact (sb.2 _ D.TIz).trans (hk _ _ D.TIz D.TITO D.TIi1 D.TIi2 hTI)
    · exact (sb.2 _ D.TOz).trans TO'
    · exact st1'.1.at fun o q => (sb.2 _ (fun e => D.zi1 e.symm)).trans q
    · exact st2'.1.at fun o q => (sb.2 _ (fun e => D.zi2 e.symm)).trans q
    · have hlt : c < s.heap.objs.size := by
        simp only [List.mem_cons, List.not_mem_nil, or_false] at hcm
        obtain ⟨_, o1, _⟩ := h1
        obtain ⟨_, o2, _⟩ := h2
        rcases hcm with rfl | rfl | rfl | rfl | rfl
        · exact hzl
        · exact Heap.lt_size hTI
        · exact Heap.lt_size hTO
        · exact Heap.lt_size o1
        · exact Heap.lt_size o2
      rw [upd_ne (Nat.ne_of_lt hlt)]
      exact (hf c hcm).1
  done := by
    intro X hP hw hK hc i pins s σ H E I hf st hg
    subst hP hw hK
    obtain ⟨hz, hTI, ⟨x0, y0, hTO⟩, h1, h2⟩ := st
    obtain ⟨xs, ys, hqx, hqy, hend⟩ := hg
    obtain ⟨its, rv, p, _⟩ := I.tuple hqx
    obtain ⟨its2, rv2, p2, _⟩ := I.list hqy
    have l1 := rv.length
    have l2 := rv2.length
    have hh := I.ok.hd hc
    have D1 := Draws.tuple (prog := X.prog) (w := X.w) (A := X.A.in1) hh i1 a na its.toArray
    have D2 := Draws.list (prog := X.prog) (w := X.w) (A := X.A.in1) hh i2 b nb its2.toArray
    refine wpAny_pyNext_zipD2_end D D1 D2 hz hTI hTO ⟨h1, show s.heap.IsTuple a its.toArray from p⟩ ⟨h2, p2.isList⟩ (by simp; omega) (by simp; omega) (by simp; omega) fun h' tk hk => ⟨rfl, ?_⟩
    refine I.turnedL (t' := tk) (ch := [z, TI, TO, i1, i2]) (fun c o hb q => ?_) hf
    simp only [List.mem_cons, List.not_mem_nil, or_false, not_or] at hb
    exact hk c o hb.1 hb.2.2.1 hb.2.2.2.1 hb.2.2.2.2 q
  self := fun A i s Q E st h => wpAny_pyIter_zip st.1 h
def iZipTL (K : PySem.W.Frag) (ta : TA) : TI := fun σ H R => ta σ H fun vs H1 => ∃ a b xs ys, vs = [.ref a, .ref b] ∧ SqT K H1 a xs ∧ SqL K H1 b ys ∧ R (ItzTL K a b) H1
theorem pi_zipTL {X : Cx} {e e2 : Expr} {ta : TA} {p pos tpos : Pos} {elts : List Expr} {kk : Nat} (hg : Gl X "zip") (hm : X.mg "zip" = none) (ha : PA X [e, e2] ta)
    (hs : starEach [e, e2] X.env = (false, eval e X.env) :: starEach [e2] X.env := by rfl) (hpl : (backTo pos (starEach [e2] X.env)).any (·.1) = false := by rfl) : PI X (.Tuple elts kk tpos) (.Call (.Name "zip" p) [e, e2] [] pos) (iZipTL X.K ta) := by
  refine ⟨fun pins s σ H R I h => ?_⟩
  refine Call_ (ld_blt I hg hm PyProof.Rows.boot_zip (PyProof.Rows.callWith_type1 (thn (ha.run pos pins s σ H _ I h) fun us s1 ⟨vs, H1, I1, r1, a, b, xs, ys, ex, hqx, hqy, q⟩ => ?_) hs hpl))
  subst ex
  cases r1 with
  | cons r rr =>
    cases rr with
    | cons r' rr =>
      cases rr
      cases r
      cases r'
      obtain ⟨its, rv, p1, _⟩ := I1.tuple hqx
      obtain ⟨its2, rv2, p2, _⟩ := I1.list hqy
      have la : a < s1.heap.objs.size := p1.lt
      have lb : b < s1.heap.objs.size := p2.lt
      refine zip_begins2 (begins_tuple a its.toArray) (begins_list b its2.toArray) (show s1.heap.IsTuple a its.toArray from p1) p2.isList fun h' hz hTI hTO h1 h2 hsz hk => wpAny_pyIter_zip hz ?_
      have I2 : Inv X pins σ H1 { s1 with heap := h' } := I1.kept (t' := s1.toks) hk
      have sa : ∀ c ∈ [a], c < s1.heap.objs.size := fun c hc => by rw [List.mem_singleton.mp hc]; exact la
      have sb : ∀ c ∈ [b], c < s1.heap.objs.size := fun c hc => by rw [List.mem_singleton.mp hc]; exact lb
      have S := zip_sep2 (N := s1.heap.objs.size) sa sb
      refine ⟨s1.heap.objs.size + 4, [s1.heap.objs.size + 4, s1.heap.objs.size + 2, s1.heap.objs.size + 3, s1.heap.objs.size, s1.heap.objs.size + 1], _, _, H1, rfl, I2, turn_zipTL S (Nat.ne_of_lt la) (Nat.ne_of_lt (Nat.lt_succ_of_lt lb)), ⟨hz, hTI, ⟨_, _, hTO⟩, ⟨_, h1, rfl, rfl⟩, ⟨_, h2, rfl, rfl⟩⟩, fun c hcm => ?_, q⟩
      simp only [List.mem_cons, List.not_mem_nil, or_false] at hcm
      have hle : s1.heap.objs.size ≤ c := by rcases hcm with rfl | rfl | rfl | rfl | rfl <;> omega
      exact I1.fpOk hle (I1.hok.fresh hle)
end Z
end

section
set_option linter.all false
set_option maxRecDepth 100000
set_option maxHeartbeats 2000000
namespace Z
open PySem L2 PyProof.Rows

/-! ### a def without repr, for the rules of methods and operators -/
theorem fnK_of {P : Program} {w : World} {K : PySem.W.Frag} {mg : Str → Option Value} {base : Heap} {k : Nat} {f : Addr} {x qual : Str} {st : Stmt} {fd : FuncData} {N ps : List Str} (F : Fun K x qual st f fd) (S : FnScope N ps (defScope st)) (Fp : DSp)
    (len : ∀ p ds Kp, Fp p ds Kp → ds.length = ps.length)
    (body : ∀ (cdv : Value) (A : Around) (outer : List Env) (s : Shared) (H : Hp) (E : XK), Room k (bx CX0 P w K mg base N qual st f cdv A outer s H E).nox.A → ∀ p ds Kp, Fp p ds Kp →
      DSs (bx CX0 P w K mg base N qual st f cdv A outer s H E).nox p (startD N ds) (defBody st) (retP Kp)) : FnOk P w K mg base CX0 (k + 1) f fd ps (spD K Fp) := by
  have hN : ps.length ≤ N.length := by have := congrArg List.length S.pre; rw [List.length_take] at this; omega
  refine F.ok S (fun vs H Q E ⟨p, G, ds, Kp, hs, rv, hf, _⟩ => by rw [rv.length]; exact len p ds Kp hf) fun cdv A outer s H vs Q E hr hsp => ⟨wpSs _ _, pssW _, ?_⟩
  obtain ⟨p, G, ds, Kp, hs, rv, hf, k⟩ := hsp
  exact body cdv A outer s H E hr p ds Kp hf _ G H (env_start rv (by rw [len p ds Kp hf]; exact hN)) hs _ ⟨fun δ σ G2 H2 q g _ => k .non (.d .none) G2 H2 q g Rp.non, fun r v G2 H2 q g rr => k v r G2 H2 q g rr, fun _ _ _ _ q => q.elim, fun _ _ _ _ q => q.elim⟩
theorem FnG.of {P : Program} {w : World} {K : PySem.W.Frag} {mg : Str → Option Value} {base : Heap} {CX : CXT} {k : Nat} {f : Addr} {fd : FuncData} {ps : List Str} {sp : Sp} (F : FnOk P w K mg base CX k f fd ps sp) : FnG P w K mg base CX k f fd ps sp :=
  ⟨F.len, fun A outer s H args us vs Q E _ => F.run A outer s H args us vs Q E⟩
section
variable {X : Cx} {k : Nat} {C f a : Addr} {fd : FuncData} {ps : List Str} {sp : Sp} {e : Expr} {pins : List (Addr × Obj)} {σ : L2.St} {H : Hp} {s : Shared}
/-- a method runs within a built-in -/
theorem run1 {Q : VK} {us : List Value} {vs : List V} {E' : Value → Shared → Prop} (F : FnOk X.prog X.w X.K X.mg X.base CX0 k f fd ps sp) (hr : Room (k + 1) X.A) (hb : Binds X.K fd ps []) (I : Inv X pins σ H s) (r : Vals vs us) (h : sp vs H Q E0) :
    wpAny (model X.prog X.w) X.A.in1 (call (.ref f) us) (EP X pins σ Q) E' s := by
  have hl : (us ++ []).length = ps.length := by rw [List.append_nil, ← r.length]; exact F.len _ _ _ _ h
  have bt := hb s us I.kIn hl
  rw [List.append_nil] at bt
  refine wpAny_call (codeAny_mono (F.run X.A.in1 X.stack s H ⟨us, []⟩ us vs Q E0 hr.in1 I.env0.in1 bt r h) fun r s' hq => ?_)
  cases r with
  | error er => exact hq.elim
  | ok fl =>
    cases fl with
    | ret u => exact I.after hq
    | next => exact hq.elim
    | brk => exact hq.elim
    | cont => exact hq.elim
theorem run0 {Q : VK} {us : List Value} {vs : List V} {E' : Value → Shared → Prop} (F : FnOk X.prog X.w X.K X.mg X.base CX0 k f fd ps sp) (hr : Room k X.A) (hb : Binds X.K fd ps []) (I : Inv X pins σ H s) (r : Vals vs us) (h : sp vs H Q E0) :
    wpAny (model X.prog X.w) X.A (call (.ref f) us) (EP X pins σ Q) E' s := by
  have hl : (us ++ []).length = ps.length := by rw [List.append_nil, ← r.length]; exact F.len _ _ _ _ h
  have bt := hb s us I.kIn hl
  rw [List.append_nil] at bt
  refine wpAny_call (codeAny_mono (F.run X.A X.stack s H ⟨us, []⟩ us vs Q E0 hr I.env0 bt r h) fun r s' hq => ?_)
  cases r with
  | error er => exact hq.elim
  | ok fl =>
    cases fl with
    | ret u => exact I.after hq
    | next => exact hq.elim
    | brk => exact hq.elim
    | cont => exact hq.elim
theorem inst_at (I : Inv X pins σ H s) {dx : Addr} {fs : List (Str × V)} (ea : H a = some (.ins C dx fs)) : ∃ ox od, PySem.W.InstAt s.heap a ox C (some od) := by
  obtain ⟨mA, O, _⟩ := ins_get I.hok ea
  obtain ⟨od, J, _⟩ := O.look
  exact ⟨_, od, J⟩
/-- len(o), o an instance with its own __len__ -/
def rLenO (C : Addr) (sp : Sp) : List V → Hp → VK → Prop := fun xs H Q => ∃ a dx fs, xs = [.ref a] ∧ H a = some (.ins C dx fs) ∧ sp [.ref a] H (fun v H' => ∃ n : Int, v = .int n ∧ 0 ≤ n ∧ n < 2 ^ 63 ∧ Q (.int n) H') E0
theorem call_lenO (F : FnOk X.prog X.w X.K X.mg X.base CX0 k f fd ps sp) (hr : Room (k + 1) X.A) (hb : Binds X.K fd ps []) (hs : PySem.W.findIn X.K (.ref C) "__len__" = some (some (.ref f))) (hf : PySem.W.isFn X.K (.ref f) = true) : CallR X (.builtin "len") (rLenO C sp) := by
  intro pins s σ H xs us Q I r h
  obtain ⟨a, dx, fs, rfl, ea, hsp⟩ := h
  obtain ⟨u, rfl, ru⟩ := vals1 r
  obtain rfl : u = Value.ref a := ru
  obtain ⟨m, fr⟩ := I.fr
  obtain ⟨ox, od, J⟩ := inst_at I ea
  refine PySem.W.len_K fr I.ok.mod.kin J hs hf (thn (run1 (E' := X.xe) F hr hb I (.cons (show RelV (.ref a) (.ref a) from rfl) .nil) hsp) fun v s' hv => ?_)
  obtain ⟨x, H', I', rx, n, ex, h0, h1, q⟩ := hv
  subst ex
  obtain ⟨t, rfl⟩ := rx
  exact ⟨⟨h0, h1⟩, .int n, H', I'.tok _, ⟨_, rfl⟩, q⟩
/-- o[i], o an instance with its own __getitem__ -/
theorem pe_subO {b e : Expr} {pos : Pos} (F : FnOk X.prog X.w X.K X.mg X.base CX0 k f fd ps sp) (hr : Room (k + 1) X.A) (hb : Binds X.K fd ps []) (hs : PySem.W.findIn X.K (.ref C) "__getitem__" = some (some (.ref f))) (hfi : PySem.W.fnIn X.K f = true) (hf : PySem.W.isFn X.K (.ref f) = true)
    (hsl : ∀ (x : Addr) (i : Value), subscripted b true (.ref x) i = runValue (.builtin "lifetime.subscript" ⟨[.ref x, i], []⟩)) :
    PE X (.Subscript e b pos) (fun σ H Q => wpE X e σ H fun x H1 => wpE X b σ H1 fun y H2 => ∃ a dx fs, x = .ref a ∧ H2 a = some (.ins C dx fs) ∧ sp [.ref a, y] H2 Q E0) := by
  refine ⟨fun pins s σ H Q I h => Subscript_ (binT (peW e) (peW b) I h fun v u s2 x y H2 I2 rx ry q => ?_)⟩
  obtain ⟨a, dx, fs, rfl, ea, hsp⟩ := q
  obtain rfl : v = Value.ref a := rx
  obtain ⟨m, fr⟩ := I2.fr
  obtain ⟨ox, od, J⟩ := inst_at I2 ea
  exact PySem.W.sub_K fr I2.ok.mod.kin J hs hfi hf (run1 F hr hb I2 (.cons (show RelV (.ref a) (.ref a) from rfl) (.cons ry .nil)) hsp) (hsl a u)
/-- o == x by an own __eq__, both of the class -/
def rEqO (C : Addr) (sp : Sp) : R2 := fun x y H Q => ∃ a dx fs b dy gs, x = .ref a ∧ H a = some (.ins C dx fs) ∧ y = .ref b ∧ H b = some (.ins C dy gs) ∧ sp [.ref a, .ref b] H (fun v H' => ∃ t, v = .bl t ∧ Q (.bl t) H') E0
theorem op_eqO (F : FnOk X.prog X.w X.K X.mg X.base CX0 k f fd ps sp) (hr : Room k X.A) (hb : Binds X.K fd ps []) (hs : PySem.W.findIn X.K (.ref C) "__eq__" = some (some (.ref f))) (hf : PySem.W.isFn X.K (.ref f) = true) : OpR X (compareOp .Eq) (rEqO C sp) := by
  intro pins s σ H x y v u Q I rx ry h
  obtain ⟨a, dx, fs, b, dy, gs, rfl, ea, rfl, eb, hsp⟩ := h
  obtain rfl : v = Value.ref a := rx
  obtain rfl : u = Value.ref b := ry
  obtain ⟨m, fr⟩ := I.fr
  obtain ⟨ox, od, J⟩ := inst_at I ea
  obtain ⟨oy, oe, J2⟩ := inst_at I eb
  refine PySem.W.cmp_ofEq (PySem.W.cmp_K hr.units0 fr I.ok.mod.kin J J2.type (by show ((Value.ref C == Value.ref C) || _) = true; simp) hs hf (thn (run0 (E' := X.xe) F hr hb I (.cons (show RelV (.ref a) (.ref a) from rfl) (.cons (show RelV (.ref b) (.ref b) from rfl) .nil)) hsp) fun v s' hv => ?_))
  obtain ⟨x, H', I', rx, t, ex, q⟩ := hv
  subst ex
  cases rx
  exact ⟨.bl t, H', I', rfl, q⟩
end
end Z
end

section
set_option linter.all false
set_option maxRecDepth 100000
set_option maxHeartbeats 2000000
/-! A mirror of the program as plain functions over an own heap, checked construct by construct. -/
namespace Z
open PySem L2 PyProof.Rows

/-- what comes, with the draws that are still open -/
inductive T (α : Type) where
  | ok (a : α) | draw (n : Nat) (k : Nat → T α) | bad
namespace T
variable {α β : Type}
def bind : T α → (α → T β) → T β
  | .ok a, f => f a
  | .draw n k, f => .draw n fun i => (k i).bind f
  | .bad, _ => .bad
def sat : T α → (α → Prop) → Prop
  | .ok a, P => P a
  | .draw n k, P => ∀ i, i < n → (k i).sat P
  | .bad, _ => False
def chk : T α → (α → Bool) → Bool
  | .ok a, p => p a
  | .draw n k, p => (List.range n).all fun i => (k i).chk p
  | .bad, _ => false
theorem sat_bind {f : α → T β} {P : β → Prop} : ∀ {t : T α}, (t.bind f).sat P → t.sat fun a => (f a).sat P
  | .ok _, h => h
  | .draw n k, h => fun i hi => sat_bind (h i hi)
  | .bad, h => h
theorem sat_imp {P Q : α → Prop} (k : ∀ a, P a → Q a) : ∀ {t : T α}, t.sat P → t.sat Q
  | .ok a, h => k a h
  | .draw n f, h => fun i hi => sat_imp k (h i hi)
  | .bad, h => h
theorem chk_sat {p : α → Bool} : ∀ {t : T α}, t.chk p = true → t.sat fun a => p a = true
  | .ok a, h => h
  | .draw n f, h => fun i hi => chk_sat (List.all_eq_true.mp h i (List.mem_range.mpr hi))
  | .bad, h => (Bool.false_ne_true h).elim
end T

/-- a value: refs by their number in the own heap -/
inductive AV where
  | non | bl (b : Bool) | int (i : Int) | str (x : Str) | rep (d : PyData) | r (i : Nat) | k (v : V) | scr
inductive AO where
  | lst (xs : List AV) | tup (xs : List AV) | dK (kvs : List (Key × AV)) | ins (C : Addr) (fs : List (Str × AV)) | feed
inductive Tr where
  | lf | nd (l : Tr) (v : Option AO) (r : Tr)
namespace Tr
def l : Tr → Tr | .lf => .lf | .nd l _ _ => l
def v : Tr → Option AO | .lf => none | .nd _ v _ => v
def r : Tr → Tr | .lf => .lf | .nd _ _ r => r
def get : Tr → Nat → Option AO
  | .lf, _ => none
  | .nd l v r, i => bif Nat.beq i 0 then v else bif Nat.beq (i % 2) 1 then l.get (i / 2) else r.get (i / 2 - 1)
def put : Nat → Tr → Nat → AO → Tr
  | 0, t, _, _ => t
  | f + 1, t, i, o => bif Nat.beq i 0 then .nd t.l (some o) t.r else bif Nat.beq (i % 2) 1 then .nd (put f t.l (i / 2) o) t.v t.r else .nd t.l t.v (put f t.r (i / 2 - 1) o)
theorem get_eq (t : Tr) (i : Nat) : t.get i = bif Nat.beq i 0 then t.v else bif Nat.beq (i % 2) 1 then t.l.get (i / 2) else t.r.get (i / 2 - 1) := by
  cases t with
  | nd l v r => rfl
  | lf => simp only [get, l, r, v]; cases Nat.beq i 0 <;> cases Nat.beq (i % 2) 1 <;> rfl
theorem get_put (o : AO) : ∀ (f : Nat) (t : Tr) (i j : Nat), i < f → (put f t i o).get j = if j = i then some o else t.get j
  | 0, _, _, _, h => (Nat.not_lt_zero _ h).elim
  | f + 1, t, i, j, h => by
    have nb : ∀ a b : Nat, Nat.beq a b = decide (a = b) := fun a b => by
      cases h : Nat.beq a b with
      | true => simp [Nat.eq_of_beq_eq_true h]
      | false => simp [Nat.ne_of_beq_eq_false h]
    rw [get_eq t j]
    unfold put
    simp only [nb]
    by_cases hi : i = 0
    · subst hi
      simp only [decide_true, cond_true]
      rw [get_eq]
      simp only [nb, v, l, r]
      by_cases hj : j = 0
      · subst hj; rfl
      · simp [hj]
    · by_cases hm : i % 2 = 1
      · simp only [hi, hm, decide_false, decide_true, cond_true, cond_false]
        rw [get_eq]
        simp only [nb, v, l, r]
        by_cases hj : j = 0
        · subst hj
          have : ¬ (0 : Nat) = i := fun z => hi z.symm
          simp [this]
        · by_cases hn : j % 2 = 1
          · simp only [hj, hn, decide_false, decide_true, cond_true, cond_false]
            rw [get_put o f _ _ _ (by omega)]
            by_cases he : j = i
            · subst he; simp
            · rw [if_neg he, if_neg (by omega)]
          · have : ¬ j = i := fun z => hn (z ▸ hm)
            simp [hj, hn, this]
      · simp only [hi, hm, decide_false, cond_false]
        rw [get_eq]
        simp only [nb, v, l, r]
        by_cases hj : j = 0
        · subst hj
          have : ¬ (0 : Nat) = i := fun z => hi z.symm
          simp [this]
        · by_cases hn : j % 2 = 1
          · have : ¬ j = i := fun z => hm (z ▸ hn)
            simp [hj, hn, this]
          · simp only [hj, hn, decide_false, cond_false]
            rw [get_put o f _ _ _ (by omega)]
            by_cases he : j = i
            · subst he; simp
            · rw [if_neg he, if_neg (by omega)]
end Tr
structure AH where
  sz : Nat
  t : Tr
namespace AH
def get (h : AH) (i : Nat) : Option AO := h.t.get i
def new (h : AH) (o : AO) : AH := ⟨h.sz + 1, Tr.put (h.sz + 1) h.t h.sz o⟩
def set (h : AH) (i : Nat) (o : AO) : AH := ⟨h.sz, Tr.put (i + 1) h.t i o⟩
theorem get_new (h : AH) (o : AO) (j : Nat) : (h.new o).get j = if j = h.sz then some o else h.get j := Tr.get_put o _ _ _ _ (Nat.lt_succ_self _)
theorem get_set (h : AH) (i : Nat) (o : AO) (j : Nat) : (h.set i o).get j = if j = i then some o else h.get j := Tr.get_put o _ _ _ _ (Nat.lt_succ_self _)
end AH

/-- the law's script: it stands still, outside of the own heap -/
class Scr where
  K : PySem.W.Frag
  a : Addr
  ns : List Int
def ScrAt (c : Scr) (H : Hp) : Prop := (∃ o, H c.a = some (.frz o (.lst (c.ns.map V.int)))) ∨ ∀ H', SqL c.K H' c.a (c.ns.map V.int)
theorem ScrAt.sq {c : Scr} {H : Hp} (h : ScrAt c H) : SqL c.K H c.a (c.ns.map V.int) := by
  rcases h with ⟨o, h⟩ | h
  · exact .inl (.inr ⟨o, h⟩)
  · exact h H
theorem ScrAt.upd {c : Scr} {H : Hp} {p : Addr} {o : HO} (h : ScrAt c H) (hp : ∀ ob xs, H p ≠ some (.frz ob (.lst xs))) : ScrAt c (L2.upd H p o) := by
  rcases h with ⟨ob, h⟩ | h
  · exact .inl ⟨ob, by rw [upd_ne (fun z => hp ob _ (z ▸ h))]; exact h⟩
  · exact .inr h
variable [Scr]
abbrev Ro := Nat → Option Addr
inductive RV (ρ : Ro) : AV → V → Prop
  | non : RV ρ .non .non
  | bl (b : Bool) : RV ρ (.bl b) (.bl b)
  | int (i : Int) : RV ρ (.int i) (.int i)
  | str (x : Str) : RV ρ (.str x) (.str x)
  | rep (d : PyData) : RV ρ (.rep d) (.str d.shown)
  | r {i : Nat} {a : Addr} : ρ i = some a → RV ρ (.r i) (.ref a)
  | k (v : V) : RV ρ (.k v) v
  | scr : RV ρ .scr (.ref Scr.a)
abbrev RVs (ρ : Ro) : List AV → List V → Prop := Paired (RV ρ)
def Xt (ρ ρ' : Ro) : Prop := ∀ i a, ρ i = some a → ρ' i = some a
theorem Xt.refl (ρ : Ro) : Xt ρ ρ := fun _ _ h => h
theorem Xt.trans {a b c : Ro} (x : Xt a b) (y : Xt b c) : Xt a c := fun i p h => y i p (x i p h)
theorem RV.up {ρ ρ' : Ro} (e : Xt ρ ρ') : ∀ {x : AV} {v : V}, RV ρ x v → RV ρ' x v
  | _, _, .non => .non
  | _, _, .bl b => .bl b
  | _, _, .int b => .int b
  | _, _, .str b => .str b
  | _, _, .rep b => .rep b
  | _, _, .r h => .r (e _ _ h)
  | _, _, .k v => .k v
  | _, _, .scr => .scr
theorem RVs.up {ρ ρ' : Ro} (e : Xt ρ ρ') {xs : List AV} {vs : List V} (h : RVs ρ xs vs) : RVs ρ' xs vs := Paired.mapP h fun _ _ q => q.up e
abbrev RF (ρ : Ro) {κ : Type} : List (κ × AV) → List (κ × V) → Prop := Paired fun p q => p.1 = q.1 ∧ RV ρ p.2 q.2
theorem RF.up {ρ ρ' : Ro} (e : Xt ρ ρ') {κ : Type} {xs : List (κ × AV)} {vs : List (κ × V)} (h : RF ρ xs vs) : RF ρ' xs vs := Paired.mapP h fun _ _ q => ⟨q.1, q.2.up e⟩
/-- what stands at an address for an object of the own heap -/
inductive OO (ρ : Ro) (H : Hp) (a : Addr) : AO → Prop
  | lst {xs : List AV} {vs : List V} : RVs ρ xs vs → H a = some (.lst vs) → OO ρ H a (.lst xs)
  | tup {xs : List AV} {vs : List V} : RVs ρ xs vs → H a = some (.tup vs) → OO ρ H a (.tup xs)
  | dK {xs : List (Key × AV)} {vs : List (Key × V)} : RF ρ xs vs → H a = some (.dK vs) → OO ρ H a (.dK xs)
  | ins {C dx : Addr} {xs : List (Str × AV)} {vs : List (Str × V)} : RF ρ xs vs → H a = some (.ins C dx vs) → OO ρ H a (.ins C xs)
  | feed : FeedAt H a → OO ρ H a .feed
theorem OO.some {ρ : Ro} {H : Hp} {a : Addr} {o : AO} (h : OO ρ H a o) : ∃ u, H a = some u := by
  cases h with
  | lst _ h => exact ⟨_, h⟩
  | tup _ h => exact ⟨_, h⟩
  | dK _ h => exact ⟨_, h⟩
  | ins _ h => exact ⟨_, h⟩
  | feed h => obtain ⟨_, _, h⟩ := h; exact ⟨_, h⟩
theorem OO.up {ρ ρ' : Ro} {H H' : Hp} {a : Addr} {o : AO} (h : OO ρ H a o) (e : Xt ρ ρ') (k : H' a = H a) : OO ρ' H' a o := by
  cases h with
  | lst r h => exact .lst (RVs.up e r) (k.trans h)
  | tup r h => exact .tup (RVs.up e r) (k.trans h)
  | dK r h => exact .dK (RF.up e r) (k.trans h)
  | ins r h => exact .ins (RF.up e r) (k.trans h)
  | feed h => obtain ⟨_, _, h⟩ := h; exact .feed ⟨_, _, k.trans h⟩
structure RH (ρ : Ro) (h : AH) (H : Hp) : Prop where
  scr : ScrAt inferInstance H
  dom : ∀ i, h.sz ≤ i → ρ i = none
  inj : ∀ i j a, ρ i = some a → ρ j = some a → i = j
  at_ : ∀ i o, h.get i = some o → ∃ a, ρ i = some a ∧ OO ρ H a o
  all : ∀ i a, ρ i = some a → ∃ o, h.get i = some o
def ext (ρ : Ro) (n : Nat) (a : Addr) : Ro := fun i => if i = n then some a else ρ i
section
variable {ρ : Ro} {h : AH} {H : Hp}
theorem RH.xt (r : RH ρ h H) (a : Addr) : Xt ρ (ext ρ h.sz a) := fun i b q => by
  unfold ext
  by_cases hi : i = h.sz
  · rw [r.dom i (by omega)] at q; cases q
  · rw [if_neg hi]; exact q
theorem RH.get (r : RH ρ h H) {i : Nat} {o : AO} {a : Addr} (e : h.get i = some o) (q : ρ i = some a) : OO ρ H a o := by
  obtain ⟨b, hb, ho⟩ := r.at_ i o e
  rw [q] at hb
  cases hb
  exact ho
/-- a new object -/
theorem RH.new (r : RH ρ h H) {a : Addr} {o : AO} {u : HO} (hn : H a = none) (ho : ∀ ρ', Xt ρ ρ' → OO ρ' (upd H a u) a o) : RH (ext ρ h.sz a) (h.new o) (upd H a u) := by
  have fr : ∀ i, ρ i ≠ some a := fun i q => by
    obtain ⟨o, e⟩ := r.all i a q
    obtain ⟨u, z⟩ := (r.get e q).some
    rw [hn] at z
    cases z
  refine ⟨r.scr.upd (fun ob xs z => by rw [hn] at z; cases z), fun i hi => ?_, fun i j b hi hj => ?_, fun i p e => ?_, fun i b q => ?_⟩
  · have : h.sz + 1 ≤ i := hi
    unfold ext
    rw [if_neg (by omega)]
    exact r.dom i (by omega)
  · unfold ext at hi hj
    by_cases h1 : i = h.sz
    · by_cases h2 : j = h.sz
      · rw [h1, h2]
      · rw [if_pos h1] at hi; cases hi
        rw [if_neg h2] at hj
        exact (fr j hj).elim
    · rw [if_neg h1] at hi
      by_cases h2 : j = h.sz
      · rw [if_pos h2] at hj; cases hj
        exact (fr i hi).elim
      · rw [if_neg h2] at hj
        exact r.inj i j b hi hj
  · rw [AH.get_new] at e
    by_cases h1 : i = h.sz
    · rw [if_pos h1] at e; cases e
      exact ⟨a, by unfold ext; rw [if_pos h1], ho _ (r.xt a)⟩
    · rw [if_neg h1] at e
      obtain ⟨b, hb, hq⟩ := r.at_ i p e
      refine ⟨b, by unfold ext; rw [if_neg h1]; exact hb, hq.up (r.xt a) (upd_ne fun z => ?_)⟩
      exact fr i (z ▸ hb)
  · rw [AH.get_new]
    by_cases h1 : i = h.sz
    · exact ⟨_, if_pos h1⟩
    · rw [if_neg h1]
      unfold ext at q
      rw [if_neg h1] at q
      exact r.all i b q
/-- an object that changes -/
theorem RH.set (r : RH ρ h H) {i : Nat} {a : Addr} {o : AO} {u : HO} (hi : ρ i = some a) (ho : OO ρ (upd H a u) a o) : RH ρ (h.set i o) (upd H a u) := by
  refine ⟨r.scr.upd fun ob xs z => (by
    obtain ⟨o0, e0⟩ := r.all i a hi
    cases r.get e0 hi with
    | lst _ q => rw [z] at q; cases q
    | tup _ q => rw [z] at q; cases q
    | dK _ q => rw [z] at q; cases q
    | ins _ q => rw [z] at q; cases q
    | feed q => obtain ⟨_, _, q⟩ := q; rw [z] at q; cases q), r.dom, r.inj, fun j p e => ?_, fun j b q => ?_⟩
  · rw [AH.get_set] at e
    by_cases h1 : j = i
    · rw [if_pos h1] at e; cases e
      exact ⟨a, h1 ▸ hi, ho⟩
    · rw [if_neg h1] at e
      obtain ⟨b, hb, hq⟩ := r.at_ j p e
      refine ⟨b, hb, hq.up (.refl _) (upd_ne fun z => ?_)⟩
      subst z
      exact h1 (r.inj j i b hb hi)
  · rw [AH.get_set]
    by_cases h1 : j = i
    · exact ⟨_, if_pos h1⟩
    · rw [if_neg h1]
      exact r.all j b q
/-- something that isn't tracked comes -/
theorem RH.side (r : RH ρ h H) {a : Addr} {u : HO} (hn : H a = none) : RH ρ h (upd H a u) := by
  refine ⟨r.scr.upd (fun ob xs z => by rw [hn] at z; cases z), r.dom, r.inj, fun j p e => ?_, r.all⟩
  obtain ⟨b, hb, hq⟩ := r.at_ j p e
  refine ⟨b, hb, hq.up (.refl _) (upd_ne fun z => ?_)⟩
  subst z
  obtain ⟨u, q⟩ := hq.some
  rw [hn] at q
  cases q
end

/-! ### slots -/
abbrev AE := List (Option AV)
def RE (ρ : Ro) : AE → L2.St → Prop := Paired fun o v => ∀ x, o = some x → ∃ u, v = some u ∧ RV ρ x u
theorem RE.up {ρ ρ' : Ro} (e : Xt ρ ρ') {s : AE} {σ : L2.St} (h : RE ρ s σ) : RE ρ' s σ := Paired.mapP h fun _ _ q x hx => let ⟨u, a, b⟩ := q x hx; ⟨u, a, b.up e⟩
theorem RE.at_ {ρ : Ro} : ∀ {s : AE} {σ : L2.St} {i : Nat} {x : AV}, RE ρ s σ → s[i]? = some (some x) → ∃ v, σ[i]? = some (some v) ∧ RV ρ x v
  | _, _, i, x, .nil, e => by simp at e
  | _, _, 0, x, .cons q t, e => by
    simp at e
    obtain ⟨u, a, b⟩ := q x e
    exact ⟨u, by simp [a], b⟩
  | _, _, i + 1, x, .cons q t, e => by
    obtain ⟨u, a, b⟩ := RE.at_ (i := i) t (by simpa using e)
    exact ⟨u, by simpa using a, b⟩
theorem RE.set {ρ : Ro} {x : AV} {v : V} (r : RV ρ x v) : ∀ {s : AE} {σ : L2.St} (i : Nat), RE ρ s σ → RE ρ (s.set i (some x)) (σ.set i (some v))
  | _, _, _, .nil => .nil
  | _, _, 0, .cons q t => .cons (fun y hy => by cases hy; exact ⟨v, rfl, r⟩) t
  | _, _, i + 1, .cons q t => .cons q (RE.set r i t)
theorem RE.del {ρ : Ro} : ∀ {s : AE} {σ : L2.St} (i : Nat), RE ρ s σ → RE ρ (s.set i none) (σ.set i none)
  | _, _, _, .nil => .nil
  | _, _, 0, .cons q t => .cons (fun y hy => by cases hy) t
  | _, _, i + 1, .cons q t => .cons q (RE.del i t)

/-! ### judgements -/
abbrev DenE := AE → AH → T (AV × AH)
abbrev DenB := AE → AH → T (Bool × AH)
abbrev DenA := AE → AH → T (List AV × AH)
inductive AR where
  | nx (s : AE) | rt (x : AV) | bk (s : AE) | ct (s : AE)
abbrev DenS := AE → AH → T (AR × AH)
def PQ (ρ : Ro) (Q : VK) : AV × AH → Prop := fun r => ∀ ρ' v H', Xt ρ ρ' → RH ρ' r.2 H' → RV ρ' r.1 v → Q v H'
def PB (ρ : Ro) (Q : Bool → Hp → Prop) : Bool × AH → Prop := fun r => ∀ ρ' H', Xt ρ ρ' → RH ρ' r.2 H' → Q r.1 H'
def PAs (ρ : Ro) (Q : List V → Hp → Prop) : List AV × AH → Prop := fun r => ∀ ρ' vs H', Xt ρ ρ' → RH ρ' r.2 H' → RVs ρ' r.1 vs → Q vs H'
def PD (ρ : Ro) (D : Ends) : AR × AH → Prop := fun r => ∀ ρ' H', Xt ρ ρ' → RH ρ' r.2 H' → match r.1 with
  | .nx s => ∀ σ, RE ρ' s σ → D.nx σ H'
  | .rt x => ∀ v, RV ρ' x v → D.rt v H'
  | .bk s => ∀ σ, RE ρ' s σ → D.bk σ H'
  | .ct s => ∀ σ, RE ρ' s σ → D.ct σ H'
def CE (X : Cx) (e : Expr) (d : DenE) : Prop := ∀ ρ s h σ H Q, RE ρ s σ → RH ρ h H → (d s h).sat (PQ ρ Q) → wpE X e σ H Q
def CT (X : Cx) (e : Expr) (d : DenB) : Prop := ∀ ρ s h σ H Q, RE ρ s σ → RH ρ h H → (d s h).sat (PB ρ Q) → wpT X e σ H Q
def CW (X : Cx) (e : Expr) (d : DenB) : Prop := ∀ ρ s h σ H Q, RE ρ s σ → RH ρ h H → (d s h).sat (PB ρ Q) → wpW X e σ H Q
def CA (X : Cx) (es : List Expr) (d : DenA) : Prop := ∀ ρ s h σ H Q, RE ρ s σ → RH ρ h H → (d s h).sat (PAs ρ Q) → wpA X es σ H Q
def CS (X : Cx) (st : Stmt) (d : DenS) : Prop := ∀ ρ s h σ H D, RE ρ s σ → RH ρ h H → (d s h).sat (PD ρ D) → wpS X st D σ H
def CSs (X : Cx) (st : List Stmt) (d : DenS) : Prop := ∀ ρ s h σ H D, RE ρ s σ → RH ρ h H → (d s h).sat (PD ρ D) → wpSs X st D σ H
theorem PQ.up {ρ ρ' : Ro} {Q : VK} (e : Xt ρ ρ') {r : AV × AH} (h : PQ ρ Q r) : PQ ρ' Q r := fun ρ2 v H2 x => h ρ2 v H2 (e.trans x)
theorem PB.up {ρ ρ' : Ro} {Q : Bool → Hp → Prop} (e : Xt ρ ρ') {r : Bool × AH} (h : PB ρ Q r) : PB ρ' Q r := fun ρ2 H2 x => h ρ2 H2 (e.trans x)
theorem PAs.up {ρ ρ' : Ro} {Q : List V → Hp → Prop} (e : Xt ρ ρ') {r : List AV × AH} (h : PAs ρ Q r) : PAs ρ' Q r := fun ρ2 v H2 x => h ρ2 v H2 (e.trans x)
theorem PD.up {ρ ρ' : Ro} {D : Ends} (e : Xt ρ ρ') {r : AR × AH} (h : PD ρ D r) : PD ρ' D r := fun ρ2 H2 x => h ρ2 H2 (e.trans x)
/-- go on behind an expression -/
theorem CE.then {X : Cx} {e : Expr} {d : DenE} (c : CE X e d) {ρ : Ro} {s : AE} {h : AH} {σ : L2.St} {H : Hp} {Q : VK} {β : Type} {f : AV × AH → T β} {P : β → Prop} (he : RE ρ s σ) (hh : RH ρ h H) (hs : ((d s h).bind f).sat P)
    (k : ∀ x h1 ρ1 v H1, Xt ρ ρ1 → RH ρ1 h1 H1 → RV ρ1 x v → (f (x, h1)).sat P → Q v H1) : wpE X e σ H Q :=
  c ρ s h σ H Q he hh (T.sat_imp (fun ⟨x, h1⟩ q ρ1 v H1 e1 r1 rv => k x h1 ρ1 v H1 e1 r1 rv q) (T.sat_bind hs))
theorem CT.then {X : Cx} {e : Expr} {d : DenB} (c : CT X e d) {ρ : Ro} {s : AE} {h : AH} {σ : L2.St} {H : Hp} {Q : Bool → Hp → Prop} {β : Type} {f : Bool × AH → T β} {P : β → Prop} (he : RE ρ s σ) (hh : RH ρ h H) (hs : ((d s h).bind f).sat P)
    (k : ∀ x h1 ρ1 H1, Xt ρ ρ1 → RH ρ1 h1 H1 → (f (x, h1)).sat P → Q x H1) : wpT X e σ H Q :=
  c ρ s h σ H Q he hh (T.sat_imp (fun ⟨x, h1⟩ q ρ1 H1 e1 r1 => k x h1 ρ1 H1 e1 r1 q) (T.sat_bind hs))
theorem CA.then {X : Cx} {e : List Expr} {d : DenA} (c : CA X e d) {ρ : Ro} {s : AE} {h : AH} {σ : L2.St} {H : Hp} {Q : List V → Hp → Prop} {β : Type} {f : List AV × AH → T β} {P : β → Prop} (he : RE ρ s σ) (hh : RH ρ h H) (hs : ((d s h).bind f).sat P)
    (k : ∀ x h1 ρ1 v H1, Xt ρ ρ1 → RH ρ1 h1 H1 → RVs ρ1 x v → (f (x, h1)).sat P → Q v H1) : wpA X e σ H Q :=
  c ρ s h σ H Q he hh (T.sat_imp (fun ⟨x, h1⟩ q ρ1 v H1 e1 r1 rv => k x h1 ρ1 v H1 e1 r1 rv q) (T.sat_bind hs))

/-! ### names, constants -/
section
variable {X : Cx} {a b c e : Expr} {pos : Pos}
def dVar (i : Nat) : DenE := fun s h => match s[i]? with
  | some (some x) => .ok (x, h)
  | _ => .bad
theorem ce_var {i : Nat} {x : Str} (hN : X.N[i]? = some x) (hv : Vis X.env.scope x) (hd : (x == ("__debug__" : Str)) = false := by decide) (hcd : (x == ("__classdict__" : Str)) = false := by decide) : CE X (.Name x pos) (dVar i) := fun ρ s h σ H Q he hh q => by
  unfold dVar at q
  split at q
  · next x' e =>
    obtain ⟨v, h1, h2⟩ := he.at_ e
    exact ofE (pe_var hN hv hd hcd) ⟨v, h1, q ρ v H (.refl ρ) hh h2⟩
  · exact q.elim
def dC (x : AV) : DenE := fun _ h => .ok (x, h)
theorem ce_int {i j} : CE X (.Constant (.int i) j pos) (dC (.int i)) := fun ρ s h σ H Q he hh q => ofE pe_int (q ρ _ H (.refl ρ) hh (.int i))
theorem ce_bl {i j} : CE X (.Constant (.bool i) j pos) (dC (.bl i)) := fun ρ s h σ H Q he hh q => ofE pe_bl (q ρ _ H (.refl ρ) hh (.bl i))
theorem ce_non {j} : CE X (.Constant .none j pos) (dC .non) := fun ρ s h σ H Q he hh q => ofE pe_non (q ρ _ H (.refl ρ) hh .non)
theorem ce_str {i j} : CE X (.Constant (.str i) j pos) (dC (.str i)) := fun ρ s h σ H Q he hh q => ofE pe_str (q ρ _ H (.refl ρ) hh (.str i))
theorem ce_glob {x : Str} {v : V} {u : Value} (hg : Gl X x) (hm : X.mg x = some u) (rv : RelV v u) (hd : (x == ("__debug__" : Str)) = false := by decide) : CE X (.Name x pos) (dC (.k v)) :=
  fun ρ s h σ H Q he hh q => ofE (pe_glob hg hm rv hd) (q ρ _ H (.refl ρ) hh (.k v))
/-- a global that is a number or a text -/
theorem ce_globI {x : Str} {i : Int} {u : Value} (hg : Gl X x) (hm : X.mg x = some u) (rv : RelV (.int i) u) (hd : (x == ("__debug__" : Str)) = false := by decide) : CE X (.Name x pos) (dC (.int i)) :=
  fun ρ s h σ H Q he hh q => ofE (pe_glob hg hm rv hd) (q ρ _ H (.refl ρ) hh (.int i))
theorem ce_globS {x : Str} {i : Str} {u : Value} (hg : Gl X x) (hm : X.mg x = some u) (rv : RelV (.str i) u) (hd : (x == ("__debug__" : Str)) = false := by decide) : CE X (.Name x pos) (dC (.str i)) :=
  fun ρ s h σ H Q he hh q => ofE (pe_glob hg hm rv hd) (q ρ _ H (.refl ρ) hh (.str i))
theorem ce_bty {x : Str} {n : String} (hg : Gl X x) (hm : X.mg x = none) (hv : bootBuiltins x = some (.type n)) (hn : x ≠ "__name__" := by decide) (hd : (x == ("__debug__" : Str)) = false := by decide) : CE X (.Name x pos) (dC (.k (.ty n))) :=
  fun ρ s h σ H Q he hh q => ofE (pe_bltn (v := .ty n) hg hm hv rfl hn hd) (q ρ _ H (.refl ρ) hh (.k _))

/-! ### arguments, displays -/
def dNil : DenA := fun _ h => .ok ([], h)
def dCons (a : DenE) (r : DenA) : DenA := fun s h => (a s h).bind fun p => (r s p.2).bind fun q => .ok (p.1 :: q.1, q.2)
theorem ca_nil : CA X [] dNil := fun ρ s h σ H Q he hh q => ofA pa_nil (q ρ [] H (.refl ρ) hh .nil)
theorem ca_cons {es : List Expr} {da : DenE} {dr : DenA} (h1 : CE X e da) (h2 : CA X es dr) (hst : starEach (e :: es) X.env = (false, eval e X.env) :: starEach es X.env := by rfl) : CA X (e :: es) (dCons da dr) := fun ρ s h σ H Q he hh q => by
  refine ofA (pa_cons (peW e) (paW es) hst) (h1.then he hh q fun x h1 ρ1 v H1 x1 r1 rv q1 => ?_)
  refine h2.then (he.up x1) r1 q1 fun xs h2 ρ2 vs H2 x2 r2 rvs q2 => ?_
  exact q2 ρ2 _ H2 (x1.trans x2) r2 (.cons (rv.up x2) rvs)
def big (n : Nat) : Bool := Nat.ble 1000000 n
theorem big_le {n : Nat} (h : big n = false) : n < 1000000 := by
  unfold big at h
  exact Nat.lt_of_not_le fun z => by rw [Nat.ble_eq_true_of_le z] at h; cases h
def dNew (mk : List AV → AO) (a : DenA) : DenE := fun s h => (a s h).bind fun p => bif big p.1.length then .bad else .ok (.r p.2.sz, p.2.new (mk p.1))
theorem PQ.new {ρ : Ro} {h : AH} {H : Hp} {o : AO} {Q : VK} {p : Addr} {u : HO} (q : PQ ρ Q (.r h.sz, h.new o)) (hh : RH ρ h H) (hp : H p = none) (ho : ∀ ρ', Xt ρ ρ' → OO ρ' (upd H p u) p o) : Q (.ref p) (upd H p u) :=
  q (ext ρ h.sz p) _ _ (hh.xt p) (hh.new hp ho) (.r (by unfold ext; rw [if_pos rfl]))
theorem ce_lst {es : List Expr} {da : DenA} (h1 : CA X es da) : CE X (.List es pos) (dNew .lst da) := fun ρ s h σ H Q he hh q => by
  refine ofE (pe_lst (paW es)) (h1.then he hh q fun xs h1 ρ1 vs H1 x1 r1 rv q1 => ?_)
  have q1 : (bif big xs.length then T.bad else T.ok (AV.r h1.sz, h1.new (.lst xs))).sat (PQ ρ Q) := q1
  cases hb : big xs.length with
  | true => rw [hb] at q1; exact q1.elim
  | false =>
    rw [hb] at q1
    refine ⟨by rw [← rv.length, sizeLine_eq]; have := big_le hb; omega, fun p hp => ?_⟩
    exact (PQ.up x1 q1).new r1 hp fun ρ' x' => .lst (RVs.up x' rv) upd_same
theorem ce_tup {es : List Expr} {x1} {da : DenA} (h1 : CA X es da) : CE X (.Tuple es x1 pos) (dNew .tup da) := fun ρ s h σ H Q he hh q => by
  refine ofE (pe_tup (paW es)) (h1.then he hh q fun xs h1 ρ1 vs H1 x1 r1 rv q1 => ?_)
  have q1 : (bif big xs.length then T.bad else T.ok (AV.r h1.sz, h1.new (.tup xs))).sat (PQ ρ Q) := q1
  cases hb : big xs.length with
  | true => rw [hb] at q1; exact q1.elim
  | false =>
    rw [hb] at q1
    refine ⟨by rw [← rv.length, sizeLine_eq]; have := big_le hb; omega, fun p hp => ?_⟩
    exact (PQ.up x1 q1).new r1 hp fun ρ' x' => .tup (RVs.up x' rv) upd_same
end
end Z
end

section
set_option linter.all false
set_option maxRecDepth 100000
set_option maxHeartbeats 2000000
namespace Z
open PySem L2 PyProof.Rows
variable [Scr]

/-- the program's own tuples -/
abbrev ST := Addr → Option (List AV)
def GOk (K : PySem.W.Frag) (G : ST) : Prop := ∀ a xs, G a = some xs → ∃ vs, (∀ ρ, RVs ρ xs vs) ∧ ∀ H, SqT K H a vs
/-- the items of a list (true) or a tuple -/
def seqs (G : ST) (h : AH) : AV → Option (Bool × List AV)
  | .r i => match h.get i with
    | some (.lst xs) => some (true, xs)
    | some (.tup xs) => some (false, xs)
    | _ => none
  | .k (.ref a) => match G a with
    | some xs => some (false, xs)
    | none => none
  | _ => none
section
variable {K : PySem.W.Frag} {G : ST} {ρ : Ro} {h : AH} {H : Hp} {x : AV} {v : V} {xs : List AV}
theorem seqs_ok (hG : GOk K G) (hh : RH ρ h H) (rv : RV ρ x v) {t : Bool} (e : seqs G h x = some (t, xs)) : ∃ a vs, v = .ref a ∧ RVs ρ xs vs ∧ ((t = true ∧ H a = some (.lst vs)) ∨ (t = false ∧ SqT K H a vs)) := by
  cases rv with
  | r hr =>
    unfold seqs at e
    dsimp only at e
    split at e
    · next ys hy =>
      cases e
      cases hh.get hy hr with
      | lst r hl => exact ⟨_, _, rfl, r, .inl ⟨rfl, hl⟩⟩
    · next ys hy =>
      cases e
      cases hh.get hy hr with
      | tup r hl => exact ⟨_, _, rfl, r, .inr ⟨rfl, .of hl⟩⟩
    · cases e
  | k v =>
    cases v with
    | ref a =>
      unfold seqs at e
      dsimp only at e
      split at e
      · next ys hy =>
        cases e
        obtain ⟨vs, r, s⟩ := hG _ _ hy
        exact ⟨_, _, rfl, r ρ, .inr ⟨rfl, s H⟩⟩
      · cases e
    | non => cases e
    | bl _ => cases e
    | int _ => cases e
    | str _ => cases e
    | byt _ => cases e
    | flt _ => cases e
    | ty _ => cases e
  | non => cases e
  | bl _ => cases e
  | int _ => cases e
  | str _ => cases e
  | rep _ => cases e
  | scr => cases e
end
/-- a value as data -/
def rd (G : ST) (h : AH) : Nat → AV → Option PyData
  | 0, _ => none
  | n + 1, x => match x with
    | .non => some .none
    | .bl b => some (.bool b)
    | .int i => some (.int i)
    | .str y => some (.str y)
    | .rep d => some (.str d.shown)
    | x => match seqs G h x with
      | some (t, xs) => match rdl (rd G h n) xs with
        | some ds => some (bif t then .list ds else .tuple ds)
        | none => none
      | none => none
where rdl (f : AV → Option PyData) : List AV → Option (List PyData)
  | [] => some []
  | x :: xs => match f x with
    | some d => match rdl f xs with
      | some ds => some (d :: ds)
      | none => none
    | none => none
theorem rdl_dp {K : PySem.W.Frag} {ρ : Ro} {H : Hp} {f : AV → Option PyData} (hf : ∀ x v d, RV ρ x v → f x = some d → Dp K H v d) : ∀ {xs : List AV} {vs : List V} {ds : List PyData}, RVs ρ xs vs → rd.rdl f xs = some ds → DpAll K H vs ds
  | _, _, _, .nil, e => by
    unfold rd.rdl at e
    cases e
    exact .nil
  | _, _, _, .cons r t, e => by
    unfold rd.rdl at e
    split at e
    · next d hd =>
      split at e
      · next ds hds =>
        cases e
        exact .cons (hf _ _ _ r hd) (rdl_dp hf t hds)
      · cases e
    · cases e
theorem rd_dp {K : PySem.W.Frag} {G : ST} {ρ : Ro} {h : AH} {H : Hp} (hG : GOk K G) (hh : RH ρ h H) : ∀ (n : Nat) (x : AV) (v : V) (d : PyData), RV ρ x v → rd G h n x = some d → Dp K H v d
  | 0, _, _, _, _, e => by cases e
  | n + 1, x, v, d, rv, e => by
    have sq : ∀ {x v}, RV ρ x v → (match seqs G h x with
      | some (t, xs) => match rd.rdl (rd G h n) xs with
        | some ds => some (bif t then PyData.list ds else .tuple ds)
        | none => none
      | none => none) = some d → Dp K H v d := fun {x v} rv e => by
      split at e
      · next t xs hs =>
        obtain ⟨a, vs, rfl, r, hk⟩ := seqs_ok hG hh rv hs
        split at e
        · next ds hds =>
          cases e
          have q := rdl_dp (K := K) (H := H) (fun x v d r e => rd_dp hG hh n x v d r e) r hds
          rcases hk with ⟨rfl, hl⟩ | ⟨rfl, hl⟩
          · exact .lst (.of hl) q
          · exact .tup hl q
        · cases e
      · cases e
    cases rv with
    | non => cases e; exact .non
    | bl b => cases e; exact .bl b
    | int b => cases e; exact .int b
    | str b => cases e; exact .str b
    | rep b => cases e; exact .str _
    | scr => exact sq .scr e
    | r hr => exact sq (.r hr) e
    | k v => exact sq (.k v) e

/-! ### operations by values -/
abbrev Op2 := AV → AV → AH → T (AV × AH)
def OpC (R : R2) (f : Op2) : Prop := ∀ ρ x y h vx vy H Q, RH ρ h H → RV ρ x vx → RV ρ y vy → (f x y h).sat (PQ ρ Q) → R vx vy H Q
def dOp (f : Op2) (a b : DenE) : DenE := fun s h => (a s h).bind fun p => (b s p.2).bind fun q => f p.1 q.1 q.2
section
variable {X : Cx} {a b c e : Expr} {pos : Pos} {R : R2} {f : Op2} {da db : DenE}
theorem ce_op {t : TE → TE → TE} (ht : ∀ ta tb, PE X a ta → PE X b tb → PE X e (t ta tb)) (hR : ∀ ta tb σ H Q, ta σ H (fun x H1 => tb σ H1 fun y H2 => R x y H2 Q) → t ta tb σ H Q) (hf : OpC R f) (h1 : CE X a da) (h2 : CE X b db) : CE X e (dOp f da db) := fun ρ s h σ H Q he hh q => by
  refine ofE (ht _ _ (peW a) (peW b)) (hR _ _ _ _ _ (h1.then he hh q fun x h1 ρ1 v H1 x1 r1 rv q1 => ?_))
  refine h2.then (he.up x1) r1 q1 fun y h2 ρ2 u H2 x2 r2 ru q2 => ?_
  exact hf ρ2 x y h2 v u H2 Q r2 (rv.up x2) ru (T.sat_imp (fun _ k => k.up (x1.trans x2)) q2)
theorem ce_bin {op : Operator} (ho : OpR X (binaryOp op) R) (hf : OpC R f) (h1 : CE X a da) (h2 : CE X b db) : CE X (.BinOp a op b pos) (dOp f da db) :=
  ce_op (t := tOp R) (fun _ _ ha hb => pe_op ho ha hb) (fun _ _ _ _ _ h => h) hf h1 h2
theorem ce_cmp {op : CmpOp} (ho : OpR X (compareOp op) R) (hf : OpC R f) (hm : behindInMarks op b = false) (h1 : CE X a da) (h2 : CE X b db) : CE X (.Compare a [op] [b] pos) (dOp f da db) :=
  ce_op (t := tOp R) (fun _ _ ha hb => pe_cmpR ho ha hb hm) (fun _ _ _ _ _ h => h) hf h1 h2
/-- a test by a value -/
def dB (d : DenE) : DenB := fun s h => (d s h).bind fun p => match p.1 with
  | .bl t => .ok (t, p.2)
  | _ => .bad
theorem dB_then {Q : Bool → Hp → Prop} {ρ ρ1 : Ro} {x : AV} {h1 : AH} {v : V} {H1 : Hp} (x1 : Xt ρ ρ1) (r1 : RH ρ1 h1 H1) (rv : RV ρ1 x v) (q : (match x with | .bl t => T.ok (t, h1) | _ => .bad).sat (PB ρ Q)) : ∃ t, v = .bl t ∧ Q t H1 := by
  cases rv with
  | bl t => exact ⟨t, rfl, q ρ1 H1 x1 r1⟩
  | non => exact q.elim
  | int _ => exact q.elim
  | str _ => exact q.elim
  | rep _ => exact q.elim
  | scr => exact q.elim
  | r _ => exact q.elim
  | k _ => exact q.elim
theorem ct_val {d : DenE} (h1 : CE X e d) (hE : ∀ whole, isTrue e X.env whole = (do let v ← whole; standAt e.pos; holding [v] (truthy v)) := by intro _; rfl) : CT X e (dB d) := fun ρ s h σ H Q he hh q =>
  ofT (pt_val (peW e) hE) (h1.then he hh q fun x h1 ρ1 v H1 x1 r1 rv q1 => dB_then x1 r1 rv q1)
theorem ct_cmp {op : CmpOp} (ho : OpR X (compareOp op) R) (hf : OpC R f) (hm : behindInMarks op b = false) (h1 : CE X a da) (h2 : CE X b db) : CT X (.Compare a [op] [b] pos) (dB (dOp f da db)) := fun ρ s h σ H Q he hh q => by
  refine ofT (pt_cmpR ho (peW a) (peW b) hm) ?_
  have q := T.sat_bind q
  unfold dOp at q
  refine h1.then he hh q fun x h1 ρ1 v H1 x1 r1 rv q1 => ?_
  refine h2.then (he.up x1) r1 q1 fun y h2 ρ2 u H2 x2 r2 ru q2 => ?_
  refine hf ρ2 x y h2 v u H2 _ r2 (rv.up x2) ru (T.sat_imp (fun p k ρ3 v3 H3 x3 r3 rv3 => ?_) q2)
  exact dB_then ((x1.trans x2).trans x3) r3 rv3 k
theorem cw_t {d : DenB} (h : CW X e d) : CT X e d := fun ρ s hh σ H Q he r q => ofT (pwW e).pt (h ρ s hh σ H Q he r q)
/-! ### and, or, not, if -/
def dAnd (a r : DenE) : DenE := fun s h => (a s h).bind fun p => match p.1 with
  | .bl true => r s p.2
  | .bl false => .ok (.bl false, p.2)
  | _ => .bad
def dOr (a r : DenE) : DenE := fun s h => (a s h).bind fun p => match p.1 with
  | .bl true => .ok (.bl true, p.2)
  | .bl false => r s p.2
  | _ => .bad
def dNot (a : DenE) : DenE := fun s h => (a s h).bind fun p => match p.1 with
  | .bl t => .ok (.bl (!t), p.2)
  | _ => .bad
def dIf (c : DenB) (a b : DenE) : DenE := fun s h => (c s h).bind fun p => bif p.1 then a s p.2 else b s p.2
theorem ce_one {op} {d : DenE} (h1 : CE X a d) : CE X (.BoolOp op [a] pos) d := fun ρ s h σ H Q he hh q => ofE (pe_one (peW a)) (h1 ρ s h σ H Q he hh q)
theorem ce_and {rest : List Expr} (h1 : CE X a da) (h2 : CE X (.BoolOp .And (b :: rest) pos) db) : CE X (.BoolOp .And (a :: b :: rest) pos) (dAnd da db) := fun ρ s h σ H Q he hh q => by
  refine ofE (pe_and (peW a) (peW _)) (h1.then he hh q fun x h1 ρ1 v H1 x1 r1 rv q1 => ?_)
  cases rv with
  | bl t =>
    refine ⟨t, rfl, ?_⟩
    cases t with
    | true => rw [if_pos rfl]; exact h2 ρ1 s h1 σ H1 Q (he.up x1) r1 (T.sat_imp (fun _ k => k.up x1) q1)
    | false => rw [if_neg Bool.false_ne_true]; exact q1 ρ1 _ H1 x1 r1 (.bl _)
  | non => exact q1.elim
  | int _ => exact q1.elim
  | str _ => exact q1.elim
  | rep _ => exact q1.elim
  | scr => exact q1.elim
  | r _ => exact q1.elim
  | k _ => exact q1.elim
theorem ce_or {rest : List Expr} (h1 : CE X a da) (h2 : CE X (.BoolOp .Or (b :: rest) pos) db) : CE X (.BoolOp .Or (a :: b :: rest) pos) (dOr da db) := fun ρ s h σ H Q he hh q => by
  refine ofE (pe_or (peW a) (peW _)) (h1.then he hh q fun x h1 ρ1 v H1 x1 r1 rv q1 => ?_)
  cases rv with
  | bl t =>
    refine ⟨t, rfl, ?_⟩
    cases t with
    | false => rw [if_neg Bool.false_ne_true]; exact h2 ρ1 s h1 σ H1 Q (he.up x1) r1 (T.sat_imp (fun _ k => k.up x1) q1)
    | true => rw [if_pos rfl]; exact q1 ρ1 _ H1 x1 r1 (.bl _)
  | non => exact q1.elim
  | int _ => exact q1.elim
  | str _ => exact q1.elim
  | rep _ => exact q1.elim
  | scr => exact q1.elim
  | r _ => exact q1.elim
  | k _ => exact q1.elim
theorem ce_not (h1 : CE X a da) : CE X (.UnaryOp .Not a pos) (dNot da) := fun ρ s h σ H Q he hh q => by
  refine ofE (pe_not (peW a)) (h1.then he hh q fun x h1 ρ1 v H1 x1 r1 rv q1 => ?_)
  cases rv with
  | bl t => exact ⟨t, rfl, q1 ρ1 _ H1 x1 r1 (.bl _)⟩
  | non => exact q1.elim
  | int _ => exact q1.elim
  | str _ => exact q1.elim
  | rep _ => exact q1.elim
  | scr => exact q1.elim
  | r _ => exact q1.elim
  | k _ => exact q1.elim
theorem ce_if {dc : DenB} (h0 : CT X c dc) (h1 : CE X a da) (h2 : CE X b db) : CE X (.IfExp c a b pos) (dIf dc da db) := fun ρ s h σ H Q he hh q => by
  refine ofE (pe_ifExp (ptW c) (peW a) (peW b)) (h0.then he hh q fun t h0 ρ1 H1 x1 r1 q1 => ?_)
  cases t with
  | true => rw [if_pos rfl]; exact h1 ρ1 s h0 σ H1 Q (he.up x1) r1 (T.sat_imp (fun _ k => k.up x1) q1)
  | false => rw [if_neg Bool.false_ne_true]; exact h2 ρ1 s h0 σ H1 Q (he.up x1) r1 (T.sat_imp (fun _ k => k.up x1) q1)
def dAndB (a r : DenB) : DenB := fun s h => (a s h).bind fun p => bif p.1 then r s p.2 else .ok (false, p.2)
def dOrB (a r : DenB) : DenB := fun s h => (a s h).bind fun p => bif p.1 then .ok (true, p.2) else r s p.2
def dNotB (a : DenB) : DenB := fun s h => (a s h).bind fun p => .ok (!p.1, p.2)
variable {ba bb : DenB}
theorem cw_and1 (h : CT X a ba) : CW X (.BoolOp .And [a] pos) ba := fun ρ s hh σ H Q he r q => ofW (pw_and1 (ptW a)) (h ρ s hh σ H Q he r q)
theorem cw_or1 (h : CT X a ba) : CW X (.BoolOp .Or [a] pos) ba := fun ρ s hh σ H Q he r q => ofW (pw_or1 (ptW a)) (h ρ s hh σ H Q he r q)
theorem cw_and {rest : List Expr} (h1 : CT X a ba) (h2 : CW X (.BoolOp .And (b :: rest) pos) bb) : CW X (.BoolOp .And (a :: b :: rest) pos) (dAndB ba bb) := fun ρ s h σ H Q he hh q => by
  refine ofW (pw_and (ptW a) (pwW _)) (h1.then he hh q fun t h1 ρ1 H1 x1 r1 q1 => ?_)
  cases t with
  | true => rw [if_pos rfl]; exact h2 ρ1 s h1 σ H1 Q (he.up x1) r1 (T.sat_imp (fun _ k => k.up x1) q1)
  | false => rw [if_neg Bool.false_ne_true]; exact q1 ρ1 H1 x1 r1
theorem cw_or {rest : List Expr} (h1 : CT X a ba) (h2 : CW X (.BoolOp .Or (b :: rest) pos) bb) : CW X (.BoolOp .Or (a :: b :: rest) pos) (dOrB ba bb) := fun ρ s h σ H Q he hh q => by
  refine ofW (pw_or (ptW a) (pwW _)) (h1.then he hh q fun t h1 ρ1 H1 x1 r1 q1 => ?_)
  cases t with
  | false => rw [if_neg Bool.false_ne_true]; exact h2 ρ1 s h1 σ H1 Q (he.up x1) r1 (T.sat_imp (fun _ k => k.up x1) q1)
  | true => rw [if_pos rfl]; exact q1 ρ1 H1 x1 r1
theorem ct_not (h1 : CT X a ba) : CT X (.UnaryOp .Not a pos) (dNotB ba) := fun ρ s h σ H Q he hh q =>
  ofT (pt_not (ptW a)) (h1.then he hh q fun t h1 ρ1 H1 x1 r1 q1 => q1 ρ1 H1 x1 r1)
end

/-! ### whole numbers -/
def iOp (g : Int → Int → AV) : Op2 := fun x y h => match x, y with
  | .int i, .int j => .ok (g i j, h)
  | _, _ => .bad
def iOpC (C : Int → Int → Bool) (g : Int → Int → Int) : Op2 := fun x y h => match x, y with
  | .int i, .int j => bif C i j then .ok (.int (g i j), h) else .bad
  | _, _ => .bad
theorem iOp_inv {g : Int → Int → AV} {x y : AV} {h : AH} {P : AV × AH → Prop} (q : (iOp g x y h).sat P) : ∃ i j, x = .int i ∧ y = .int j ∧ P (g i j, h) := by
  unfold iOp at q
  split at q
  · exact ⟨_, _, rfl, rfl, q⟩
  · exact q.elim
theorem iOpC_inv {C : Int → Int → Bool} {g : Int → Int → Int} {x y : AV} {h : AH} {P : AV × AH → Prop} (q : (iOpC C g x y h).sat P) : ∃ i j, x = .int i ∧ y = .int j ∧ C i j = true ∧ P (.int (g i j), h) := by
  unfold iOpC at q
  split at q
  · next i j =>
    cases hc : C i j with
    | true => rw [hc] at q; exact ⟨_, _, rfl, rfl, hc, q⟩
    | false => rw [hc] at q; exact q.elim
  · exact q.elim
theorem oc_iI {g : Int → Int → Int} : OpC (rI0 fun i j => .int (g i j)) (iOp fun i j => .int (g i j)) := fun ρ x y h vx vy H Q hh rx ry q => by
  obtain ⟨i, j, rfl, rfl, q⟩ := iOp_inv q
  cases rx
  cases ry
  exact ⟨i, j, rfl, rfl, q ρ _ H (.refl ρ) hh (.int _)⟩
theorem oc_iB {g : Int → Int → Bool} : OpC (rI0 fun i j => .bl (g i j)) (iOp fun i j => .bl (g i j)) := fun ρ x y h vx vy H Q hh rx ry q => by
  obtain ⟨i, j, rfl, rfl, q⟩ := iOp_inv q
  cases rx
  cases ry
  exact ⟨i, j, rfl, rfl, q ρ _ H (.refl ρ) hh (.bl _)⟩
theorem oc_iC {C : Int → Int → Prop} {B : Int → Int → Bool} {g : Int → Int → Int} (hB : ∀ i j, B i j = true → C i j) : OpC (rI C fun i j => .int (g i j)) (iOpC B g) := fun ρ x y h vx vy H Q hh rx ry q => by
  obtain ⟨i, j, rfl, rfl, hc, q⟩ := iOpC_inv q
  cases rx
  cases ry
  exact ⟨i, j, rfl, rfl, hB _ _ hc, q ρ _ H (.refl ρ) hh (.int _)⟩
def bMul (i j : Int) : Bool := (decide (-(2 ^ 64) < i) && decide (i < 2 ^ 64)) || (decide (-(2 ^ 64) < j) && decide (j < 2 ^ 64))
theorem bMul_ok (i j : Int) (h : bMul i j = true) : CMul i j := by simpa [bMul, CMul] using h
def bDiv (i j : Int) : Bool := decide (0 < j) && decide (j < 1073741824)
theorem bDiv_ok (i j : Int) (h : bDiv i j = true) : CDiv i j := by simpa [bDiv, CDiv] using h
def bPos (i j : Int) : Bool := decide (0 < j)
/-! ### + -/
def aCat (xs ys : List AV) (mk : List AV → AO) (h : AH) : T (AV × AH) := bif big (xs.length + ys.length) then .bad else .ok (.r h.sz, h.new (mk (xs ++ ys)))
def aAdd (G : ST) : Op2 := fun x y h => match x with
  | .int i => match y with
    | .int j => .ok (.int (i + j), h)
    | _ => .bad
  | x => match seqs G h x with
    | some (true, xs) => match seqs G h y with
      | some (true, ys) => aCat xs ys .lst h
      | _ => .bad
    | some (false, x0 :: xs) => match seqs G h y with
      | some (false, y0 :: ys) => aCat (x0 :: xs) (y0 :: ys) .tup h
      | some (false, []) => bif big (xs.length + 1) then .bad else .ok (x, h)
      | _ => .bad
    | some (false, []) => match seqs G h y with
      | some (false, ys) => bif big ys.length then .bad else .ok (y, h)
      | _ => .bad
    | _ => .bad
def rAddA (K : PySem.W.Frag) : R2 := fun x y H Q => rI0 (fun i j => .int (i + j)) x y H Q ∨ rCat x y H Q ∨ rCatA K x y H Q
theorem op_addA {X : Cx} : OpR X (binaryOp .Add) (rAddA X.K) := opr_or op_add (opr_or op_cat op_catA)
theorem paired_append {α β : Type} {R : α → β → Prop} : ∀ {xs ys : List α} {us ws : List β}, Paired R xs us → Paired R ys ws → Paired R (xs ++ ys) (us ++ ws)
  | _, _, _, _, .nil, s => s
  | _, _, _, _, .cons r t, s => .cons r (paired_append t s)
theorem aCat_inv {xs ys : List AV} {mk : List AV → AO} {h : AH} {P : AV × AH → Prop} (q : (aCat xs ys mk h).sat P) : xs.length + ys.length < 1000000 ∧ P (.r h.sz, h.new (mk (xs ++ ys))) := by
  unfold aCat at q
  cases hb : big (xs.length + ys.length) with
  | true => rw [hb] at q; exact q.elim
  | false => rw [hb] at q; exact ⟨big_le hb, q⟩
theorem bif_inv {n : Nat} {α : Type} {r : T α} {P : α → Prop} (q : (bif big n then T.bad else r).sat P) : n < 1000000 ∧ r.sat P := by
  cases hb : big n with
  | true => rw [hb] at q; exact q.elim
  | false => rw [hb] at q; exact ⟨big_le hb, q⟩
theorem oc_add {K : PySem.W.Frag} {G : ST} (hG : GOk K G) : OpC (rAddA K) (aAdd G) := fun ρ x y h vx vy H Q hh rx ry q => by
  unfold aAdd at q
  split at q
  · split at q
    · cases rx
      cases ry
      exact .inl ⟨_, _, rfl, rfl, q ρ _ H (.refl ρ) hh (.int _)⟩
    · exact q.elim
  · split at q
    · next xs hx =>
      obtain ⟨a, vs, rfl, r, hk⟩ := seqs_ok hG hh rx hx
      split at q
      · next ys hy =>
        obtain ⟨b, us, rfl, r2, hk2⟩ := seqs_ok hG hh ry hy
        obtain ⟨hl, q⟩ := aCat_inv q
        rcases hk with ⟨_, hk⟩ | ⟨z, _⟩
        · rcases hk2 with ⟨_, hk2⟩ | ⟨z, _⟩
          · refine .inr (.inl ⟨_, _, _, _, rfl, rfl, hk, hk2, by rw [← r.length, ← r2.length, sizeLine_eq]; omega, fun p hp => ?_⟩)
            exact q.new hh hp fun ρ' x' => .lst (paired_append (RVs.up x' r) (RVs.up x' r2)) upd_same
          · cases z
        · cases z
      · exact q.elim
    · next x0 xs hx =>
      obtain ⟨a, vs, rfl, r, hk⟩ := seqs_ok hG hh rx hx
      rcases hk with ⟨z, _⟩ | ⟨_, hk⟩
      · cases z
      · split at q
        · next y0 ys hy =>
          obtain ⟨b, us, rfl, r2, hk2⟩ := seqs_ok hG hh ry hy
          obtain ⟨hl, q⟩ := aCat_inv q
          rcases hk2 with ⟨z, _⟩ | ⟨_, hk2⟩
          · cases z
          · refine .inr (.inr ⟨_, _, _, _, rfl, rfl, hk, hk2, by rw [← r.length, ← r2.length, sizeLine_eq]; omega, fun z => ?_, fun _ z => ?_, fun _ _ p hp => ?_⟩)
            · subst z; cases r
            · subst z; cases r2
            · exact q.new hh hp fun ρ' x' => .tup (paired_append (RVs.up x' r) (RVs.up x' r2)) upd_same
        · next hy =>
          obtain ⟨b, us, rfl, r2, hk2⟩ := seqs_ok hG hh ry hy
          cases r2
          rcases hk2 with ⟨z, _⟩ | ⟨_, hk2⟩
          · cases z
          · obtain ⟨hl, q⟩ := bif_inv q
            have q : PQ ρ Q (_, h) := q
            refine .inr (.inr ⟨_, _, _, _, rfl, rfl, hk, hk2, ?_, fun z => ?_, fun _ z => ?_, fun _ z p hp => (z rfl).elim⟩)
            · rw [← r.length, sizeLine_eq]; simp only [List.length_cons, List.length_nil]; omega
            · subst z; cases r
            · exact q ρ _ H (.refl ρ) hh rx
        · exact q.elim
    · next hx =>
      obtain ⟨a, vs, rfl, r, hk⟩ := seqs_ok hG hh rx hx
      cases r
      rcases hk with ⟨z, _⟩ | ⟨_, hk⟩
      · cases z
      · split at q
        · next ys hy =>
          obtain ⟨b, us, rfl, r2, hk2⟩ := seqs_ok hG hh ry hy
          rcases hk2 with ⟨z, _⟩ | ⟨_, hk2⟩
          · cases z
          · obtain ⟨hl, q⟩ := bif_inv q
            have q : PQ ρ Q (_, h) := q
            refine .inr (.inr ⟨_, _, _, _, rfl, rfl, hk, hk2, ?_, fun _ => ?_, fun z => (z rfl).elim, fun z => (z rfl).elim⟩)
            · rw [← r2.length, sizeLine_eq]; simp only [List.length_nil]; omega
            · exact q ρ _ H (.refl ρ) hh ry
        · exact q.elim
    · exact q.elim
end Z
end

section
set_option linter.all false
set_option maxRecDepth 100000
set_option maxHeartbeats 2000000
namespace Z
open PySem L2 PyProof.Rows
variable [Scr]
section
variable {X : Cx} {G : ST} {a b c e : Expr} {pos : Pos} {R R' : R2} {f : Op2} {da db dc : DenE}
/-! ### equality of data, in -/
def aEqD (G : ST) (neg : Bool) : Op2 := fun x y h => match rd G h 40 x with
  | some d => match rd G h 40 y with
    | some d' => bif SeqAt.shaped d && SeqAt.shaped d' then .ok (.bl (bif neg then !(PyData.eqv d d') else PyData.eqv d d'), h) else .bad
    | none => .bad
  | none => .bad
theorem aEqD_inv {neg : Bool} {x y : AV} {h : AH} {P : AV × AH → Prop} (q : (aEqD G neg x y h).sat P) : ∃ d d', rd G h 40 x = some d ∧ rd G h 40 y = some d' ∧ SeqAt.shaped d = true ∧ SeqAt.shaped d' = true ∧ P (.bl (bif neg then !(PyData.eqv d d') else PyData.eqv d d'), h) := by
  unfold aEqD at q
  split at q
  · next d hd =>
    split at q
    · next d' hd' =>
      cases h1 : SeqAt.shaped d && SeqAt.shaped d' with
      | true =>
        rw [h1] at q
        obtain ⟨s1, s2⟩ := Bool.and_eq_true_iff.mp h1
        exact ⟨d, d', hd, hd', s1, s2, q⟩
      | false => rw [h1] at q; exact q.elim
    · exact q.elim
  · exact q.elim
theorem oc_eqD {K : PySem.W.Frag} (hG : GOk K G) : OpC (rEqD K) (aEqD G false) := fun ρ x y h vx vy H Q hh rx ry q => by
  obtain ⟨d, d', e1, e2, s1, s2, q⟩ := aEqD_inv q
  exact ⟨d, d', rd_dp hG hh _ _ _ _ rx e1, rd_dp hG hh _ _ _ _ ry e2, s1, s2, q ρ _ H (.refl ρ) hh (.bl _)⟩
theorem oc_neD {K : PySem.W.Frag} (hG : GOk K G) : OpC (rNeD K) (aEqD G true) := fun ρ x y h vx vy H Q hh rx ry q => by
  obtain ⟨d, d', e1, e2, s1, s2, q⟩ := aEqD_inv q
  exact ⟨d, d', rd_dp hG hh _ _ _ _ rx e1, rd_dp hG hh _ _ _ _ ry e2, s1, s2, q ρ _ H (.refl ρ) hh (.bl _)⟩
def aInD (G : ST) (neg : Bool) : Op2 := fun x y h => match rd G h 40 x with
  | some d => match rd G h 40 y with
    | some c => match itemsOf c with
      | some ds => bif SeqAt.shaped d && SeqAt.shaped c then .ok (.bl (if neg then !(ds.any fun z => PyData.eqv z d) else ds.any fun z => PyData.eqv z d), h) else .bad
      | none => .bad
    | none => .bad
  | none => .bad
theorem oc_inD {K : PySem.W.Frag} {neg : Bool} (hG : GOk K G) : OpC (rInS K neg) (aInD G neg) := fun ρ x y h vx vy H Q hh rx ry q => by
  unfold aInD at q
  split at q
  · next d hd =>
    split at q
    · next c hc =>
      split at q
      · next ds hds =>
        cases h1 : SeqAt.shaped d && SeqAt.shaped c with
        | true =>
          rw [h1] at q
          obtain ⟨s1, s2⟩ := Bool.and_eq_true_iff.mp h1
          have q : PQ ρ Q (_, h) := q
          exact ⟨d, c, ds, rd_dp hG hh _ _ _ _ rx hd, rd_dp hG hh _ _ _ _ ry hc, hds, s1, s2, q ρ _ H (.refl ρ) hh (.bl _)⟩
        | false => rw [h1] at q; exact q.elim
      · exact q.elim
    · exact q.elim
  · exact q.elim
/-- one of two ways, the first where it goes -/
def orOp (p : AV → AV → AH → Bool) (f g : Op2) : Op2 := fun x y h => bif p x y h then f x y h else g x y h
theorem oc_or {p : AV → AV → AH → Bool} {g : Op2} (h1 : OpC R f) (h2 : OpC R' g) : OpC (fun x y H Q => R x y H Q ∨ R' x y H Q) (orOp p f g) := fun ρ x y h vx vy H Q hh rx ry q => by
  unfold orOp at q
  cases hp : p x y h with
  | true => rw [hp] at q; exact .inl (h1 ρ x y h vx vy H Q hh rx ry q)
  | false => rw [hp] at q; exact .inr (h2 ρ x y h vx vy H Q hh rx ry q)
def isNon : AV → Option Bool
  | .non => some true
  | .k _ => none
  | _ => some false
def aIsN (neg : Bool) : Op2 := fun x y h => match y with
  | .non => match isNon x with
    | some t => .ok (.bl (bif neg then !t else t), h)
    | none => .bad
  | _ => .bad
theorem isNon_ok {ρ : Ro} {x : AV} {v : V} {t : Bool} (rx : RV ρ x v) (e : isNon x = some t) : decide (v = .non) = t := by
  cases rx <;> cases e <;> rfl
theorem oc_isN : OpC (fun x y H Q => y = .non ∧ Q (.bl (decide (x = .non))) H) (aIsN false) := fun ρ x y h vx vy H Q hh rx ry q => by
  unfold aIsN at q
  split at q
  · cases ry
    split at q
    · next t ht =>
      refine ⟨rfl, ?_⟩
      rw [isNon_ok rx ht]
      exact q ρ _ H (.refl ρ) hh (.bl _)
    · exact q.elim
  · exact q.elim
theorem oc_notN : OpC (fun x y H Q => y = .non ∧ Q (.bl (!decide (x = .non))) H) (aIsN true) := fun ρ x y h vx vy H Q hh rx ry q => by
  unfold aIsN at q
  split at q
  · cases ry
    split at q
    · next t ht =>
      refine ⟨rfl, ?_⟩
      rw [isNon_ok rx ht]
      exact q ρ _ H (.refl ρ) hh (.bl _)
    · exact q.elim
  · exact q.elim
/-- lo <= x < hi -/
def dChain (g g' : Int → Int → Bool) (a b c : DenE) : DenE := fun s h => (a s h).bind fun p => (b s p.2).bind fun q => match p.1, q.1 with
  | .int i, .int j => bif g i j then (c s q.2).bind fun r => (match r.1 with
    | .int k => .ok (.bl (g' j k), r.2)
    | _ => .bad) else .ok (.bl false, q.2)
  | _, _ => .bad
theorem ce_chain {op op' : CmpOp} {g g' : Int → Int → Bool} (hm : lastMarks [op, op'] [b, c] = false) (ho : OpR X (compareOp op) (rI0 fun i j => .bl (g i j))) (ho' : OpR X (compareOp op') (rI0 fun i j => .bl (g' i j)))
    (h1 : CE X a da) (h2 : CE X b db) (h3 : CE X c dc) : CE X (.Compare a [op, op'] [b, c] pos) (dChain g g' da db dc) := fun ρ s h σ H Q he hh q => by
  refine ofE (pe_chain ho ho' (peW a) (peW b) (peW c) (hm := hm)) (h1.then he hh q fun x h1 ρ1 v H1 x1 r1 rv q1 => ?_)
  refine h2.then (he.up x1) r1 q1 fun y h2 ρ2 u H2 x2 r2 ru q2 => ?_
  split at q2
  · next i j e1 e2 =>
    have e1 : x = .int i := e1
    have e2 : y = .int j := e2
    subst e1 e2
    cases rv
    cases ru
    refine ⟨i, j, rfl, rfl, _, rfl, ?_⟩
    cases hg : g i j with
    | true =>
      rw [hg] at q2
      rw [if_pos rfl]
      refine h3.then ((he.up x1).up x2) r2 q2 fun z h3 ρ3 w H3 x3 r3 rw' q3 => ?_
      split at q3
      · next k e3 =>
        have e3 : z = .int k := e3
        subst e3
        cases rw'
        exact ⟨j, k, rfl, rfl, q3 ρ3 _ H3 ((x1.trans x2).trans x3) r3 (.bl _)⟩
      · exact q3.elim
    | false =>
      rw [hg] at q2
      rw [if_neg Bool.false_ne_true]
      have q2 : PQ ρ Q (_, h2) := q2
      exact q2 ρ2 _ H2 (x1.trans x2) r2 (.bl _)
  · exact q2.elim
theorem pt_of_peB {t : TE} (hE : ∀ whole, isTrue e X.env whole = (do let v ← whole; standAt e.pos; holding [v] (truthy v))) (h : CE X e da) : CT X e (dB da) := ct_val h hE
theorem ct_chain {op op' : CmpOp} {g g' : Int → Int → Bool} (hm : lastMarks [op, op'] [b, c] = false) (ho : OpR X (compareOp op) (rI0 fun i j => .bl (g i j))) (ho' : OpR X (compareOp op') (rI0 fun i j => .bl (g' i j)))
    (h1 : CE X a da) (h2 : CE X b db) (h3 : CE X c dc) : CT X (.Compare a [op, op'] [b, c] pos) (dB (dChain g g' da db dc)) := fun ρ s h σ H Q he hh q => by
  have q := T.sat_bind q
  refine ofT (pt_chain ho ho' (peW a) (peW b) (peW c) (hm := hm)) (h1.then he hh q fun x h1 ρ1 v H1 x1 r1 rv q1 => ?_)
  refine h2.then (he.up x1) r1 q1 fun y h2 ρ2 u H2 x2 r2 ru q2 => ?_
  split at q2
  · next i j e1 e2 =>
    have e1 : x = .int i := e1
    have e2 : y = .int j := e2
    subst e1 e2
    cases rv
    cases ru
    refine ⟨i, j, rfl, rfl, _, rfl, ?_⟩
    cases hg : g i j with
    | true =>
      rw [hg] at q2
      rw [if_pos rfl]
      refine h3.then ((he.up x1).up x2) r2 q2 fun z h3 ρ3 w H3 x3 r3 rw' q3 => ?_
      split at q3
      · next k e3 =>
        have e3 : z = .int k := e3
        subst e3
        cases rw'
        exact ⟨j, k, rfl, rfl, _, rfl, q3 ρ3 H3 ((x1.trans x2).trans x3) r3⟩
      · exact q3.elim
    | false =>
      rw [hg] at q2
      rw [if_neg Bool.false_ne_true]
      have q2 : PB ρ Q (_, h2) := q2
      exact ⟨_, rfl, q2 ρ2 H2 (x1.trans x2) r2⟩
  · exact q2.elim

/-! ### subscripts -/
theorem paired_get {α β : Type} {R : α → β → Prop} : ∀ {xs : List α} {us : List β} {i : Nat} {x : α}, Paired R xs us → xs[i]? = some x → ∃ u, us[i]? = some u ∧ R x u
  | _, _, i, x, .nil, e => by simp at e
  | _, _, 0, x, .cons r _, e => by simp at e; subst e; exact ⟨_, rfl, r⟩
  | _, _, i + 1, x, .cons _ t, e => by
    obtain ⟨u, h1, h2⟩ := paired_get (i := i) t (by simpa using e)
    exact ⟨u, by simpa using h1, h2⟩
/-- an item of a list or a tuple, of a dict -/
def kA : AV → Option Key
  | .int i => some (.inl i)
  | .str x => some (.inr x)
  | _ => none
def valA (kvs : List (Key × AV)) (k : Key) : Option AV := match kvs with
  | [] => none
  | p :: ps => if p.1 = k then some p.2 else valA ps k
def aIx (G : ST) : Op2 := fun x y h => match seqs G h x with
  | some (_, xs) => match y with
    | .int i => match atI xs i with
      | some z => .ok (z, h)
      | none => .bad
    | _ => .bad
  | none => .bad
theorem oc_ix {K : PySem.W.Frag} (hG : GOk K G) : OpC (rIx K) (aIx G) := fun ρ x y h vx vy H Q hh rx ry q => by
  unfold aIx at q
  split at q
  · next t xs hx =>
    obtain ⟨a, vs, rfl, r, hk⟩ := seqs_ok hG hh rx hx
    split at q
    · next i =>
      cases ry
      split at q
      · next z hz =>
        obtain ⟨j, hj, k⟩ := atI_len r.length.symm hz
        obtain ⟨v, hv, rv⟩ := paired_get r hj
        have q := q ρ _ H (.refl ρ) hh rv
        rcases hk with ⟨_, hk⟩ | ⟨_, hk⟩
        · exact .inl ⟨_, _, _, _, rfl, rfl, .of hk, k v hv, q⟩
        · exact .inr (.inl ⟨_, _, _, _, rfl, rfl, hk, k v hv, q⟩)
      · exact q.elim
    · exact q.elim
  · exact q.elim
theorem ce_ix (hG : GOk X.K G) (hp : PlainIx b) (h1 : CE X a da) (h2 : CE X b db) : CE X (.Subscript a b pos) (dOp (aIx G) da db) :=
  ce_op (t := tOp (rIx X.K)) (fun _ _ ha hb => pe_ix ix_seq ha hb hp) (fun _ _ _ _ _ h => h) (oc_ix hG) h1 h2
/-- a dict with numbers or texts as keys -/
def dicts (h : AH) : AV → Option (List (Key × AV))
  | .r i => match h.get i with
    | some (.dK kvs) => some kvs
    | _ => none
  | _ => none
theorem dicts_ok {ρ : Ro} {h : AH} {H : Hp} {x : AV} {v : V} {kvs : List (Key × AV)} (hh : RH ρ h H) (rv : RV ρ x v) (e : dicts h x = some kvs) : ∃ i a vs, x = .r i ∧ v = .ref a ∧ ρ i = some a ∧ RF ρ kvs vs ∧ H a = some (.dK vs) := by
  cases rv with
  | r hr =>
    unfold dicts at e
    dsimp only at e
    split at e
    · next ys hy =>
      cases e
      cases hh.get hy hr with
      | dK r hl => exact ⟨_, _, _, rfl, rfl, hr, r, hl⟩
    · cases e
  | k v => cases e
  | non => cases e
  | bl _ => cases e
  | int _ => cases e
  | str _ => cases e
  | rep _ => cases e
  | scr => cases e
theorem kA_ok {ρ : Ro} {y : AV} {v : V} {k : Key} (rv : RV ρ y v) (e : kA y = some k) : v = kV k := by
  cases rv <;> cases e <;> rfl
end
end Z
end

section
set_option linter.all false
set_option maxRecDepth 100000
set_option maxHeartbeats 2000000
namespace Z
open PySem L2 PyProof.Rows
variable [Scr]
section
variable {X : Cx} {G : ST} {a b c e : Expr} {pos : Pos} {st : Stmt} {rest body orelse : List Stmt}
/-! ### statements -/
def dSk : DenS := fun s h => .ok (.nx s, h)
def dSeq (a r : DenS) : DenS := fun s h => (a s h).bind fun p => match p.1 with
  | .nx s' => r s' p.2
  | o => .ok (o, p.2)
def dDrop (d : DenE) : DenS := fun s h => (d s h).bind fun p => .ok (.nx s, p.2)
def dRet (d : DenE) : DenS := fun s h => (d s h).bind fun p => .ok (.rt p.1, p.2)
def dIfS (c : DenB) (a b : DenS) : DenS := fun s h => (c s h).bind fun p => bif p.1 then a s p.2 else b s p.2
theorem css_nil : CSs X [] dSk := fun ρ s h σ H D he hh q => ofSs pss_nil (q ρ H (.refl ρ) hh σ he)
theorem css_cons {ds dr : DenS} (h1 : CS X st ds) (h2 : CSs X rest dr) : CSs X (st :: rest) (dSeq ds dr) := fun ρ s h σ H D he hh q => by
  refine ofSs (pss_cons (psW st) (pssW rest)) (h1 ρ s h σ H { D with nx := wpSs X rest D } he hh (T.sat_imp (fun r q1 ρ1 H1 x1 r1 => ?_) (T.sat_bind q)))
  obtain ⟨o, h1⟩ := r
  cases o with
  | nx s1 => exact fun σ1 he1 => h2 ρ1 s1 h1 σ1 H1 D he1 r1 (T.sat_imp (fun _ k => k.up x1) q1)
  | rt x => exact fun v rv => q1 ρ1 H1 x1 r1 v rv
  | bk s1 => exact fun σ1 he1 => q1 ρ1 H1 x1 r1 σ1 he1
  | ct s1 => exact fun σ1 he1 => q1 ρ1 H1 x1 r1 σ1 he1
theorem cs_pass : CS X (.Pass pos) dSk := fun ρ s h σ H D he hh q => ofS ps_pass (q ρ H (.refl ρ) hh σ he)
theorem cs_break : CS X (.Break pos) (fun s h => .ok (.bk s, h)) := fun ρ s h σ H D he hh q => ofS ps_break (q ρ H (.refl ρ) hh σ he)
theorem cs_cont : CS X (.Continue pos) (fun s h => .ok (.ct s, h)) := fun ρ s h σ H D he hh q => ofS ps_continue (q ρ H (.refl ρ) hh σ he)
theorem cs_doc {x j pos'} : CS X (.Expr (.Constant (.str x) j pos) pos') dSk := fun ρ s h σ H D he hh q => ofS ps_doc (q ρ H (.refl ρ) hh σ he)
theorem cs_expr {d : DenE} (h1 : CE X e d) (hw : swapsWith e none pos.line X.env = pure false := by rfl) : CS X (.Expr e pos) (dDrop d) := fun ρ s h σ H D he hh q =>
  ofS (ps_expr (peW e) hw) (h1.then he hh q fun x h1 ρ1 v H1 x1 r1 rv q1 => q1 ρ1 H1 x1 r1 σ (he.up x1))
theorem cs_ret {d : DenE} (h1 : CE X e d) : CS X (.Return (some e) pos) (dRet d) := fun ρ s h σ H D he hh q =>
  ofS (ps_ret (peW e)) (h1.then he hh q fun x h1 ρ1 v H1 x1 r1 rv q1 => q1 ρ1 H1 x1 r1 v rv)
theorem cs_retN : CS X (.Return none pos) (fun s h => .ok (.rt .non, h)) := fun ρ s h σ H D he hh q => ofS ps_retN (q ρ H (.refl ρ) hh .non .non)
theorem cs_if {dc : DenB} {da db : DenS} (h0 : CT X c dc) (h1 : CSs X body da) (h2 : CSs X orelse db) : CS X (.If c body orelse pos) (dIfS dc da db) := fun ρ s h σ H D he hh q => by
  refine ofS (ps_if (ptW c) (pssW body) (pssW orelse)) (h0.then he hh q fun t h0 ρ1 H1 x1 r1 q1 => ?_)
  cases t with
  | true => rw [if_pos rfl]; exact h1 ρ1 s h0 σ H1 D (he.up x1) r1 (T.sat_imp (fun _ k => k.up x1) q1)
  | false => rw [if_neg Bool.false_ne_true]; exact h2 ρ1 s h0 σ H1 D (he.up x1) r1 (T.sat_imp (fun _ k => k.up x1) q1)

/-! ### targets -/
abbrev DenG := AV → AE → AH → T AE
abbrev DenGs := List AV → AE → AH → T AE
/-- only the slots is are changed -/
def Only1 (is : List Nat) (σ σ' : L2.St) : Prop := ∀ vs : List Nat, (∀ i, i ∈ is → i ∈ vs) → L2.wipe σ' vs = L2.wipe σ vs
theorem Only1.trans {is js : List Nat} {a b c : L2.St} (x : Only1 is a b) (y : Only1 js b c) : Only1 (is ++ js) a c := fun vs h => (y vs fun i hi => h i (List.mem_append_right _ hi)).trans (x vs fun i hi => h i (List.mem_append_left _ hi))
theorem wipe_set {i : Nat} {v : Option V} : ∀ {vs : List Nat} {σ : L2.St}, i ∈ vs → L2.wipe (σ.set i v) vs = L2.wipe σ vs
  | [], _, h => nomatch h
  | k :: vs, σ, h => by
    show (L2.wipe (σ.set i v) vs).set k none = (L2.wipe σ vs).set k none
    by_cases hi : i ∈ vs
    · rw [wipe_set hi]
    · have hk : i = k := by simpa [hi] using h
      subst hk
      have key : ∀ (vs : List Nat) (σ : L2.St), i ∉ vs → L2.wipe (σ.set i v) vs = (L2.wipe σ vs).set i v := by
        intro vs
        induction vs with
        | nil => intro σ _; rfl
        | cons k vs ih =>
          intro σ hn
          show (L2.wipe (σ.set i v) vs).set k none = ((L2.wipe σ vs).set k none).set i v
          rw [ih σ (fun z => hn (List.mem_cons_of_mem _ z)), List.set_comm]
          exact fun z => hn (by rw [z]; exact List.mem_cons_self)
      rw [key vs σ hi, List.set_set]
def GK (t : TG) (is : List Nat) (dg : DenG) : Prop := ∀ ρ x v s h σ H Q, RE ρ s σ → RH ρ h H → RV ρ x v → (dg x s h).sat (fun s' => ∀ σ', RE ρ s' σ' → Only1 is σ σ' → Q σ' H) → t v σ H Q
def GKs (t : TGs) (is : List Nat) (dg : DenGs) : Prop := ∀ ρ xs vs s h σ H Q, RE ρ s σ → RH ρ h H → RVs ρ xs vs → (dg xs s h).sat (fun s' => ∀ σ', RE ρ s' σ' → Only1 is σ σ' → Q σ' H) → t vs σ H Q
def CG (X : Cx) (tg : Expr) (t : TG) (is : List Nat) (dg : DenG) : Prop := PG X tg t ∧ GK t is dg
def dgN (i : Nat) : DenG := fun x s _ => .ok (s.set i (some x))
def dgNil : DenGs := fun xs s _ => match xs with
  | [] => .ok s
  | _ => .bad
def dgCons (a : DenG) (r : DenGs) : DenGs := fun xs s h => match xs with
  | x :: xs => (a x s h).bind fun s1 => r xs s1 h
  | [] => .bad
def dgTup (G : ST) (n : Nat) (r : DenGs) : DenG := fun x s h => match seqs G h x with
  | some (false, xs) => bif Nat.beq xs.length n then r xs s h else .bad
  | _ => .bad
theorem gk_name {i : Nat} : GK (gName i) [i] (dgN i) := fun ρ x v s h σ H Q he hh rv q => q _ (he.set rv i) fun vs hv => wipe_set (hv i (List.mem_singleton.mpr rfl))
theorem gks_nil : GKs gNil [] dgNil := fun ρ xs vs s h σ H Q he hh rv q => by
  cases rv with
  | nil => exact ⟨rfl, q σ he fun _ _ => rfl⟩
  | cons _ _ => exact q.elim
theorem gks_cons {t : TG} {u : TGs} {is js : List Nat} {da : DenG} {dr : DenGs} (k1 : GK t is da) (k2 : GKs u js dr) : GKs (gCons t u) (is ++ js) (dgCons da dr) := fun ρ xs vs s h σ H Q he hh rv q => by
  cases rv with
  | nil => exact q.elim
  | cons r1 r2 => exact ⟨_, _, rfl, k1 ρ _ _ s h σ H _ he hh r1 (T.sat_imp (fun s1 q1 σ1 he1 o1 => k2 ρ _ _ s1 h σ1 H Q he1 hh r2 (T.sat_imp (fun s2 q2 σ2 he2 o2 => q2 σ2 he2 (o1.trans o2)) q1)) (T.sat_bind q))⟩
theorem gk_tup {K : PySem.W.Frag} {n : Nat} {t : TGs} {is : List Nat} {dr : DenGs} (hG : GOk K G) (k1 : GKs t is dr) : GK (gTup K n t) is (dgTup G n dr) := fun ρ x v s h σ H Q he hh rv q => by
  unfold dgTup at q
  split at q
  · next xs hx =>
    obtain ⟨a, vs, rfl, r, hk⟩ := seqs_ok hG hh rv hx
    rcases hk with ⟨z, _⟩ | ⟨_, hk⟩
    · cases z
    · cases hb : Nat.beq xs.length n with
      | true =>
        rw [hb] at q
        exact ⟨a, vs, rfl, hk, by rw [← r.length]; exact Nat.eq_of_beq_eq_true hb, k1 ρ xs vs s h σ H Q he hh r q⟩
      | false => rw [hb] at q; exact q.elim
  · exact q.elim
def dAsg (d : DenE) (g : DenG) : DenS := fun s h => (d s h).bind fun p => (g p.1 s p.2).bind fun s1 => .ok (.nx s1, p.2)
theorem cs_asg {tg : Expr} {t : TG} {is : List Nat} {d : DenE} {g : DenG} (h1 : CE X e d) (hg : CG X tg t is g) (hs : swapsWithSole [tg] e pos.line X.env = pure false := by rfl) (hw : swappedStores [tg] e X.env = pure none := by rfl)
    (ha : (assignEach [tg] X.env).map (·.2) = [assign tg X.env] := by rfl) : CS X (.Assign [tg] e pos) (dAsg d g) := fun ρ s h σ H D he hh q => by
  obtain ⟨p1, k1⟩ := hg
  refine ofS (ps_asg (peW e) p1 hs hw ha) (h1.then he hh q fun x h1 ρ1 v H1 x1 r1 rv q1 => ?_)
  exact k1 ρ1 x v s h1 σ H1 _ (he.up x1) r1 rv (T.sat_imp (fun s2 q2 σ2 he2 _ => q2 ρ1 H1 x1 r1 σ2 he2) (T.sat_bind q1))
theorem cs_set {i : Nat} {x : Str} {pos' : Pos} {d : DenE} (hN : X.N.Nodup) (hi : X.N[i]? = some x) (hx : Loc X.env.scope x) (h1 : CE X e d) (hs : swapsWith e (some (.Name x pos')) pos.line X.env = pure false := by rfl)
    (hf : X.fn x = true ∨ X.env.scope.names.lookup x = some .local := by first | exact .inl rfl | exact .inr rfl | assumption) : CS X (.Assign [.Name x pos'] e pos) (dAsg d (dgN i)) := fun ρ s h σ H D he hh q =>
  ofS (ps_set hN hi hx (peW e) hs hf) (h1.then he hh q fun x h1 ρ1 v H1 x1 r1 rv q1 => q1 ρ1 H1 x1 r1 _ ((he.up x1).set rv i))
/-- a, b = x, y with plain names -/
def dPar (i j : Nat) (d : DenA) : DenS := fun s h => (d s h).bind fun p => match p.1 with
  | [x, y] => .ok (.nx ((s.set i (some x)).set j (some y)), p.2)
  | _ => .bad
theorem cs_par {i j : Nat} {x y : Str} {px py pt : Pos} {kt k2 pt2} {d : DenA} (hc : X.calm = true) (hN : X.N.Nodup) (hi : X.N[i]? = some x) (hj : X.N[j]? = some y) (hij : i ≠ j)
    (hx : X.env.scope.names.lookup x = some .local) (hy : X.env.scope.names.lookup y = some .local) (ha : CA X [a, b] d)
    (hw : swappedStores [.Tuple [.Name x px, .Name y py] kt pt] (.Tuple [a, b] k2 pt2) X.env = pure (some [x, y]))
    (hs : swapsWithSole [.Tuple [.Name x px, .Name y py] kt pt] (.Tuple [a, b] k2 pt2) pos.line X.env = pure false := by rfl) : CS X (.Assign [.Tuple [.Name x px, .Name y py] kt pt] (.Tuple [a, b] k2 pt2) pos) (dPar i j d) := fun ρ s h σ H D he hh q => by
  refine ofS (ps_par hc hN hi hj hij hx hy (paW [a, b]) hw hs) (ha.then he hh q fun xs h1 ρ1 vs H1 x1 r1 rv q1 => ?_)
  split at q1
  · next x y e1 =>
    have e1 : xs = [x, y] := e1
    subst e1
    cases rv with
    | cons ra rr =>
      cases rr with
      | cons rb rr =>
        cases rr
        exact ⟨_, _, rfl, q1 ρ1 H1 x1 r1 _ (((he.up x1).set ra i).set rb j)⟩
  · exact q1.elim

/-! ### what is walked -/
inductive Item where
  | v (x : AV) | p (x y : AV)
def itemAt : Item → AH → AV × AH
  | .v x, h => (x, h)
  | .p x y, h => (.r h.sz, h.new (.tup [x, y]))
structure Walked where
  items : List Item
  keep : List (Bool × Nat × List AV)
def sameV : AV → AV → Bool
  | .r i, .r j => Nat.beq i j
  | .int i, .int j => decide (i = j)
  | .str x, .str y => decide (x = y)
  | .bl x, .bl y => decide (x = y)
  | .non, .non => true
  | .k x, .k y => decide (x = y)
  | _, _ => false
theorem sameV_eq : ∀ {x y : AV}, sameV x y = true → x = y := by
  intro x y h
  cases x <;> cases y <;> simp [sameV] at h
  · rfl
  · rw [h]
  · rw [h]
  · rw [h]
  · rw [h]
  · rw [h]
def sameL : List AV → List AV → Bool
  | [], [] => true
  | x :: xs, y :: ys => sameV x y && sameL xs ys
  | _, _ => false
theorem sameL_eq : ∀ {xs ys : List AV}, sameL xs ys = true → xs = ys
  | [], [], _ => rfl
  | x :: xs, y :: ys, h => by
    obtain ⟨h1, h2⟩ := Bool.and_eq_true_iff.mp (show (sameV x y && sameL xs ys) = true from h)
    rw [sameV_eq h1, sameL_eq h2]
  | [], _ :: _, h => (Bool.false_ne_true h).elim
  | _ :: _, [], h => (Bool.false_ne_true h).elim
def okKeep (h : AH) : List (Bool × Nat × List AV) → Bool
  | [] => true
  | (t, i, xs) :: ks => match h.get i with
    | some (.lst ys) => t && (sameL xs ys && okKeep h ks)
    | some (.tup ys) => !t && (sameL xs ys && okKeep h ks)
    | _ => false
theorem RV.det {ρ : Ro} {x : AV} {u v : V} (a : RV ρ x u) (b : RV ρ x v) : u = v := by
  cases a <;> cases b <;> first | rfl | skip
  next h1 _ h2 => rw [h1] at h2; cases h2; rfl
theorem RVs.det {ρ : Ro} : ∀ {xs : List AV} {us vs : List V}, RVs ρ xs us → RVs ρ xs vs → us = vs
  | _, _, _, .nil, .nil => rfl
  | _, _, _, .cons a s, .cons b t => by rw [a.det b, RVs.det s t]
theorem keep_sq {K : PySem.W.Frag} {ρ ρ2 : Ro} {i : Nat} {a : Addr} {t : Bool} {xs : List AV} {vs : List V} {h2 : AH} {H2 : Hp} (hi : ρ i = some a) (rv : RVs ρ xs vs) (x : Xt ρ ρ2) (r : RH ρ2 h2 H2) {ks : List (Bool × Nat × List AV)} (hk : okKeep h2 ((t, i, xs) :: ks) = true) :
    ((t = true ∧ SqL K H2 a vs) ∨ (t = false ∧ SqT K H2 a vs)) ∧ okKeep h2 ks = true := by
  unfold okKeep at hk
  split at hk
  · next ys hy =>
    obtain ⟨k0, k12⟩ := Bool.and_eq_true_iff.mp hk
    obtain ⟨k1, k2⟩ := Bool.and_eq_true_iff.mp k12
    have e := sameL_eq k1
    subst e
    cases r.get hy (x _ _ hi) with
    | lst rv2 hl =>
      rw [RVs.det (RVs.up x rv) rv2]
      exact ⟨.inl ⟨k0, .of hl⟩, k2⟩
  · next ys hy =>
    obtain ⟨k0, k12⟩ := Bool.and_eq_true_iff.mp hk
    obtain ⟨k1, k2⟩ := Bool.and_eq_true_iff.mp k12
    have e := sameL_eq k1
    subst e
    cases r.get hy (x _ _ hi) with
    | tup rv2 hl =>
      rw [RVs.det (RVs.up x rv) rv2]
      exact ⟨.inr ⟨by simpa using k0, .of hl⟩, k2⟩
  · cases hk
def CI (X : Cx) (tg it : Expr) (di : AE → AH → T (Walked × AH)) : Prop := ∃ wi : TI, PI X tg it wi ∧ ∀ ρ s h σ H R, RE ρ s σ → RH ρ h H → (di s h).sat (fun r => ∀ ρ1 H1, Xt ρ ρ1 → RH ρ1 r.2 H1 → ∀ (J : It) (n : Nat) (Gd : Hp → Prop) (Y : Nat → Hp → V → Hp → Prop), Walk J n Gd Y →
    n = r.1.items.length → (∀ ρ2 h2 H2, Xt ρ1 ρ2 → RH ρ2 h2 H2 → okKeep h2 r.1.keep = true → Gd H2) →
    (∀ i m ρ2 h2 H2 v H2', r.1.items[i]? = some m → Xt ρ1 ρ2 → RH ρ2 h2 H2 → Y i H2 v H2' → ∃ ρ3, Xt ρ2 ρ3 ∧ RH ρ3 (itemAt m h2).2 H2' ∧ RV ρ3 (itemAt m h2).1 v) → R J H1) → wi σ H R
/-- a list or a tuple -/
def iSeq (K : PySem.W.Frag) (tl : TE) : TI := fun σ H R => tl σ H fun x H1 => ∃ a, x = .ref a ∧ (((∃ xs, SqL K H1 a xs) ∧ R (Itl K a) H1) ∨ ((∃ xs, SqT K H1 a xs) ∧ R (Itt K a) H1))
theorem pi_seq {tg l : Expr} {tl : TE} (hl : PE X l tl) : PI X tg l (iSeq X.K tl) := by
  refine ⟨fun pins s σ H R I h => ?_⟩
  refine thn (hl.run pins s σ H _ I h) fun v s1 ⟨x, H1, I1, r1, q1⟩ => ?_
  obtain ⟨a, e, q⟩ := q1
  subst e
  cases r1
  have fin : ∀ b, b ∈ [s1.heap.objs.size] → FpOk X pins H1 b := fun b hb => by
    have e : b = s1.heap.objs.size := by simpa using hb
    subst e
    exact I1.fpOk (Nat.le_refl _) (I1.hok.fresh (Nat.le_refl _))
  rcases q with ⟨⟨xs, hq⟩, q⟩ | ⟨⟨xs, hq⟩, q⟩
  · obtain ⟨its, rv, p, hz⟩ := I1.list hq
    refine wpAny_pyIter_list p.isList ?_
    exact ⟨s1.heap.objs.size, [s1.heap.objs.size], _, _, H1, rfl, I1.kept (t' := s1.toks) fun b o e => Heap.get?_push_of_some _ e, turn_list a _, ⟨_, Heap.get?_push_size _ rfl, rfl, rfl⟩, fin, q⟩
  · obtain ⟨its, rv, p, hz⟩ := I1.tuple hq
    refine wpAny_pyIter_tuple (show s1.heap.IsTuple a its.toArray from p) ?_
    exact ⟨s1.heap.objs.size, [s1.heap.objs.size], _, _, H1, rfl, I1.kept (t' := s1.toks) fun b o e => Heap.get?_push_of_some _ e, turn_tuple a _, ⟨_, Heap.get?_push_size _ rfl, rfl, rfl⟩, fin, q⟩
def walkOf (x : AV) (t : Bool) (xs : List AV) : Walked := ⟨xs.map .v, match x with | .r i => [(t, i, xs)] | _ => []⟩
def dSeqI (G : ST) (d : DenE) : AE → AH → T (Walked × AH) := fun s h => (d s h).bind fun p => match seqs G p.2 p.1 with
  | some (t, xs) => .ok (walkOf p.1 t xs, p.2)
  | none => .bad
theorem items_v {xs : List AV} {i : Nat} {m : Item} (e : (xs.map Item.v)[i]? = some m) : ∃ x, xs[i]? = some x ∧ m = .v x := by
  rw [List.getElem?_map] at e
  cases q : xs[i]? with
  | none => rw [q] at e; cases e
  | some x => rw [q] at e; cases e; exact ⟨x, rfl, rfl⟩
theorem ci_seq {tg l : Expr} {d : DenE} (hG : GOk X.K G) (h1 : CE X l d) : CI X tg l (dSeqI G d) := by
  refine ⟨iSeq X.K (wpE X l), pi_seq (peW l), fun ρ s h σ H R he hh q => ?_⟩
  refine h1.then he hh q fun x h1 ρ1 v H1 x1 r1 rv q1 => ?_
  split at q1
  · next t xs hx =>
    have hx : seqs G h1 x = some (t, xs) := hx
    obtain ⟨a, vs, rfl, r, hk⟩ := seqs_ok hG r1 rv hx
    have yld : ∀ i m ρ2 h2 H2 v H2', (walkOf x t xs).items[i]? = some m → Xt ρ1 ρ2 → RH ρ2 h2 H2 → YAt vs i H2 v H2' → ∃ ρ3, Xt ρ2 ρ3 ∧ RH ρ3 (itemAt m h2).2 H2' ∧ RV ρ3 (itemAt m h2).1 v := fun i m ρ2 h2 H2 v H2' e x2 r2 y => by
      obtain ⟨z, hz, rfl⟩ := items_v e
      obtain ⟨u, hu, ru⟩ := paired_get r hz
      obtain ⟨rfl, hv⟩ := y
      rw [hu] at hv
      cases hv
      exact ⟨ρ2, .refl _, r2, ru.up x2⟩
    have len : vs.length = (walkOf x t xs).items.length := by rw [← r.length]; exact (List.length_map _).symm
    refine ⟨a, rfl, ?_⟩
    rcases hk with ⟨rfl, hk⟩ | ⟨rfl, hk⟩
    · refine .inl ⟨⟨vs, .of hk⟩, q1 ρ1 H1 x1 r1 _ _ _ _ (walk_list (xs := vs)) len (fun ρ2 h2 H2 x2 r2 k => ?_) yld⟩
      cases rv with
      | r hr =>
        rcases (keep_sq (K := X.K) (ks := []) hr r x2 r2 k).1 with ⟨_, z⟩ | ⟨z, _⟩
        · exact z
        · cases z
      | k _ =>
        exfalso
        unfold seqs at hx
        dsimp only at hx
        split at hx <;> cases hx
      | scr => cases hx
    · refine .inr ⟨⟨vs, hk⟩, q1 ρ1 H1 x1 r1 _ _ _ _ (walk_tup (xs := vs)) len (fun ρ2 h2 H2 x2 r2 k => ?_) yld⟩
      cases rv with
      | r hr =>
        rcases (keep_sq (K := X.K) (ks := []) hr r x2 r2 k).1 with ⟨z, _⟩ | ⟨_, z⟩
        · cases z
        · exact z
      | k w =>
        unfold seqs at hx
        dsimp only at hx
        split at hx
        · next ys hy =>
          cases hx
          obtain ⟨vs', rr, s⟩ := hG _ _ hy
          rw [RVs.det r (rr ρ1)]
          exact s H2
        · cases hx
      | scr => cases hx
  · exact q1.elim
/-- range(n), range(lo, n) -/
def upTo (lo : Int) : Nat → List Item
  | 0 => []
  | n + 1 => .v (.int lo) :: upTo (lo + 1) n
theorem upTo_get : ∀ (n : Nat) (lo : Int) (i : Nat) (m : Item), (upTo lo n)[i]? = some m → m = .v (.int (lo + (i : Nat)))
  | 0, _, i, m, e => by simp [upTo] at e
  | n + 1, lo, 0, m, e => by simp [upTo] at e; rw [← e]; simp
  | n + 1, lo, i + 1, m, e => by
    have := upTo_get n (lo + 1) i m (by simpa [upTo] using e)
    rw [this]
    congr 2
    push_cast
    omega
theorem upTo_len : ∀ (n : Nat) (lo : Int), (upTo lo n).length = n
  | 0, _ => rfl
  | n + 1, lo => by simp [upTo, upTo_len n]
def dRng (lo hi : Int) (h : AH) : T (Walked × AH) := bif decide (-1000000 ≤ lo) && (decide (lo ≤ 1000000) && (decide (-1000000 ≤ hi) && decide (hi ≤ 1000000))) then .ok (⟨upTo lo (hi - lo).toNat, []⟩, h) else .bad
theorem dRng_inv {lo hi : Int} {h : AH} {P : Walked × AH → Prop} (q : (dRng lo hi h).sat P) : (-(2 ^ 62) ≤ lo ∧ lo < 2 ^ 62 ∧ -(2 ^ 62) ≤ hi ∧ hi < 2 ^ 62) ∧ P (⟨upTo lo (hi - lo).toNat, []⟩, h) := by
  unfold dRng at q
  cases hb : decide (-1000000 ≤ lo) && (decide (lo ≤ 1000000) && (decide (-1000000 ≤ hi) && decide (hi ≤ 1000000))) with
  | true =>
    rw [hb] at q
    simp only [Bool.and_eq_true, decide_eq_true_eq] at hb
    exact ⟨by omega, q⟩
  | false => rw [hb] at q; exact q.elim
theorem yld_rng {lo : Int} {n : Nat} {ρ1 : Ro} : ∀ i m ρ2 h2 H2 v H2', (Walked.mk (upTo lo n) []).items[i]? = some m → Xt ρ1 ρ2 → RH ρ2 h2 H2 → YFn (fun i => .int (lo + (i : Nat))) i H2 v H2' → ∃ ρ3, Xt ρ2 ρ3 ∧ RH ρ3 (itemAt m h2).2 H2' ∧ RV ρ3 (itemAt m h2).1 v := fun i m ρ2 h2 H2 v H2' e x2 r2 y => by
  have := upTo_get n lo i m e
  subst this
  obtain ⟨rfl, rfl⟩ := y
  exact ⟨ρ2, .refl _, r2, .int _⟩
def dR1 (d : DenA) : AE → AH → T (Walked × AH) := fun s h => (d s h).bind fun p => match p.1 with
  | [.int n] => dRng 0 n p.2
  | _ => .bad
theorem ci_r1 {tg : Expr} {q : Pos} {d : DenA} (hg : Gl X "range") (hm : X.mg "range" = none) (h1 : CA X [a] d) (hs : starEach [a] X.env = [(false, eval a X.env)] := by rfl) : CI X tg (.Call (.Name "range" q) [a] [] pos) (dR1 d) := by
  refine ⟨iRng1 (wpA X [a]), pi_range1 hg hm (paW [a]) hs, fun ρ s h σ H R he hh q => ?_⟩
  refine h1.then he hh q fun xs h1 ρ1 vs H1 x1 r1 rv q1 => ?_
  split at q1
  · next n e1 =>
    have e1 : xs = [.int n] := e1
    subst e1
    cases rv with
    | cons ra rr =>
      cases rr
      cases ra
      obtain ⟨⟨_, _, b1, b2⟩, q1⟩ := dRng_inv q1
      refine ⟨n, rfl, b1, b2, q1 ρ1 H1 x1 r1 _ _ _ _ (walk_range (lo := 0) (n := n.toNat)) ?_ (fun _ _ _ _ _ _ => trivial) (by rw [Int.sub_zero]; exact yld_rng)⟩
      show n.toNat = (upTo 0 (n - 0).toNat).length
      rw [upTo_len, Int.sub_zero]
  · exact q1.elim
def dR2 (d : DenA) : AE → AH → T (Walked × AH) := fun s h => (d s h).bind fun p => match p.1 with
  | [.int lo, .int n] => dRng lo n p.2
  | _ => .bad
theorem ci_r2 {tg : Expr} {q : Pos} {d : DenA} (hg : Gl X "range") (hm : X.mg "range" = none) (h1 : CA X [a, b] d) (hs : starEach [a, b] X.env = [(false, eval a X.env), (false, eval b X.env)] := by rfl) (hs2 : starEach [b] X.env = [(false, eval b X.env)] := by rfl) : CI X tg (.Call (.Name "range" q) [a, b] [] pos) (dR2 d) := by
  refine ⟨iRng2 (wpA X [a, b]), pi_range2 hg hm (paW [a, b]) hs hs2, fun ρ s h σ H R he hh q => ?_⟩
  refine h1.then he hh q fun xs h1 ρ1 vs H1 x1 r1 rv q1 => ?_
  split at q1
  · next lo n e1 =>
    have e1 : xs = [.int lo, .int n] := e1
    subst e1
    cases rv with
    | cons ra rr =>
      cases rr with
      | cons rb rr =>
        cases rr
        cases ra
        cases rb
        obtain ⟨bb, q1⟩ := dRng_inv q1
        exact ⟨lo, n, rfl, bb, q1 ρ1 H1 x1 r1 _ _ _ _ (walk_range (lo := lo) (n := (n - lo).toNat)) (upTo_len _ _).symm (fun _ _ _ _ _ _ => trivial) yld_rng⟩
  · exact q1.elim
/-! ### for -/
def loopF (keep : List (Bool × Nat × List AV)) (dg : DenG) (body : DenS) : List Item → AE → AH → T (AR × AH)
  | [], s, h => bif okKeep h keep then .ok (.nx s, h) else .bad
  | it :: its, s, h => bif okKeep h keep then (dg (itemAt it h).1 s (itemAt it h).2).bind fun s1 => (body s1 (itemAt it h).2).bind fun r => match r.1 with
    | .nx s2 => loopF keep dg body its s2 r.2
    | .ct s2 => loopF keep dg body its s2 r.2
    | .bk s2 => .ok (.nx s2, r.2)
    | .rt x => .ok (.rt x, r.2) else .bad
def dFor (di : AE → AH → T (Walked × AH)) (dg : DenG) (body : DenS) : DenS := fun s h => (di s h).bind fun p => loopF p.1.keep dg body p.1.items s p.2
theorem bif_ok {t : Bool} {α : Type} {r : T α} {P : α → Prop} (q : (bif t then r else T.bad).sat P) : t = true ∧ r.sat P := by
  cases t with
  | true => exact ⟨rfl, q⟩
  | false => exact q.elim
theorem cs_for {tg it : Expr} {t : TG} {is : List Nat} {di : AE → AH → T (Walked × AH)} {dg : DenG} {db : DenS} (hp : PassesOwn (model X.prog X.w) X.A X.env X.xe) (hc : X.calm = true) (h1 : CI X tg it di) (h2 : CG X tg t is dg) (h3 : CSs X body db) (hs : ∀ x, foldedSetIterable it X.env x = pure x := by intro _; rfl) :
    CS X (.For tg it body [] pos) (dFor di dg db) := fun ρ s h σ H D he hh q => by
  obtain ⟨wi, p1, k1⟩ := h1
  obtain ⟨p2, k2⟩ := h2
  refine ofS (ps_for hp hc p1 p2 (pssW body) hs) ?_
  refine k1 ρ s h σ H _ he hh (T.sat_imp (fun r q1 ρ1 H1 x1 r1 J n Gd Y W hn hGd hY => ?_) (T.sat_bind q))
  subst hn
  refine for_it W (fun i σ' H' => ∃ ρ' s' h', Xt ρ1 ρ' ∧ RE ρ' s' σ' ∧ RH ρ' h' H' ∧ (loopF r.1.keep dg db (r.1.items.drop i) s' h').sat (PD ρ D)) ⟨ρ1, s, r.2, .refl _, he.up x1, r1, q1⟩ ?_ ?_ ?_
  · rintro i σ' H' hi ⟨ρ', s', h', x', e', r', q'⟩
    refine hGd ρ' h' H' x' r' ?_
    cases hd : r.1.items.drop i with
    | nil => rw [hd] at q'; unfold loopF at q'; exact (bif_ok q').1
    | cons m ms => rw [hd] at q'; unfold loopF at q'; exact (bif_ok q').1
  · rintro i v σ' H' H2' hi ⟨ρ', s', h', x', e', r', q'⟩ y
    have hd : r.1.items.drop i = r.1.items[i] :: r.1.items.drop (i + 1) := List.drop_eq_getElem_cons hi
    rw [hd] at q'
    unfold loopF at q'
    obtain ⟨_, q'⟩ := bif_ok q'
    obtain ⟨ρ3, x3, r3, rv3⟩ := hY i _ ρ' h' H' v H2' (List.getElem?_eq_getElem hi) x' r' y
    refine k2 ρ3 _ v s' _ σ' H2' _ (e'.up x3) r3 rv3 (T.sat_imp (fun s1 q2 σ1 he1 _ => ?_) (T.sat_bind q'))
    refine h3 ρ3 s1 _ σ1 H2' _ he1 r3 (T.sat_imp (fun r5 q3 ρ4 H4 x4 r4 => ?_) (T.sat_bind q2))
    have x14 : Xt ρ1 ρ4 := (x'.trans x3).trans x4
    obtain ⟨o, h5⟩ := r5
    cases o with
    | nx s5 => exact fun σ5 he5 => ⟨ρ4, s5, h5, x14, he5, r4, q3⟩
    | ct s5 => exact fun σ5 he5 => ⟨ρ4, s5, h5, x14, he5, r4, q3⟩
    | bk s5 => exact fun σ5 he5 => q3 ρ4 H4 (x1.trans x14) r4 σ5 he5
    | rt x => exact fun v5 rv5 => q3 ρ4 H4 (x1.trans x14) r4 v5 rv5
  · rintro σ' H' ⟨ρ', s', h', x', e', r', q'⟩
    rw [List.drop_eq_nil_of_le (Nat.le_refl _)] at q'
    unfold loopF at q'
    obtain ⟨_, q'⟩ := bif_ok q'
    have q' : PD ρ D (.nx s', h') := q'
    exact q' ρ' H' (x1.trans x') r' σ' e'
end
end Z
end

section
set_option linter.all false
set_option maxRecDepth 100000
set_option maxHeartbeats 2000000
namespace Z
open PySem L2 PyProof.Rows
variable [Scr]
def wipeA (s : AE) : List Nat → AE
  | [] => s
  | v :: vs => (wipeA s vs).set v none
theorem RE.wipe {ρ : Ro} {s : AE} {σ : L2.St} (h : RE ρ s σ) : ∀ vs : List Nat, RE ρ (wipeA s vs) (L2.wipe σ vs)
  | [] => h
  | v :: vs => (RE.wipe h vs).del v
section
variable {X : Cx} {G : ST} {a b c e elt : Expr} {pos : Pos} {ifs : List Expr} {scope : Scope}
def CTs (X : Cx) (ifs : List Expr) (d : DenB) : Prop := ∀ ρ s h σ H Q, RE ρ s σ → RH ρ h H → (d s h).sat (PB ρ Q) → wpTs X ifs σ H Q
def dTrue : DenB := fun _ h => .ok (true, h)
theorem cts_nil : CTs X [] dTrue := fun ρ s h σ H Q he hh q pins s' I => (pts_nil (X := X)).run pins s' σ H Q I (q ρ H (.refl ρ) hh)
theorem cts_one {d : DenB} (h1 : CT X c d) : CTs X [c] d := fun ρ s h σ H Q he hh q pins s' I => (pts_one (ptW c)).run pins s' σ H Q I (h1 ρ s h σ H Q he hh q)
/-- within the block, whatever its frame -/
abbrev Blk (X : Cx) (scope : Scope) (F : Cx → Prop) : Prop := ∀ (s : Shared) (H0 : Hp) (C : Addr) (cl : List (Str × Addr)) (fp : List Addr), F (X.blk s H0 scope (compEnvC scope cl C X.env) fp)
def loopC (keep : List (Bool × Nat × List AV)) (dg : DenG) (tt : DenB) (te : DenE) (sw : AE) (k : Nat) : List Item → AH → T (AV × AH)
  | [], h => bif okKeep h keep then .ok (.r k, h) else .bad
  | it :: its, h => bif okKeep h keep then (dg (itemAt it h).1 sw (itemAt it h).2).bind fun s2 => (tt s2 (itemAt it h).2).bind fun b => bif b.1 then (te s2 b.2).bind fun y => (match y.2.get k with
      | some (.lst acc) => bif big acc.length then .bad else loopC keep dg tt te sw k its (y.2.set k (.lst (acc ++ [y.1])))
      | _ => .bad) else loopC keep dg tt te sw k its b.2 else .bad
def dLc (di : AE → AH → T (Walked × AH)) (dg : DenG) (vs : List Nat) (tt : DenB) (te : DenE) : DenE := fun s h => (di s h).bind fun p => loopC p.1.keep dg tt te (wipeA s vs) p.2.sz p.1.items (p.2.new (.lst []))
theorem loopC_keep {keep : List (Bool × Nat × List AV)} {dg : DenG} {tt : DenB} {te : DenE} {sw : AE} {k : Nat} {its : List Item} {h : AH} {P : AV × AH → Prop} (q : (loopC keep dg tt te sw k its h).sat P) : okKeep h keep = true := by
  cases its with
  | nil => unfold loopC at q; exact (bif_ok q).1
  | cons m ms => unfold loopC at q; exact (bif_ok q).1
/-- the reading of a comprehension -/
theorem lc_ok {wi : TI} {t : TG} {is : List Nat} {di : AE → AH → T (Walked × AH)} {dg : DenG} {dt : DenB} {de : DenE} {vs : List Nat} {ρ : Ro} {s : AE} {h : AH} {σ : L2.St} {H : Hp} {Q : VK} (his : ∀ i, i ∈ is → i ∈ vs)
    (k1 : ∀ ρ s h σ H R, RE ρ s σ → RH ρ h H → (di s h).sat (fun r => ∀ ρ1 H1, Xt ρ ρ1 → RH ρ1 r.2 H1 → ∀ (J : It) (n : Nat) (Gd : Hp → Prop) (Y : Nat → Hp → V → Hp → Prop), Walk J n Gd Y →
      n = r.1.items.length → (∀ ρ2 h2 H2, Xt ρ1 ρ2 → RH ρ2 h2 H2 → okKeep h2 r.1.keep = true → Gd H2) →
      (∀ i m ρ2 h2 H2 v H2', r.1.items[i]? = some m → Xt ρ1 ρ2 → RH ρ2 h2 H2 → Y i H2 v H2' → ∃ ρ3, Xt ρ2 ρ3 ∧ RH ρ3 (itemAt m h2).2 H2' ∧ RV ρ3 (itemAt m h2).1 v) → R J H1) → wi σ H R)
    (k2 : GK t is dg)
    (k3 : Blk X scope fun Y => CTs Y ifs dt) (k4 : Blk X scope fun Y => CE Y elt de) (he : RE ρ s σ) (hh : RH ρ h H) (q : (dLc di dg vs dt de s h).sat (PQ ρ Q)) : tLc wi t (wpTsB X scope ifs) (wpEB X scope elt) vs σ H Q := by
  refine k1 ρ s h σ H _ he hh (T.sat_imp (fun r q1 ρ1 H1 x1 r1 J n Gd Y W hn hGd hY => ?_) (T.sat_bind q))
  subst hn
  intro D hD
  have xD : Xt ρ1 (ext ρ1 r.2.sz D) := r1.xt D
  have rD : RH (ext ρ1 r.2.sz D) (r.2.new (.lst [])) (upd H1 D (.lst [])) := r1.new hD fun ρ' _ => .lst .nil upd_same
  have kD : (ext ρ1 r.2.sz D) r.2.sz = some D := by unfold ext; rw [if_pos rfl]
  refine lc_it (Qd := fun H => Q (.ref D) H) W (fun i H' => ∃ ρ' h', Xt (ext ρ1 r.2.sz D) ρ' ∧ RH ρ' h' H' ∧ (loopC r.1.keep dg dt de (wipeA s vs) r.2.sz (r.1.items.drop i) h').sat (PQ ρ Q)) ⟨_, _, .refl _, rD, q1⟩ ?_ ?_ ?_
  · rintro i H' hi ⟨ρ', h', x', r', q'⟩
    exact hGd ρ' h' H' (xD.trans x') r' (loopC_keep q')
  · rintro i v H' H2' hi ⟨ρ', h', x', r', q'⟩ y
    have hd : r.1.items.drop i = r.1.items[i] :: r.1.items.drop (i + 1) := List.drop_eq_getElem_cons hi
    rw [hd] at q'
    unfold loopC at q'
    obtain ⟨_, q'⟩ := bif_ok q'
    obtain ⟨ρ3, x3, r3, rv3⟩ := hY i _ ρ' h' H' v H2' (List.getElem?_eq_getElem hi) (xD.trans x') r' y
    have heW : RE ρ3 (wipeA s vs) (L2.wipe σ vs) := ((((he.up x1).up xD).up x').up x3).wipe vs
    have x03 : Xt (ext ρ1 r.2.sz D) ρ3 := x'.trans x3
    refine k2 ρ3 _ v _ _ _ H2' _ heW r3 rv3 (T.sat_imp (fun s1 q2 σ1 he1 o1 => ⟨?_, ?_⟩) (T.sat_bind q'))
    · have o2 := o1 vs his
      rw [o2]
      have key : ∀ (ws us : List Nat) (σ : L2.St), (∀ i, i ∈ ws → i ∈ us) → L2.wipe (L2.wipe σ ws) us = L2.wipe σ us := by
        intro ws
        induction ws with
        | nil => intro us σ _; rfl
        | cons k ws ih =>
          intro us σ hs
          show L2.wipe ((L2.wipe σ ws).set k none) us = _
          rw [wipe_set (hs k List.mem_cons_self)]
          exact ih us σ fun i hi => hs i (List.mem_cons_of_mem _ hi)
      exact key vs vs σ fun _ z => z
    · intro s' H0 C cl fp
      refine k3 s' H0 C cl fp ρ3 s1 _ σ1 H2' _ he1 r3 (T.sat_imp (fun b q3 ρ4 H4 x4 r4 => ?_) (T.sat_bind q2))
      obtain ⟨b, h4⟩ := b
      cases b with
      | false => exact ⟨ρ4, h4, x03.trans x4, r4, q3⟩
      | true =>
        rw [if_pos rfl]
        intro s' H0 C cl fp
        refine k4 s' H0 C cl fp ρ4 s1 h4 σ1 H4 _ (he1.up x4) r4 (T.sat_imp (fun y q4 ρ5 v5 H5 x5 r5 rv5 => ?_) (T.sat_bind q3))
        have hk : ρ5 r.2.sz = some D := x5 _ _ (x4 _ _ (x03 _ _ kD))
        split at q4
        · next acc hacc =>
          obtain ⟨hb, q4⟩ := bif_inv q4
          have ro := r5.get hacc hk
          cases ro with
          | lst ra hl =>
            exact ⟨_, hl, by rw [← ra.length, sizeLine_eq]; omega, ρ5, _, (x03.trans x4).trans x5, r5.set hk (.lst (paired_append ra (.cons rv5 .nil)) upd_same), q4⟩
        · exact q4.elim
  · rintro H' ⟨ρ', h', x', r', q'⟩
    rw [List.drop_eq_nil_of_le (Nat.le_refl _)] at q'
    unfold loopC at q'
    obtain ⟨_, q'⟩ := bif_ok q'
    have q' : PQ ρ Q (.r r.2.sz, h') := q'
    exact q' ρ' _ H' ((x1.trans xD).trans x') r' (.r (x' _ _ kD))
theorem ce_lc {tg it : Expr} {t : TG} {is : List Nat} {di : AE → AH → T (Walked × AH)} {dg : DenG} {dt : DenB} {de : DenE} {own : List (Str × Nat)} (hc : X.calm = true) (hN : X.N.Nodup) (h1 : CI X tg it di) (ok : BlkOk X.N X.env.scope scope own)
    (h2 : Blk X scope fun Y => PG Y tg t) (hk : GK t is dg) (his : ∀ i, i ∈ is → i ∈ own.map (·.2)) (h3 : Blk X scope fun Y => CTs Y ifs dt) (h4 : Blk X scope fun Y => CE Y elt de) (hs : ∀ x, foldedSetIterable it X.env x = pure x := by intro _; rfl) :
    CE X (.ListComp elt [⟨tg, it, ifs, 0⟩] scope pos) (dLc di dg (own.map (·.2)) dt de) := fun ρ s h σ H Q he hh q => by
  obtain ⟨wi, p1, k1⟩ := h1
  refine ofE (pe_lc (tt := wpTsB X scope ifs) (te := wpEB X scope elt) hc hN p1 ok h2 (fun s H C cl fp => ⟨fun pins s' σ H' Q I h => h s H C cl fp pins s' I⟩) (fun s H C cl fp => ⟨fun pins s' σ H' Q I h => h s H C cl fp pins s' I⟩) hs) ?_
  exact lc_ok his k1 hk h3 h4 he hh q
theorem cs_setLc {i : Nat} {y : Str} {py spos : Pos} {tg it : Expr} {t : TG} {is : List Nat} {di : AE → AH → T (Walked × AH)} {dg : DenG} {dt : DenB} {de : DenE} {own : List (Str × Nat)} (hc : X.calm = true) (hN : X.N.Nodup) (hy : X.N[i]? = some y) (hyl : X.env.scope.names.lookup y = some .local)
    (hsw : swapsWith (.ListComp elt [⟨tg, it, ifs, 0⟩] scope pos) (some (.Name y py)) spos.line X.env = pure true) (h1 : CI X tg it di) (ok : BlkOk X.N X.env.scope scope own)
    (h2 : Blk X scope fun Y => PG Y tg t) (hk : GK t is dg) (his : ∀ i, i ∈ is → i ∈ own.map (·.2)) (h3 : Blk X scope fun Y => CTs Y ifs dt) (h4 : Blk X scope fun Y => CE Y elt de) (hs : ∀ x, foldedSetIterable it X.env x = pure x := by intro _; rfl) :
    CS X (.Assign [.Name y py] (.ListComp elt [⟨tg, it, ifs, 0⟩] scope pos) spos) (dAsg (dLc di dg (own.map (·.2)) dt de) (dgN i)) := fun ρ s h σ H D he hh q => by
  obtain ⟨wi, p1, k1⟩ := h1
  refine ofS (ps_setLc (tt := wpTsB X scope ifs) (te := wpEB X scope elt) hc hN hy hyl hsw p1 ok h2 (fun s H C cl fp => ⟨fun pins s' σ H' Q I h => h s H C cl fp pins s' I⟩) (fun s H C cl fp => ⟨fun pins s' σ H' Q I h => h s H C cl fp pins s' I⟩) hs) ?_
  refine lc_ok his k1 hk h3 h4 he hh (T.sat_imp (fun r q1 ρ1 v H1 x1 r1 rv => ?_) (T.sat_bind q))
  exact q1 ρ1 H1 x1 r1 _ ((he.up x1).set rv i)
end
end Z
end

section
set_option linter.all false
set_option maxRecDepth 100000
set_option maxHeartbeats 2000000
namespace Z
open PySem L2 PyProof.Rows
variable [Scr]
abbrev FnF := List AV → AH → T (AV × AH)
/-- a def hands back what its mirror does -/
def spF (n : Nat) (F : FnF) : Sp := fun vs H Q _ => ∃ ρ h xs, xs.length = n ∧ RH ρ h H ∧ RVs ρ xs vs ∧ (F xs h).sat (PQ ρ Q)
def startA (n : Nat) (xs : List AV) : AE := xs.map some ++ List.replicate (n - xs.length) none
def runB (n : Nat) (d : DenS) : FnF := fun xs h => (d (startA n xs) h).bind fun p => match p.1 with
  | .nx _ => .ok (.non, p.2)
  | .rt x => .ok (x, p.2)
  | _ => .bad
theorem paired_rep {α β : Type} {R : α → β → Prop} {x : α} {y : β} (h : R x y) : ∀ n, Paired R (List.replicate n x) (List.replicate n y)
  | 0 => .nil
  | n + 1 => .cons h (paired_rep h n)
theorem start_re {ρ : Ro} {N : List Str} {xs : List AV} {vs : List V} (r : RVs ρ xs vs) : RE ρ (startA N.length xs) (L2.start N vs) := by
  unfold startA L2.start
  rw [r.length]
  refine paired_append ?_ (paired_rep (fun x hx => nomatch hx) _)
  clear N
  induction r with
  | nil => exact .nil
  | cons a b ih => exact .cons (fun x hx => by cases hx; exact ⟨_, rfl, a⟩) ih
theorem spF_body {X : Cx} {N : List Str} {st : List Stmt} {d : DenS} {n : Nat} {vs : List V} {H : Hp} {Q : VK} {E : XK} (hX : X.N = N) (c : CSs X st d) (hsp : spF n (runB N.length d) vs H Q E) : wpSs X st { nx := fun _ H' => Q .non H', rt := Q } (L2.start N vs) H := by
  obtain ⟨ρ, h, xs, _, hh, rv, q⟩ := hsp
  refine c ρ _ h _ H _ (start_re rv) hh (T.sat_imp (fun r q1 ρ1 H1 x1 r1 => ?_) (T.sat_bind q))
  obtain ⟨o, h1⟩ := r
  cases o with
  | nx s => exact fun σ1 he1 => q1 ρ1 _ H1 x1 r1 .non
  | rt x => exact fun v rv => q1 ρ1 v H1 x1 r1 rv
  | bk s => exact fun σ1 he1 => q1.elim
  | ct s => exact fun σ1 he1 => q1.elim
theorem fnMK {P : Program} {w : World} {K : PySem.W.Frag} {mg : Str → Option Value} {base : Heap} {k : Nat} {f : Addr} {x qual : Str} {st : Stmt} {fd : FuncData} {N ps : List Str} (F : Fun K x qual st f fd) (S : FnScope N ps (defScope st)) {d : DenS}
    (body : ∀ (cdv : Value) (A : Around) (outer : List Env) (s : Shared) (H : Hp) (E : XK), Room k (bx CX0 P w K mg base N qual st f cdv A outer s H E).nox.A → CSs (bx CX0 P w K mg base N qual st f cdv A outer s H E).nox (defBody st) d) :
    FnOk P w K mg base CX0 (k + 1) f fd ps (spF ps.length (runB N.length d)) :=
  F.ok S (fun vs H Q E ⟨ρ, h, xs, hl, _, rv, _⟩ => by rw [← rv.length]; exact hl) fun cdv A outer s H vs Q E hr hsp => ⟨wpSs _ _, pssW _, spF_body rfl (body cdv A outer s H E hr) hsp⟩
theorem fnMG {P : Program} {w : World} {K : PySem.W.Frag} {mg : Str → Option Value} {base : Heap} {k : Nat} {f : Addr} {x qual : Str} {st : Stmt} {fd : FuncData} {N ps : List Str} (F : Fun K x qual st f fd) (S : FnScope N ps (defScope st)) {d : DenS}
    (body : ∀ (cdv : Value) (A : Around) (outer : List Env) (s : Shared) (H : Hp) (E : XK), A.guards = some [] → Room k (bx CX0 P w K mg base N qual st f cdv A outer s H E).nox.A → CSs (bx CX0 P w K mg base N qual st f cdv A outer s H E).nox (defBody st) d) :
    FnG P w K mg base CX0 (k + 1) f fd ps (spF ps.length (runB N.length d)) := by
  refine fnG_of F S (fun vs H Q E ⟨ρ, h, xs, hl, _, rv, _⟩ => by rw [← rv.length]; exact hl) fun cdv A outer s H vs Q E hg hr hsp => ?_
  intro pins s1 I
  exact (PSs.nox (pssW _)).run pins s1 _ H _ I (spF_body rfl (body cdv A outer s H E hg hr) hsp)
section
variable {X : Cx} {G : ST} {a b c e o : Expr} {es : List Expr} {pos q p : Pos} {k : Nat} {f C : Addr} {fd : FuncData} {ps : List Str} {n : Nat} {F : FnF} {x m : Str} {da : DenA} {de : DenE}
/-! ### calls of defs -/
def dCall (n : Nat) (F : FnF) (d : DenA) : DenE := fun s h => (d s h).bind fun p => bif Nat.beq p.1.length n then F p.1 p.2 else .bad
theorem spF_of {ρ ρ1 : Ro} {xs : List AV} {h1 : AH} {vs : List V} {H1 : Hp} {Q : VK} {E : XK} (x1 : Xt ρ ρ1) (r1 : RH ρ1 h1 H1) (rv : RVs ρ1 xs vs) (q : (bif Nat.beq xs.length n then F xs h1 else .bad).sat (PQ ρ Q)) : spF n F vs H1 Q E := by
  obtain ⟨hl, q⟩ := bif_ok q
  exact ⟨ρ1, h1, xs, Nat.eq_of_beq_eq_true hl, r1, rv, T.sat_imp (fun _ k => k.up x1) q⟩
theorem ce_callG (Fn : FnG X.prog X.w X.K X.mg X.base CX0 k f fd ps (spF n F)) (hgd : X.A.guards = some []) (hr : Room k X.A) (hg : Gl X x) (hm : X.mg x = some (.ref f)) (hk : PySem.W.keepIn X.K (.ref f) = true) (hb : Binds X.K fd ps []) (h1 : CA X (e :: es) da)
    (hdb : (x == ("__debug__" : Str)) = false := by decide) (he : starEach (e :: es) X.env = (false, eval e X.env) :: starEach es X.env := by rfl) (hpl : (backTo pos (starEach es X.env)).any (·.1) = false := by rfl) : CE X (.Call (.Name x q) (e :: es) [] pos) (dCall n F da) := fun ρ s h σ H Q he' hh qq => by
  refine ofE (pe_callG (E := E0) Fn hgd hr hg hm hk hb pass0 hdb he hpl) (h1.then he' hh qq fun xs h1 ρ1 vs H1 x1 r1 rv q1 => ?_)
  exact spF_of x1 r1 rv q1
theorem ce_call (Fn : FnOk X.prog X.w X.K X.mg X.base CX0 k f fd ps (spF n F)) (hr : Room k X.A) (hg : Gl X x) (hm : X.mg x = some (.ref f)) (hk : PySem.W.keepIn X.K (.ref f) = true) (hb : Binds X.K fd ps []) (h1 : CA X (e :: es) da)
    (hdb : (x == ("__debug__" : Str)) = false := by decide) (he : starEach (e :: es) X.env = (false, eval e X.env) :: starEach es X.env := by rfl) (hpl : (backTo pos (starEach es X.env)).any (·.1) = false := by rfl) : CE X (.Call (.Name x q) (e :: es) [] pos) (dCall n F da) := fun ρ s h σ H Q he' hh qq => by
  refine ofE (pe_call (E := E0) Fn hr hg hm hk hb .nil pass0 (paW (e :: es)) hdb he hpl) ?_
  refine h1.then he' hh qq fun xs h1 ρ1 vs H1 x1 r1 rv q1 => ?_
  rw [List.append_nil]
  exact spF_of x1 r1 rv q1
def dCall0 (F : FnF) : DenE := fun _ h => F [] h
theorem ce_callG0 (Fn : FnG X.prog X.w X.K X.mg X.base CX0 k f fd ps (spF 0 F)) (hgd : X.A.guards = some []) (hr : Room k X.A) (hg : Gl X x) (hm : X.mg x = some (.ref f)) (hk : PySem.W.keepIn X.K (.ref f) = true) (hb : Binds X.K fd ps [])
    (hdb : (x == ("__debug__" : Str)) = false := by decide) : CE X (.Call (.Name x q) [] [] pos) (dCall0 F) := fun ρ s h σ H Q he' hh qq =>
  ofE (pe_callG0 (E := E0) Fn hgd hr hg hm hk hb pass0 hdb) ⟨ρ, h, [], rfl, hh, .nil, qq⟩
/-! ### an instance is made -/
def dMake (C : Addr) (n : Nat) (F : FnF) (d : DenA) : DenE := fun s h => (d s h).bind fun p => bif Nat.beq (p.1.length + 1) n then (F (.r p.2.sz :: p.1) (p.2.new (.ins C []))).bind fun r => (match r.1 with
  | .non => .ok (.r p.2.sz, r.2)
  | _ => .bad) else .bad
theorem make_sp {ρ ρ1 : Ro} {xs : List AV} {h1 : AH} {vs : List V} {H1 : Hp} {Q : VK} {E : XK} (x1 : Xt ρ ρ1) (r1 : RH ρ1 h1 H1) (rv : RVs ρ1 xs vs)
    (q : (bif Nat.beq (xs.length + 1) n then (F (.r h1.sz :: xs) (h1.new (.ins C []))).bind fun r => (match r.1 with
      | .non => .ok (.r h1.sz, r.2)
      | _ => .bad) else .bad).sat (PQ ρ Q)) : ∀ x dx, H1 x = none → H1 dx = none → dx ≠ x → spF n F (.ref x :: vs) (upd (upd H1 dx (.own x)) x (.ins C dx [])) (fun v H2 => v = .non ∧ Q (.ref x) H2) E := fun x dx hx hdx hne => by
  obtain ⟨hl, q⟩ := bif_ok q
  have r2 := r1.side (u := .own x) hdx
  have hx2 : (upd H1 dx (.own x)) x = none := by rw [upd_ne (fun z => hne z.symm)]; exact hx
  have r3 := r2.new (o := .ins C []) (u := .ins C dx []) hx2 fun ρ' _ => .ins .nil upd_same
  have k3 : (ext ρ1 h1.sz x) h1.sz = some x := by unfold ext; rw [if_pos rfl]
  refine ⟨_, _, .r h1.sz :: xs, Nat.eq_of_beq_eq_true hl, r3, .cons (.r k3) (RVs.up (r1.xt x) rv), T.sat_imp (fun r q1 ρ4 v H4 x4 r4 rv4 => ?_) (T.sat_bind q)⟩
  obtain ⟨y, h4⟩ := r
  cases rv4 with
  | non => exact ⟨rfl, q1 ρ4 _ H4 ((x1.trans (r1.xt x)).trans x4) r4 (.r (x4 _ _ k3))⟩
  | bl _ => exact q1.elim
  | int _ => exact q1.elim
  | str _ => exact q1.elim
  | rep _ => exact q1.elim
  | scr => exact q1.elim
  | r _ => exact q1.elim
  | k _ => exact q1.elim
theorem ce_make (M : Mk X.K C f) (Fn : FnOk X.prog X.w X.K X.mg X.base CX0 k f fd ps (spF n F)) (hr : Room (k + 1) X.A) (hg : Gl X x) (hm : X.mg x = some (.ref C)) (hb : Binds X.K fd ps []) (h1 : CA X (e :: es) da)
    (hdb : (x == ("__debug__" : Str)) = false := by decide) (he : starEach (e :: es) X.env = (false, eval e X.env) :: starEach es X.env := by rfl) (hpl : (backTo pos (starEach es X.env)).any (·.1) = false := by rfl) : CE X (.Call (.Name x q) (e :: es) [] pos) (dMake C n F da) := fun ρ s h σ H Q he' hh qq => by
  refine ofE (pe_make (E := E0) M Fn hr hg hm hb .nil pass0 (paW (e :: es)) hdb he hpl) ?_
  refine h1.then he' hh qq fun xs h1 ρ1 vs H1 x1 r1 rv q1 => ?_
  rw [List.append_nil]
  exact make_sp x1 r1 rv q1
/-! ### fields, properties -/
def insOf (C : Addr) (h : AH) : AV → Option (List (Str × AV))
  | .r i => match h.get i with
    | some (.ins D fs) => bif Nat.beq C D then some fs else none
    | _ => none
  | _ => none
theorem insOf_ok {ρ : Ro} {h : AH} {H : Hp} {y : AV} {v : V} {fs : List (Str × AV)} (hh : RH ρ h H) (rv : RV ρ y v) (e : insOf C h y = some fs) : ∃ i a dx vs, y = .r i ∧ v = .ref a ∧ ρ i = some a ∧ RF ρ fs vs ∧ H a = some (.ins C dx vs) := by
  cases rv with
  | r hr =>
    unfold insOf at e
    dsimp only at e
    split at e
    · next D gs hy =>
      cases hb : Nat.beq C D with
      | true =>
        rw [hb] at e
        cases e
        have := Nat.eq_of_beq_eq_true hb
        subst this
        cases hh.get hy hr with
        | ins r hl => exact ⟨_, _, _, _, rfl, rfl, hr, r, hl⟩
      | false => rw [hb] at e; cases e
    · cases e
  | k v => cases e
  | non => cases e
  | bl _ => cases e
  | int _ => cases e
  | str _ => cases e
  | rep _ => cases e
  | scr => cases e
theorem RF.lookup {ρ : Ro} {g : Str} : ∀ {fs : List (Str × AV)} {vs : List (Str × V)} {z : AV}, RF ρ fs vs → fs.lookup g = some z → ∃ v, vs.lookup g = some v ∧ RV ρ z v
  | _, _, _, .nil, e => by cases e
  | (n, y) :: fs, (n', v) :: vs, z, .cons ⟨hn, hv⟩ t, e => by
    have hn : n = n' := hn
    subst hn
    simp only [List.lookup_cons] at e ⊢
    cases hb : g == n with
    | true => rw [hb] at e; cases e; exact ⟨v, rfl, hv⟩
    | false => rw [hb] at e; exact RF.lookup t e
theorem RF.lookup_none {ρ : Ro} {g : Str} : ∀ {fs : List (Str × AV)} {vs : List (Str × V)}, RF ρ fs vs → fs.lookup g = none → vs.lookup g = none
  | _, _, .nil, e => rfl
  | (n, y) :: fs, (n', v) :: vs, .cons ⟨hn, hv⟩ t, e => by
    have hn : n = n' := hn
    subst hn
    simp only [List.lookup_cons] at e ⊢
    cases hb : g == n with
    | true => rw [hb] at e; cases e
    | false => rw [hb] at e; exact RF.lookup_none t e
def dFld (C : Addr) (g : Str) (d : DenE) : DenE := fun s h => (d s h).bind fun p => match insOf C p.2 p.1 with
  | some fs => match fs.lookup g with
    | some z => .ok (z, p.2)
    | none => .bad
  | none => .bad
theorem ce_fld (cl : Cls X.K C) (na : NoAttr X.K C m) (h1 : CE X e de) (hb : attributeBase e m X.env (eval e X.env) = eval e X.env := by rfl) : CE X (.Attribute e m pos) (dFld C m de) := fun ρ s h σ H Q he hh qq => by
  refine ofE (pe_fld (peW e) hb) (h1.then he hh qq fun y h1 ρ1 v H1 x1 r1 rv q1 => ?_)
  split at q1
  · next fs hfs =>
    obtain ⟨i, a, dx, vs, _, rfl, hi, rf, hl⟩ := insOf_ok r1 rv hfs
    split at q1
    · next z hz =>
      obtain ⟨u, hu, ru⟩ := rf.lookup hz
      exact ⟨a, C, dx, vs, u, rfl, hl, cl, na, hu, q1 ρ1 u H1 x1 r1 ru⟩
    · exact q1.elim
  · exact q1.elim
def putA (g : Str) (z : AV) : List (Str × AV) → List (Str × AV)
  | [] => [(g, z)]
  | p :: ps => bif decide (p.1 = g) then (g, z) :: ps else p :: putA g z ps
def dProp (C : Addr) (n : Nat) (F : FnF) (d : DenE) : DenE := fun s h => (d s h).bind fun p => match insOf C p.2 p.1 with
  | some _ => bif Nat.beq 1 n then F [p.1] p.2 else .bad
  | none => .bad
theorem ce_prop {pr : Addr} (cl : Cls X.K C) (hp : PropOf X.K C m pr f) (Fn : FnOk X.prog X.w X.K X.mg X.base CX0 k f fd ps (spF n F)) (hr : Room (k + 1) X.A) (hb : Binds X.K fd ps []) (h1 : CE X e de) (hba : attributeBase e m X.env (eval e X.env) = eval e X.env := by rfl) : CE X (.Attribute e m pos) (dProp C n F de) := fun ρ s h σ H Q he hh qq => by
  refine ofE (pe_prop (E := E0) (peW e) cl hp Fn hr hb .nil pass0 hba) (h1.then he hh qq fun y h1 ρ1 v H1 x1 r1 rv q1 => ?_)
  split at q1
  · next fs hfs =>
    obtain ⟨i, a, dx, vs, _, rfl, hi, rf, hl⟩ := insOf_ok r1 rv hfs
    exact ⟨a, dx, vs, rfl, hl, spF_of (xs := [y]) x1 r1 (.cons rv .nil) q1⟩
  · exact q1.elim
/-- o.m(..), a method of its own -/
def dMeth (C : Addr) (m : Str) (n : Nat) (F : FnF) (d : DenE) (da : DenA) : DenE := fun s h => (d s h).bind fun p => match insOf C p.2 p.1 with
  | some fs => (match fs.lookup m with
    | none => (da s p.2).bind fun r => bif Nat.beq (r.1.length + 1) n then F (p.1 :: r.1) r.2 else .bad
    | some _ => .bad)
  | none => .bad
theorem ce_meth (cl : Cls X.K C) (hm : Meth X.K C m f) (Fn : FnOk X.prog X.w X.K X.mg X.base CX0 k f fd ps (spF n F)) (hr : Room k X.A) (hb : Binds X.K fd ps []) (h1 : CE X o de) (h2 : CA X (e :: es) da)
    (ht : PE X (.Call (.Attribute o m p) (e :: es) [] pos) (tMeth C m (spF n F) [] E0 (wpE X o) (wpA X (e :: es)))) : CE X (.Call (.Attribute o m p) (e :: es) [] pos) (dMeth C m n F de da) := fun ρ s h σ H Q he hh qq => by
  refine ofE ht (h1.then he hh qq fun y h1 ρ1 v H1 x1 r1 rv q1 => ?_)
  split at q1
  · next fs hfs =>
    obtain ⟨i, a, dx, vs, _, rfl, hi, rf, hl⟩ := insOf_ok r1 rv hfs
    split at q1
    · next hn =>
      refine ⟨a, dx, vs, rfl, hl, rf.lookup_none hn, h2.then (he.up x1) r1 q1 fun ys h2 ρ2 us H2 x2 r2 ru q2 => ?_⟩
      rw [List.append_nil]
      exact spF_of (xs := y :: ys) (x1.trans x2) r2 (.cons (rv.up x2) ru) q2
    · exact q1.elim
  · exact q1.elim
/-! ### fields that are set -/
theorem putF_ok {ρ : Ro} {g : Str} {z : AV} {u : V} (rz : RV ρ z u) : ∀ {fs : List (Str × AV)} {vs : List (Str × V)}, RF ρ fs vs → fs.lookup g = none → RF ρ (fs ++ [(g, z)]) (vs ++ [(g, u)]) := fun r _ => paired_append r (.cons ⟨rfl, rz⟩ .nil)
end
end Z
end

section
set_option linter.all false
set_option maxRecDepth 100000
set_option maxHeartbeats 2000000
namespace Z
open PySem L2 PyProof.Rows
variable [Scr]
section
variable {X : Cx} {G : ST} {a b c e o value : Expr} {es : List Expr} {pos pos' q p apos : Pos} {k : Nat} {f C : Addr} {fd : FuncData} {ps : List Str} {n : Nat} {F : FnF} {x m : Str} {da : DenA} {de dv : DenE}
/-! ### a field is set -/
theorem RF.put {ρ : Ro} {g : Str} {z : AV} {u : V} (rz : RV ρ z u) : ∀ {fs : List (Str × AV)} {vs : List (Str × V)}, RF ρ fs vs → RF ρ (putA g z fs) (putF g u vs)
  | _, _, .nil => .cons ⟨rfl, rz⟩ .nil
  | (n, y) :: fs, (n', v) :: vs, .cons ⟨hn, hv⟩ t => by
    have hn : n = n' := hn
    subst hn
    unfold putA putF
    dsimp only
    by_cases h : n = g
    · rw [if_pos h, decide_eq_true h]
      exact .cons ⟨h.symm, rz⟩ t
    · rw [if_neg h, decide_eq_false h]
      exact .cons ⟨rfl, hv⟩ (RF.put rz t)
def dFldS (C : Addr) (g : Str) (dv d : DenE) : DenS := fun s h => (dv s h).bind fun r => (d s r.2).bind fun p => match p.1 with
  | .r i => match insOf C p.2 p.1 with
    | some fs => bif Nat.ble 1000 fs.length then .bad else .ok (.nx s, p.2.set i (.ins C (putA g r.1 fs)))
    | none => .bad
  | _ => .bad
theorem cs_fld (cl : Cls X.K C) (na : NoAttr X.K C m) (h1 : CE X value dv) (h2 : CE X o de) (hs : swapsWith value (some (.Attribute o m pos')) pos.line X.env = pure false := by rfl) : CS X (.Assign [.Attribute o m pos'] value pos) (dFldS C m dv de) := fun ρ s h σ H D he hh qq => by
  refine ofS (ps_fld (peW o) (peW value) hs) (h1.then he hh qq fun y h1 ρ1 v H1 x1 r1 rv q1 => ?_)
  refine h2.then (he.up x1) r1 q1 fun z h2 ρ2 u H2 x2 r2 ru q2 => ?_
  split at q2
  · next i e1 =>
    have e1 : z = .r i := e1
    subst e1
    split at q2
    · next fs hfs =>
      obtain ⟨j, a, dx, vs, ej, rfl, hi, rf, hl⟩ := insOf_ok r2 ru hfs
      cases ej
      cases hb : Nat.ble 1000 fs.length with
      | true => rw [hb] at q2; exact q2.elim
      | false =>
        rw [hb] at q2
        have q2 : PD ρ D (.nx s, h2.set i (.ins C (putA m y fs))) := q2
        refine ⟨a, C, dx, vs, rfl, hl, cl, na, ?_, ?_⟩
        · rw [← rf.length]
          exact Nat.lt_of_not_le fun z => by rw [Nat.ble_eq_true_of_le z] at hb; cases hb
        · exact q2 ρ2 _ (x1.trans x2) (r2.set hi (.ins (rf.put (rv.up x2)) upd_same)) σ ((he.up x1).up x2)
    · exact q2.elim
  · exact q2.elim
/-! ### built-in functions by their values -/
def CbC (R : List V → Hp → VK → Prop) (F : FnF) : Prop := ∀ ρ xs h vs H Q, RH ρ h H → RVs ρ xs vs → (F xs h).sat (PQ ρ Q) → R vs H Q
def dCb (F : FnF) (d : DenA) : DenE := fun s h => (d s h).bind fun p => F p.1 p.2
theorem ce_callB {id : String} {R : List V → Hp → VK → Prop} (hc : CallR X (.builtin id) R) (cb : CbC R F) (hg : Gl X x) (hm : X.mg x = none) (hv : bootBuiltins x = some (.builtin id)) (h1 : CA X (e :: es) da)
    (hn : x ≠ "__name__" := by decide) (hdb : (x == ("__debug__" : Str)) = false := by decide) (he : starEach (e :: es) X.env = (false, eval e X.env) :: starEach es X.env := by rfl) (hpl : (backTo pos (starEach es X.env)).any (·.1) = false := by rfl) :
    CE X (.Call (.Name x q) (e :: es) [] pos) (dCb F da) := fun ρ s h σ H Q he' hh qq =>
  ofE (pe_callB hc hg hm hv (paW _) hn hdb he hpl) (h1.then he' hh qq fun xs h1 ρ1 vs H1 x1 r1 rv q1 => cb ρ1 xs h1 vs H1 Q r1 rv (T.sat_imp (fun _ k => k.up x1) q1))
theorem ce_callTy {Ty : String} {R : List V → Hp → VK → Prop} (hc : CallR X (.type Ty) R) (cb : CbC R F) (hg : Gl X x) (hm : X.mg x = none) (hv : bootBuiltins x = some (.type Ty)) (h1 : CA X (e :: es) da)
    (hn : x ≠ "__name__" := by decide) (hdb : (x == ("__debug__" : Str)) = false := by decide) (he : starEach (e :: es) X.env = (false, eval e X.env) :: starEach es X.env := by rfl) (hpl : (backTo pos (starEach es X.env)).any (·.1) = false := by rfl) :
    CE X (.Call (.Name x q) (e :: es) [] pos) (dCb F da) := fun ρ s h σ H Q he' hh qq =>
  ofE (pe_callTy hc hg hm hv (paW _) hn hdb he hpl) (h1.then he' hh qq fun xs h1 ρ1 vs H1 x1 r1 rv q1 => cb ρ1 xs h1 vs H1 Q r1 rv (T.sat_imp (fun _ k => k.up x1) q1))
theorem callr_or {g : Value} {r1 r2 : List V → Hp → VK → Prop} (h1 : CallR X g r1) (h2 : CallR X g r2) : CallR X g (fun xs H Q => r1 xs H Q ∨ r2 xs H Q) := fun pins s σ H xs us Q I r h => h.elim (h1 pins s σ H xs us Q I r) (h2 pins s σ H xs us Q I r)
/-- len -/
def aLen (G : ST) (C : Addr) (n : Nat) (F : FnF) : FnF := fun xs h => match xs with
  | [.str y] => bif big y.length then .bad else .ok (.int (y.length : Nat), h)
  | [x] => match seqs G h x with
    | some (_, ys) => .ok (.int (ys.length : Nat), h)
    | none => match insOf C h x with
      | some _ => bif Nat.beq 1 n then (F [x] h).bind fun r => (match r.1 with
        | .int i => bif decide (0 ≤ i) && decide (i < 1000000) then .ok (.int i, r.2) else .bad
        | _ => .bad) else .bad
      | none => .bad
  | _ => .bad
def rLenA (K : PySem.W.Frag) (C : Addr) (n : Nat) (F : FnF) : List V → Hp → VK → Prop := fun xs H Q => (∃ v m, xs = [v] ∧ ((∃ y, v = .str y ∧ y.length ≤ sizeLine ∧ m = y.length) ∨ (∃ a vs, v = .ref a ∧ vs.length = m ∧ ((H a = some (.lst vs)) ∨ SqT K H a vs))) ∧ Q (.int (m : Nat)) H) ∨ rLenO C (spF n F) xs H Q
theorem cb_len {K : PySem.W.Frag} (hG : GOk K G) : CbC (rLenA K C n F) (aLen G C n F) := fun ρ xs h vs H Q hh rv qq => by
  unfold aLen at qq
  split at qq
  · next y =>
    cases rv with
    | cons r1 r2 =>
      cases r2
      cases r1
      obtain ⟨hl, qq⟩ := bif_inv qq
      have qq : PQ ρ Q (_, h) := qq
      exact .inl ⟨_, _, rfl, .inl ⟨y, rfl, by rw [sizeLine_eq]; omega, rfl⟩, qq ρ _ H (.refl ρ) hh (.int _)⟩
  · next x _ =>
    cases rv with
    | cons r1 r2 =>
      cases r2
      split at qq
      · next t ys hy =>
        obtain ⟨a, vs, rfl, r, hk⟩ := seqs_ok hG hh r1 hy
        refine .inl ⟨_, _, rfl, .inr ⟨a, vs, rfl, r.length.symm, ?_⟩, qq ρ _ H (.refl ρ) hh (.int _)⟩
        rcases hk with ⟨_, hk⟩ | ⟨_, hk⟩
        · exact .inl hk
        · exact .inr hk
      · split at qq
        · next fs hfs =>
          obtain ⟨i, a, dx, vs, _, rfl, hi, rf, hl⟩ := insOf_ok hh r1 hfs
          obtain ⟨hn, qq⟩ := bif_ok qq
          refine .inr ⟨a, dx, vs, rfl, hl, ρ, h, [x], Nat.eq_of_beq_eq_true hn, hh, .cons r1 .nil, T.sat_imp (fun r q1 ρ1 v H1 x1 r1 rv => ?_) (T.sat_bind qq)⟩
          obtain ⟨z, h1⟩ := r
          cases rv with
          | int j =>
            obtain ⟨hb, q1⟩ := bif_ok q1
            simp only [Bool.and_eq_true, decide_eq_true_eq] at hb
            have q1 : PQ ρ Q (_, h1) := q1
            exact ⟨j, rfl, hb.1, by omega, q1 ρ1 _ H1 x1 r1 (.int _)⟩
          | non => exact q1.elim
          | bl _ => exact q1.elim
          | str _ => exact q1.elim
          | rep _ => exact q1.elim
          | scr => exact q1.elim
          | r _ => exact q1.elim
          | k _ => exact q1.elim
        · exact qq.elim
  · exact qq.elim
/-- list(xs), tuple(xs), all(xs) -/
def aList (G : ST) : FnF := fun xs h => match xs with
  | [x] => match seqs G h x with
    | some (_, ys) => .ok (.r h.sz, h.new (.lst ys))
    | none => .bad
  | _ => .bad
theorem cb_list {K : PySem.W.Frag} (hG : GOk K G) : CbC (fun xs H Q => ∃ p ys, xs = [.ref p] ∧ (SqL K H p ys ∨ SqT K H p ys) ∧ ∀ l, H l = none → Q (.ref l) (upd H l (.lst ys))) (aList G) := fun ρ xs h vs H Q hh rv qq => by
  unfold aList at qq
  split at qq
  · next x =>
    cases rv with
    | cons r1 r2 =>
      cases r2
      split at qq
      · next t ys hy =>
        obtain ⟨a, vs, rfl, r, hk⟩ := seqs_ok hG hh r1 hy
        refine ⟨a, vs, rfl, ?_, fun l hn => PQ.new qq hh hn fun ρ' x' => .lst (RVs.up x' r) upd_same⟩
        rcases hk with ⟨_, hk⟩ | ⟨_, hk⟩
        · exact .inl (.of hk)
        · exact .inr hk
      · exact qq.elim
  · exact qq.elim
def dTuple (G : ST) (d : DenE) : DenE := fun s h => (d s h).bind fun p => match seqs G p.2 p.1 with
  | some (true, ys) => .ok (.r p.2.sz, p.2.new (.tup ys))
  | some (false, _) => .ok (p.1, p.2)
  | none => .bad
theorem ce_tuple (hG : GOk X.K G) (h1 : CE X a de) (hp : PE X (.Call (.Name "tuple" p) [a] [] pos) (tThen (wpE X a) (kTup X.K))) : CE X (.Call (.Name "tuple" p) [a] [] pos) (dTuple G de) := fun ρ s h σ H Q he hh qq => by
  refine ofE hp (h1.then he hh qq fun x h1 ρ1 v H1 x1 r1 rv q1 => ?_)
  split at q1
  · next ys hy =>
    obtain ⟨a, vs, rfl, r, hk⟩ := seqs_ok hG r1 rv hy
    rcases hk with ⟨_, hk⟩ | ⟨z, _⟩
    · exact .inl ⟨a, vs, rfl, .of hk, fun l hn => (PQ.up x1 q1).new r1 hn fun ρ' x' => .tup (RVs.up x' r) upd_same⟩
    · cases z
  · next ys hy =>
    obtain ⟨a, vs, rfl, r, hk⟩ := seqs_ok hG r1 rv hy
    rcases hk with ⟨z, _⟩ | ⟨_, hk⟩
    · cases z
    · exact .inr ⟨a, vs, rfl, hk, q1 ρ1 _ H1 x1 r1 rv⟩
  · exact q1.elim
def boolsA : List AV → Option (List Bool)
  | [] => some []
  | .bl b :: xs => match boolsA xs with
    | some bs => some (b :: bs)
    | none => none
  | _ => none
theorem boolsA_ok {ρ : Ro} : ∀ {xs : List AV} {vs : List V} {bs : List Bool}, RVs ρ xs vs → boolsA xs = some bs → vs = bs.map V.bl
  | _, _, _, .nil, e => by cases e; rfl
  | x :: xs, v :: vs, bs, .cons a t, e => by
    cases a with
    | bl b =>
      unfold boolsA at e
      split at e
      · next cs hcs => cases e; rw [boolsA_ok t hcs]; rfl
      · cases e
    | non => cases e
    | int _ => cases e
    | str _ => cases e
    | rep _ => cases e
    | scr => cases e
    | r _ => cases e
    | k _ => cases e
def aAll (G : ST) (all : Bool) : FnF := fun xs h => match xs with
  | [x] => match seqs G h x with
    | some (true, ys) => match boolsA ys with
      | some bs => .ok (.bl (bif all then bs.all id else bs.any id), h)
      | none => .bad
    | _ => .bad
  | _ => .bad
theorem aAll_inv {K : PySem.W.Frag} (hG : GOk K G) {t : Bool} {ρ : Ro} {xs : List AV} {h : AH} {vs : List V} {H : Hp} {Q : VK} (hh : RH ρ h H) (rv : RVs ρ xs vs) (qq : (aAll G t xs h).sat (PQ ρ Q)) : ∃ (a : Addr) (bs : List Bool), vs = [V.ref a] ∧ SqL K H a (bs.map V.bl) ∧ Q (.bl (bif t then bs.all id else bs.any id)) H := by
  unfold aAll at qq
  split at qq
  · next x =>
    cases rv with
    | cons r1 r2 =>
      cases r2
      split at qq
      · next ys hy =>
        obtain ⟨a, vs, rfl, r, hk⟩ := seqs_ok hG hh r1 hy
        split at qq
        · next bs hbs =>
          have e := boolsA_ok r hbs
          subst e
          rcases hk with ⟨_, hk⟩ | ⟨z, _⟩
          · exact ⟨a, bs, rfl, .of hk, qq ρ _ H (.refl ρ) hh (.bl _)⟩
          · cases z
        · exact qq.elim
      · exact qq.elim
  · exact qq.elim
theorem cb_all {K : PySem.W.Frag} (hG : GOk K G) : CbC (rAll K) (aAll G true) := fun ρ xs h vs H Q hh rv qq => aAll_inv hG hh rv qq
theorem cb_any {K : PySem.W.Frag} (hG : GOk K G) : CbC (rAny K) (aAll G false) := fun ρ xs h vs H Q hh rv qq => aAll_inv hG hh rv qq
/-- repr of data, held back -/
def aRepr (G : ST) : FnF := fun xs h => match xs with
  | [x] => match rd G h 40 x with
    | some d => bif d.canLay0 && (Nat.ble d.depth 60 && (d.showable && Nat.ble d.shown.length 1000000)) then .ok (.rep d, h) else .bad
    | none => .bad
  | _ => .bad
theorem cb_repr {K : PySem.W.Frag} (hG : GOk K G) : CbC (rReprD K) (aRepr G) := fun ρ xs h vs H Q hh rv qq => by
  unfold aRepr at qq
  split at qq
  · next x =>
    cases rv with
    | cons r1 r2 =>
      cases r2
      split at qq
      · next d hd =>
        obtain ⟨hb, qq⟩ := bif_ok qq
        simp only [Bool.and_eq_true] at hb
        obtain ⟨h1, h2, h3, h4⟩ := hb
        have qq : PQ ρ Q (_, h) := qq
        exact ⟨_, d, rfl, rd_dp hG hh _ _ _ _ r1 hd, h1, Nat.le_of_ble_eq_true h2, h3, by have := Nat.le_of_ble_eq_true h4; rw [sizeLine_eq]; omega, qq ρ _ H (.refl ρ) hh (.rep _)⟩
      · exact qq.elim
  · exact qq.elim
/-- int, abs, max, min of whole numbers -/
def aInt : FnF := fun xs h => match xs with
  | [.int i] => .ok (.int i, h)
  | [.bl b] => .ok (.int (if b then 1 else 0), h)
  | _ => .bad
end
end Z
end

section
set_option linter.all false
set_option maxRecDepth 100000
set_option maxHeartbeats 2000000
namespace PySem.W
open PySem
section
variable {prog : Program} {w : World} {A : Around} {E : Value → Shared → Prop} {s : Shared} {K : Frag} {x y C f L : Addr} {h₀ : Heap} {m : Str → Option Value} {ox : Obj} {od : Option Obj}
theorem zIfBoundB {M : Model} {args : List Value} {name : Str} {id : String} {Q : Option Value → Shared → Prop} (X : K.In s.heap) (I : InstAt s.heap x ox C od) (hs : findIn K (.ref C) name = some (some (.builtin id))) (S : Slot "object" name id)
    (h : wpAny M A (call (.builtin id) (.ref x :: args)) (fun v => Q (some v)) E s) : wpAny M A (callSpecialIfBound? (.ref x) name args) Q E s := by
  simp only [callSpecialIfBound?, bindSpecialIfBound?]
  refine wpAny_holding (wpAny_bind (wpAny_bind (wpAny_bind (I.type.here ((looks_findIn X hs).here ?_)))))
  simp only [S.bind]
  refine wpAny_bind (wpAny_askSetting (wpAny_ite ?_))
  have fin : wpAny M A (call (.builtin id) ([.ref x] ++ args) >>= fun v => pure (some v)) Q E s := wpAny_bind (wpAny_mono h (fun v s' h' => wpAny_pure h') fun _ _ h' => h')
  split
  · exact wpAny_bind (wpAny_pure (wpAny_pure fin))
  · exact wpAny_tryCatch (wpAny_bind (wpAny_pure (wpAny_pure fin)))
theorem zNeEntry (X : K.In s.heap) (I : InstAt s.heap x ox C od) (he : findIn K (.ref C) "__eq__" = some (some (.ref f))) (hf : isFn K (.ref f) = true) (hu : A.units < cLine) {Q : Fin → Shared → Prop}
    (hcall : wpAny (model prog w) A (call (.ref f) [.ref x, .ref y]) (fun v s' => ∃ b, v = .bool b ∧ Q (.done (.ret (.bool (!b)))) s') E s) :
    wpAny (model prog w) A (Builtin.«object.__ne__» ⟨[.ref x, .ref y], []⟩) Q E s := by
  unfold Builtin.«object.__ne__»
  repeat (first
    | with_reducible refine wpAny_cRoomFor hu ?_
    | (refine wpAny_bind (m := callSpecialIfBound? (.ref x) (Str.ofString "__eq__") [.ref y])
        (ifBound_K X I he hf (wpAny_mono hcall (fun r s' hr => by
          obtain ⟨b, rfl, hq⟩ := hr
          repeat (first | exact hq | exact wpAny_pure hq | exact wpAny_truthy_bool hq | (refine wpAny_bind (m := truthy (.bool _)) (wpAny_truthy_bool ?_)) | wp_step)) fun _ _ e => e)))
    | wp_step)
theorem zNe (X : K.In s.heap) (I : InstAt s.heap x ox C od) {oy : Obj} {od2 : Option Obj} (J : InstAt s.heap y oy C od2) (hn : findIn K (.ref C) "__ne__" = some (some (.builtin "object.__ne__"))) (he : findIn K (.ref C) "__eq__" = some (some (.ref f))) (hf : isFn K (.ref f) = true)
    (hm : mroIn K C (.type "object") = some true) (hu : A.units + 1 < cLine) {Q : Value → Shared → Prop}
    (hcall : wpAny (model prog w) A.in1 (call (.ref f) [.ref x, .ref y]) (fun v s' => ∃ b, v = .bool b ∧ Q (.bool (!b)) s') E s) : wpAny (model prog w) A (richCompare .NotEq (.ref x) (.ref y)) Q E s := by
  have one : wpAny (model prog w) A (tryCompare (.ref x) (cmpInfo .NotEq).2.1 (.ref y)) (fun r s' => ∃ v, r = some (.bool v) ∧ Q (.bool v) s') E s := by
    unfold tryCompare
    refine wpAny_bind (zIfBoundB X I hn F.cmp_object.ne ?_)
    refine wpAny_call (codeAny_call_builtin F.cmp_object.ne.plain F.cmpEntry_ne (check_slot F.cmpKind_ne F.cmpSplit_ne (I.type.andThen (looks_mroIn X hm)) (F.cmpArgs_ne _ _) ?_))
    refine zNeEntry (A := A.in1) X I he hf hu (wpAny_mono hcall (fun v s' hv => ?_) fun _ _ e => e)
    obtain ⟨b, rfl, hq⟩ := hv
    refine ⟨_, rfl, ?_⟩
    first | exact wpAny_pure ⟨_, rfl, hq⟩ | exact wpAny_pure (wpAny_pure ⟨_, rfl, hq⟩)
  unfold richCompare
  simp only [oneThing_ref]
  refine wpAny_holding (wpAny_bind (wpAny_cRoomFor (Nat.lt_of_succ_lt hu) ?_))
  refine wpAny_bind (I.type.here (wpAny_bind (J.type.here ?_)))
  rw [show (Value.ref C != Value.ref C) = false from by simp]
  simp only [Bool.false_eq_true, if_false]
  refine wpAny_bind (wpAny_pure ?_)
  simp only [Bool.false_eq_true, if_false]
  refine wpAny_bind (wpAny_mono one (fun r s' z => ?_) fun _ _ e => e)
  obtain ⟨v, rfl, hq⟩ := z
  exact wpAny_pure hq
end
end PySem.W
end

section
set_option linter.all false
set_option maxRecDepth 100000
set_option maxHeartbeats 2000000
namespace Z
open PySem L2 PyProof.Rows
variable [Scr]
section
variable {X : Cx} {G : ST} {a b c e o value : Expr} {es : List Expr} {pos pos' q p apos cpos : Pos} {k : Nat} {f C : Addr} {fd : FuncData} {ps : List Str} {n : Nat} {F : FnF} {x m : Str} {da : DenA} {de dv db : DenE}
/-! ### own == and != -/
def aEqO (C : Addr) (n : Nat) (F : FnF) (neg : Bool) : Op2 := fun x y h => match insOf C h x, insOf C h y with
  | some _, some _ => bif Nat.beq 2 n then (F [x, y] h).bind fun r => (match r.1 with
    | .bl t => .ok (.bl (bif neg then !t else t), r.2)
    | _ => .bad) else .bad
  | _, _ => .bad
theorem aEqO_inv {neg : Bool} {ρ : Ro} {x y : AV} {h : AH} {vx vy : V} {H : Hp} {Q : VK} (hh : RH ρ h H) (rx : RV ρ x vx) (ry : RV ρ y vy) (qq : (aEqO C n F neg x y h).sat (PQ ρ Q)) :
    ∃ a dx fs b dy gs, vx = .ref a ∧ H a = some (.ins C dx fs) ∧ vy = .ref b ∧ H b = some (.ins C dy gs) ∧ spF n F [.ref a, .ref b] H (fun v H' => ∃ t, v = .bl t ∧ Q (.bl (bif neg then !t else t)) H') E0 := by
  unfold aEqO at qq
  split at qq
  · next fs gs hfs hgs =>
    obtain ⟨i, a, dx, vs, _, rfl, hi, rf, hl⟩ := insOf_ok hh rx hfs
    obtain ⟨j, b, dy, us, _, rfl, hj, rg, hl2⟩ := insOf_ok hh ry hgs
    obtain ⟨hn, qq⟩ := bif_ok qq
    refine ⟨a, dx, vs, b, dy, us, rfl, hl, rfl, hl2, ρ, h, [x, y], Nat.eq_of_beq_eq_true hn, hh, .cons rx (.cons ry .nil), T.sat_imp (fun r q1 ρ1 v H1 x1 r1 rv => ?_) (T.sat_bind qq)⟩
    obtain ⟨z, h1⟩ := r
    cases rv with
    | bl t => exact ⟨t, rfl, q1 ρ1 _ H1 x1 r1 (.bl _)⟩
    | non => exact q1.elim
    | int _ => exact q1.elim
    | str _ => exact q1.elim
    | rep _ => exact q1.elim
    | scr => exact q1.elim
    | r _ => exact q1.elim
    | k _ => exact q1.elim
  · exact qq.elim
theorem oc_eqO : OpC (rEqO C (spF n F)) (aEqO C n F false) := fun ρ x y h vx vy H Q hh rx ry qq => aEqO_inv hh rx ry qq
def rNeO (C : Addr) (sp : Sp) : R2 := fun x y H Q => ∃ a dx fs b dy gs, x = .ref a ∧ H a = some (.ins C dx fs) ∧ y = .ref b ∧ H b = some (.ins C dy gs) ∧ sp [.ref a, .ref b] H (fun v H' => ∃ t, v = .bl t ∧ Q (.bl (!t)) H') E0
theorem oc_neO : OpC (rNeO C (spF n F)) (aEqO C n F true) := fun ρ x y h vx vy H Q hh rx ry qq => aEqO_inv hh rx ry qq
theorem op_neO {sp : Sp} (Fn : FnOk X.prog X.w X.K X.mg X.base CX0 k f fd ps sp) (hr : Room (k + 1) X.A) (hb : Binds X.K fd ps []) (hne : PySem.W.findIn X.K (.ref C) "__ne__" = some (some (.builtin "object.__ne__"))) (hs : PySem.W.findIn X.K (.ref C) "__eq__" = some (some (.ref f))) (hf : PySem.W.isFn X.K (.ref f) = true)
    (hm : PySem.W.mroIn X.K C (.type "object") = some true) : OpR X (compareOp .NotEq) (rNeO C sp) := by
  intro pins s σ H x y v u Q I rx ry h
  obtain ⟨a, dx, fs, b, dy, gs, rfl, ea, rfl, eb, hsp⟩ := h
  obtain rfl : v = Value.ref a := rx
  obtain rfl : u = Value.ref b := ry
  obtain ⟨ox, od, J⟩ := inst_at I ea
  obtain ⟨oy, oe, J2⟩ := inst_at I eb
  refine PySem.W.cmp_ofNotEq (PySem.W.zNe I.kIn J J2 hne hs hf hm (by have := hr.un; omega) (thn (run1 (E' := X.xe) Fn hr hb I (.cons (show RelV (.ref a) (.ref a) from rfl) (.cons (show RelV (.ref b) (.ref b) from rfl) .nil)) hsp) fun v s' hv => ?_))
  obtain ⟨x, H', I', rx, t, ex, q⟩ := hv
  subst ex
  obtain rfl : v = Value.bool t := rx
  exact ⟨t, rfl, .bl (!t), H', I', rfl, q⟩
def notIns (C : Addr) : AV → AV → AH → Bool := fun x _ h => match insOf C h x with
  | some _ => false
  | none => true
/-! ### isinstance -/
inductive TyA where
  | b (n : String) | c (C : Addr)
  deriving DecidableEq
def tyA (G : ST) (h : AH) : AV → Option TyA
  | .non => some (.b "NoneType")
  | .bl _ => some (.b "bool")
  | .int _ => some (.b "int")
  | .str _ => some (.b "str")
  | .rep _ => some (.b "str")
  | .r i => match h.get i with
    | some (.lst _) => some (.b "list")
    | some (.tup _) => some (.b "tuple")
    | some (.dK _) => some (.b "dict")
    | some (.ins C _) => some (.c C)
    | some .feed => some (.b "list")
    | none => none
  | .k (.ref a) => match G a with
    | some _ => some (.b "tuple")
    | none => none
  | .k _ => none
  | .scr => none
def TyA.v : TyA → Value
  | .b n => .type n
  | .c C => .ref C
/-- what isinstance tells of types -/
abbrev KT := TyA → V → Option Bool
structure KTOk (K : PySem.W.Frag) (kt : KT) : Prop where
  kit : ∀ t c r, kt t c = some r → ∃ u, ClsV c u ∧ PySem.W.kitOne K t.v u = some r
  ins : ∀ C c r, kt (.c C) c = some r → Cls K C ∧ PySem.W.findIn K (.ref C) "__class__" = some (some (.builtin "object.__class__")) ∧ PySem.W.mroIn K C (.type "object") = some true
  get : PySem.W.specialIn K (.builtin "object.__class__") "__get__" = some (some (.builtin "getset_descriptor.__get__"))
  tak : PySem.W.takesIn K (.builtin "object.__class__") = some true
def aIsi (G : ST) (kt : KT) : FnF := fun xs h => match xs with
  | [x, .k c] => match tyA G h x with
    | some t => match kt t c with
      | some r => .ok (.bl r, h)
      | none => .bad
    | none => .bad
  | _ => .bad
theorem tyA_ok {K : PySem.W.Frag} {kt : KT} (hk : KTOk K kt) (hG : GOk K G) {ρ : Ro} {h : AH} {H : Hp} {x : AV} {v c : V} {t : TyA} {r : Bool} (hh : RH ρ h H) (rv : RV ρ x v) (e : tyA G h x = some t) (e2 : kt t c = some r) : TyX K H v t.v := by
  cases rv with
  | non => cases e; exact .base .non
  | bl b => cases e; exact .base (.bl b)
  | int i => cases e; exact .base (.int i)
  | str y => cases e; exact .base (.str y)
  | rep d => cases e; exact .base (.str _)
  | scr => cases e
  | r hr =>
    unfold tyA at e
    dsimp only at e
    split at e
    · next hy => cases e; cases hh.get hy hr with | lst _ hl => exact .base (.lst hl)
    · next hy => cases e; cases hh.get hy hr with | tup _ hl => exact .base (.tup hl)
    · next hy => cases e; cases hh.get hy hr with | dK _ hl => exact .base (.dK hl)
    · next hy =>
      cases e
      obtain ⟨k1, k2, k3⟩ := hk.ins _ _ _ e2
      cases hh.get hy hr with | ins _ hl => exact .base (.ins hl k1 k2 hk.get hk.tak k3)
    · next hy => cases e; cases hh.get hy hr with | feed hl => obtain ⟨_, _, hl⟩ := hl; exact .base (.lst hl)
    · cases e
  | k _ =>
    cases v with
    | ref a =>
      unfold tyA at e
      dsimp only at e
      split at e
      · next ys hy =>
        cases e
        obtain ⟨vs, _, s⟩ := hG _ _ hy
        rcases s H with (h | ⟨o, h⟩) | ⟨o, its, n, hk, hc, _⟩
        · exact .base (.tup h)
        · exact .fTuple h
        · exact .kTuple hk hc
      · cases e
    | non => cases e
    | bl _ => cases e
    | int _ => cases e
    | str _ => cases e
    | byt _ => cases e
    | flt _ => cases e
    | ty _ => cases e
theorem cb_isi {K : PySem.W.Frag} {kt : KT} (hk : KTOk K kt) (hG : GOk K G) : CbC (rIsi K) (aIsi G kt) := fun ρ xs h vs H Q hh rv qq => by
  unfold aIsi at qq
  split at qq
  · next x c =>
    cases rv with
    | cons r1 r2 =>
      cases r2 with
      | cons r2 r3 =>
        cases r3
        cases r2
        split at qq
        · next t ht =>
          split at qq
          · next r hr =>
            obtain ⟨u, k1, k2⟩ := hk.kit _ _ _ hr
            exact ⟨_, _, t.v, u, r, rfl, k1, tyA_ok hk hG hh r1 ht hr, k2, qq ρ _ H (.refl ρ) hh (.bl _)⟩
          · exact qq.elim
        · exact qq.elim
  · exact qq.elim
/-! ### methods of lists -/
def dLM (f : List AV → List AV → AH → Nat → T (AV × AH)) (d : DenE) (da : DenA) : DenE := fun s h => (d s h).bind fun p => match p.1 with
  | .r i => (match p.2.get i with
    | some (.lst _) => (da s p.2).bind fun r => match r.2.get i with
      | some (.lst xs) => f xs r.1 r.2 i
      | _ => .bad
    | _ => .bad)
  | _ => .bad
def LmC (R : V → List V → Hp → VK → Prop) (f : List AV → List AV → AH → Nat → T (AV × AH)) : Prop := ∀ ρ xs ys h i a vs us H Q, RH ρ h H → ρ i = some a → H a = some (.lst vs) → RVs ρ xs vs → RVs ρ ys us → (f xs ys h i).sat (PQ ρ Q) → R (.ref a) us H Q
theorem ce_lm {name : Str} {id : String} {R : V → List V → Hp → VK → Prop} {g : List AV → List AV → AH → Nat → T (AV × AH)} (hR : LmC R g) (h1 : CE X o de) (h2 : CA X es da)
    (hp : PE X (.Call (.Attribute o name apos) es [] cpos) (tBM X.K "list" R (wpE X o) (wpA X es))) : CE X (.Call (.Attribute o name apos) es [] cpos) (dLM g de da) := fun ρ s h σ H Q he hh qq => by
  refine ofE hp (h1.then he hh qq fun x h1 ρ1 v H1 x1 r1 rv q1 => ?_)
  split at q1
  · next i e1 =>
    have e1 : x = .r i := e1
    subst e1
    split at q1
    · next zs hz =>
      cases rv with
      | r hi =>
        cases r1.get hz hi with
        | lst rz hl =>
          refine ⟨.inl ⟨rfl, _, .of hl⟩, h2.then (he.up x1) r1 q1 fun ys h2 ρ2 us H2 x2 r2 ru q2 => ?_⟩
          split at q2
          · next xs hx =>
            cases r2.get hx (x2 _ _ hi) with
            | lst rx hl2 => exact hR ρ2 xs ys h2 i _ _ us H2 Q r2 (x2 _ _ hi) hl2 rx ru (T.sat_imp (fun _ k => k.up (x1.trans x2)) q2)
          · exact q2.elim
    · exact q1.elim
  · exact q1.elim
def lmAppend : List AV → List AV → AH → Nat → T (AV × AH) := fun xs ys h i => match ys with
  | [y] => bif big xs.length then .bad else .ok (.non, h.set i (.lst (xs ++ [y])))
  | _ => .bad
theorem lm_append : LmC rAppend lmAppend := fun ρ xs ys h i a vs us H Q hh hi hl rx ry qq => by
  unfold lmAppend at qq
  split at qq
  · cases ry with
    | cons r1 r2 =>
      cases r2
      obtain ⟨hb, qq⟩ := bif_inv qq
      have qq : PQ ρ Q (_, _) := qq
      exact ⟨a, vs, _, rfl, rfl, hl, by rw [← rx.length, sizeLine_eq]; omega, qq ρ _ _ (.refl ρ) (hh.set hi (.lst (paired_append rx (.cons r1 .nil)) upd_same)) .non⟩
  · exact qq.elim
def lmClear : List AV → List AV → AH → Nat → T (AV × AH) := fun xs ys h i => match ys with
  | [] => .ok (.non, h.set i (.lst []))
  | _ => .bad
theorem lm_clear : LmC rClear lmClear := fun ρ xs ys h i a vs us H Q hh hi hl rx ry qq => by
  unfold lmClear at qq
  split at qq
  · cases ry
    exact ⟨a, vs, rfl, rfl, hl, qq ρ _ _ (.refl ρ) (hh.set hi (.lst .nil upd_same)) .non⟩
  · exact qq.elim
end
end Z
end

section
set_option linter.all false
set_option maxRecDepth 100000
set_option maxHeartbeats 2000000
namespace Z
open PySem L2 PyProof.Rows
variable [Scr]
section
variable {X : Cx} {G : ST} {a b c e f' o i value : Expr} {es : List Expr} {pos pos' q p apos cpos : Pos} {k : Nat} {f C : Addr} {fd : FuncData} {ps : List Str} {n : Nat} {F : FnF} {x m : Str} {da : DenA} {de dv db dx : DenE}
/-! ### dicts -/
theorem RF.val {ρ : Ro} {k : Key} : ∀ {kvs : List (Key × AV)} {vs : List (Key × V)}, RF ρ kvs vs → match valA kvs k with
    | some z => ∃ v, valV vs k = some v ∧ RV ρ z v
    | none => valV vs k = none
  | _, _, .nil => rfl
  | (n, y) :: fs, (n', v) :: vs, .cons ⟨hn, hv⟩ t => by
    have hn : n = n' := hn
    subst hn
    unfold valA
    dsimp only
    by_cases h : n = k
    · rw [if_pos h]
      exact ⟨v, valV_pos h, hv⟩
    · rw [if_neg h, valV_neg h]
      exact RF.val t
def dDGet (d : DenE) (dy : DenE) : DenE := fun s h => (d s h).bind fun p => (dy s p.2).bind fun r => match dicts r.2 p.1 with
  | some kvs => match kA r.1 with
    | some k => match valA kvs k with
      | some z => .ok (z, r.2)
      | none => .bad
    | none => .bad
  | none => .bad
theorem ce_dget (hu : X.A.units + 1 < cLine) (hs : NoSl i) (h1 : CE X o de) (h2 : CE X i dv) : CE X (.Subscript o i pos) (dDGet de dv) := fun ρ s h σ H Q he hh qq => by
  refine ofE (pe_dget hu (peW o) (peW i) hs) (h1.then he hh qq fun x h1 ρ1 v H1 x1 r1 rv q1 => ?_)
  refine h2.then (he.up x1) r1 q1 fun y h2 ρ2 u H2 x2 r2 ru q2 => ?_
  split at q2
  · next kvs hk =>
    obtain ⟨j, a, vs, _, rfl, hi, rf, hl⟩ := dicts_ok r2 (rv.up x2) hk
    split at q2
    · next k hky =>
      have := kA_ok ru hky
      subst this
      have fv := rf.val (k := k)
      split at q2
      · next z hz =>
        rw [hz] at fv
        obtain ⟨w, e1, e2⟩ := fv
        exact ⟨a, w, rfl, .inl ⟨vs, k, .of hl, rfl, e1.symm⟩, q2 ρ2 w H2 (x1.trans x2) r2 e2⟩
      · exact q2.elim
    · exact q2.elim
  · exact q2.elim
def dDGet2 (d dy dz : DenE) : DenE := fun s h => (d s h).bind fun p => match dicts p.2 p.1 with
  | some _ => (dy s p.2).bind fun r => (dz s r.2).bind fun t => (match dicts t.2 p.1 with
    | some kvs => match kA r.1 with
      | some k => match valA kvs k with
        | some z => .ok (z, t.2)
        | none => .ok (t.1, t.2)
      | none => .bad
    | none => .bad)
  | none => .bad
theorem ce_dget2 (hu : X.A.units + 1 < cLine) (h1 : CE X o de) (h2 : CE X e dv) (h3 : CE X f' dx) (m : M2 X o "get" apos e f' cpos) : CE X (.Call (.Attribute o "get" apos) [e, f'] [] cpos) (dDGet2 de dv dx) := fun ρ s h σ H Q he hh qq => by
  refine ofE (pe_dget2 hu (peW o) (peW e) (peW f') m) (h1.then he hh qq fun x h1 ρ1 v H1 x1 r1 rv q1 => ?_)
  split at q1
  · next kvs0 hk0 =>
    obtain ⟨j0, a0, vs0, ex, rfl, hi0, rf0, hl0⟩ := dicts_ok r1 rv hk0
    refine ⟨a0, rfl, .inl ⟨vs0, .of hl0⟩, h2.then (he.up x1) r1 q1 fun y h2 ρ2 u H2 x2 r2 ru q2 => ?_⟩
    refine h3.then ((he.up x1).up x2) r2 q2 fun z h3 ρ3 w H3 x3 r3 rw' q3 => ?_
    split at q3
    · next kvs hk =>
      obtain ⟨j, a, vs, _, ea, hi, rf, hl⟩ := dicts_ok r3 ((rv.up x2).up x3) hk
      cases ea
      split at q3
      · next k hky =>
        have := kA_ok ru hky
        subst this
        have fv := rf.val (k := k)
        split at q3
        · next z' hz =>
          rw [hz] at fv
          obtain ⟨w', e1, e2⟩ := fv
          exact ⟨some w', .inl ⟨vs, k, .of hl, rfl, e1.symm⟩, q3 ρ3 w' H3 ((x1.trans x2).trans x3) r3 e2⟩
        · next hz =>
          rw [hz] at fv
          exact ⟨none, .inl ⟨vs, k, .of hl, rfl, fv.symm⟩, q3 ρ3 w H3 ((x1.trans x2).trans x3) r3 rw'⟩
      · exact q3.elim
    · exact q3.elim
  · exact q1.elim
/-- {k: v, ..} -/
abbrev DenP := AE → AH → T (List (Key × AV) × AH)
def dpNil : DenP := fun _ h => .ok ([], h)
def dpCons (dk dv : DenE) (r : DenP) : DenP := fun s h => (dk s h).bind fun p => (dv s p.2).bind fun q => (r s q.2).bind fun t => match kA p.1 with
  | some k => .ok ((k, q.1) :: t.1, t.2)
  | none => .bad
def CP (X : Cx) (pos : Pos) (keys : List (Option Expr)) (values : List Expr) (d : DenP) : Prop := ∃ trs, PPs X pos keys values trs ∧ ∀ ρ s h σ H Q, RE ρ s σ → RH ρ h H → (d s h).sat (fun r => ∀ ρ' H' vs, Xt ρ ρ' → RH ρ' r.2 H' → RF ρ' r.1 vs → Q (vs.map fun kv => (kV kv.1, kv.2)) H') → tPairs trs σ H Q
theorem cp_nil : CP X pos [] [] dpNil := ⟨[], pps_nil, fun ρ s h σ H Q he hh qq => qq ρ H [] (.refl ρ) hh .nil⟩
theorem cp_cons {kk : Expr} {ks : List (Option Expr)} {vs : List Expr} {d : DenP} (h1 : CE X kk de) (h2 : CE X value dv) (h3 : CP X pos ks vs d) : CP X pos (some kk :: ks) (value :: vs) (dpCons de dv d) := by
  obtain ⟨trs, p1, k1⟩ := h3
  refine ⟨(wpE X kk, wpE X value) :: trs, pps_cons (peW kk) (peW value) p1, fun ρ s h σ H Q he hh qq => ?_⟩
  refine h1.then he hh qq fun x h1 ρ1 v H1 x1 r1 rv q1 => ?_
  refine h2.then (he.up x1) r1 q1 fun y h2 ρ2 u H2 x2 r2 ru q2 => ?_
  refine k1 ρ2 s h2 σ H2 _ ((he.up x1).up x2) r2 (T.sat_imp (fun t q3 ρ3 H3 ws x3 r3 rf => ?_) (T.sat_bind q2))
  split at q3
  · next k hk =>
    have e := kA_ok (rv.up (x2.trans x3)) hk
    subst e
    exact q3 ρ3 H3 ((k, u) :: ws) ((x1.trans x2).trans x3) r3 (.cons ⟨rfl, ru.up x3⟩ rf)
  · exact q3.elim
def putKA (kvs : List (Key × AV)) (k : Key) (v : AV) : List (Key × AV) := bif kvs.any (fun kv => decide (kv.1 = k)) then kvs.map (fun kv => if kv.1 = k then (kv.1, v) else kv) else kvs ++ [(k, v)]
theorem RF.putK {ρ : Ro} {k : Key} {z : AV} {v : V} {kvs : List (Key × AV)} {vs : List (Key × V)} (r : RF ρ kvs vs) (rz : RV ρ z v) : RF ρ (putKA kvs k z) (L2.putK vs k v) := by
  have hany : ∀ {kvs : List (Key × AV)} {vs : List (Key × V)}, RF ρ kvs vs → (kvs.any fun kv => decide (kv.1 = k)) = vs.any fun kv => decide (kv.1 = k) := by
    intro kvs vs r
    induction r with
    | nil => rfl
    | cons a b ih => rw [List.any_cons, List.any_cons, ih, a.1]
  have hmap : ∀ {kvs : List (Key × AV)} {vs : List (Key × V)}, RF ρ kvs vs → RF ρ (kvs.map fun kv => if kv.1 = k then (kv.1, z) else kv) (vs.map fun kv => if kv.1 = k then (kv.1, v) else kv) := by
    intro kvs vs r
    induction r with
    | nil => exact .nil
    | @cons x y xs ys a b ih =>
      refine .cons ?_ ih
      dsimp only
      by_cases h : x.1 = k
      · rw [if_pos h, if_pos (a.1 ▸ h)]
        exact ⟨a.1, rz⟩
      · rw [if_neg h, if_neg (a.1 ▸ h)]
        exact a
  unfold putKA L2.putK
  rw [hany r]
  cases hb : vs.any fun kv => decide (kv.1 = k) with
  | true => rw [if_pos rfl]; exact hmap r
  | false => rw [if_neg Bool.false_ne_true]; exact paired_append r (.cons ⟨rfl, rz⟩ .nil)
def mergeKA (kvs more : List (Key × AV)) : List (Key × AV) := more.foldl (fun acc kv => putKA acc kv.1 kv.2) kvs
theorem RF.merge {ρ : Ro} : ∀ {more : List (Key × AV)} {ms : List (Key × V)} {kvs : List (Key × AV)} {vs : List (Key × V)}, RF ρ more ms → RF ρ kvs vs → RF ρ (mergeKA kvs more) (mergeK vs ms)
  | _, _, _, _, .nil, r => r
  | (n, y) :: fs, (n', v) :: vs, _, _, .cons ⟨hn, hv⟩ t, r => by
    have hn : n = n' := hn
    subst hn
    show RF ρ (mergeKA (putKA _ n y) fs) (mergeK (L2.putK _ n v) vs)
    exact RF.merge t (r.putK hv)
def dDisp (d : DenP) : DenE := fun s h => (d s (h.new (.dK []))).bind fun r => match r.2.get h.sz with
  | some (.dK []) => bif Nat.ble r.1.length 15 then .ok (.r h.sz, r.2.set h.sz (.dK (mergeKA [] r.1))) else .bad
  | _ => .bad
theorem ce_disp {keys : List (Option Expr)} {values : List Expr} {d : DenP} (h1 : CP X pos keys values d) (hall : keys.all (·.isSome) = true) (hl : keys.length = values.length) (h0 : keys ≠ []) (h15 : keys.length ≤ 15) : CE X (.Dict keys values pos) (dDisp d) := fun ρ s h σ H Q he hh qq => by
  obtain ⟨trs, p1, k1⟩ := h1
  refine ofE (pe_disp p1 hall hl h0 h15) fun p hp => ?_
  have kp : (ext ρ h.sz p) h.sz = some p := by unfold ext; rw [if_pos rfl]
  refine k1 (ext ρ h.sz p) s _ σ _ _ (he.up (hh.xt p)) (hh.new hp fun ρ' _ => .dK .nil upd_same) (T.sat_imp (fun r q1 ρ1 H1 vs x1 r1 rf => ?_) (T.sat_bind qq))
  split at q1
  · next hg =>
    cases r1.get hg (x1 _ _ kp) with
    | dK rz hl =>
      cases rz
      obtain ⟨hb, q1⟩ := bif_ok q1
      have q1 : PQ ρ Q (_, _) := q1
      refine ⟨hl, vs, rfl, by rw [← rf.length]; exact Nat.le_of_ble_eq_true hb, ?_⟩
      exact q1 ρ1 _ _ ((hh.xt p).trans x1) (r1.set (x1 _ _ kp) (.dK (RF.merge rf .nil) upd_same)) (.r (x1 _ _ kp))
  · exact q1.elim
/-! ### o[i] of an own class -/
def dSubO (C : Addr) (n : Nat) (F : FnF) (d dy : DenE) : DenE := fun s h => (d s h).bind fun p => (dy s p.2).bind fun r => match insOf C r.2 p.1 with
  | some _ => bif Nat.beq 2 n then F [p.1, r.1] r.2 else .bad
  | none => .bad
theorem ce_subO (Fn : FnOk X.prog X.w X.K X.mg X.base CX0 k f fd ps (spF n F)) (hr : Room (k + 1) X.A) (hb : Binds X.K fd ps []) (hs : PySem.W.findIn X.K (.ref C) "__getitem__" = some (some (.ref f))) (hfi : PySem.W.fnIn X.K f = true) (hf : PySem.W.isFn X.K (.ref f) = true)
    (hsl : ∀ (x : Addr) (i : Value), subscripted b true (.ref x) i = runValue (.builtin "lifetime.subscript" ⟨[.ref x, i], []⟩)) (h1 : CE X e de) (h2 : CE X b db) : CE X (.Subscript e b pos) (dSubO C n F de db) := fun ρ s h σ H Q he hh qq => by
  refine ofE (pe_subO (e := e) Fn hr hb hs hfi hf hsl) (h1.then he hh qq fun x h1 ρ1 v H1 x1 r1 rv q1 => ?_)
  refine h2.then (he.up x1) r1 q1 fun y h2 ρ2 u H2 x2 r2 ru q2 => ?_
  split at q2
  · next fs hfs =>
    obtain ⟨j, a, dx, vs, _, rfl, hi, rf, hl⟩ := insOf_ok r2 (rv.up x2) hfs
    exact ⟨a, dx, vs, rfl, hl, spF_of (xs := [x, y]) (x1.trans x2) r2 (.cons (rv.up x2) (.cons ru .nil)) q2⟩
  · exact q2.elim
end
end Z
end

section
set_option linter.all false
set_option maxRecDepth 100000
set_option maxHeartbeats 2000000
namespace Z
open PySem L2 PyProof.Rows ClX
variable [Scr]
section
variable {X : Cx} {G : ST} {a b c e o : Expr} {es : List Expr} {pos apos : Pos} {k : Nat} {f C p g : Addr} {mc : Value} {fd : FuncData} {ps : List Str} {n : Nat} {F : FnF} {x m : Str} {da : DenA} {de : DenE} {ta : TE} {t : TA} {sp : Sp} {pl : Sem Bool} {pins : List (Addr × Obj)} {σ : L2.St} {H : Hp} {s : Shared}
theorem runK {Q : VK} {us : List Value} {vs : List V} (Fn : FnOk X.prog X.w X.K X.mg X.base CX0 k f fd ps sp) (hr : Room k X.A) (hb : Binds X.K fd ps []) (I : Inv X pins σ H s) (r : Vals vs us) (h : sp vs H Q E0) :
    wpAny (model X.prog X.w) X.A (call (.ref f) us) (EP X pins σ Q) X.xe s := run0 (E' := X.xe) Fn hr hb I r h
theorem pe_sm0 (he : PE X o ta) (r : CRead X.K C mc) (at_ : PySem.W.findCls X.K (.ref C) mc m = some (.get (.builtin "staticmethod.__get__") (.ref p) .none (.ref C))) (rc : ∃ rest, PySem.W.recIn X.K p "staticmethod" = some (.ref f :: rest))
    (hk : PySem.W.keepIn X.K (.ref f) = true) (Fn : FnOk X.prog X.w X.K X.mg X.base CX0 k f fd ps sp) (hr : Room k X.A) (hb : Binds X.K fd ps [])
    (ht : eval (.Call (.Attribute o m apos) [] [] pos) X.env = (do
      let ov ← eval o X.env
      standAt apos.atName
      let (f, first) ← holding [ov] (getMethod ov m pl)
      callWith pos f first (backTo pos (starEach [] X.env)) (backToKw pos (keywordEach [] X.env))) := by rfl) :
    PE X (.Call (.Attribute o m apos) [] [] pos) (fun σ H Q => ta σ H fun x H1 => x = .ref C ∧ sp [] H1 Q E0) := by
  refine ⟨fun pins s σ H Q I h => ?_⟩
  refine PySem.W.methodCall_KW (pl := pl) (thn (he.run pins s σ H _ I h) fun u s1 ⟨x, H1, I1, rx, ex, q⟩ => ?_) ht
  subst ex
  obtain rfl : u = Value.ref C := rx
  obtain ⟨rest, hp⟩ := rc
  refine PySem.W.method_cls I1.kIn r.ga (PySem.W.cls_bind I1.kIn r.rd at_ (wpAny_call (PySem.W.sm_get (s := { s1 with toks := s1.toks + 1 }) I1.kIn hp (PySem.W.handed_on rfl ?_))))
  exact PySem.W.callWith_K0 I1.kIn hk (runK (us := []) Fn hr hb (I1.tok _) .nil q)
theorem pe_sm1 (he : PE X o ta) (pg : PySem.W.plainGet X.K C m = true) (ic : PySem.W.isClsIn X.K C = true) (at_ : PySem.W.findIn X.K (.ref C) m = some (some (.ref p))) (ty : PySem.W.typeIn X.K (.ref p) = some (.type "staticmethod"))
    (get : PySem.W.specialIn X.K (.ref p) "__get__" = some (some (.builtin "staticmethod.__get__"))) (tk : PySem.W.takesIn X.K (.ref p) = some false) (cp : PySem.W.copiedNames.contains m = false) (rc : ∃ rest, PySem.W.recIn X.K p "staticmethod" = some (.ref f :: rest))
    (hk : PySem.W.keepIn X.K (.ref f) = true) (Fn : FnOk X.prog X.w X.K X.mg X.base CX0 k f fd ps sp) (hr : Room k X.A) (hb : Binds X.K fd ps [])
    (ht : eval (.Call (.Attribute o m apos) [] [] pos) X.env = (do
      let ov ← eval o X.env
      standAt apos.atName
      let (f, first) ← holding [ov] (getMethod ov m pl)
      callWith pos f first (backTo pos (starEach [] X.env)) (backToKw pos (keywordEach [] X.env))) := by rfl) :
    PE X (.Call (.Attribute o m apos) [] [] pos) (fun σ H Q => ta σ H fun x H1 => ∃ a dx fs, x = .ref a ∧ H1 a = some (.ins C dx fs) ∧ fs.lookup m = none ∧ sp [] H1 Q E0) := by
  refine ⟨fun pins s σ H Q I h => ?_⟩
  refine PySem.W.methodCall_KW (pl := pl) (thn (he.run pins s σ H _ I h) fun u s1 ⟨x, H1, I1, rx, a, dx, fs, ex, ea, l, q⟩ => ?_) ht
  subst ex
  obtain rfl : u = Value.ref a := rx
  obtain ⟨mA, O, rr, _, _, _⟩ := ins_get I1.hok ea
  have hn : mA m = none := RelO.none_of (by rw [← l]; exact rr m)
  obtain ⟨od, J, hl⟩ := O.look
  obtain ⟨rest, hp⟩ := rc
  refine PySem.W.method_usual (r := some (.ref p)) I1.kIn J (PySem.W.plainGet_of pg).1 (PySem.W.plainGet_of pg).2 at_ ?_ ?_
  · show ((PySem.W.typeIn X.K (.ref p)).any fun t => t != .type "function" && t != .type "method_descriptor" && t != .type "wrapper_descriptor") = true
    rw [ty]
    first
    | rfl
    | decide +kernel
  · refine PySem.W.get_bind I1.kIn J (PySem.W.plainGet_of pg).1 (find_cm ic at_ get tk cp (by rw [hl m, hn])) (PySem.W.plainGet_of pg).2 ?_
    refine wpAny_call (PySem.W.sm_get (s := { s1 with toks := s1.toks + 1 }) I1.kIn hp (PySem.W.handed_on rfl ?_))
    exact PySem.W.callWith_K0 I1.kIn hk (runK (us := []) Fn hr hb (I1.tok _) .nil q)
def dSm0 (C : Addr) (F : FnF) (d : DenE) : DenE := fun s h => (d s h).bind fun p => match p.1 with
  | .k (.ref D) => bif Nat.beq C D then F [] p.2 else .bad
  | _ => .bad
theorem ce_sm0 (h1 : CE X o de) (hp : PE X (.Call (.Attribute o m apos) [] [] pos) (fun σ H Q => wpE X o σ H fun x H1 => x = .ref C ∧ spF 0 F [] H1 Q E0)) : CE X (.Call (.Attribute o m apos) [] [] pos) (dSm0 C F de) := fun ρ s h σ H Q he hh qq => by
  refine ofE hp (h1.then he hh qq fun x h1 ρ1 v H1 x1 r1 rv q1 => ?_)
  split at q1
  · next D e1 =>
    have e1 : x = .k (.ref D) := e1
    subst e1
    obtain ⟨hb, q1⟩ := bif_ok q1
    cases rv
    rw [Nat.eq_of_beq_eq_true hb]
    exact ⟨rfl, ρ1, h1, [], rfl, r1, .nil, T.sat_imp (fun _ k => k.up x1) q1⟩
  · exact q1.elim
def dSm1 (C : Addr) (m : Str) (F : FnF) (d : DenE) : DenE := fun s h => (d s h).bind fun p => match insOf C p.2 p.1 with
  | some fs => (match fs.lookup m with
    | none => F [] p.2
    | some _ => .bad)
  | none => .bad
theorem ce_sm1 (h1 : CE X o de) (hp : PE X (.Call (.Attribute o m apos) [] [] pos) (fun σ H Q => wpE X o σ H fun x H1 => ∃ a dx fs, x = .ref a ∧ H1 a = some (.ins C dx fs) ∧ fs.lookup m = none ∧ spF 0 F [] H1 Q E0)) : CE X (.Call (.Attribute o m apos) [] [] pos) (dSm1 C m F de) := fun ρ s h σ H Q he hh qq => by
  refine ofE hp (h1.then he hh qq fun x h1 ρ1 v H1 x1 r1 rv q1 => ?_)
  split at q1
  · next fs hfs =>
    obtain ⟨i, a, dx, vs, _, rfl, hi, rf, hl⟩ := insOf_ok r1 rv hfs
    split at q1
    · next hn => exact ⟨a, dx, vs, rfl, hl, rf.lookup_none hn, ρ1, h1, [], rfl, r1, .nil, T.sat_imp (fun _ k => k.up x1) q1⟩
    · exact q1.elim
  · exact q1.elim
end
end Z
end

section
set_option linter.all false
set_option maxRecDepth 100000
set_option maxHeartbeats 2000000
namespace Z
open PySem L2 PyProof.Rows ClX
variable [Scr]
/-- a def that is called by its name, with its mirror -/
structure CalF (P : Program) (w : World) (K : PySem.W.Frag) (mg : Str → Option Value) (base : Heap) (x : Str) (k n : Nat) (F : FnF) : Prop where
  ex : ∃ f fd ps, mg x = some (.ref f) ∧ PySem.W.keepIn K (.ref f) = true ∧ Binds K fd ps [] ∧ FnOk P w K mg base CX0 k f fd ps (spF n F)
structure CalG (P : Program) (w : World) (K : PySem.W.Frag) (mg : Str → Option Value) (base : Heap) (x : Str) (k n : Nat) (F : FnF) : Prop where
  ex : ∃ f fd ps, mg x = some (.ref f) ∧ PySem.W.keepIn K (.ref f) = true ∧ Binds K fd ps [] ∧ FnG P w K mg base CX0 k f fd ps (spF n F)
theorem CalF.g {P : Program} {w : World} {K : PySem.W.Frag} {mg : Str → Option Value} {base : Heap} {x : Str} {k n : Nat} {F : FnF} (c : CalF P w K mg base x k n F) : CalG P w K mg base x k n F := by
  obtain ⟨f, fd, ps, a, b, c, d⟩ := c.ex
  exact ⟨f, fd, ps, a, b, c, .of d⟩
structure DefK (K : PySem.W.Frag) (x qual : Str) (st : Stmt) (f : Addr) : Prop where
  lk : ∃ (oc : Value) (od : Option Addr) (kV doc pm : Value) (an : Option Addr) (cdv ct : Value) (osl : Array (Option Value)), K.lookup f = some ⟨oc, od, .func (PySem.W.fnOf x qual (defArgs st) (defBody st) (defScope st) .none kV doc pm an cdv ct), osl⟩ ∧ PySem.W.codeIn K cdv qual = true
  kp : PySem.W.keepIn K (.ref f) = true
theorem DefK.fd {K : PySem.W.Frag} {x qual : Str} {st : Stmt} {f : Addr} (d : DefK K x qual st f) : ∃ fd, Fun K x qual st f fd := by
  obtain ⟨⟨oc, od, kV, doc, pm, an, cdv, ct, osl, lk, hcd⟩, kp⟩ := d
  exact ⟨_, ⟨⟨oc, od, kV, doc, pm, an, cdv, ct, osl, rfl, lk, hcd⟩, kp⟩⟩
section
variable {X : Cx} {a b c e o : Expr} {es : List Expr} {pos q apos : Pos} {j k n : Nat} {F : FnF} {x m : Str} {da : DenA} {de : DenE}
theorem ce_cC (c : CalF X.prog X.w X.K X.mg X.base x k n F) (hr : Room j X.A) (hk : k ≤ j) (hg : Gl X x) (h1 : CA X (e :: es) da)
    (hdb : (x == ("__debug__" : Str)) = false := by decide) (he : starEach (e :: es) X.env = (false, eval e X.env) :: starEach es X.env := by rfl) (hpl : (backTo pos (starEach es X.env)).any (·.1) = false := by rfl) : CE X (.Call (.Name x q) (e :: es) [] pos) (dCall n F da) := by
  obtain ⟨f, fd, ps, c1, c2, c3, c4⟩ := c.ex
  exact ce_call c4 (hr.mono hk) hg c1 c2 c3 h1 hdb he hpl
theorem ce_cG (c : CalG X.prog X.w X.K X.mg X.base x k n F) (hgd : X.A.guards = some []) (hr : Room j X.A) (hk : k ≤ j) (hg : Gl X x) (h1 : CA X (e :: es) da)
    (hdb : (x == ("__debug__" : Str)) = false := by decide) (he : starEach (e :: es) X.env = (false, eval e X.env) :: starEach es X.env := by rfl) (hpl : (backTo pos (starEach es X.env)).any (·.1) = false := by rfl) : CE X (.Call (.Name x q) (e :: es) [] pos) (dCall n F da) := by
  obtain ⟨f, fd, ps, c1, c2, c3, c4⟩ := c.ex
  exact ce_callG c4 hgd (hr.mono hk) hg c1 c2 c3 h1 hdb he hpl
theorem ce_cG0 (c : CalG X.prog X.w X.K X.mg X.base x k 0 F) (hgd : X.A.guards = some []) (hr : Room j X.A) (hk : k ≤ j) (hg : Gl X x) (hdb : (x == ("__debug__" : Str)) = false := by decide) : CE X (.Call (.Name x q) [] [] pos) (dCall0 F) := by
  obtain ⟨f, fd, ps, c1, c2, c3, c4⟩ := c.ex
  exact ce_callG0 c4 hgd (hr.mono hk) hg c1 c2 c3 hdb
/-- len without own classes -/
def rLenS (K : PySem.W.Frag) : List V → Hp → VK → Prop := fun xs H Q => ∃ v m, xs = [v] ∧ ((∃ y, v = .str y ∧ y.length ≤ sizeLine ∧ m = y.length) ∨ (∃ a vs, v = .ref a ∧ vs.length = m ∧ ((H a = some (.lst vs)) ∨ SqT K H a vs))) ∧ Q (.int (m : Nat)) H
theorem call_lenS : CallR X (.builtin "len") (rLenS X.K) := by
  intro pins s σ H xs us Q I r h
  obtain ⟨v, m, rfl, hv, q⟩ := h
  refine call_len pins s σ H _ us Q I r ⟨v, m, rfl, ?_, q⟩
  rcases hv with ⟨y, rfl, h1, rfl⟩ | ⟨a, vs, rfl, rfl, h1 | h1⟩
  · exact ⟨h1, rfl⟩
  · exact .inl ⟨_, .of h1, rfl⟩
  · exact .inr ⟨_, h1, rfl⟩
theorem call_lenA {C f : Addr} {fd : FuncData} {ps : List Str} (Fn : FnOk X.prog X.w X.K X.mg X.base CX0 k f fd ps (spF n F)) (hr : Room (k + 1) X.A) (hb : Binds X.K fd ps []) (hs : PySem.W.findIn X.K (.ref C) "__len__" = some (some (.ref f))) (hf : PySem.W.isFn X.K (.ref f) = true) : CallR X (.builtin "len") (rLenA X.K C n F) :=
  callr_or call_lenS (call_lenO Fn hr hb hs hf)
def aLenS (G : ST) : FnF := fun xs h => match xs with
  | [.str y] => bif big y.length then .bad else .ok (.int (y.length : Nat), h)
  | [x] => match seqs G h x with
    | some (_, ys) => .ok (.int (ys.length : Nat), h)
    | none => .bad
  | _ => .bad
theorem cb_lenS {K : PySem.W.Frag} {G : ST} (hG : GOk K G) : CbC (rLenS K) (aLenS G) := fun ρ xs h vs H Q hh rv qq => by
  unfold aLenS at qq
  split at qq
  · next y =>
    cases rv with
    | cons r1 r2 =>
      cases r2
      cases r1
      obtain ⟨hl, qq⟩ := bif_inv qq
      have qq : PQ ρ Q (_, h) := qq
      exact ⟨_, _, rfl, .inl ⟨y, rfl, by rw [sizeLine_eq]; omega, rfl⟩, qq ρ _ H (.refl ρ) hh (.int _)⟩
  · next x _ =>
    cases rv with
    | cons r1 r2 =>
      cases r2
      split at qq
      · next t ys hy =>
        obtain ⟨a, vs, rfl, r, hk⟩ := seqs_ok hG hh r1 hy
        refine ⟨_, _, rfl, .inr ⟨a, vs, rfl, r.length.symm, ?_⟩, qq ρ _ H (.refl ρ) hh (.int _)⟩
        rcases hk with ⟨_, hk⟩ | ⟨_, hk⟩
        · exact .inl hk
        · exact .inr hk
      · exact qq.elim
  · exact qq.elim
/-! ### a written dict -/
abbrev SD := Addr → Option (List (Str × AV))
def DOk (K : PySem.W.Frag) (w : World) (D : SD) : Prop := ∀ a kvs, D a = some kvs → ∀ x z, kvs.lookup x = some z → ∃ v, (∀ ρ, RV ρ z v) ∧ KDct K w a x v
def aIxK (D : SD) : Op2 := fun x y h => match x with
  | .k (.ref a) => match D a with
    | some kvs => match y with
      | .str z => match kvs.lookup z with
        | some r => .ok (r, h)
        | none => .bad
      | _ => .bad
    | none => .bad
  | _ => .bad
theorem oc_ixK {K : PySem.W.Frag} {w : World} {D : SD} (hD : DOk K w D) : OpC (rIxD K w) (aIxK D) := fun ρ x y h vx vy H Q hh rx ry q => by
  unfold aIxK at q
  split at q
  · split at q
    · next kvs hk =>
      split at q
      · split at q
        · next r hr =>
          obtain ⟨v, rv, kd⟩ := hD _ _ hk _ _ hr
          cases rx
          cases ry
          exact ⟨_, _, v, rfl, rfl, kd, q ρ v H (.refl ρ) hh (rv ρ)⟩
        · exact q.elim
      · exact q.elim
    · exact q.elim
  · exact q.elim
theorem ce_ixK {D : SD} (hD : DOk X.K X.w D) (hp : PlainIx b) (h1 : CE X a de) {db : DenE} (h2 : CE X b db) : CE X (.Subscript a b pos) (dOp (aIxK D) de db) :=
  ce_op (t := tOp (rIxD X.K X.w)) (fun _ _ ha hb => pe_ix ix_kdict ha hb hp) (fun _ _ _ _ _ h => h) (oc_ixK hD) h1 h2
end
end Z
end

section
set_option linter.all false
set_option maxRecDepth 100000
set_option maxHeartbeats 2000000
namespace Z
open PySem L2 PyProof.Rows ClX
variable [Scr]
section
variable {X : Cx} {G : ST} {a b c e o : Expr} {es : List Expr} {st : Stmt} {pos q apos : Pos} {da : DenA} {de : DenE}
/-! ### what the mirror doesn't follow -/
theorem ce_bad : CE X e (fun _ _ => .bad) := fun ρ s h σ H Q he hh q => q.elim
theorem cs_bad : CS X st (fun _ _ => .bad) := fun ρ s h σ H Q he hh q => q.elim
/-! ### enumerate, zip -/
def pairI : Nat → List AV → List Item
  | _, [] => []
  | i, x :: xs => .p (.int (i : Nat)) x :: pairI (i + 1) xs
theorem pairI_get : ∀ (xs : List AV) (k i : Nat) (m : Item), (pairI k xs)[i]? = some m → ∃ x, xs[i]? = some x ∧ m = .p (.int ((k + i : Nat) : Int)) x
  | [], _, i, m, e => by simp [pairI] at e
  | x :: xs, k, 0, m, e => by simp [pairI] at e; exact ⟨x, rfl, by rw [← e]; simp⟩
  | x :: xs, k, i + 1, m, e => by
    obtain ⟨y, hy, hm⟩ := pairI_get xs (k + 1) i m (by simpa [pairI] using e)
    exact ⟨y, by simpa using hy, by rw [hm]; congr 2; push_cast; omega⟩
theorem pairI_len : ∀ (xs : List AV) (k : Nat), (pairI k xs).length = xs.length
  | [], _ => rfl
  | x :: xs, k => by simp [pairI, pairI_len xs]
def keepOf (t : Bool) (x : AV) (xs : List AV) : List (Bool × Nat × List AV) := match x with
  | .r i => [(t, i, xs)]
  | _ => []
theorem seq_keep {K : PySem.W.Frag} {ρ1 : Ro} {h1 : AH} {x : AV} {a : Addr} {t : Bool} {xs : List AV} {vs : List V} (hG : GOk K G) (rv : RV ρ1 x (.ref a)) (hx : seqs G h1 x = some (t, xs)) (r : RVs ρ1 xs vs) {ks : List (Bool × Nat × List AV)} :
    ∀ ρ2 h2 H2, Xt ρ1 ρ2 → RH ρ2 h2 H2 → okKeep h2 (keepOf t x xs ++ ks) = true → ((t = true ∧ SqL K H2 a vs) ∨ (t = false ∧ SqT K H2 a vs)) ∧ okKeep h2 ks = true := fun ρ2 h2 H2 x2 r2 k => by
  cases rv with
  | r hr => exact keep_sq (K := K) (ks := ks) hr r x2 r2 k
  | k w =>
    unfold seqs at hx
    dsimp only at hx
    split at hx
    · next ys hy =>
      cases hx
      obtain ⟨vs', rr, s⟩ := hG _ _ hy
      rw [RVs.det r (rr ρ1)]
      exact ⟨.inr ⟨rfl, s H2⟩, k⟩
    · cases hx
  | scr => cases hx
theorem yld_pair {ρ1 : Ro} {items : List Item} {f g : Nat → Option V} (hp : ∀ (i : Nat) m u w, items[i]? = some m → f i = some u → g i = some w → ∃ x y, m = .p x y ∧ RV ρ1 x u ∧ RV ρ1 y w) :
    ∀ i m ρ2 h2 H2 v H2', items[i]? = some m → Xt ρ1 ρ2 → RH ρ2 h2 H2 → YPair f g i H2 v H2' → ∃ ρ3, Xt ρ2 ρ3 ∧ RH ρ3 (itemAt m h2).2 H2' ∧ RV ρ3 (itemAt m h2).1 v := fun i m ρ2 h2 H2 v H2' e x2 r2 y => by
  obtain ⟨p, u, w, rfl, hp', rfl, hu, hw⟩ := y
  obtain ⟨x, y, rfl, rx, ry⟩ := hp i m u w e hu hw
  exact ⟨ext ρ2 h2.sz p, r2.xt p, r2.new hp' fun ρ' x' => .tup (.cons (rx.up (x2.trans x')) (.cons (ry.up (x2.trans x')) .nil)) upd_same, .r (by unfold ext; rw [if_pos rfl])⟩
def dEnum (G : ST) (d : DenA) : AE → AH → T (Walked × AH) := fun s h => (d s h).bind fun p => match p.1 with
  | [x] => (match seqs G p.2 x with
    | some (true, xs) => .ok (⟨pairI 0 xs, keepOf true x xs ++ []⟩, p.2)
    | _ => .bad)
  | _ => .bad
theorem ci_enum {elts : List Expr} {kk : Nat} {tpos : Pos} {d : DenA} (hG : GOk X.K G) (hg : Gl X "enumerate") (hm : X.mg "enumerate" = none) (h1 : CA X [e] d) (hs : starEach [e] X.env = [(false, eval e X.env)] := by rfl) : CI X (.Tuple elts kk tpos) (.Call (.Name "enumerate" q) [e] [] pos) (dEnum G d) := by
  refine ⟨iEnum X.K (wpA X [e]), pi_enum hg hm (paW [e]) hs, fun ρ s h σ H R he hh q => ?_⟩
  refine h1.then he hh q fun zs h1 ρ1 us H1 x1 r1 rv q1 => ?_
  split at q1
  · next x e1 =>
    have e1 : zs = [x] := e1
    subst e1
    cases rv with
    | cons ra rr =>
      cases rr
      split at q1
      · next xs hx =>
        obtain ⟨a, vs, rfl, r, hk⟩ := seqs_ok hG r1 ra hx
        rcases hk with ⟨_, hk⟩ | ⟨z, _⟩
        · refine ⟨a, vs, rfl, .of hk, q1 ρ1 H1 x1 r1 _ _ _ _ (walk_enum (xs := vs)) (by show vs.length = (pairI 0 xs).length; rw [pairI_len, r.length]) (fun ρ2 h2 H2 x2 r2 k => ?_) (yld_pair fun i m u w e hu hw => ?_)⟩
          · rcases (seq_keep hG ra hx r ρ2 h2 H2 x2 r2 k).1 with ⟨_, z⟩ | ⟨z, _⟩
            · exact z
            · cases z
          · obtain ⟨y, hy, hm⟩ := pairI_get xs 0 i m e
            obtain ⟨w', hw', rw'⟩ := paired_get r hy
            cases hu
            rw [hw'] at hw
            cases hw
            refine ⟨_, _, hm, ?_, rw'⟩
            rw [Nat.zero_add]
            exact .int _
        · cases z
      · exact q1.elim
  · exact q1.elim
def zipA : List AV → List AV → List Item
  | x :: xs, y :: ys => .p x y :: zipA xs ys
  | _, _ => []
theorem zipA_get : ∀ (xs ys : List AV) (i : Nat) (m : Item), (zipA xs ys)[i]? = some m → ∃ x y, xs[i]? = some x ∧ ys[i]? = some y ∧ m = .p x y
  | [], ys, i, m, e => by simp [zipA] at e
  | x :: xs, [], i, m, e => by simp [zipA] at e
  | x :: xs, y :: ys, 0, m, e => by simp [zipA] at e; exact ⟨x, y, rfl, rfl, e.symm⟩
  | x :: xs, y :: ys, i + 1, m, e => by
    obtain ⟨a, b, h1, h2, h3⟩ := zipA_get xs ys i m (by simpa [zipA] using e)
    exact ⟨a, b, by simpa using h1, by simpa using h2, h3⟩
theorem zipA_len : ∀ (xs ys : List AV), (zipA xs ys).length = min xs.length ys.length
  | [], ys => by simp [zipA]
  | x :: xs, [] => by simp [zipA]
  | x :: xs, y :: ys => by simp [zipA, zipA_len xs ys]
theorem walk_zipTL {K : PySem.W.Frag} {a b : Addr} {xs ys : List V} {n : Nat} (hn : n = min xs.length ys.length) : Walk (ItzTL K a b) n (fun H => SqT K H a xs ∧ SqL K H b ys) (YPair (fun i => xs[i]?) (fun i => ys[i]?)) := by
  subst hn
  refine ⟨fun i _ hi q => ?_, fun _ q => ⟨xs, ys, q.1, q.2, by omega⟩, fun i H v H' _ q y => ?_⟩
  · have h1 : i < xs.length := by omega
    have h2 : i < ys.length := by omega
    exact ⟨xs, ys, xs[i], ys[i], q.1, q.2, by simp [h1], by simp [h2]⟩
  · obtain ⟨T, x, z, h1, h2, h3, h4, h5⟩ := y
    exact ⟨T, x, z, h1, h2, h3, h4 xs q.1, h5 ys q.2⟩
def dZipTL (G : ST) (d : DenA) : AE → AH → T (Walked × AH) := fun s h => (d s h).bind fun p => match p.1 with
  | [x, y] => (match seqs G p.2 x, seqs G p.2 y with
    | some (false, xs), some (true, ys) => .ok (⟨zipA xs ys, keepOf false x xs ++ (keepOf true y ys ++ [])⟩, p.2)
    | _, _ => .bad)
  | _ => .bad
theorem ci_zipTL {elts : List Expr} {kk : Nat} {tpos : Pos} {d : DenA} (hG : GOk X.K G) (hg : Gl X "zip") (hm : X.mg "zip" = none) (h1 : CA X [a, b] d) (hp : PI X (.Tuple elts kk tpos) (.Call (.Name "zip" q) [a, b] [] pos) (iZipTL X.K (wpA X [a, b]))) : CI X (.Tuple elts kk tpos) (.Call (.Name "zip" q) [a, b] [] pos) (dZipTL G d) := by
  refine ⟨iZipTL X.K (wpA X [a, b]), hp, fun ρ s h σ H R he hh q => ?_⟩
  refine h1.then he hh q fun zs h1 ρ1 us H1 x1 r1 rv q1 => ?_
  split at q1
  · next x y e1 =>
    have e1 : zs = [x, y] := e1
    subst e1
    cases rv with
    | cons ra rr =>
      cases rr with
      | cons rb rr =>
        cases rr
        split at q1
        · next xs ys hx hy =>
          obtain ⟨a, vs, rfl, r, hk⟩ := seqs_ok hG r1 ra hx
          obtain ⟨b, ws, rfl, r', hk'⟩ := seqs_ok hG r1 rb hy
          rcases hk with ⟨z, _⟩ | ⟨_, hk⟩
          · cases z
          · rcases hk' with ⟨_, hk'⟩ | ⟨z, _⟩
            · refine ⟨a, b, vs, ws, rfl, hk, .of hk', q1 ρ1 H1 x1 r1 _ _ _ _ (walk_zipTL (xs := vs) (ys := ws) rfl) (by show min vs.length ws.length = (zipA xs ys).length; rw [zipA_len, r.length, r'.length]) (fun ρ2 h2 H2 x2 r2 k => ?_) (yld_pair fun i m u w e hu hw => ?_)⟩
              · obtain ⟨k1, k2⟩ := seq_keep hG ra hx r ρ2 h2 H2 x2 r2 k
                obtain ⟨k3, _⟩ := seq_keep hG rb hy r' ρ2 h2 H2 x2 r2 k2
                rcases k1 with ⟨z, _⟩ | ⟨_, k1⟩
                · cases z
                · rcases k3 with ⟨_, k3⟩ | ⟨z, _⟩
                  · exact ⟨k1, k3⟩
                  · cases z
              · obtain ⟨x', y', e2, e3, rfl⟩ := zipA_get xs ys i m e
                obtain ⟨u', hu', ru'⟩ := paired_get r e2
                obtain ⟨w', hw', rw'⟩ := paired_get r' e3
                rw [hu'] at hu
                rw [hw'] at hw
                cases hu
                cases hw
                exact ⟨_, _, rfl, ru', rw'⟩
            · cases z
        · exact q1.elim
  · exact q1.elim
end
/-! ### a method of a class, with its mirror -/
structure MetF (P : Program) (w : World) (K : PySem.W.Frag) (mg : Str → Option Value) (base : Heap) (C : Addr) (x : Str) (k n : Nat) (F : FnF) : Prop where
  ex : ∃ f fd ps, PySem.W.findIn K (.ref C) x = some (some (.ref f)) ∧ PySem.W.isFn K (.ref f) = true ∧ PySem.W.fnIn K f = true ∧ PySem.W.keepIn K (.ref f) = true ∧ Binds K fd ps [] ∧ FnOk P w K mg base CX0 k f fd ps (spF n F)
structure PropF (P : Program) (w : World) (K : PySem.W.Frag) (mg : Str → Option Value) (base : Heap) (C : Addr) (x : Str) (k n : Nat) (F : FnF) : Prop where
  ex : ∃ p f fd ps, PropOf K C x p f ∧ Binds K fd ps [] ∧ FnOk P w K mg base CX0 k f fd ps (spF n F)
structure SmF (P : Program) (w : World) (K : PySem.W.Frag) (mg : Str → Option Value) (base : Heap) (C : Addr) (x : Str) (k : Nat) (F : FnF) : Prop where
  ex : ∃ p f fd ps mc, CRead K C mc ∧ PySem.W.findCls K (.ref C) mc x = some (.get (.builtin "staticmethod.__get__") (.ref p) .none (.ref C)) ∧ (∃ rest, PySem.W.recIn K p "staticmethod" = some (.ref f :: rest)) ∧ PySem.W.plainGet K C x = true ∧ PySem.W.isClsIn K C = true ∧
    PySem.W.findIn K (.ref C) x = some (some (.ref p)) ∧ PySem.W.typeIn K (.ref p) = some (.type "staticmethod") ∧ PySem.W.specialIn K (.ref p) "__get__" = some (some (.builtin "staticmethod.__get__")) ∧ PySem.W.takesIn K (.ref p) = some false ∧ PySem.W.copiedNames.contains x = false ∧
    PySem.W.keepIn K (.ref f) = true ∧ Binds K fd ps [] ∧ FnOk P w K mg base CX0 k f fd ps (spF 0 F)
def blkB (N : List Str) (sc scope : Scope) (own : List (Str × Nat)) : Bool :=
  decide (scope.kind = .function) && (scope.names.all (fun y => decide (scope.names.lookup y.1 = some y.2)) && (own.all (fun p => decide (N[p.2]? = some p.1)) &&
  (scope.names.all (fun y => !decide (y.2 = .free) || (decide (sc.names.lookup y.1 = some .cell) || decide (sc.names.lookup y.1 = some .free))) &&
  scope.names.all (fun y => !(decide (y.2 = .local) || decide (y.2 = .cell)) || (decide (y.1 ∈ own.map (·.1)) || decide (y.1 ∉ N))))))
theorem blkOk {N : List Str} {sc scope : Scope} {own : List (Str × Nat)} (h : blkB N sc scope own = true) : BlkOk N sc scope own := by
  unfold blkB at h
  simp only [Bool.and_eq_true, decide_eq_true_eq] at h
  obtain ⟨h1, h2, h3, h4, h5⟩ := h
  refine ⟨h1, fun y hy => by simpa using List.all_eq_true.mp h2 y hy, fun p hp => by simpa using List.all_eq_true.mp h3 p hp, fun y hy hf => ?_, fun y hy hl => ?_⟩
  · have := List.all_eq_true.mp h4 y hy
    simp only [Bool.or_eq_true, Bool.not_eq_true', decide_eq_false_iff_not, decide_eq_true_eq] at this
    rcases this with z | z
    · exact (z hf).elim
    · exact z
  · have := List.all_eq_true.mp h5 y hy
    simp only [Bool.or_eq_true, Bool.not_eq_true', Bool.or_eq_false_iff, decide_eq_false_iff_not, decide_eq_true_eq] at this
    rcases this with z | z
    · rcases hl with k | k
      · exact (z.1 k).elim
      · exact (z.2 k).elim
    · exact z
end Z
end

section
set_option linter.all false
set_option maxRecDepth 100000
set_option maxHeartbeats 2000000
namespace Z
open PySem L2 PyProof.Rows ClX
variable [Scr]
/-! ### a comprehension with two fors -/
def loopC1 (keep : List (Bool × Nat × List AV)) (dg : DenG) (tt : DenB) (te : DenE) (sw : AE) (k : Nat) : List Item → AH → T (Unit × AH)
  | [], h => bif okKeep h keep then .ok ((), h) else .bad
  | it :: its, h => bif okKeep h keep then (dg (itemAt it h).1 sw (itemAt it h).2).bind fun s2 => (tt s2 (itemAt it h).2).bind fun b => bif b.1 then (te s2 b.2).bind fun y => (match y.2.get k with
      | some (.lst acc) => bif big acc.length then .bad else loopC1 keep dg tt te sw k its (y.2.set k (.lst (acc ++ [y.1])))
      | _ => .bad) else loopC1 keep dg tt te sw k its b.2 else .bad
def loopC2 (keep : List (Bool × Nat × List AV)) (dg : DenG) (tt : DenB) (di1 : AE → AH → T (Walked × AH)) (dg1 : DenG) (vs1 : List Nat) (tt1 : DenB) (te : DenE) (sw : AE) (k : Nat) : List Item → AH → T (AV × AH)
  | [], h => bif okKeep h keep then .ok (.r k, h) else .bad
  | it :: its, h => bif okKeep h keep then (dg (itemAt it h).1 sw (itemAt it h).2).bind fun s2 => (tt s2 (itemAt it h).2).bind fun b => bif b.1 then (di1 s2 b.2).bind fun p => (loopC1 p.1.keep dg1 tt1 te (wipeA s2 vs1) k p.1.items p.2).bind fun r => loopC2 keep dg tt di1 dg1 vs1 tt1 te sw k its r.2
      else loopC2 keep dg tt di1 dg1 vs1 tt1 te sw k its b.2 else .bad
theorem loopC1_keep {keep : List (Bool × Nat × List AV)} {dg : DenG} {tt : DenB} {te : DenE} {sw : AE} {k : Nat} {its : List Item} {h : AH} {P : Unit × AH → Prop} (q : (loopC1 keep dg tt te sw k its h).sat P) : okKeep h keep = true := by
  cases its with
  | nil => unfold loopC1 at q; exact (bif_ok q).1
  | cons m ms => unfold loopC1 at q; exact (bif_ok q).1
theorem loopC2_keep {keep : List (Bool × Nat × List AV)} {dg : DenG} {tt : DenB} {di1 : AE → AH → T (Walked × AH)} {dg1 : DenG} {vs1 : List Nat} {tt1 : DenB} {te : DenE} {sw : AE} {k : Nat} {its : List Item} {h : AH} {P : AV × AH → Prop} (q : (loopC2 keep dg tt di1 dg1 vs1 tt1 te sw k its h).sat P) : okKeep h keep = true := by
  cases its with
  | nil => unfold loopC2 at q; exact (bif_ok q).1
  | cons m ms => unfold loopC2 at q; exact (bif_ok q).1
theorem wipe_wipe : ∀ (ws us : List Nat) (σ : L2.St), (∀ i, i ∈ ws → i ∈ us) → L2.wipe (L2.wipe σ ws) us = L2.wipe σ us
  | [], us, σ, _ => rfl
  | k :: ws, us, σ, hs => by
    show L2.wipe ((L2.wipe σ ws).set k none) us = _
    rw [wipe_set (hs k List.mem_cons_self)]
    exact wipe_wipe ws us σ fun i hi => hs i (List.mem_cons_of_mem _ hi)
section
variable {X : Cx} {G : ST} {elt : Expr} {pos : Pos} {ifs ifs1 : List Expr} {scope : Scope}
def dLc2 (di : AE → AH → T (Walked × AH)) (dg : DenG) (vs : List Nat) (tt : DenB) (di1 : AE → AH → T (Walked × AH)) (dg1 : DenG) (vs1 : List Nat) (tt1 : DenB) (te : DenE) : DenE := fun s h => (di s h).bind fun p => loopC2 p.1.keep dg tt di1 dg1 vs1 tt1 te (wipeA s vs) p.2.sz p.1.items (p.2.new (.lst []))
/-- what a walked thing promises -/
def CIk (wi : TI) (di : AE → AH → T (Walked × AH)) : Prop := ∀ ρ s h σ H R, RE ρ s σ → RH ρ h H → (di s h).sat (fun r => ∀ ρ1 H1, Xt ρ ρ1 → RH ρ1 r.2 H1 → ∀ (J : It) (n : Nat) (Gd : Hp → Prop) (Y : Nat → Hp → V → Hp → Prop), Walk J n Gd Y →
    n = r.1.items.length → (∀ ρ2 h2 H2, Xt ρ1 ρ2 → RH ρ2 h2 H2 → okKeep h2 r.1.keep = true → Gd H2) →
    (∀ i m ρ2 h2 H2 v H2', r.1.items[i]? = some m → Xt ρ1 ρ2 → RH ρ2 h2 H2 → Y i H2 v H2' → ∃ ρ3, Xt ρ2 ρ3 ∧ RH ρ3 (itemAt m h2).2 H2' ∧ RV ρ3 (itemAt m h2).1 v) → R J H1) → wi σ H R
/-- within the block, whatever its frame -/
def wiB (X : Cx) (scope : Scope) (tg it : Expr) : TI := fun σ H R => ∀ (s : Shared) (H0 : Hp) (C : Addr) (cl : List (Str × Addr)) (fp : List Addr), ∃ wi : TI, PI (X.blk s H0 scope (compEnvC scope cl C X.env) fp) tg it wi ∧ wi σ H R
theorem pi_wiB {tg it : Expr} : Blk X scope fun Y => PI Y tg it (wiB X scope tg it) := fun s H0 C cl fp => ⟨fun pins s' σ H R I h => let ⟨wi, p, k⟩ := h s H0 C cl fp; p.run pins s' σ H R I k⟩
theorem turns {J : It} {n : Nat} {Gd : Hp → Prop} {Y : Nat → Hp → V → Hp → Prop} {g : TG} {tt : TT} {te : TE} {vs : List Nat} {σ : L2.St} {H0 : Hp} {D : Addr} {Qd : Hp → Prop} (w : Walk J n Gd Y) (Pv : Nat → Hp → Prop) (h0 : Pv 0 H0) (hG : ∀ i H, i ≤ n → Pv i H → Gd H)
    (hs : ∀ i x H H', i < n → Pv i H → Y i H x H' → g x (L2.wipe σ vs) H' fun σ2 H2 => L2.wipe σ2 vs = L2.wipe σ vs ∧ tt σ2 H2 fun b H3 => if b = true then te σ2 H3 fun y H4 => ∃ acc, H4 D = some (.lst acc) ∧ acc.length < sizeLine ∧ Pv (i + 1) (upd H4 D (.lst (acc ++ [y]))) else Pv (i + 1) H3) (hd : ∀ H, Pv n H → Qd H) :
    ∃ W : Nat → Nat → Hp → Prop, (∃ m, W 0 m H0) ∧ ∀ i m H, W i m H → (J.stop i H ∧ Qd H) ∨ (J.go i H ∧ ∃ Nx : Hp → Prop, (∀ H', Nx H' → ∃ m', m' < m ∧ W (i + 1) m' H') ∧ ∀ x H', J.yld i H x H' → g x (L2.wipe σ vs) H' fun σ2 H2 => L2.wipe σ2 vs = L2.wipe σ vs ∧ tt σ2 H2 fun b H3 =>
        if b = true then te σ2 H3 fun y H4 => ∃ acc, H4 D = some (.lst acc) ∧ acc.length < sizeLine ∧ Nx (upd H4 D (.lst (acc ++ [y]))) else Nx H3) := by
  refine ⟨fun i m H => m = n - i ∧ i ≤ n ∧ Pv i H, ⟨n, rfl, Nat.zero_le _, h0⟩, ?_⟩
  rintro i m H ⟨rfl, hi, p⟩
  have q := hG i H hi p
  by_cases hlt : i < n
  · exact .inr ⟨w.goes i H hlt q, Pv (i + 1), fun H' p' => ⟨n - (i + 1), by omega, rfl, hlt, p'⟩, fun x H' y => hs i x H H' hlt p (w.yields i H x H' hlt q y)⟩
  · have e : i = n := by omega
    subst e
    exact .inl ⟨w.stops H q, hd H p⟩
theorem lc2_ok {wi : TI} {tg1 it1 : Expr} {t t1 : TG} {is is1 : List Nat} {di di1 : AE → AH → T (Walked × AH)} {dg dg1 : DenG} {dt dt1 : DenB} {de : DenE} {vs vs1 : List Nat} {ρ : Ro} {s : AE} {h : AH} {σ : L2.St} {H : Hp} {Q : VK} (his : ∀ i, i ∈ is → i ∈ vs) (his1 : ∀ i, i ∈ is1 → i ∈ vs1)
    (k1 : CIk wi di) (k2 : GK t is dg) (k2' : GK t1 is1 dg1) (k3 : Blk X scope fun Y => CTs Y ifs dt) (k5 : Blk X scope fun Y => CI Y tg1 it1 di1) (k3' : Blk X scope fun Y => CTs Y ifs1 dt1) (k4 : Blk X scope fun Y => CE Y elt de)
    (he : RE ρ s σ) (hh : RH ρ h H) (q : (dLc2 di dg vs dt di1 dg1 vs1 dt1 de s h).sat (PQ ρ Q)) : tLc2 wi t (wpTsB X scope ifs) (wiB X scope tg1 it1) t1 (wpTsB X scope ifs1) (wpEB X scope elt) vs vs1 σ H Q := by
  refine k1 ρ s h σ H _ he hh (T.sat_imp (fun r q1 ρ1 H1 x1 r1 J n Gd Y W hn hGd hY => ?_) (T.sat_bind q))
  subst hn
  intro D hD
  have xD : Xt ρ1 (ext ρ1 r.2.sz D) := r1.xt D
  have rD : RH (ext ρ1 r.2.sz D) (r.2.new (.lst [])) (upd H1 D (.lst [])) := r1.new hD fun ρ' _ => .lst .nil upd_same
  have kD : (ext ρ1 r.2.sz D) r.2.sz = some D := by unfold ext; rw [if_pos rfl]
  let Pv : Nat → Hp → Prop := fun i H' => ∃ ρ' h', Xt (ext ρ1 r.2.sz D) ρ' ∧ RH ρ' h' H' ∧ (loopC2 r.1.keep dg dt di1 dg1 vs1 dt1 de (wipeA s vs) r.2.sz (r.1.items.drop i) h').sat (PQ ρ Q)
  refine ⟨fun i m H => m = r.1.items.length - i ∧ i ≤ r.1.items.length ∧ Pv i H, ⟨_, rfl, Nat.zero_le _, _, _, .refl _, rD, q1⟩, ?_⟩
  rintro i m H' ⟨rfl, hi, p⟩
  have gd : Gd H' := by
    obtain ⟨ρ', h', x', r', q'⟩ := p
    exact hGd ρ' h' H' (xD.trans x') r' (loopC2_keep q')
  by_cases hlt : i < r.1.items.length
  · refine .inr ⟨W.goes i H' hlt gd, Pv (i + 1), fun H2 p' => ⟨_, by omega, rfl, hlt, p'⟩, fun v H2' y => ?_⟩
    have y := W.yields i H' v H2' hlt gd y
    obtain ⟨ρ', h', x', r', q'⟩ := p
    have hd : r.1.items.drop i = r.1.items[i] :: r.1.items.drop (i + 1) := List.drop_eq_getElem_cons hlt
    rw [hd] at q'
    unfold loopC2 at q'
    obtain ⟨_, q'⟩ := bif_ok q'
    obtain ⟨ρ3, x3, r3, rv3⟩ := hY i _ ρ' h' H' v H2' (List.getElem?_eq_getElem hlt) (xD.trans x') r' y
    have heW : RE ρ3 (wipeA s vs) (L2.wipe σ vs) := ((((he.up x1).up xD).up x').up x3).wipe vs
    have x03 : Xt (ext ρ1 r.2.sz D) ρ3 := x'.trans x3
    refine k2 ρ3 _ v _ _ _ H2' _ heW r3 rv3 (T.sat_imp (fun s1 q2 σ1 he1 o1 => ⟨?_, ?_⟩) (T.sat_bind q'))
    · rw [o1 vs his]
      exact wipe_wipe vs vs σ fun _ z => z
    · intro s' H0 C cl fp
      refine k3 s' H0 C cl fp ρ3 s1 _ σ1 H2' _ he1 r3 (T.sat_imp (fun b q3 ρ4 H4 x4 r4 => ?_) (T.sat_bind q2))
      obtain ⟨b, h4⟩ := b
      cases b with
      | false => exact ⟨ρ4, h4, x03.trans x4, r4, q3⟩
      | true =>
        rw [if_pos rfl]
        intro s' H0 C cl fp
        obtain ⟨wi1, p1, k6⟩ := k5 s' H0 C cl fp
        refine ⟨wi1, p1, k6 ρ4 s1 h4 σ1 H4 _ (he1.up x4) r4 (T.sat_imp (fun u q4 ρ5 H5 x5 r5 J1 n1 Gd1 Y1 W1 hn1 hGd1 hY1 => ?_) (T.sat_bind q3))⟩
        subst hn1
        have q4 := T.sat_bind q4
        have x05 : Xt (ext ρ1 r.2.sz D) ρ5 := (x03.trans x4).trans x5
        refine turns (D := D) W1 (fun j H6 => ∃ ρ6 h6, Xt ρ5 ρ6 ∧ RH ρ6 h6 H6 ∧ (loopC1 u.1.keep dg1 dt1 de (wipeA s1 vs1) r.2.sz (u.1.items.drop j) h6).sat (fun a => (loopC2 r.1.keep dg dt di1 dg1 vs1 dt1 de (wipeA s vs) r.2.sz (r.1.items.drop (i + 1)) a.2).sat (PQ ρ Q))) ⟨ρ5, u.2, .refl _, r5, q4⟩ ?_ ?_ ?_
        · rintro j H6 hj ⟨ρ6, h6, x6, r6, q6⟩
          exact hGd1 ρ6 h6 H6 x6 r6 (loopC1_keep q6)
        · rintro j v6 H6 H7 hj ⟨ρ6, h6, x6, r6, q6⟩ y6
          have hd1 : u.1.items.drop j = u.1.items[j] :: u.1.items.drop (j + 1) := List.drop_eq_getElem_cons hj
          rw [hd1] at q6
          unfold loopC1 at q6
          obtain ⟨_, q6⟩ := bif_ok q6
          obtain ⟨ρ7, x7, r7, rv7⟩ := hY1 j _ ρ6 h6 H6 v6 H7 (List.getElem?_eq_getElem hj) x6 r6 y6
          have heW1 : RE ρ7 (wipeA s1 vs1) (L2.wipe σ1 vs1) := ((((he1.up x4).up x5).up x6).up x7).wipe vs1
          refine k2' ρ7 _ v6 _ _ _ H7 _ heW1 r7 rv7 (T.sat_imp (fun s7 q7 σ7 he7 o7 => ⟨?_, ?_⟩) (T.sat_bind q6))
          · rw [o7 vs1 his1]
            exact wipe_wipe vs1 vs1 σ1 fun _ z => z
          · intro s' H0 C cl fp
            refine k3' s' H0 C cl fp ρ7 s7 _ σ7 H7 _ he7 r7 (T.sat_imp (fun b q8 ρ8 H8 x8 r8 => ?_) (T.sat_bind q7))
            obtain ⟨b, h8⟩ := b
            cases b with
            | false => exact ⟨ρ8, h8, (x6.trans x7).trans x8, r8, q8⟩
            | true =>
              rw [if_pos rfl]
              intro s' H0 C cl fp
              refine k4 s' H0 C cl fp ρ8 s7 h8 σ7 H8 _ (he7.up x8) r8 (T.sat_imp (fun y q9 ρ9 v9 H9 x9 r9 rv9 => ?_) (T.sat_bind q8))
              have hk : ρ9 r.2.sz = some D := x9 _ _ (x8 _ _ (x7 _ _ (x6 _ _ (x05 _ _ kD))))
              split at q9
              · next acc hacc =>
                obtain ⟨hb, q9⟩ := bif_inv q9
                cases r9.get hacc hk with
                | lst ra hl => exact ⟨_, hl, by rw [← ra.length, sizeLine_eq]; omega, ρ9, _, ((x6.trans x7).trans x8).trans x9, r9.set hk (.lst (paired_append ra (.cons rv9 .nil)) upd_same), q9⟩
              · exact q9.elim
        · rintro H6 ⟨ρ6, h6, x6, r6, q6⟩
          rw [List.drop_eq_nil_of_le (Nat.le_refl _)] at q6
          unfold loopC1 at q6
          obtain ⟨_, q6⟩ := bif_ok q6
          exact ⟨ρ6, h6, x05.trans x6, r6, q6⟩
  · have e : i = r.1.items.length := by omega
    subst e
    refine .inl ⟨W.stops H' gd, ?_⟩
    obtain ⟨ρ', h', x', r', q'⟩ := p
    rw [List.drop_eq_nil_of_le (Nat.le_refl _)] at q'
    unfold loopC2 at q'
    obtain ⟨_, q'⟩ := bif_ok q'
    have q' : PQ ρ Q (.r r.2.sz, h') := q'
    exact q' ρ' _ H' ((x1.trans xD).trans x') r' (.r (x' _ _ kD))
theorem ce_lc2 {tg it tg1 it1 : Expr} {t t1 : TG} {is is1 : List Nat} {di di1 : AE → AH → T (Walked × AH)} {dg dg1 : DenG} {dt dt1 : DenB} {de : DenE} {own : List (Str × Nat)} {vs1 : List Nat} (hc : X.calm = true) (hN : X.N.Nodup) (h1 : CI X tg it di) (ok : BlkOk X.N X.env.scope scope own) (hv : ∀ i, i ∈ vs1 → i ∈ own.map (·.2))
    (h2 : Blk X scope fun Y => PG Y tg t) (hk : GK t is dg) (his : ∀ i, i ∈ is → i ∈ own.map (·.2)) (h3 : Blk X scope fun Y => CTs Y ifs dt) (h5 : Blk X scope fun Y => CI Y tg1 it1 di1) (h6 : Blk X scope fun Y => PG Y tg1 t1) (hk1 : GK t1 is1 dg1) (his1 : ∀ i, i ∈ is1 → i ∈ vs1) (h7 : Blk X scope fun Y => CTs Y ifs1 dt1) (h4 : Blk X scope fun Y => CE Y elt de)
    (hs : ∀ x, foldedSetIterable it X.env x = pure x := by intro _; rfl) (hs1 : ∀ env x, foldedSetIterable it1 env x = pure x := by intro _ _; rfl) : CE X (.ListComp elt [⟨tg, it, ifs, 0⟩, ⟨tg1, it1, ifs1, 0⟩] scope pos) (dLc2 di dg (own.map (·.2)) dt di1 dg1 vs1 dt1 de) := fun ρ s h σ H Q he hh q => by
  obtain ⟨wi, p1, k1⟩ := h1
  refine ofE (pe_lc2 (tt := wpTsB X scope ifs) (tt1 := wpTsB X scope ifs1) (te := wpEB X scope elt) (wi1 := wiB X scope tg1 it1) hc hN p1 ok hv h2 (fun s H C cl fp => ⟨fun pins s' σ H' Q I h => h s H C cl fp pins s' I⟩) pi_wiB h6 (fun s H C cl fp => ⟨fun pins s' σ H' Q I h => h s H C cl fp pins s' I⟩) (fun s H C cl fp => ⟨fun pins s' σ H' Q I h => h s H C cl fp pins s' I⟩) hs hs1) ?_
  exact lc2_ok his his1 k1 hk hk1 h3 h5 h7 h4 he hh q
/-! ### index of a written tuple of texts -/
def strsA : List AV → Option (List Str)
  | [] => some []
  | .str y :: xs => match strsA xs with
    | some ys => some (y :: ys)
    | none => none
  | _ :: _ => none
theorem strsA_ok {ρ : Ro} : ∀ {xs : List AV} {vs : List V} {ys : List Str}, RVs ρ xs vs → strsA xs = some ys → vs = ys.map V.str
  | _, _, _, .nil, e => by cases e; rfl
  | x :: xs, v :: vs, ys, .cons a t, e => by
    cases a with
    | str b =>
      unfold strsA at e
      split at e
      · next cs hcs => cases e; rw [strsA_ok t hcs]; rfl
      · cases e
    | non => cases e
    | int _ => cases e
    | bl _ => cases e
    | rep _ => cases e
    | scr => cases e
    | r _ => cases e
    | k _ => cases e
def idxS (z : Str) : List Str → Option Nat
  | [] => none
  | y :: ys => bif decide (y = z) then some 0 else (idxS z ys).map (· + 1)
theorem idxS_ok {z : Str} : ∀ {ys : List Str} {j : Nat}, idxS z ys = some j → ys[j]? = some z ∧ ∀ m, m < j → ys[m]? ≠ some z
  | [], _, e => by cases e
  | y :: ys, j, e => by
    unfold idxS at e
    by_cases h : y = z
    · rw [decide_eq_true h] at e
      cases e
      exact ⟨by rw [h]; rfl, fun m hm => absurd hm (Nat.not_lt_zero m)⟩
    · rw [decide_eq_false h] at e
      dsimp only [cond_false] at e
      cases q : idxS z ys with
      | none => rw [q] at e; cases e
      | some i =>
        rw [q] at e
        cases e
        obtain ⟨h1, h2⟩ := idxS_ok q
        refine ⟨h1, fun m hm => ?_⟩
        cases m with
        | zero => intro z'; exact h (Option.some.inj z')
        | succ m => exact h2 m (Nat.lt_of_succ_lt_succ hm)
def dTIdx (G : ST) (ev : Addr) (d : DenE) (da : DenA) : DenE := fun s h => (d s h).bind fun p => match p.1 with
  | .k (.ref a) => bif Nat.beq ev a then (match G a with
    | some xs => match strsA xs with
      | some ys => (da s p.2).bind fun r => match r.1 with
        | [.str z] => (match idxS z ys with
          | some j => .ok (.int (j : Nat), r.2)
          | none => .bad)
        | _ => .bad
      | none => .bad
    | none => .bad) else .bad
  | _ => .bad
theorem ce_tidx {o e : Expr} {es : List Expr} {apos cpos : Pos} {ev : Addr} {de : DenE} {da : DenA} (hG : GOk X.K G) (hk : ∃ ob : Obj, X.K.lookup ev = some ob ∧ ob.cls = .type "tuple" ∧ ob.dict = none) (h1 : CE X o de) (h2 : CA X (e :: es) da)
    (hp : ∀ {R : V → List V → Hp → VK → Prop}, MtR X "tuple.index" R → PE X (.Call (.Attribute o "index" apos) (e :: es) [] cpos) (tBM X.K "tuple" R (wpE X o) (wpA X (e :: es)))) : CE X (.Call (.Attribute o "index" apos) (e :: es) [] cpos) (dTIdx G ev de da) := fun ρ s h σ H Q he hh qq => by
  refine ofE (hp mt_tup_index) (h1.then he hh qq fun x h1 ρ1 v H1 x1 r1 rv q1 => ?_)
  split at q1
  · next a e1 =>
    have e1 : x = .k (.ref a) := e1
    subst e1
    obtain ⟨hb, q1⟩ := bif_ok q1
    have := Nat.eq_of_beq_eq_true hb
    subst this
    cases rv
    split at q1
    · next xs hxs =>
      split at q1
      · next ys hys =>
        obtain ⟨vs, rr, sq⟩ := hG _ _ hxs
        have ev' := strsA_ok (rr ρ1) hys
        subst ev'
        refine ⟨.inr (.inl ⟨rfl, hk⟩), h2.then (he.up x1) r1 q1 fun zs h2 ρ2 us H2 x2 r2 ru q2 => ?_⟩
        split at q2
        · next z e2 =>
          have e2 : zs = [.str z] := e2
          subst e2
          split at q2
          · next j hj =>
            cases ru with
            | cons ra rb =>
              cases rb
              cases ra
              obtain ⟨i1, i2⟩ := idxS_ok hj
              exact ⟨ev, ys, z, j, rfl, rfl, sq H2, i1, i2, q2 ρ2 _ H2 (x1.trans x2) r2 (.int _)⟩
          · exact q2.elim
        · exact q2.elim
      · exact q1.elim
    · exact q1.elim
  · exact q1.elim
end
theorem room_lt {k m : Nat} {A : Around} (r : Room k A) (h : m ≤ 200) : A.units + m < cLine := by have := r.un; omega
end Z
end

section
set_option linter.all false
set_option maxRecDepth 100000
set_option maxHeartbeats 2000000
namespace Z
open PySem L2 PyProof.Rows ClX
variable [Scr]
section
variable {X : Cx} {a b c e o : Expr} {es : List Expr} {pos q apos cpos : Pos} {j k : Nat} {F : FnF} {x : Str} {de : DenE}
/-- a, b, c = x, y, z with plain names -/
def dPar3 (i j l : Nat) (d : DenA) : DenS := fun s h => (d s h).bind fun p => match p.1 with
  | [x, y, z] => .ok (.nx (((s.set i (some x)).set j (some y)).set l (some z)), p.2)
  | _ => .bad
theorem cs_par3 {i j l : Nat} {x y z : Str} {px py pz pt : Pos} {kt k2 pt2} {d : DenA} (hc : X.calm = true) (hN : X.N.Nodup) (hi : X.N[i]? = some x) (hj : X.N[j]? = some y) (hl : X.N[l]? = some z) (hij : i ≠ j) (hil : i ≠ l) (hjl : j ≠ l)
    (hx : X.env.scope.names.lookup x = some .local) (hy : X.env.scope.names.lookup y = some .local) (hz : X.env.scope.names.lookup z = some .local) (ha : CA X [a, b, c] d)
    (hw : swappedStores [.Tuple [.Name x px, .Name y py, .Name z pz] kt pt] (.Tuple [a, b, c] k2 pt2) X.env = pure (some [x, y, z]))
    (hs : swapsWithSole [.Tuple [.Name x px, .Name y py, .Name z pz] kt pt] (.Tuple [a, b, c] k2 pt2) pos.line X.env = pure false := by rfl) : CS X (.Assign [.Tuple [.Name x px, .Name y py, .Name z pz] kt pt] (.Tuple [a, b, c] k2 pt2) pos) (dPar3 i j l d) := fun ρ s h σ H D he hh q => by
  refine ofS (ps_par3 hc hN hi hj hl hij hil hjl hx hy hz (paW [a, b, c]) hw hs) (ha.then he hh q fun xs h1 ρ1 vs H1 x1 r1 rv q1 => ?_)
  split at q1
  · next x y z e1 =>
    have e1 : xs = [x, y, z] := e1
    subst e1
    cases rv with
    | cons ra rr =>
      cases rr with
      | cons rb rr =>
        cases rr with
        | cons rc rr =>
          cases rr
          exact ⟨_, _, _, rfl, q1 ρ1 H1 x1 r1 _ ((((he.up x1).set ra i).set rb j).set rc l)⟩
  · exact q1.elim
theorem ce_cG0' (c : CalG X.prog X.w X.K X.mg X.base x k 0 F) (hgd : X.A.guards = some []) (hr : Room j X.A) (hk : k ≤ j) (hg : Gl X x) (hdb : (x == ("__debug__" : Str)) = false := by decide) : CE X (.Call (.Name x q) [] [] pos) (dCall0 F) := ce_cG0 c hgd hr hk hg hdb
theorem ce_cC0 (c : CalF X.prog X.w X.K X.mg X.base x k 0 F) (hgd : X.A.guards = some []) (hr : Room j X.A) (hk : k ≤ j) (hg : Gl X x) (hdb : (x == ("__debug__" : Str)) = false := by decide) : CE X (.Call (.Name x q) [] [] pos) (dCall0 F) := ce_cG0 c.g hgd hr hk hg hdb
theorem ce_lm0 {name : Str} {R : V → List V → Hp → VK → Prop} {g : List AV → List AV → AH → Nat → T (AV × AH)} (hR : LmC R g) (h1 : CE X o de) (hp : PE X (.Call (.Attribute o name apos) [] [] cpos) (tBM0 X.K "list" R (wpE X o))) : CE X (.Call (.Attribute o name apos) [] [] cpos) (dLM g de dNil) := fun ρ s h σ H Q he hh qq => by
  refine ofE hp (h1.then he hh qq fun x h1 ρ1 v H1 x1 r1 rv q1 => ?_)
  split at q1
  · next i e1 =>
    have e1 : x = .r i := e1
    subst e1
    split at q1
    · next zs hz =>
      cases rv with
      | r hi =>
        cases r1.get hz hi with
        | lst rz hl =>
          refine ⟨.inl ⟨rfl, _, .of hl⟩, ?_⟩
          have q1 : (match h1.get i with
            | some (.lst xs) => g xs [] h1 i
            | _ => .bad).sat (PQ ρ Q) := q1
          rw [hz] at q1
          exact hR ρ1 zs [] h1 i _ _ [] H1 Q r1 hi hl rz .nil (T.sat_imp (fun _ k => k.up x1) q1)
    · exact q1.elim
  · exact q1.elim
theorem ce_clear (h1 : CE X o de) (hp : PE X (.Call (.Attribute o "clear" apos) [] [] cpos) (tBM0 X.K "list" rClear (wpE X o))) : CE X (.Call (.Attribute o "clear" apos) [] [] cpos) (dLM lmClear de dNil) := ce_lm0 lm_clear h1 hp
end
end Z
end

section
set_option linter.all false
set_option maxRecDepth 100000
set_option maxHeartbeats 2000000
namespace Z
open PySem L2 PyProof.Rows ClX
theorem FnG.imp {P : Program} {w : World} {K : PySem.W.Frag} {mg : Str → Option Value} {base : Heap} {CX : CXT} {k : Nat} {f : Addr} {fd : FuncData} {ps : List Str} {sp sp' : Sp} (F : FnG P w K mg base CX k f fd ps sp) (h : ∀ vs H Q E, sp' vs H Q E → sp vs H Q E) : FnG P w K mg base CX k f fd ps sp' :=
  ⟨fun vs H Q E q => F.len vs H Q E (h _ _ _ _ q), fun A outer s H args us vs Q E g hr e b v q => F.run A outer s H args us vs Q E g hr e b v (h _ _ _ _ q)⟩
variable [Scr]
/-- all but the feed stands as it was -/
theorem RH.move {ρ : Ro} {h : AH} {H H2 : Hp} {i : Nat} {a : Addr} (r : RH ρ h H) (hi : ρ i = some a) (hf : h.get i = some .feed) (kp : ∀ b o, b ≠ a → H b = some o → H2 b = some o) (h2 : FeedAt H2 a) : RH ρ h H2 := by
  have fa : FeedAt H a := by cases r.get hf hi with | feed q => exact q
  refine ⟨?_, r.dom, r.inj, fun j o e => ?_, r.all⟩
  · rcases r.scr with ⟨ob, q⟩ | q
    · refine .inl ⟨ob, kp _ _ (fun z => ?_) q⟩
      obtain ⟨_, _, q2⟩ := fa
      rw [z, q2] at q
      cases q
    · exact .inr q
  · by_cases hj : j = i
    · subst hj
      rw [hf] at e
      cases e
      exact ⟨a, hi, .feed h2⟩
    · obtain ⟨b, hb, ho⟩ := r.at_ j o e
      obtain ⟨u, hu⟩ := ho.some
      refine ⟨b, hb, ho.up (.refl _) ?_⟩
      rw [hu]
      exact kp b u (fun z => hj (r.inj j i b hb (z ▸ hi))) hu
theorem RH.keep {ρ : Ro} {h : AH} {H H2 : Hp} (r : RH ρ h H) (kp : ∀ b o, H b = some o → H2 b = some o) : RH ρ h H2 := by
  refine ⟨?_, r.dom, r.inj, fun j o e => ?_, r.all⟩
  · rcases r.scr with ⟨ob, q⟩ | q
    · exact .inl ⟨ob, kp _ _ q⟩
    · exact .inr q
  · obtain ⟨b, hb, ho⟩ := r.at_ j o e
    obtain ⟨u, hu⟩ := ho.some
    exact ⟨b, hb, ho.up (.refl _) (by rw [hu]; exact kp b u hu)⟩
theorem RH.grow {ρ : Ro} {h : AH} {H H2 : Hp} {a : Addr} {o : AO} (r : RH ρ h H) (hn : H a = none) (kp : ∀ b o, H b = some o → H2 b = some o) (ho : ∀ ρ', Xt ρ ρ' → OO ρ' H2 a o) : RH (ext ρ h.sz a) (h.new o) H2 := by
  obtain ⟨u, hu⟩ := (ho ρ (.refl _)).some
  have e : upd (fun b => if b = a then none else H2 b) a u = H2 := by
    funext b
    unfold upd
    by_cases hb : b = a
    · rw [if_pos hb, hb, hu]
    · rw [if_neg hb]
      exact if_neg hb
  have r2 : RH ρ h (fun b => if b = a then none else H2 b) := r.keep fun b o q => by
    have hb : b ≠ a := ne_of_none q hn
    show (if b = a then none else H2 b) = some o
    rw [if_neg hb]
    exact kp b o q
  have r3 := r2.new (a := a) (o := o) (u := u) (if_pos rfl) (fun ρ' x => by rw [e]; exact ho ρ' x)
  rw [e] at r3
  exact r3
def aTake : FnF := fun xs h => match xs with
  | [.r i, .int n] => match h.get i with
    | some .feed => bif decide (1 ≤ n) && decide (n < 1000000) then .draw n.toNat fun d => .ok (.int (d : Nat), h) else .bad
    | _ => .bad
  | _ => .bad
def fTakeD : DSp := fun p ds Kp => ∃ a n, p = some a ∧ ds = [.v (.ref a), .d (.int n)] ∧ 1 ≤ n ∧ n < 1000000 ∧ ∀ r : Int, 0 ≤ r → r < n → Kp (.d (.int r))
theorem take_spF {K : PySem.W.Frag} (vs : List V) (H : Hp) (Q : VK) (E : XK) (hq : spF 2 aTake vs H Q E) : spD K fTakeD vs H Q E := by
  obtain ⟨ρ, h, xs, hl, hh, rv, q⟩ := hq
  unfold aTake at q
  split at q
  · next i n =>
    cases rv with
    | cons r1 r2 =>
      cases r2 with
      | cons r2 r3 =>
        cases r3
        cases r2
        cases r1 with
        | r hi =>
          split at q
          · next hf =>
            obtain ⟨hb, q⟩ := bif_ok q
            simp only [Bool.and_eq_true, decide_eq_true_eq] at hb
            have fa := hh.get hf hi
            cases fa with
            | feed fa =>
              refine ⟨some _, fun _ => none, _, fun r => ∃ z : Int, 0 ≤ z ∧ z < n ∧ r = .d (.int z), ⟨(fun _ _ z => by cases z), (fun b e => by cases e; exact ⟨rfl, fa⟩)⟩, .cons (r := .v _) rfl (.cons (r := .d (.int n)) (Rp.int n) .nil), ⟨_, n, rfl, rfl, hb.1, hb.2, fun r h0 h1 => ⟨r, h0, h1, rfl⟩⟩, ?_⟩
              rintro v r G2 H2 ⟨z, z0, z1, rfl⟩ g rr
              cases rr
              have q := q z.toNat (by omega)
              have q : PQ ρ Q (.int (z.toNat : Int), h) := q
              rw [Int.toNat_of_nonneg z0] at q
              exact q ρ _ H2 (.refl ρ) (hh.move hi hf (fun b o hb e => g.kp b o (fun z => hb (by cases z; rfl)) e) (g.sat.fd _ rfl).2) (.int z)
          · exact q.elim
  · exact q.elim
/-- the law's feed: a new drawing list -/
def aFeed : FnF := fun xs h => match xs with
  | [.scr, .int k] => bif decide (0 ≤ k) && decide (k < 1000000) then .ok (.r h.sz, h.new .feed) else .bad
  | _ => .bad
/-- the script as it is known -/
def scrK (a : Addr) (ns : List Int) : Kind := ⟨fun K G v => v = .ref a ∧ SqL K G a (ns.map V.int), fun K G G' v e h => ⟨h.1, e.sl h.2⟩⟩
def fFeedD : DSp := fun p ds Kp => p = none ∧ ∃ (a : Addr) (ns : List Int) (k : Int), ds = [.o (scrK a ns), .d (.int k)] ∧ ns.length ≤ 63 ∧ 0 ≤ k ∧ k < 1000000 ∧ ∀ x y : Int, Kp (.d (.list [.int x, .int y]))
theorem feed_spF (hlen : (Scr.ns).length ≤ 63) (vs : List V) (H : Hp) (Q : VK) (E : XK) (hq : spF 2 aFeed vs H Q E) : spD Scr.K fFeedD vs H Q E := by
  obtain ⟨ρ, h, xs, hl, hh, rv, q⟩ := hq
  unfold aFeed at q
  split at q
  · next k =>
    cases rv with
    | cons r1 r2 =>
      cases r2 with
      | cons r2 r3 =>
        cases r3
        cases r2
        cases r1
        obtain ⟨hb, q⟩ := bif_ok q
        simp only [Bool.and_eq_true, decide_eq_true_eq] at hb
        have q : PQ ρ Q (.r h.sz, h.new .feed) := q
        let G : Hp := fun b => if b = Scr.a then (match H b with
          | some (.frz o u) => some (.frz o u)
          | _ => none) else none
        have hG : Ex G H := fun b o e => by
          by_cases hb : b = Scr.a
          · have e : (match H b with
              | some (.frz o u) => some (HO.frz o u)
              | _ => none) = some o := by rw [← e]; exact (if_pos hb).symm
            split at e
            · next he => rw [he]; exact e
            · cases e
          · have e2 : G b = none := if_neg hb
            rw [e2] at e
            cases e
        have sG : SqL Scr.K G Scr.a ((Scr.ns).map V.int) := by
          rcases hh.scr with ⟨o, e⟩ | e
          · refine .inl (.inr ⟨o, ?_⟩)
            show (if Scr.a = Scr.a then _ else none) = _
            rw [if_pos rfl]
            have e' : H Scr.a = some (.frz o (.lst ((Scr.ns).map V.int))) := e
            rw [e']
          · exact e G
        refine ⟨none, G, _, fun r => ∃ x y : Int, r = .d (.list [.int x, .int y]), ⟨hG, (fun b e => by cases e)⟩, .cons (r := .o (scrK Scr.a Scr.ns)) ⟨rfl, sG⟩ (.cons (r := .d (.int k)) (Rp.int k) .nil), ⟨rfl, _, _, k, rfl, hlen, hb.1, hb.2, fun x y => ⟨x, y, rfl⟩⟩, ?_⟩
        rintro v r G2 H2 ⟨x, y, rfl⟩ g rr
        cases rr with
        | @lst a' zs _ hl' ha =>
          cases ha with
          | cons a1 a2 =>
            cases a2 with
            | cons a2 a3 =>
              cases a3
              cases a1
              cases a2
              have h2 := g.sat.ex _ _ hl'
              have hn : H a' = none := by
                rcases g.nw _ _ hl' with z | z
                · exfalso
                  have z : (if a' = Scr.a then (match H a' with
                    | some (.frz o u) => some (HO.frz o u)
                    | _ => none) else none) = some (HO.lst [V.int x, V.int y]) := z
                  split at z
                  · split at z <;> cases z
                  · cases z
                · exact z
              exact q (ext ρ h.sz a') _ H2 (hh.xt a') (hh.grow hn (fun b o e => g.kp b o (fun z => nomatch z) e) fun ρ' _ => .feed ⟨x, y, h2⟩) (.r (by unfold ext; rw [if_pos rfl]))
  · exact q.elim
section
variable {X : Cx} {p : Option Addr} {δ : En} {Kp : DV → Prop} {b : Expr} {pos q px : Pos} {a : Addr} {ns : List Int}
omit [Scr] in
theorem de_lenS {i : Nat} {x : Str} (hN : X.N[i]? = some x) (hv : Vis X.env.scope x) (hr : δ[i]? = some (some (.o (scrK a ns)))) (hg : Gl X "len") (hm : X.mg "len" = none) (k : Kp (.d (.int (ns.length : Nat)))) (hd : (x == ("__debug__" : Str)) = false := by decide) (hcd : (x == ("__classdict__" : Str)) = false := by decide)
    (he : starEach [Expr.Name x px] X.env = (false, eval (.Name x px) X.env) :: starEach [] X.env := by rfl) : DE X p δ (.Call (.Name "len" q) [.Name x px] [] pos) Kp :=
  de_callB call_len hg hm PySem.boot_len (da_cons (de_var hN hv hr (da_nil fun G H vs s rv Q hq => by
    cases rv with
    | cons r1 r2 =>
      cases r2
      obtain ⟨rfl, hs⟩ := r1
      exact ⟨_, ns.length, rfl, .inl ⟨_, s.ex.sl hs, by rw [List.length_map]⟩, hq _ _ G H k (.refl s) (Rp.int _)⟩) hd hcd) he) (he := he)
omit [Scr] in
theorem de_ixS {i : Nat} {x : Str} (hN : X.N[i]? = some x) (hv : Vis X.env.scope x) (hr : δ[i]? = some (some (.o (scrK a ns)))) (hp : PlainIx b) (h : DE X p δ b fun y => ∃ j : Int, y = .d (.int j) ∧ 0 ≤ j ∧ j < ns.length ∧ ∀ m : Int, Kp (.d (.int m)))
    (hd : (x == ("__debug__" : Str)) = false := by decide) (hcd : (x == ("__classdict__" : Str)) = false := by decide) : DE X p δ (.Subscript (.Name x px) b pos) Kp :=
  de_op2 (t := tOp (rIxL X.K)) (fun _ _ ha hb => pe_ix ix_list ha hb hp) (fun _ _ _ _ _ h => h) (de_var hN hv hr (h.imp fun y ⟨j, hy, j0, j1, k⟩ G H vx vy s rx ry Q hq => by
    subst hy
    cases ry
    obtain ⟨rfl, hs⟩ := rx
    have hj : j.toNat < ns.length := by omega
    refine ⟨a, _, j, V.int (ns[j.toNat]), rfl, rfl, s.ex.sl hs, ?_, hq _ _ G H (k (ns[j.toNat])) (.refl s) (Rp.int _)⟩
    unfold atI ixN
    rw [List.length_map, if_pos j0, if_pos j1]
    simp [hj]) hd hcd)
end
end Z
end

section
set_option linter.all false
set_option maxRecDepth 100000
set_option maxHeartbeats 2000000
namespace PySem
namespace HandSPX
open PySem.W PySem.Calls PyProof.Rows
section
variable {prog : Program} {w : World} {A : Around} {E : Value → Shared → Prop} {R : Result → Shared → Prop} {h : Heap} {g : Array GenState} {d : Drawn} {t : Nat} {os : OsState}
variable {nm q : Str} {C N : Addr} {bs bm bmB : List Value} {hdct : Bool} {sn : List Str} {sub : List Value} {ab : Bool} {col : Option Bool} {dd : Option Addr} {k0 k1 k2 k3 k5 : Option Value} {B newId initId : String}
theorem kwNew (F : ExcBaseFacts B newId initId bmB) (hT : ∀ X : String, bm.contains (.type X) = bmB.contains (.type X)) {rest : List Value} {kw : List (Str × Value)}
    (hC : h.get? C = some (excClassObj nm q C N bs bm hdct sn sub ab col dd k0 k1 k2 k3 k5 newId))
    (hq : R (.ok (.ret (.ref (h.objs.size + 1)))) ⟨(h.push (W.kdv_tup rest)).push (excO C h.objs.size), g, d, t, os⟩) (hrest : rest.length ≤ sizeLine) :
    codeAny (model prog w) A (.builtin newId ⟨.ref C :: rest, kw⟩) R ⟨h, g, d, t, os⟩ := by
  have hends := F.ends
  have hcB : (Value.ref C :: bm).contains (.type B) = true := by rw [List.contains_cons, hT, F.hasB, Bool.or_true]
  have hcA : (Value.ref C :: bm).contains (.type "AttributeError") = false := by rw [List.contains_cons, hT, F.noAttr]; rfl
  have hcN : (Value.ref C :: bm).contains (.type "NameError") = false := by rw [List.contains_cons, hT, F.noName]; rfl
  refine codeAny_builtinAt F.entry ?_
  unfold Builtin.«BaseException.__new__»
  refine wpAt_bind ?_
  show wpAt _ _ _ (stack >>= _) _ _ _
  refine wpAt_bind (wpAt_stack fun p below => wpAt_of_wpAny ?_)
  wp_walk
  refine wpAt_of_wpAny ?_
  rw [F.owner]
  repeat (first | with_reducible refine wpAny_madeHere_exc F.canon hC ?_ | with_reducible refine wpAny_loadPart_at hC ?_ | (with_reducible refine wpAny_isSubtype_exc hC ?_; first | rw [hcB] | rw [hcA] | rw [hcN]) | wp_step)
  show R _ _
  rw [Heap.size_push]
  exact hq
theorem kwChkNew {M : Model} (F : ExcBaseFacts B newId initId bmB) (hT : ∀ X : String, bm.contains (.type X) = bmB.contains (.type X)) {rest : List Value} {kw : List (Str × Value)} {Q : Unit → Shared → Prop}
    (hC : h.get? C = some (excClassObj nm q C N bs bm hdct sn sub ab col dd k0 k1 k2 k3 k5 newId)) (hq : Q () ⟨h, g, d, t, os⟩) : wpAny M A (checkBuiltinCall newId ⟨.ref C :: rest, kw⟩) Q E ⟨h, g, d, t, os⟩ := by
  have hcont : (Value.ref C :: bm).contains (.type B) = true := by rw [List.contains_cons, hT, F.hasB, Bool.or_true]
  have hstar := F.noStar
  simp only [checkBuiltinCall, F.newKind, F.newSplit, F.newRow]
  repeat (first | refine wpAny_loadPart_at hC ?_ | (refine wpAny_isSubtype_exc hC ?_; rw [hcont]) | refine wpAny_staticBase_exc hC ?_ | refine wpAny_madeBy_exc hC ?_ | simp only [bne_self_eq_false, Bool.false_eq_true, if_false] | wp_step)
  exact hq
theorem kwChkCall {M : Model} {rest : List Value} {kw : List (Str × Value)} {Q : Unit → Shared → Prop} (hC : h.get? C = some (excClassObj nm q C N bs bm hdct sn sub ab col dd k0 k1 k2 k3 k5 newId))
    (hq : Q () ⟨h, g, d, t, os⟩) : wpAny M A (checkBuiltinCall "type.__call__" ⟨.ref C :: rest, kw⟩) Q E ⟨h, g, d, t, os⟩ := by
  have f3 := tc_sub
  have hT : (⟨h, g, d, t, os⟩ : Shared).TypeIs (.ref C) "type" := ⟨_, hC, rfl⟩
  simp only [checkBuiltinCall, tc_kind, tc_split]
  repeat (any_goals (first | assumption | with_reducible refine wpAny_loadPart_at hC ?_ | with_reducible refine wpAny_onRaise ?_ | with_reducible refine wpAny_map ?_ | wp_step))
theorem kwTypeCall (F : ExcBaseFacts B newId initId bmB) (hT : ∀ X : String, bm.contains (.type X) = bmB.contains (.type X)) {rest : List Value} {kw : List (Str × Value)} {fI : Addr} {Q : Fin → Shared → Prop}
    (hC : h.get? C = some (excClassObj nm q C N bs bm hdct sn sub ab col dd k0 k1 k2 k3 k5 newId))
    (hi : W.Looks (model prog w) h (typeLookup (.ref C) "__init__") (some (.ref fI))) (hb : ∀ self, W.Looks (model prog w) h (bindSpecial (.ref fI) self) (.ref fI, [self])) (hrest : rest.length ≤ sizeLine)
    (hq : codeAny (model prog w) A (.call (.ref fI) ⟨.ref (h.objs.size + 1) :: rest, kw⟩)
      (fun r s' => match r with | .ok (.ret v) => v = .none ∧ Q (.done (.ret (.ref (h.objs.size + 1)))) s' | .ok _ => False | .error e => E e s')
      ⟨(h.push (W.kdv_tup rest)).push (excO C h.objs.size), g, d, t, os⟩) :
    wpAny (model prog w) A (Builtin.«type.__call__» ⟨.ref C :: rest, kw⟩) Q E ⟨h, g, d, t, os⟩ := by
  repeat (first | with_reducible refine wpAny_loadPart_at hC ?_ | with_reducible refine wpAny_madeBy_exc hC ?_ | wp_step)
  refine codeAny_call_builtin_code (Code.quiet_builtin _ F.quiet) (kwChkNew F hT hC ?_)
  refine kwNew F hT hC ?_ hrest
  show wpAny _ _ _ _ _ _
  have k : ∀ b o, h.get? b = some o → ((h.push (W.kdv_tup rest)).push (excO C h.objs.size)).get? b = some o := fun b o e => Heap.get?_push_of_some _ (Heap.get?_push_of_some _ e)
  have hC₁ := k _ _ hC
  have hget : ((h.push (W.kdv_tup rest)).push (excO C h.objs.size)).get? (h.objs.size + 1) = some (excO C h.objs.size) := by heap_get
  have hcC : (Value.ref C :: bm).contains (.ref C) = true := by simp
  have i1 := hi.keeps k
  have b1 := (hb (.ref (h.objs.size + 1))).keeps k
  unfold isInstance
  repeat (first | with_reducible refine wpAny_loadPart_at hget ?_ | (with_reducible refine wpAny_isSubtype_exc hC₁ ?_; rw [hcC]) | wp_step)
  show wpAny _ _ (typeLookup (.ref C) _) _ _ _
  refine i1.at ?_
  refine wpAny_holding (wpAny_bind (b1.at ?_))
  refine wpAny_bind (wpAny_call (codeAny_mono hq fun r s' z => ?_))
  rcases r with e | (v | _ | _ | _) <;> first | exact z | exact z.elim | skip
  obtain ⟨rfl, z⟩ := z
  first
    | exact wpAny_pure (wpAny_pure z)
    | (wp_walk; exact z)
theorem kwCall (F : ExcBaseFacts B newId initId bmB) (hT : ∀ X : String, bm.contains (.type X) = bmB.contains (.type X)) {rest : List Value} {kw : List (Str × Value)} {fI : Addr}
    (hC : h.get? C = some (excClassObj nm q C N bs bm hdct sn sub ab col dd k0 k1 k2 k3 k5 newId))
    (hi : W.Looks (model prog w) h (typeLookup (.ref C) "__init__") (some (.ref fI))) (hb : ∀ self, W.Looks (model prog w) h (bindSpecial (.ref fI) self) (.ref fI, [self])) (hrest : rest.length ≤ sizeLine)
    (hq : codeAny (model prog w) (A.under (.builtin "type.__call__" ⟨.ref C :: rest, kw⟩)) (.call (.ref fI) ⟨.ref (h.objs.size + 1) :: rest, kw⟩) (W.InitBack (h.objs.size + 1) R)
      ⟨(h.push (W.kdv_tup rest)).push (excO C h.objs.size), g, d, t, os⟩) :
    codeAny (model prog w) A (.call (.ref C) ⟨rest, kw⟩) R ⟨h, g, d, t, os⟩ := by
  have f1 := tc_lookup
  have f2 := tc_bind (.ref C)
  have hTy : (⟨h, g, d, t, os⟩ : Shared).TypeIs (.ref C) "type" := ⟨_, hC, rfl⟩
  refine codeAny_of_tree ?_
  show wpAny _ _ (callAny (.ref C) _) _ _ _
  repeat (any_goals (first | assumption | with_reducible refine wpAny_loadPart_at hC ?_ | wp_step))
  refine ⟨rfl, ?_⟩
  refine codeAny_call_builtin_at (Code.quiet_builtin _ (by decide +kernel)) entry_typeCall (kwChkCall hC (kwTypeCall F hT hC hi hb hrest ?_))
  refine codeAny_mono hq fun r s' z => ?_
  rcases r with e | (v | _ | _ | _) <;> exact z
end
/-! ### isinstance of an exception with a dict -/
end HandSPX
end PySem
end

section
set_option linter.all false
set_option maxRecDepth 100000
set_option maxHeartbeats 2000000
/-! Exceptions held as values: made by position and by name, fields, isinstance. -/
namespace Z
open PySem L2 PyProof.Rows
/-! ### isinstance of an exception, with a dict or without -/
theorem kitE {K : PySem.W.Frag} {x D : Addr} {ox : Obj} {od : Option Obj} (C : ExcC K D) : PySem.W.KitX K (.ref x) (.ref D) (fun h => PySem.W.InstAt h x ox D od) :=
  PySem.W.kitx_exc (by obtain ⟨cd, hc, _⟩ := PySem.W.any_some C.hd; rw [hc]; rfl) C.hg C.hk C.hs C.ha C.hn C.ht C.hm
/-! ### an exception is made -/
section
variable {X : Cx} {pins : List (Addr × Obj)} {σ : L2.St} {H : Hp} {s : Shared}
theorem run_exc {C fI : Addr} {k : Nat} {fd : FuncData} {ps : List Str} {sp : Sp} {us : List Value} {kw : List (Str × Value)} {full : Addr → List Value} {fullV : Addr → List V} {Q : VK} (T : OexC X.K C) (iC : PySem.W.findIn X.K (.ref C) "__init__" = some (some (.ref fI))) (tI : PySem.W.typeIn X.K (.ref fI) = some (.type "function"))
    (F1 : FnOk X.prog X.w X.K X.mg X.base CX0 k fI fd ps sp) (hr : Room (k + 1) X.A) (hx : Passes CX0 X (fun _ _ _ => False)) (I : Inv X pins σ H s) (hus : us.length ≤ sizeLine)
    (hb : ∀ (s : Shared) (a : Addr), X.K.In s.heap → (full a).length = ps.length → BindsTo s fd ⟨.ref a :: us, kw⟩ (ps.zip (full a))) (rv : ∀ a, Vals (fullV a) (full a))
    (hq : ∀ a, H a = none → sp (fullV a) (upd H a (exo a C none)) (fun v H2 => v = .non ∧ Q (.ref a) H2) (fun _ _ _ => False)) : wpAny (model X.prog X.w) X.A (call (.ref C) us kw) (EP X pins σ Q) X.xe s := by
  obtain ⟨nm, q, N, bs, bm, sn, sub, ab, col, dd, k0, k1, k2, k3, k5, hC, hbm⟩ := T.cls
  obtain ⟨hp, g, dr, tk, os⟩ := s
  have hsz : hp.objs.size ≤ hp.objs.size + 1 := Nat.le_succ _
  have hn : H (hp.objs.size + 1) = none := I.hok.fresh hsz
  have hq := hq (hp.objs.size + 1) hn
  have kk : ∀ b o, hp.get? b = some o → ((hp.push (PySem.W.kdv_tup us)).push (PySem.HandSPX.excO C hp.objs.size)).get? b = some o := fun b o e => Heap.get?_push_of_some _ (Heap.get?_push_of_some _ e)
  have hget : ((hp.push (PySem.W.kdv_tup us)).push (PySem.HandSPX.excO C hp.objs.size)).get? (hp.objs.size + 1) = some (PySem.HandSPX.excO C hp.objs.size) := by heap_get
  have I2 : Inv X pins σ (upd H (hp.objs.size + 1) (exo (hp.objs.size + 1) C none)) ⟨(hp.push (PySem.W.kdv_tup us)).push (PySem.HandSPX.excO C hp.objs.size), g, dr, tk, os⟩ :=
    I.laid (t' := tk) (a := hp.objs.size + 1) (o := exo (hp.objs.size + 1) C none) (h' := (hp.push (PySem.W.kdv_tup us)).push (PySem.HandSPX.excO C hp.objs.size)) kk hsz (exo_ok hget)
  have hl : (full (hp.objs.size + 1)).length = ps.length := by
    rw [← (rv _).length]
    exact F1.len _ _ _ _ hq
  refine wpAny_call (PySem.HandSPX.kwCall F.excBase_ValueError (fun Y => PySem.HandSPX.refsVE_contains Y bm hbm) (I.kIn _ _ hC) (PySem.W.looks_findIn I.kIn iC) (fun self => PySem.W.bind_fn I.kIn self tI) hus
    (codeAny_mono (F1.run _ X.stack _ _ ⟨Value.ref (hp.objs.size + 1) :: us, kw⟩ (full (hp.objs.size + 1)) _ _ (fun _ _ _ => False) (hr.make C us kw) (I2.env0.make C us kw) (hb _ _ I2.kIn hl) (rv _) hq) fun r s' hq' => ?_))
  cases r with
  | error er => exact hx pins σ _ _ er s' I2 hq'
  | ok fl =>
    cases fl with
    | ret u =>
      obtain ⟨v, H2, I3, rv', ev, q3⟩ := I2.after hq'
      subst ev
      exact ⟨rv', .ref _, H2, I3, rfl, q3⟩
    | next => exact False.elim hq'
    | brk => exact False.elim hq'
    | cont => exact False.elim hq'
end
end Z
end

section
set_option linter.all false
set_option maxRecDepth 100000
set_option maxHeartbeats 2000000
/-! Exceptions as values at the data level. -/
namespace Z
open PySem L2 PyProof.Rows
/-! ### their own __init__ -/
/-- it stores its arguments as fields, in this order -/
def spInit (K : PySem.W.Frag) (fl : List Str) : Sp := fun vs H Q _ => ∃ (a C : Addr) (ys : List V), vs = .ref a :: ys ∧ ys.length = fl.length ∧ H a = some (exo a C none) ∧ OexC K C ∧ (∀ f, f ∈ fl → PySem.W.findIn K (.ref C) f = some none) ∧
  ∀ dx H2, H dx = none → dx ≠ a → H2 a = some (exo a C (some dx)) → H2 dx = some (exd dx (fl.zip ys).reverse) → (∀ b, b ≠ a → b ≠ dx → H2 b = H b) → Q .non H2
section
variable {P : Program} {w : World} {K : PySem.W.Frag} {mg : Str → Option Value} {base : Heap} {x qual : Str} {st : Stmt} {fI : Addr} {fd : FuncData} {f g : Str} {p1 p2 p3 p4 r1 r2 r3 r4 : Pos}
theorem ok_init1 (F : Fun K x qual st fI fd) (S : FnScope ["self", f] ["self", f] (defScope st)) (hb : defBody st = [.Assign [.Attribute (.Name "self" p1) f p2] (.Name f p3) p4]) (hv : Vis (defScope st) "self") (hw : Vis (defScope st) f)
    (hd : (f == ("__debug__" : Str)) = false) (hcd : (f == ("__classdict__" : Str)) = false) : FnOk P w K mg base CX0 1 fI fd ["self", f] (spInit K [f]) :=
  F.ok S (fun vs H Q E ⟨a, C, ys, h1, h2, _⟩ => by rw [h1, List.length_cons, h2]; rfl) fun cdv A outer s H vs Q E hr hsp => ⟨wpSs _ _, pssW _, by
    obtain ⟨a, C, ys, rfl, hl, ha, T, hno, q⟩ := hsp
    obtain ⟨y, rfl⟩ : ∃ y, ys = [y] := by
      match ys, hl with
      | [y], _ => exact ⟨y, rfl⟩
    rw [hb]
    refine ofSs (pss_cons (psW _) pss_nil) (ofS (ps_ost (peW _) (peW _)) ?_)
    refine ofE (pe_var (i := 1) rfl hw hd hcd) ⟨y, rfl, ofE (pe_var (i := 0) rfl hv) ⟨.ref a, rfl, a, C, rfl, T, hno f (by simp), .inl ⟨ha, fun dx hn hne => ?_⟩⟩⟩
    exact q dx _ hn hne upd_same (by rw [upd_ne hne, upd_same]; rfl) fun b hb1 hb2 => by rw [upd_ne hb1, upd_ne hb2]⟩
theorem ok_init2 (F : Fun K x qual st fI fd) (S : FnScope ["self", f, g] ["self", f, g] (defScope st)) (hb : defBody st = [.Assign [.Attribute (.Name "self" p1) f p2] (.Name f p3) p4, .Assign [.Attribute (.Name "self" r1) g r2] (.Name g r3) r4]) (hv : Vis (defScope st) "self") (hw : Vis (defScope st) f) (hz : Vis (defScope st) g)
    (hd : (f == ("__debug__" : Str)) = false) (hcd : (f == ("__classdict__" : Str)) = false) (hd2 : (g == ("__debug__" : Str)) = false) (hcd2 : (g == ("__classdict__" : Str)) = false) : FnOk P w K mg base CX0 1 fI fd ["self", f, g] (spInit K [f, g]) :=
  F.ok S (fun vs H Q E ⟨a, C, ys, h1, h2, _⟩ => by rw [h1, List.length_cons, h2]; rfl) fun cdv A outer s H vs Q E hr hsp => ⟨wpSs _ _, pssW _, by
    obtain ⟨a, C, ys, rfl, hl, ha, T, hno, q⟩ := hsp
    obtain ⟨y, z, rfl⟩ : ∃ y z, ys = [y, z] := by
      match ys, hl with
      | [y, z], _ => exact ⟨y, z, rfl⟩
    rw [hb]
    refine ofSs (pss_cons (psW _) (pss_cons (psW _) pss_nil)) (ofS (ps_ost (peW _) (peW _)) ?_)
    refine ofE (pe_var (i := 1) rfl hw hd hcd) ⟨y, rfl, ofE (pe_var (i := 0) rfl hv) ⟨.ref a, rfl, a, C, rfl, T, hno f (by simp), .inl ⟨ha, fun dx hn hne => ?_⟩⟩⟩
    refine ofS (ps_ost (peW _) (peW _)) ?_
    refine ofE (pe_var (i := 2) rfl hz hd2 hcd2) ⟨z, rfl, ofE (pe_var (i := 0) rfl hv) ⟨.ref a, rfl, a, C, rfl, T, hno g (by simp), .inr ⟨dx, [(f, y)], upd_same, (by rw [upd_ne hne, upd_same]), (by simp), ?_⟩⟩⟩
    refine q dx _ hn hne ?_ ?_ fun b hb1 hb2 => ?_
    · rw [upd_ne (Ne.symm hne), upd_same]
    · rw [upd_same]; rfl
    · rw [upd_ne hb2, upd_ne hb1, upd_ne hb2]⟩
end
/-! ### rules over the hand layer -/
section
variable {X : Cx} {x n : Str} {e : Expr} {es : List Expr} {ta : TA} {te : TE} {p pos : Pos} {C fI : Addr} {k : Nat} {fd : FuncData} {ps fl : List Str}
def tExc (K : PySem.W.Frag) (C : Addr) (fl : List Str) (ta : TA) : TE := fun σ H Q => ta σ H fun vs H1 => vs.length = fl.length ∧ ∀ a dx H2, H1 a = none → H1 dx = none → dx ≠ a → H2 a = some (exo a C (some dx)) → H2 dx = some (exd dx (fl.zip vs).reverse) → (∀ b, b ≠ a → b ≠ dx → H2 b = H1 b) → Q (.ref a) H2
/-- what a class of exceptions with an own __init__ says -/
structure ExI (X : Cx) (C : Addr) (fl : List Str) : Prop where
  T : OexC X.K C
  no : ∀ f, f ∈ fl → PySem.W.findIn X.K (.ref C) f = some none
  sz : fl.length ≤ 1000
  ex : ∃ fI fd, PySem.W.findIn X.K (.ref C) "__init__" = some (some (.ref fI)) ∧ PySem.W.typeIn X.K (.ref fI) = some (.type "function") ∧ FnOk X.prog X.w X.K X.mg X.base CX0 1 fI fd (("self" : Str) :: fl) (spInit X.K fl) ∧ Binds X.K fd (("self" : Str) :: fl) [] ∧
    (∀ (s : Shared) (a u : Value) (f : Str), fl = [f] → BindsTo s fd ⟨[a], [(f, u)]⟩ [("self", a), (f, u)]) ∧
    ∀ (s : Shared) (a u v : Value) (f g : Str), fl = [f, g] → BindsTo s fd ⟨[a], [(g, u), (f, v)]⟩ [("self", a), (f, v), (g, u)]
theorem exc_sp {K : PySem.W.Frag} {H1 : Hp} {a : Addr} {vs : List V} {Q : VK} {E : XK} (T : OexC K C) (no : ∀ f, f ∈ fl → PySem.W.findIn K (.ref C) f = some none) (hl : vs.length = fl.length) (ha : H1 a = none)
    (q : ∀ a dx H2, H1 a = none → H1 dx = none → dx ≠ a → H2 a = some (exo a C (some dx)) → H2 dx = some (exd dx (fl.zip vs).reverse) → (∀ b, b ≠ a → b ≠ dx → H2 b = H1 b) → Q (.ref a) H2) :
    spInit K fl (.ref a :: vs) (upd H1 a (exo a C none)) (fun v H2 => v = .non ∧ Q (.ref a) H2) E :=
  ⟨a, C, vs, rfl, hl, upd_same, T, no, fun dx H2 hn hne h1 h2 h3 => ⟨rfl, q a dx H2 ha (by rw [upd_ne hne] at hn; exact hn) hne h1 h2 fun b hb1 hb2 => by rw [h3 b hb1 hb2, upd_ne hb1]⟩⟩
theorem pe_exc (I : ExI X C fl) (hr : Room 2 X.A) (hp : Passes CX0 X (fun _ _ _ => False)) (hg : Gl X x) (hm : X.mg x = some (.ref C)) (ha : PA X (e :: es) ta)
    (hdb : (x == ("__debug__" : Str)) = false := by decide) (he : starEach (e :: es) X.env = (false, eval e X.env) :: starEach es X.env := by rfl) (hpl : (backTo pos (starEach es X.env)).any (·.1) = false := by rfl) :
    PE X (.Call (.Name x p) (e :: es) [] pos) (tExc X.K C fl ta) := by
  refine ⟨fun pins s σ H Q J h => ?_⟩
  obtain ⟨fI, fd, iC, tI, F1, hb, _⟩ := I.ex
  refine wpAny_Call_Name_kw (ld_glob J hg hm ?_ hdb)
  refine PySem.W.callWith_K (h₀ := X.base) J.ok.mod.kin I.T.kC (thn (ha.run pos pins s σ H _ J h) fun us s1 ⟨vs, H1, I1, r1, hz, q1⟩ => ⟨I1.kIn, ?_⟩) he hpl
  have hlu : us.length = fl.length := by rw [← Paired.length r1]; exact hz
  have hsz := I.sz
  refine run_exc (full := fun a => Value.ref a :: us) (fullV := fun a => V.ref a :: vs) I.T iC tI F1 hr hp I1 (by show us.length ≤ sizeLine; rw [hlu, sizeLine_eq]; omega) (fun s a hK hl => ?_) (fun a => .cons rfl r1) fun a hn => exc_sp I.T I.no hz hn q1
  have := hb s (Value.ref a :: us) hK (by rw [List.append_nil]; exact hl)
  rw [List.append_nil] at this
  exact this
/-- C(f = e) -/
theorem pe_excK {f : Str} {kpos : Pos} (I : ExI X C [f]) (hr : Room 2 X.A) (hp : Passes CX0 X (fun _ _ _ => False)) (hg : Gl X x) (hm : X.mg x = some (.ref C)) (he : PE X e te)
    (hall : (backToKw pos (keywordEach [⟨some f, e, kpos⟩] X.env)).all (·.1.isSome) = true := by rfl) (hks : (backToKw pos (keywordEach [⟨some f, e, kpos⟩] X.env)).filterMap (·.1) = [f] := by rfl)
    (hpl : ((backTo pos (starEach [] X.env)).any (·.1) || (backToKw pos (keywordEach [⟨some f, e, kpos⟩] X.env)).any (·.1.isNone)) = false := by rfl) (hdb : (x == ("__debug__" : Str)) = false := by decide) :
    PE X (.Call (.Name x p) [] [⟨some f, e, kpos⟩] pos) (tExc X.K C [f] (tCons te tNil)) := by
  refine ⟨fun pins s σ H Q J h => ?_⟩
  obtain ⟨fI, fd, iC, tI, F1, _, hb, _⟩ := I.ex
  refine wpAny_Call_Name_kw (ld_glob J hg hm ?_ hdb)
  refine PySem.W.callWith_KW0 (h₀ := X.base) J.ok.mod.kin I.T.kC hall (thn ((pk_cons he pk_nil).run pos pins s σ H _ J h) fun ws s2 ⟨zs, H2, I2, rz, q2⟩ => ⟨I2.kIn, ?_⟩) hpl
  rw [hks]
  obtain ⟨hz, q1⟩ := q2
  cases rz with
  | @cons z w zs' ws' r1 r2 =>
    cases r2 with
    | cons _ _ => cases hz
    | nil =>
      refine run_exc (us := []) (kw := [(f, w)]) (full := fun a => [Value.ref a, w]) (fullV := fun a => [V.ref a, z]) I.T iC tI F1 hr hp I2 (Nat.zero_le _) (fun s a hK hl => hb s (.ref a) w f rfl) (fun a => .cons rfl (.cons r1 .nil)) fun a hn => exc_sp I.T I.no hz hn q1
  | nil => cases hz
/-- C(g = e, f = e'), the fields in the other order -/
theorem pe_excK2 {f g : Str} {e' : Expr} {kpos kpos' : Pos} {te' : TE} (I : ExI X C [f, g]) (hr : Room 2 X.A) (hp : Passes CX0 X (fun _ _ _ => False)) (hg : Gl X x) (hm : X.mg x = some (.ref C)) (he : PE X e te) (he' : PE X e' te')
    (hall : (backToKw pos (keywordEach [⟨some g, e, kpos⟩, ⟨some f, e', kpos'⟩] X.env)).all (·.1.isSome) = true := by rfl) (hks : (backToKw pos (keywordEach [⟨some g, e, kpos⟩, ⟨some f, e', kpos'⟩] X.env)).filterMap (·.1) = [g, f] := by rfl)
    (hpl : ((backTo pos (starEach [] X.env)).any (·.1) || (backToKw pos (keywordEach [⟨some g, e, kpos⟩, ⟨some f, e', kpos'⟩] X.env)).any (·.1.isNone)) = false := by rfl) (hdb : (x == ("__debug__" : Str)) = false := by decide) :
    PE X (.Call (.Name x p) [] [⟨some g, e, kpos⟩, ⟨some f, e', kpos'⟩] pos) (tExc X.K C [f, g] (fun σ H Q => (tCons te (tCons te' tNil)) σ H fun us H2 => ∃ u v, us = [u, v] ∧ Q [v, u] H2)) := by
  refine ⟨fun pins s σ H Q J h => ?_⟩
  obtain ⟨fI, fd, iC, tI, F1, _, _, hb⟩ := I.ex
  unfold tExc at h
  dsimp only at h
  refine wpAny_Call_Name_kw (ld_glob J hg hm ?_ hdb)
  refine PySem.W.callWith_KW0 (h₀ := X.base) J.ok.mod.kin I.T.kC hall (thn ((pk_cons he (pk_cons he' pk_nil)).run pos pins s σ H _ J h) fun ws s2 ⟨zs, H2, I2, rz, q2⟩ => ⟨I2.kIn, ?_⟩) hpl
  rw [hks]
  obtain ⟨u, v, rfl, hz, q1⟩ := q2
  cases rz with
  | @cons _ w1 _ ws' r1 r2 =>
    cases r2 with
    | @cons _ w2 _ ws' r2 r3 =>
      cases r3
      exact run_exc (us := []) (kw := [(g, w1), (f, w2)]) (full := fun a => [Value.ref a, w2, w1]) (fullV := fun a => [V.ref a, v, u]) I.T iC tI F1 hr hp I2 (Nat.zero_le _) (fun s a hK hl => hb s (.ref a) w1 w2 f g rfl) (fun a => .cons rfl (.cons r2 (.cons r1 .nil))) fun a hn => exc_sp I.T I.no hz hn q1
end
end Z
end

section
set_option linter.all false
set_option maxRecDepth 100000
set_option maxHeartbeats 2000000
/-! Exceptions as values at the data level: what is known of them, how they are made, read and asked. -/
namespace Z
open PySem L2 PyProof.Rows
inductive FR (K : PySem.W.Frag) (G : Hp) : List (Str × PyData) → List (Str × V) → Prop
  | nil : FR K G [] []
  | cons {f : Str} {d : PyData} {v : V} {fs : List (Str × PyData)} {vs : List (Str × V)} : Rp K G v d → FR K G fs vs → FR K G ((f, d) :: fs) ((f, v) :: vs)
theorem FR.up {K : PySem.W.Frag} {G G' : Hp} (e : Ex G G') : ∀ {fs : List (Str × PyData)} {vs : List (Str × V)}, FR K G fs vs → FR K G' fs vs
  | _, _, .nil => .nil
  | _, _, .cons h t => .cons (Ex.dp e _ _ h) (FR.up e t)
theorem FR.look {K : PySem.W.Frag} {G : Hp} {n : Str} {d : PyData} : ∀ {fs : List (Str × PyData)} {vs : List (Str × V)}, FR K G fs vs → fs.lookup n = some d → ∃ v, vs.lookup n = some v ∧ Rp K G v d
  | _, _, .nil, e => by cases e
  | _, _, .cons (f := f) (fs := fs) (vs := vs) h t, e => by
    rw [List.lookup_cons] at e ⊢
    cases hq : n == f with
    | true => rw [hq] at e; cases e; exact ⟨_, rfl, h⟩
    | false => rw [hq] at e; exact FR.look t e
/-- an exception of the class at C with these fields -/
def excK (C : Addr) (fs : List (Str × PyData)) : Kind where
  ok K G v := ∃ a, v = .ref a ∧ ((∃ dx vs, G a = some (exo a C (some dx)) ∧ G dx = some (exd dx vs) ∧ FR K G fs vs) ∨ (fs = [] ∧ G a = some (ExO (.ref C) a)))
  up K G G' v e h := by
    obtain ⟨a, hv, h⟩ := h
    refine ⟨a, hv, ?_⟩
    rcases h with ⟨dx, vs, h1, h2, h3⟩ | ⟨h1, h2⟩
    · exact .inl ⟨dx, vs, e _ _ h1, e _ _ h2, h3.up e⟩
    · exact .inr ⟨h1, e _ _ h2⟩
section
variable {X : Cx} {p : Option Addr} {δ : En} {Kp : DV → Prop} {x n : Str} {e : Expr} {es : List Expr} {q pos : Pos} {C : Addr} {fl : List Str}
def exFs (fl : List Str) (ds : List PyData) : List (Str × PyData) := (fl.zip ds).reverse
theorem FR.app {K : PySem.W.Frag} {G : Hp} : ∀ {fs gs : List (Str × PyData)} {vs us : List (Str × V)}, FR K G fs vs → FR K G gs us → FR K G (fs ++ gs) (vs ++ us)
  | _, _, _, _, .nil, k => k
  | _, _, _, _, .cons h t, k => .cons h (FR.app t k)
theorem FR.zip {K : PySem.W.Frag} {G : Hp} : ∀ (fl : List Str) {ds : List PyData} {vs : List V}, RpAll K G vs ds → FR K G (exFs fl ds) (fl.zip vs).reverse
  | [], _, _, _ => .nil
  | f :: fl, _, _, .nil => .nil
  | f :: fl, _, _, .cons h t => by
    unfold exFs
    rw [List.zip_cons_cons, List.zip_cons_cons, List.reverse_cons, List.reverse_cons]
    exact FR.app (FR.zip fl t) (.cons h .nil)
/-- a new exception stands -/
theorem exc_go {G1 H1 H2 : Hp} {a dx : Addr} {ds : List PyData} {vs : List V} (hs : Sat p G1 H1) (rv : RpAll X.K G1 vs ds) (hn : H1 a = none) (hd : H1 dx = none) (hne : dx ≠ a)
    (h1 : H2 a = some (exo a C (some dx))) (h2 : H2 dx = some (exd dx (fl.zip vs).reverse)) (h3 : ∀ b, b ≠ a → b ≠ dx → H2 b = H1 b) : ∃ G2, Go p G1 H1 G2 H2 ∧ rel X.K G2 (.o (excK C (exFs fl ds))) (.ref a) := by
  have e : H2 = upd (upd H1 dx (exd dx (fl.zip vs).reverse)) a (exo a C (some dx)) := by
    funext b
    by_cases hb : b = a
    · rw [hb, upd_same, h1]
    · rw [upd_ne hb]
      by_cases hb2 : b = dx
      · rw [hb2, upd_same, h2]
      · rw [upd_ne hb2, h3 b hb hb2]
  have g1 := Go.alloc (o := exd dx (fl.zip vs).reverse) hs hd
  have hn2 : upd H1 dx (exd dx (fl.zip vs).reverse) a = none := by rw [upd_ne (Ne.symm hne)]; exact hn
  have g2 := Go.alloc (o := exo a C (some dx)) g1.sat hn2
  refine ⟨_, by rw [e]; exact g1.trans g2 hs, a, rfl, .inl ⟨dx, _, upd_same, by rw [upd_ne hne, upd_same], (FR.zip fl rv).up (g1.ex.trans g2.ex)⟩⟩
theorem de_exc (I : ExI X C fl) (hr : Room 2 X.A) (hp : Passes CX0 X (fun _ _ _ => False)) (hg : Gl X x) (hm : X.mg x = some (.ref C)) (h : DA X p δ (e :: es) fun rs => ∃ ds, rs = ds.map .d ∧ ds.length = fl.length ∧ Kp (.o (excK C (exFs fl ds))))
    (hdb : (x == ("__debug__" : Str)) = false := by decide) (he : starEach (e :: es) X.env = (false, eval e X.env) :: starEach es X.env := by rfl) (hpl : (backTo pos (starEach es X.env)).any (·.1) = false := by rfl) : DE X p δ (.Call (.Name x q) (e :: es) [] pos) Kp := fun σ G H he' hs Q hq => by
  refine ofE (pe_exc I hr hp hg hm (paW _) hdb he hpl) (h σ G H he' hs _ fun vs rs G1 H1 ⟨ds, hrs, hl, k⟩ g1 rv => ?_)
  subst hrs
  have rp := Rels.dp rv
  refine ⟨by rw [rp.len]; exact hl, fun a dx H2 hn hd hne h1 h2 h3 => ?_⟩
  obtain ⟨G2, g2, r⟩ := exc_go g1.sat rp hn hd hne h1 h2 h3
  exact hq _ _ G2 H2 k (g1.trans g2 hs) r
theorem de_excK {f : Str} {kpos : Pos} (I : ExI X C [f]) (hr : Room 2 X.A) (hp : Passes CX0 X (fun _ _ _ => False)) (hg : Gl X x) (hm : X.mg x = some (.ref C)) (h : DE X p δ e fun r => ∃ d, r = .d d ∧ Kp (.o (excK C (exFs [f] [d]))))
    (hall : (backToKw pos (keywordEach [⟨some f, e, kpos⟩] X.env)).all (·.1.isSome) = true := by rfl) (hks : (backToKw pos (keywordEach [⟨some f, e, kpos⟩] X.env)).filterMap (·.1) = [f] := by rfl)
    (hpl : ((backTo pos (starEach [] X.env)).any (·.1) || (backToKw pos (keywordEach [⟨some f, e, kpos⟩] X.env)).any (·.1.isNone)) = false := by rfl) (hdb : (x == ("__debug__" : Str)) = false := by decide) : DE X p δ (.Call (.Name x q) [] [⟨some f, e, kpos⟩] pos) Kp := fun σ G H he' hs Q hq => by
  refine ofE (pe_excK I hr hp hg hm (peW _) hall hks hpl hdb) (h σ G H he' hs _ fun v r G1 H1 ⟨d, hr, k⟩ g1 rv => ?_)
  subst hr
  refine ⟨rfl, fun a dx H2 hn hd hne h1 h2 h3 => ?_⟩
  obtain ⟨G2, g2, r⟩ := exc_go (ds := [d]) g1.sat (.cons rv .nil) hn hd hne h1 h2 h3
  exact hq _ _ G2 H2 k (g1.trans g2 hs) r
theorem de_excK2 {f g : Str} {e' : Expr} {kpos kpos' : Pos} (I : ExI X C [f, g]) (hr : Room 2 X.A) (hp : Passes CX0 X (fun _ _ _ => False)) (hg : Gl X x) (hm : X.mg x = some (.ref C)) (h : DE X p δ e fun r => ∃ d, r = .d d ∧ DE X p δ e' fun r' => ∃ d', r' = .d d' ∧ Kp (.o (excK C (exFs [f, g] [d', d]))))
    (hall : (backToKw pos (keywordEach [⟨some g, e, kpos⟩, ⟨some f, e', kpos'⟩] X.env)).all (·.1.isSome) = true := by rfl) (hks : (backToKw pos (keywordEach [⟨some g, e, kpos⟩, ⟨some f, e', kpos'⟩] X.env)).filterMap (·.1) = [g, f] := by rfl)
    (hpl : ((backTo pos (starEach [] X.env)).any (·.1) || (backToKw pos (keywordEach [⟨some g, e, kpos⟩, ⟨some f, e', kpos'⟩] X.env)).any (·.1.isNone)) = false := by rfl) (hdb : (x == ("__debug__" : Str)) = false := by decide) :
    DE X p δ (.Call (.Name x q) [] [⟨some g, e, kpos⟩, ⟨some f, e', kpos'⟩] pos) Kp := fun σ G H he' hs Q hq => by
  refine ofE (pe_excK2 I hr hp hg hm (peW _) (peW _) hall hks hpl hdb) (h σ G H he' hs _ fun v r G1 H1 ⟨d, hr, k⟩ g1 rv => ?_)
  subst hr
  refine k σ G1 H1 (he'.up g1.ex) g1.sat _ fun v' r' G2 H2 ⟨d', hr', k'⟩ g2 rv' => ?_
  subst hr'
  refine ⟨v, v', rfl, rfl, fun a dx H3 hn hd hne h1 h2 h3 => ?_⟩
  obtain ⟨G3, g3, r⟩ := exc_go (ds := [d', d]) g2.sat (.cons rv' (.cons (Ex.dp g2.ex _ _ rv) .nil)) hn hd hne h1 h2 h3
  exact hq _ _ G3 H3 k' ((g1.trans g2 hs).trans g3 hs) r
/-- a class without an own __init__ -/
theorem pe_exc0 {bmB : List Value} {B newId initId : String} (F : ExcBaseFacts B newId initId bmB) (q' : PySem.W.excIn X.K C bmB newId = true) (gC : X.mg x = some (.ref C)) (kC : PySem.W.keepIn X.K (.ref C) = true) (hg : Gl X x)
    (hdb : (x == ("__debug__" : Str)) = false := by decide) : PE X (.Call (.Name x q) [] [] pos) (fun σ H Q => ∀ a, H a = none → Q (.ref a) (upd H a (ExO (.ref C) a))) := by
  refine ⟨fun pins s σ H Q I h => ?_⟩
  refine wpAny_Call_Name_kw (ld_glob I hg gC ?_ hdb)
  refine PySem.W.callWith_K0 I.kIn kC ?_
  show wpAny _ _ (call (.ref C) []) _ _ _
  obtain ⟨bm, N, nm, qn, bs, hdct, sn, sub, ab, col, dd, k0, k1, k2, k3, k5, mN, hC, hN, hni, T⟩ := exc_obj I.kIn q'
  obtain ⟨hp, g, dr, tk, os⟩ := s
  refine wpAny_call_exc_subT F T hC hN hni (fun h' a hm => ?_) (by show 0 ≤ sizeLine; exact Nat.zero_le _)
  have hn : H a = none := I.hok.gone hm.new
  obtain ⟨t, ht, _, _⟩ := hm.there
  exact ⟨.ref a, upd H a (ExO (.ref C) a), I.laidN hm.keeps hm.new hn (exO_ok ht ⟨rfl, rfl⟩ rfl rfl rfl (show 4 < 6 by decide)), rfl, h a hn⟩
theorem de_exc0 {bmB : List Value} {B newId initId : String} (F : ExcBaseFacts B newId initId bmB) (q' : PySem.W.excIn X.K C bmB newId = true) (gC : X.mg x = some (.ref C)) (kC : PySem.W.keepIn X.K (.ref C) = true) (hg : Gl X x) (k : Kp (.o (excK C [])))
    (hdb : (x == ("__debug__" : Str)) = false := by decide) : DE X p δ (.Call (.Name x q) [] [] pos) Kp := fun σ G H he' hs Q hq =>
  ofE (pe_exc0 F q' gC kC hg hdb) fun a hn => hq _ _ _ _ k (Go.alloc hs hn) ⟨a, rfl, .inr ⟨rfl, upd_same⟩⟩
/-! ### fields -/
theorem pe_excF (he : PE X e te) (hb : attributeBase e n X.env (eval e X.env) = eval e X.env := by rfl) : PE X (.Attribute e n pos) (fun σ H Q => te σ H fun x H1 => ∃ a C dx vs v, x = .ref a ∧ XfC X.K C ∧ PySem.W.findIn X.K (.ref C) n = some none ∧ H1 a = some (exo a C (some dx)) ∧ H1 dx = some (exd dx vs) ∧ vs.lookup n = some v ∧ Q v H1) := by
  refine ⟨fun pins s σ H Q I h => ?_⟩
  refine attr_of hb (thn (he.run pins s σ H _ I h) fun u s1 hh => ?_)
  obtain ⟨x, H1, I1, rx, a, C, dx, vs, v, ex, T, hno, ea, ed, l, q⟩ := hh
  subst ex
  obtain rfl : u = Value.ref a := rx
  obtain ⟨t1, ho⟩ := exo_at I1.hok ea
  obtain ⟨mA, hns, hr⟩ := exd_at I1.hok ed
  obtain ⟨od, hod, hl⟩ := lookIn_ns hns
  obtain ⟨w, hw, rw'⟩ := RelO.some_of (v := v) (o := mA n) (by rw [← l]; exact hr n)
  have J : PySem.W.InstAt s1.heap a ({ cls := .ref C, dict := some dx, data := .fields #[.ref t1, .none, .none, .none, .bool false, .none] } : Obj) C (some od) := ⟨ho, rfl, rfl, hod⟩
  exact HandSPX.exc_get I1.kIn J T.ga T.gg T.exC (PySem.W.findObj_own T.hdC hno rfl (by rw [hl, hw])) (handed_of rw') ⟨v, H1, I1.tok _, rw', q⟩
theorem de_excF (h : DE X p δ e fun r => ∃ C fs d, r = .o (excK C fs) ∧ XfC X.K C ∧ PySem.W.findIn X.K (.ref C) n = some none ∧ fs.lookup n = some d ∧ Kp (.d d)) (hb : attributeBase e n X.env (eval e X.env) = eval e X.env := by rfl) : DE X p δ (.Attribute e n pos) Kp := fun σ G H he' hs Q hq => by
  refine ofE (pe_excF (peW _) hb) (h σ G H he' hs _ fun v r G1 H1 ⟨C, fs, d, hr, T, hno, hl, k⟩ g1 rv => ?_)
  subst hr
  obtain ⟨a, rfl, z⟩ := rv
  rcases z with ⟨dx, vs, h1, h2, h3⟩ | ⟨rfl, _⟩
  · obtain ⟨u, hu, ru⟩ := h3.look hl
    exact ⟨a, C, dx, vs, u, rfl, T, hno, g1.sat.ex _ _ h1, g1.sat.ex _ _ h2, hu, hq _ _ G1 H1 k g1 ru⟩
  · cases hl
/-! ### isinstance -/
def rIsX (K : PySem.W.Frag) : List V → Hp → VK → Prop := fun xs H Q => ∃ (a C : Addr) (c : V) (u : Value) (b : Bool), xs = [.ref a, c] ∧ ClsV c u ∧ ((∃ dx vs, H a = some (exo a C (some dx)) ∧ H dx = some (exd dx vs)) ∨ H a = some (ExO (.ref C) a)) ∧ ExcC K C ∧ PySem.W.kitOne K (.ref C) u = some b ∧ Q (.bl b) H
theorem call_isX : CallR X (.builtin "isinstance") (rIsX X.K) := by
  intro pins s σ H xs us Q I r h
  obtain ⟨a, C, c, u, b, rfl, k, ha, T, e, q⟩ := h
  obtain ⟨u1, u2, rfl, r1, r2⟩ := vals2 r
  have e2 := k.eq r2
  subst e2
  cases (show u1 = Value.ref a from r1)
  have J : ∃ ox od, PySem.W.InstAt s.heap a ox C od := by
    rcases ha with ⟨dx, vs, ea, ed⟩ | ea
    · obtain ⟨t1, ho⟩ := exo_at I.hok ea
      obtain ⟨mA, hns, hr⟩ := exd_at I.hok ed
      obtain ⟨od, hod, hl⟩ := lookIn_ns hns
      exact ⟨_, some od, ho, rfl, rfl, hod⟩
    · obtain ⟨⟨oe, vs, ho, hz, hd, _⟩, _, _⟩ := I.hok a _ ea
      obtain ⟨oc, od, oda, osl⟩ := oe
      obtain ⟨h1, h2⟩ := hz
      dsimp only at h1 h2 hd
      subst h1 h2 hd
      exact ⟨_, none, ho, rfl, rfl, trivial⟩
  obtain ⟨ox, od, J⟩ := J
  exact PySem.W.kia_one (kitE T) I.kIn J e (fun z => nomatch z) fun tk => ⟨.bl b, H, I.tok tk, rfl, q⟩
theorem de_isX {cv : V} {u : Value} {c : Expr} (hcv : ClsV cv u) (hg : Gl X "isinstance") (hm : X.mg "isinstance" = none) (hc : ∀ Kq : DV → Prop, Kq (.v cv) → DE X p δ c Kq)
    (h : DE X p δ e fun r => ∃ C fs b, r = .o (excK C fs) ∧ ExcC X.K C ∧ PySem.W.kitOne X.K (.ref C) u = some b ∧ Kp (.d (.bool b)))
    (he : starEach [e, c] X.env = (false, eval e X.env) :: starEach [c] X.env := by rfl) (he2 : starEach [c] X.env = (false, eval c X.env) :: starEach [] X.env := by rfl) (hpl : (backTo pos (starEach [c] X.env)).any (·.1) = false := by rfl) : DE X p δ (.Call (.Name "isinstance" q) [e, c] [] pos) Kp :=
  de_callB call_isX hg hm (by decide +kernel) (da_cons (h.imp fun r ⟨C, fs, b, hr, T, hk, k⟩ => da_cons (hc _ (da_nil fun G H vs s rv Q hq => by
    subst hr
    cases rv with
    | cons r1 r2 =>
      cases r2 with
      | cons r2 r3 =>
        cases r3
        cases r2
        obtain ⟨a, rfl, z⟩ := r1
        refine ⟨a, C, _, u, b, rfl, hcv, ?_, T, hk, hq _ _ G H k (.refl s) (Rp.bl _)⟩
        rcases z with ⟨dx, vs, h1, h2, _⟩ | ⟨_, h2⟩
        · exact .inl ⟨dx, vs, s.ex _ _ h1, s.ex _ _ h2⟩
        · exact .inr (s.ex _ _ h2))) he2) he) (he := he) (hpl := hpl)
end
end Z
end

section
set_option linter.all false
set_option maxRecDepth 100000
set_option maxHeartbeats 2000000
/-! Lists of what is known, loops over them, the feed anew in a loop. -/
namespace Z
open PySem L2 PyProof.Rows
/-- a list of such values -/
def lstK (rs : List DV) : Kind where
  ok K G v := ∃ a vs, v = .ref a ∧ G a = some (.lst vs) ∧ Rels K G rs vs
  up K G G' v e h := by
    obtain ⟨a, vs, hv, h1, h2⟩ := h
    exact ⟨a, vs, hv, e _ _ h1, h2.up e⟩
theorem Rels.app {K : PySem.W.Frag} {G : Hp} : ∀ {rs ss : List DV} {vs us : List V}, Rels K G rs vs → Rels K G ss us → Rels K G (rs ++ ss) (vs ++ us)
  | _, _, _, _, .nil, k => k
  | _, _, _, _, .cons h t, k => .cons h (Rels.app t k)
theorem Rels.get {K : PySem.W.Frag} {G : Hp} : ∀ {rs : List DV} {vs : List V} {i : Nat} {r : DV}, Rels K G rs vs → rs[i]? = some r → ∃ v, vs[i]? = some v ∧ rel K G r v
  | _, _, i, r, .nil, e => by simp at e
  | _, _, 0, r, .cons h t, e => by simp at e; subst e; exact ⟨_, rfl, h⟩
  | _, _, i + 1, r, .cons h t, e => by
    obtain ⟨v, a, b⟩ := Rels.get (i := i) t (by simpa using e)
    exact ⟨v, by simpa using a, b⟩
section
variable {X : Cx} {p : Option Addr} {δ : En} {Kp : DV → Prop} {P : Out → Prop} {a b e it : Expr} {es : List Expr} {pos : Pos} {body rest : List Stmt}
theorem de_lstO (h : DA X p δ es fun rs => rs.length ≤ sizeLine ∧ Kp (.o (lstK rs))) : DE X p δ (.List es pos) Kp := fun σ G H he hs Q hq => by
  refine ofE (pe_lst (paW es)) (h σ G H he hs _ fun vs rs G1 H1 ⟨hl, k⟩ g1 rv => ?_)
  refine ⟨by rw [rv.length]; exact hl, fun q hn => ?_⟩
  exact hq _ _ _ _ k (g1.trans (Go.alloc g1.sat hn) hs) ⟨q, vs, rfl, upd_same, rv.up (Ex.new (g1.sat.fresh hn))⟩
theorem de_catO (h : DE X p δ a fun x => ∃ rs, x = .o (lstK rs) ∧ DE X p δ b fun y => ∃ ss, y = .o (lstK ss) ∧ rs.length + ss.length ≤ sizeLine ∧ Kp (.o (lstK (rs ++ ss)))) : DE X p δ (.BinOp a .Add b pos) Kp :=
  de_bop op_cat (h.imp fun x ⟨rs, hx, hb⟩ => hb.imp fun y ⟨ss, hy, hz, k⟩ G H vx vy s rx ry Q q => by
    subst hx hy
    obtain ⟨a1, vs, rfl, h1, r1⟩ := rx
    obtain ⟨a2, us, rfl, h2, r2⟩ := ry
    exact ⟨_, _, _, _, rfl, rfl, s.ex _ _ h1, s.ex _ _ h2, by rw [r1.length, r2.length]; exact hz, fun q' hq' => q _ _ _ _ k (Go.alloc s hq') ⟨q', _, rfl, upd_same, (r1.app r2).up (Ex.new (s.fresh hq'))⟩⟩)
/-- for x in a list of what is known -/
theorem ds_forO {x : Str} {px : Pos} {i : Nat} (hp : PassesOwn (model X.prog X.w) X.A X.env X.xe) (hc : X.calm = true) (hN : X.N.Nodup) (hi : X.N[i]? = some x) (hx : Loc X.env.scope x)
    (h : DE X p δ it fun r => ∃ rs, r = .o (lstK rs) ∧ ∃ I : Nat → En → Prop, I 0 δ ∧ (∀ k δ' r, rs[k]? = some r → I k δ' → DSs X p (δ'.set i (some r)) body (turnP (I (k + 1)) P)) ∧ ∀ δ', I rs.length δ' → P (.nx δ'))
    (hf : X.fn x = true ∨ X.env.scope.names.lookup x = some .local := by first | exact .inl rfl | exact .inr rfl | assumption) (hs : ∀ x, foldedSetIterable it X.env x = pure x := by intro _; rfl) : DS X p δ (.For (.Name x px) it body [] pos) P := fun σ G H he hst D d => by
  refine ofS (ps_for hp hc (pi_list (peW it)) (pg_name hN hi hx hf) (pssW body) hs) ?_
  refine h σ G H he hst _ fun v r G1 H1 ⟨rs, hr, I, i0, i1, i2⟩ g1 rv => ?_
  subst hr
  obtain ⟨a, xs, rfl, hl, ha⟩ := rv
  refine ⟨a, rfl, ⟨xs, .of (g1.sat.ex _ _ hl)⟩, for_list (xs := xs) (fun k σ' H' => ∃ δ' G', I k δ' ∧ EnvD X.K G' δ' σ' ∧ Go p G H G' H' ∧ Ex G1 G') ⟨δ, G1, i0, he.up g1.ex, g1, .refl _⟩ (fun k σ' H' _ ⟨δ', G', _, _, g', e'⟩ => .of (g'.sat.ex _ _ (e' _ _ hl))) ?_ ?_⟩
  · rintro k x σ' H' hx ⟨δ', G', ik, he', g', e'⟩
    have hk : k < xs.length := (List.getElem?_eq_some_iff.mp hx).1
    have hd : rs[k]? = some (rs[k]'(by rw [← ha.length]; exact hk)) := List.getElem?_eq_getElem _
    obtain ⟨v, hv, rv⟩ := ha.get hd
    rw [hx] at hv
    cases hv
    exact i1 k δ' _ hd ik _ G' H' (he'.set (rv.up e')) g'.sat _ ⟨fun δ2 σ2 G2 H2 k2 g2 he2 => ⟨δ2, G2, k2, he2, g'.trans g2 hst, e'.trans g2.ex⟩, fun r v G2 H2 k2 g2 rv => d.rt r v G2 H2 k2 (g'.trans g2 hst) rv, fun δ2 σ2 G2 H2 k2 g2 he2 => d.nx δ2 σ2 G2 H2 k2 (g'.trans g2 hst) he2, fun δ2 σ2 G2 H2 k2 g2 he2 => ⟨δ2, G2, k2, he2, g'.trans g2 hst, e'.trans g2.ex⟩⟩
  · rintro σ' H' ⟨δ', G', ik, he', g', e'⟩
    rw [ha.length] at ik
    exact d.nx δ' σ' G' H' (i2 δ' ik) g' he'
/-- for n, x in enumerate(a list of what is known) -/
theorem ds_enumO {x y : Str} {px py pt pc pf : Pos} {kt i j : Nat} (hp : PassesOwn (model X.prog X.w) X.A X.env X.xe) (hc : X.calm = true) (hN : X.N.Nodup) (hi : X.N[i]? = some x) (hx : Loc X.env.scope x) (hj : X.N[j]? = some y) (hy : Loc X.env.scope y)
    (hg : Gl X "enumerate") (hm : X.mg "enumerate" = none)
    (h : DE X p δ e fun r => ∃ rs, r = .o (lstK rs) ∧ ∃ I : Nat → En → Prop, I 0 δ ∧ (∀ k δ' r, rs[k]? = some r → I k δ' → DSs X p ((δ'.set i (some (.d (.int (k : Nat))))).set j (some r)) body (turnP (I (k + 1)) P)) ∧ ∀ δ', I rs.length δ' → P (.nx δ'))
    (hf : X.fn x = true ∨ X.env.scope.names.lookup x = some .local := by first | exact .inl rfl | exact .inr rfl | assumption) (hf2 : X.fn y = true ∨ X.env.scope.names.lookup y = some .local := by first | exact .inl rfl | exact .inr rfl | assumption)
    (hst' : starEach [e] X.env = [(false, eval e X.env)] := by rfl) (hst2 : starEach [e] X.env = (false, eval e X.env) :: starEach [] X.env := by rfl) (hs : ∀ v, foldedSetIterable (.Call (.Name "enumerate" pf) [e] [] pc) X.env v = pure v := by intro _; rfl) :
    DS X p δ (.For (.Tuple [.Name x px, .Name y py] kt pt) (.Call (.Name "enumerate" pf) [e] [] pc) body [] pos) P := fun σ G H he hst D d => by
  refine ofS (ps_for hp hc (pi_enum hg hm (paW [e]) hst') (pg_tup hc (pgs_cons (pg_name hN hi hx hf) (pgs_cons (pg_name hN hj hy hf2) pgs_nil))) (pssW body) hs) ?_
  refine ofA (pa_cons (peW e) pa_nil hst2) (h σ G H he hst _ fun v r G1 H1 ⟨rs, hr, I, i0, i1, i2⟩ g1 rv => ?_)
  subst hr
  · obtain ⟨a, xs, rfl, hl, ha⟩ := rv
    refine ⟨a, xs, rfl, .of (g1.sat.ex _ _ hl), for_it (walk_enum (xs := xs)) (fun k σ' H' => ∃ δ' G', I k δ' ∧ EnvD X.K G' δ' σ' ∧ Go p G H G' H' ∧ Ex G1 G') ⟨δ, G1, i0, he.up g1.ex, g1, .refl _⟩ (fun k σ' H' _ ⟨δ', G', _, _, g', e'⟩ => .of (g'.sat.ex _ _ (e' _ _ hl))) ?_ ?_⟩
    · rintro k x σ' H' H'' hk ⟨δ', G', ik, he', g', e'⟩ ⟨Tp, u, w, rfl, hn, rfl, hu, hw⟩
      cases hu
      have hd : rs[k]? = some (rs[k]'(by rw [← ha.length]; exact hk)) := List.getElem?_eq_getElem _
      obtain ⟨v, hv, rv⟩ := ha.get hd
      have hw : xs[k]? = some w := hw
      rw [hw] at hv
      cases hv
      have g2 := g'.trans (Go.side (o := .tup [V.int (k : Nat), w]) g'.sat hn) hst
      refine ⟨Tp, [V.int (k : Nat), w], rfl, .of upd_same, rfl, V.int (k : Nat), [w], rfl, w, [], rfl, rfl, ?_⟩
      exact i1 k δ' _ hd ik _ G' _ ((he'.set (r := .d (.int (k : Nat))) (Rp.int _)).set (rv.up e')) g2.sat _ ⟨fun δ2 σ2 G2 H2 k2 g3 he2 => ⟨δ2, G2, k2, he2, g2.trans g3 hst, e'.trans g3.ex⟩, fun r v G2 H2 k2 g3 rv => d.rt r v G2 H2 k2 (g2.trans g3 hst) rv, fun δ2 σ2 G2 H2 k2 g3 he2 => d.nx δ2 σ2 G2 H2 k2 (g2.trans g3 hst) he2, fun δ2 σ2 G2 H2 k2 g3 he2 => ⟨δ2, G2, k2, he2, g2.trans g3 hst, e'.trans g3.ex⟩⟩
    · rintro σ' H' ⟨δ', G', ik, he', g', e'⟩
      rw [ha.length] at ik
      exact d.nx δ' σ' G' H' (i2 δ' ik) g' he'
/-- a, b = x, y with plain names -/
theorem ds_par2 {i j : Nat} {x y : Str} {px py pt : Pos} {kt k2 pt2} (hc : X.calm = true) (hN : X.N.Nodup) (hi : X.N[i]? = some x) (hj : X.N[j]? = some y) (hij : i ≠ j)
    (hx : X.env.scope.names.lookup x = some .local) (hy : X.env.scope.names.lookup y = some .local) (ha : DA X p δ [a, b] fun rs => ∃ r s, rs = [r, s] ∧ P (.nx ((δ.set i (some r)).set j (some s))))
    (hw : swappedStores [.Tuple [.Name x px, .Name y py] kt pt] (.Tuple [a, b] k2 pt2) X.env = pure (some [x, y]))
    (hs : swapsWithSole [.Tuple [.Name x px, .Name y py] kt pt] (.Tuple [a, b] k2 pt2) pos.line X.env = pure false := by rfl) : DS X p δ (.Assign [.Tuple [.Name x px, .Name y py] kt pt] (.Tuple [a, b] k2 pt2) pos) P := fun σ G H he hst D d => by
  refine ofS (ps_par hc hN hi hj hij hx hy (paW [a, b]) hw hs) (ha σ G H he hst _ fun vs rs G1 H1 ⟨r, s, hr, k⟩ g1 rv => ?_)
  subst hr
  cases rv with
  | cons r1 r2 =>
    cases r2 with
    | cons r2 r3 =>
      cases r3
      exact ⟨_, _, rfl, d.nx _ _ G1 H1 k g1 (((he.up g1.ex).set r1).set r2)⟩
theorem de_negI (h : DE X p δ a fun r => ∃ i : Int, r = .d (.int i) ∧ Kp (.d (.int (-i)))) : DE X p δ (.UnaryOp .USub a pos) Kp := fun σ G H he hs Q hq => by
  refine ofE (pe_un un_neg (peW a)) (h σ G H he hs _ fun v r G1 H1 ⟨i, hr, k⟩ g1 rv => ?_)
  subst hr
  cases rv
  exact ⟨i, rfl, hq _ _ G1 H1 k g1 (Rp.int _)⟩
theorem de_reprD (hgd : X.A.guards = some []) (hu : X.A.units + 64 < cLine) {q : Pos} (hg : Gl X "repr") (hm : X.mg "repr" = none) (h : DE X p δ e fun r => ∃ d, r = .d d ∧ (d.canLay0 = true ∧ d.depth ≤ 60 ∧ d.showable = true ∧ d.shown.length ≤ sizeLine) ∧ Kp (.d (.str d.shown)))
    (he : starEach [e] X.env = (false, eval e X.env) :: starEach [] X.env := by rfl) : DE X p δ (.Call (.Name "repr" q) [e] [] pos) Kp :=
  de_callB (call_reprD hgd hu) hg hm (by decide +kernel) (da_cons (h.imp fun r ⟨d, hr, ⟨h1, h2, h3, h4⟩, k⟩ => da_nil fun G H vs s rv Q hq => by
    subst hr
    cases rv with
    | cons r1 r2 =>
      cases r2
      exact ⟨_, d, rfl, (Ex.dp s.ex _ _ r1).dp, h1, h2, h3, h4, hq _ _ G H k (.refl s) (Rp.str _)⟩) he) (he := he)
end
end Z
end

section
set_option linter.all false
set_option maxRecDepth 100000
set_option maxHeartbeats 2000000
/-! The feed made anew within a law. -/
namespace Z
open PySem L2 PyProof.Rows
/-- the script, as no def changes it -/
def scrF (a : Addr) (ns : List Int) : Kind where
  ok K G v := v = .ref a ∧ ((∃ o, G a = some (.frz o (.lst (ns.map V.int)))) ∨ ∀ H', SqL K H' a (ns.map V.int))
  up K G G' v e h := ⟨h.1, h.2.imp (fun ⟨o, z⟩ => ⟨o, e _ _ z⟩) fun z => z⟩
def spFd (K : PySem.W.Frag) : Sp := fun vs H Q _ => ∃ (a : Addr) (ns : List Int) (k : Int), vs = [.ref a, .int k] ∧ ((∃ o, H a = some (.frz o (.lst (ns.map V.int)))) ∨ ∀ H', SqL K H' a (ns.map V.int)) ∧ ns.length ≤ 63 ∧ 0 ≤ k ∧ k < 1000000 ∧
  ∀ (b : Addr) (x y : Int) (H2 : Hp), H b = none → H2 b = some (.lst [.int x, .int y]) → (∀ c o, H c = some o → H2 c = some o) → Q (.ref b) H2
theorem feed_Fd {K : PySem.W.Frag} (vs : List V) (H : Hp) (Q : VK) (E : XK) (hq : spFd K vs H Q E) : spD K fFeedD vs H Q E := by
  obtain ⟨a, ns, k, rfl, hs, hl, k0, k1, q⟩ := hq
  let G : Hp := fun b => if b = a then (match H b with
    | some (.frz o u) => some (.frz o u)
    | _ => none) else none
  have hG : Ex G H := fun b o e => by
    by_cases hb : b = a
    · have e : (match H b with
        | some (.frz o u) => some (HO.frz o u)
        | _ => none) = some o := by rw [← e]; exact (if_pos hb).symm
      split at e
      · next he => rw [he]; exact e
      · cases e
    · have e2 : G b = none := if_neg hb
      rw [e2] at e
      cases e
  have sG : SqL K G a (ns.map V.int) := by
    rcases hs with ⟨o, e⟩ | e
    · refine .inl (.inr ⟨o, ?_⟩)
      show (if a = a then _ else none) = _
      rw [if_pos rfl, e]
    · exact e G
  refine ⟨none, G, _, fun r => ∃ x y : Int, r = .d (.list [.int x, .int y]), ⟨hG, (fun b e => by cases e)⟩, .cons (r := .o (scrK a ns)) ⟨rfl, sG⟩ (.cons (r := .d (.int k)) (Rp.int k) .nil), ⟨rfl, _, _, k, rfl, hl, k0, k1, fun x y => ⟨x, y, rfl⟩⟩, ?_⟩
  rintro v r G2 H2 ⟨x, y, rfl⟩ g rr
  cases rr with
  | @lst a' zs _ hl' ha =>
    cases ha with
    | cons a1 a2 =>
      cases a2 with
      | cons a2 a3 =>
        cases a3
        cases a1
        cases a2
        have h2 := g.sat.ex _ _ hl'
        have hn : H a' = none := by
          rcases g.nw _ _ hl' with z | z
          · exfalso
            have z : (if a' = a then (match H a' with
              | some (.frz o u) => some (HO.frz o u)
              | _ => none) else none) = some (HO.lst [V.int x, V.int y]) := z
            split at z
            · split at z <;> cases z
            · cases z
          · exact z
        exact q a' x y H2 hn h2 fun c o e => g.kp c o (fun z => nomatch z) e
section
variable {X : Cx} {p : Option Addr} {δ : En} {Kp : DV → Prop} {P : Out → Prop} {e1 e2 : Expr} {pos pc q px : Pos} {rest : List Stmt} {a : Addr} {ns : List Int}
theorem de_lenF {i : Nat} {x : Str} (hN : X.N[i]? = some x) (hv : Vis X.env.scope x) (hr : δ[i]? = some (some (.o (scrF a ns)))) (hg : Gl X "len") (hm : X.mg "len" = none) (k : Kp (.d (.int (ns.length : Nat)))) (hd : (x == ("__debug__" : Str)) = false := by decide) (hcd : (x == ("__classdict__" : Str)) = false := by decide)
    (he : starEach [Expr.Name x px] X.env = (false, eval (.Name x px) X.env) :: starEach [] X.env := by rfl) : DE X p δ (.Call (.Name "len" q) [.Name x px] [] pos) Kp :=
  de_callB call_len hg hm PySem.boot_len (da_cons (de_var hN hv hr (da_nil fun G H vs s rv Q hq => by
    cases rv with
    | cons r1 r2 =>
      cases r2
      obtain ⟨rfl, hs⟩ := r1
      have hs' : SqL X.K H a (ns.map V.int) := by
        rcases hs with ⟨o, z⟩ | z
        · exact .inl (.inr ⟨o, s.ex _ _ z⟩)
        · exact z H
      exact ⟨_, ns.length, rfl, .inl ⟨_, hs', by rw [List.length_map]⟩, hq _ _ G H k (.refl s) (Rp.int _)⟩) hd hcd) he) (he := he)
theorem ds_feedNew {x f : Str} {fa : Addr} {fd : FuncData} {ps : List Str} {k i : Nat} (Fn : FnG X.prog X.w X.K X.mg X.base CX0 k fa fd ps (spFd X.K)) (hgd : X.A.guards = some []) (hr : Room k X.A) (hg : Gl X f) (hm : X.mg f = some (.ref fa)) (hk : PySem.W.keepIn X.K (.ref fa) = true) (hb : Binds X.K fd ps [])
    (hN : X.N.Nodup) (hi : X.N[i]? = some x) (hx : Loc X.env.scope x)
    (h : DA X none δ [e1, e2] fun rs => ∃ a ns k, rs = [.o (scrF a ns), .d (.int k)] ∧ ns.length ≤ 63 ∧ 0 ≤ k ∧ k < 1000000 ∧ ∀ b : Addr, DSs X (some b) (δ.set i (some (.v (.ref b)))) rest P)
    (hw : swapsWith (.Call (.Name f q) [e1, e2] [] pc) (some (.Name x px)) pos.line X.env = pure false := by rfl) (hf : X.fn x = true ∨ X.env.scope.names.lookup x = some .local := by first | exact .inl rfl | exact .inr rfl | assumption)
    (hdb : (f == ("__debug__" : Str)) = false := by decide) (he : starEach [e1, e2] X.env = (false, eval e1 X.env) :: starEach [e2] X.env := by rfl) (hpl : (backTo pc (starEach [e2] X.env)).any (·.1) = false := by rfl) :
    DSs X none δ (.Assign [.Name x px] (.Call (.Name f q) [e1, e2] [] pc) pos :: rest) P := fun σ G H hE hs D d => by
  refine ofSs (pss_cons (psW _) (pssW _)) (ofS (ps_set hN hi hx (peW _) hw hf) ?_)
  refine ofE (pe_callG (E := E0) Fn hgd hr hg hm hk hb pass0 hdb he hpl) (h σ G H hE hs _ fun vs rs G1 H1 ⟨a, ns, k, hrs, hl, k0, k1, hrest⟩ g1 rv => ?_)
  subst hrs
  cases rv with
  | cons r1 r2 =>
    cases r2 with
    | cons r2 r3 =>
      cases r3
      cases r2
      obtain ⟨rfl, hsc⟩ := r1
      refine ⟨a, ns, k, rfl, hsc.imp (fun ⟨o, z⟩ => ⟨o, g1.sat.ex _ _ z⟩) (fun z => z), hl, k0, k1, fun b x y H2 hn h2 hkp => ?_⟩
      have gb := g1.sat.fresh hn
      have key : ∀ {G3 H3 : Hp}, Go (some b) G1 H2 G3 H3 → Go none G H G3 H3 := fun {G3 H3} g => g1.trans ⟨g.ex, fun c o e => (g.nw c o e).imp_right (fun z => by
        cases hc : H1 c with
        | none => rfl
        | some o => rw [hkp c o hc] at z; cases z), ⟨g.sat.ex, fun c e => nomatch e⟩, fun c o _ e => g.kp c o (fun z => by cases z; rw [hn] at e; cases e) (hkp c o e)⟩ hs
      exact hrest b _ G1 H2 ((hE.up g1.ex).set (r := .v (.ref b)) rfl) ⟨fun c o e => hkp c o (g1.sat.ex c o e), fun c e => by cases e; exact ⟨gb, x, y, h2⟩⟩ D
        ⟨fun δ2 σ2 G3 H3 k2 g he2 => d.nx δ2 σ2 G3 H3 k2 (key g) he2, fun r v G3 H3 k2 g rv => d.rt r v G3 H3 k2 (key g) rv, fun δ2 σ2 G3 H3 k2 g he2 => d.bk δ2 σ2 G3 H3 k2 (key g) he2, fun δ2 σ2 G3 H3 k2 g he2 => d.ct δ2 σ2 G3 H3 k2 (key g) he2⟩
end
end Z
end

section
set_option linter.all false
set_option maxRecDepth 100000
set_option maxHeartbeats 2000000
/-! Equality of texts. -/
namespace Z
open PySem L2 PyProof.Rows
section
variable {X : Cx} {p : Option Addr} {δ : En} {Kp : DV → Prop} {Kb : Bool → Prop} {a b : Expr} {pos : Pos}
theorem decS (s t : Str) : decide (V.str s = V.str t) = decide (s = t) := by
  rw [Bool.eq_iff_iff]
  simp
theorem h_eqS (h : DE X p δ a fun x => ∃ s, x = .d (.str s) ∧ DE X p δ b fun y => ∃ t, y = .d (.str t) ∧ Kp (.d (.bool (decide (s = t))))) : H2 X p δ a b rEq Kp := h.imp fun x ⟨s, hx, hb⟩ => hb.imp fun y ⟨t, hy, k⟩ G H vx vy st rx ry Q hq => by
  subst hx hy
  cases rx
  cases ry
  exact ⟨rfl, hq _ _ G H k (.refl st) (by rw [decS]; exact Rp.bl _)⟩
theorem h_neS (h : DE X p δ a fun x => ∃ s, x = .d (.str s) ∧ DE X p δ b fun y => ∃ t, y = .d (.str t) ∧ Kp (.d (.bool (!decide (s = t))))) : H2 X p δ a b rNe Kp := h.imp fun x ⟨s, hx, hb⟩ => hb.imp fun y ⟨t, hy, k⟩ G H vx vy st rx ry Q hq => by
  subst hx hy
  cases rx
  cases ry
  exact ⟨rfl, hq _ _ G H k (.refl st) (by rw [decS]; exact Rp.bl _)⟩
theorem de_eqS (h : DE X p δ a fun x => ∃ s, x = .d (.str s) ∧ DE X p δ b fun y => ∃ t, y = .d (.str t) ∧ Kp (.d (.bool (decide (s = t))))) : DE X p δ (.Compare a [.Eq] [b] pos) Kp := de_cmp op_eq (nomark _) (h_eqS h)
theorem dt_neS (h : DE X p δ a fun x => ∃ s, x = .d (.str s) ∧ DE X p δ b fun y => ∃ t, y = .d (.str t) ∧ Kb (!decide (s = t))) : DT X p δ (.Compare a [.NotEq] [b] pos) Kb := dt_cmp0 op_ne (nomark _) (h_neS (h.imp fun x ⟨s, hx, hb⟩ => ⟨s, hx, hb.imp fun y ⟨t, hy, k⟩ => ⟨t, hy, _, rfl, k⟩⟩))
end
end Z
end

section
set_option linter.all false
set_option maxRecDepth 100000
set_option maxHeartbeats 2000000
/-! ValueError() as a value. -/
namespace Z
open PySem L2 PyProof.Rows
def veK (T : String) : Kind where
  ok K G v := ∃ a, v = .ref a ∧ G a = some (ExO (.type T) a)
  up K G G' v e h := let ⟨a, h1, h2⟩ := h; ⟨a, h1, e _ _ h2⟩
section
variable {X : Cx} {p : Option Addr} {δ : En} {Kp : DV → Prop} {x T N I : String} {e : Expr} {q pos : Pos}
theorem pe_excB {x : Str} (F : ExcB T N I) (hg : Gl X x) (hm : X.mg x = none) (hv : bootBuiltins x = some (.type T)) (hn : x ≠ "__name__" := by decide) (hdb : (x == ("__debug__" : Str)) = false := by decide) : PE X (.Call (.Name x q) [] [] pos) (fun σ H Q => ∀ a, H a = none → Q (.ref a) (upd H a (ExO (.type T) a))) := by
  refine ⟨fun pins s σ H Q J h => ?_⟩
  refine wpAny_Call_Name_kw (ld_blt J hg hm hv ?_ hn hdb)
  obtain ⟨hp, g, dr, tk, os⟩ := s
  refine PyProof.Rows.callWith_type0 (wpAny_call_exc F.call (fun h' a mk => ?_) (Nat.zero_le _))
  have hm := PySem.Heap.MadeExc.of mk
  have hn : H a = none := J.hok.gone hm.new
  obtain ⟨t, ht, _, _⟩ := hm.there
  exact ⟨.ref a, upd H a (ExO (.type T) a), J.laidN hm.keeps hm.new hn (exO_ok ht ⟨rfl, rfl⟩ rfl rfl rfl (show 4 < 6 by decide)), rfl, h a hn⟩
theorem de_VE {x : Str} (F : ExcB T N I) (hg : Gl X x) (hm : X.mg x = none) (hv : bootBuiltins x = some (.type T)) (k : Kp (.o (veK T))) (hn : x ≠ "__name__" := by decide) (hdb : (x == ("__debug__" : Str)) = false := by decide) : DE X p δ (.Call (.Name x q) [] [] pos) Kp := fun σ G H he hs Q hq =>
  ofE (pe_excB F hg hm hv hn hdb) fun a hn => hq _ _ _ _ k (Go.alloc hs hn) ⟨a, rfl, upd_same⟩
def rIsV (K : PySem.W.Frag) : List V → Hp → VK → Prop := fun xs H Q => ∃ (a : Addr) (c : V) (u : Value) (b : Bool), xs = [.ref a, c] ∧ ClsV c u ∧ H a = some (ExO (.type "ValueError") a) ∧ PySem.W.kitOne K (.type "ValueError") u = some b ∧ Q (.bl b) H
theorem call_isV : CallR X (.builtin "isinstance") (rIsV X.K) := by
  intro pins s σ H xs us Q I r h
  obtain ⟨a, c, u, b, rfl, k, ea, e, q⟩ := h
  obtain ⟨u1, u2, rfl, r1, r2⟩ := vals2 r
  have e2 := k.eq r2
  subst e2
  cases (show u1 = Value.ref a from r1)
  obtain ⟨⟨oe, vs, ho, hz, hd, _⟩, _, _⟩ := I.hok a _ ea
  exact PySem.W.kia_one (PySem.W.kitx_bexc PySem.F.excAttr_ValueError (by kernel_rfl) (by rw [isSubtype_type]; kernel_rfl) (by decide +kernel)) I.kIn ⟨oe, ho, hz.1⟩ e (fun z => nomatch z) fun tk => ⟨.bl b, H, I.tok tk, rfl, q⟩
theorem de_isV {cv : V} {u : Value} {c : Expr} {b : Bool} (hcv : ClsV cv u) (hg : Gl X "isinstance") (hm : X.mg "isinstance" = none) (hc : ∀ Kq : DV → Prop, Kq (.v cv) → DE X p δ c Kq)
    (h : DE X p δ e fun r => r = .o (veK "ValueError") ∧ PySem.W.kitOne X.K (.type "ValueError") u = some b ∧ Kp (.d (.bool b)))
    (he : starEach [e, c] X.env = (false, eval e X.env) :: starEach [c] X.env := by rfl) (he2 : starEach [c] X.env = (false, eval c X.env) :: starEach [] X.env := by rfl) (hpl : (backTo pos (starEach [c] X.env)).any (·.1) = false := by rfl) : DE X p δ (.Call (.Name "isinstance" q) [e, c] [] pos) Kp :=
  de_callB call_isV hg hm (by decide +kernel) (da_cons (h.imp fun r ⟨hr, hk, k⟩ => da_cons (hc _ (da_nil fun G H vs s rv Q hq => by
    subst hr
    cases rv with
    | cons r1 r2 =>
      cases r2 with
      | cons r2 r3 =>
        cases r3
        cases r2
        obtain ⟨a, rfl, z⟩ := r1
        exact ⟨a, _, u, b, rfl, hcv, s.ex _ _ z, hk, hq _ _ G H k (.refl s) (Rp.bl _)⟩)) he2) he) (he := he) (hpl := hpl)
/-! ### equality of whole numbers -/
theorem h_eqI {a b : Expr} (h : DE X p δ a fun x => ∃ i, x = .d (.int i) ∧ DE X p δ b fun y => ∃ j, y = .d (.int j) ∧ Kp (.d (.bool (decide (i = j))))) : H2 X p δ a b rEq Kp := h.imp fun x ⟨i, hx, hb⟩ => hb.imp fun y ⟨j, hy, k⟩ G H vx vy st rx ry Q hq => by
  subst hx hy
  cases rx
  cases ry
  have e : decide (V.int i = V.int j) = decide (i = j) := by rw [Bool.eq_iff_iff]; simp
  exact ⟨rfl, hq _ _ G H k (.refl st) (by rw [e]; exact Rp.bl _)⟩
theorem de_eqI {a b : Expr} (h : DE X p δ a fun x => ∃ i, x = .d (.int i) ∧ DE X p δ b fun y => ∃ j, y = .d (.int j) ∧ Kp (.d (.bool (decide (i = j))))) : DE X p δ (.Compare a [.Eq] [b] pos) Kp := de_cmp op_eq (nomark _) (h_eqI h)
end
end Z
end

section
set_option linter.all false
set_option maxRecDepth 100000
set_option maxHeartbeats 2000000
/-! What a row says of classes of errors. -/
namespace Z
open PySem L2 PyProof.Rows
theorem oexC_of {K : PySem.W.Frag} {C : Addr} {o : Obj} (l : K.lookup C = some o) (h : ∃ nm q N bs bm sn sub ab col dd k0 k1 k2 k3 k5, o = excClassObj nm q C N bs bm true sn sub ab col dd k0 k1 k2 k3 k5 "ValueError.__new__" ∧ PySem.HandSPX.refsVE bm = true)
    (sa : PySem.W.findIn K (.ref C) "__setattr__" = some (some (.builtin "object.__setattr__"))) (exC : PySem.W.subIn K (.ref C) (.type "BaseException") = some true) (tyC : PySem.W.typeIn K (.ref C) = some (.type "type")) (kC : PySem.W.keepIn K (.ref C) = true) : OexC K C := by
  obtain ⟨nm, q, N, bs, bm, sn, sub, ab, col, dd, k0, k1, k2, k3, k5, rfl, hb⟩ := h
  exact ⟨⟨nm, q, N, bs, bm, sn, sub, ab, col, dd, k0, k1, k2, k3, k5, l, hb⟩, sa, exC, tyC, kC⟩
inductive AL (Q : Nat → Prop) : List Nat → Prop
  | nil : AL Q []
  | cons {x : Nat} {l : List Nat} : Q x → AL Q l → AL Q (x :: l)
theorem AL.at_ {Q : Nat → Prop} : ∀ {l : List Nat} {i : Nat}, AL Q l → i < l.length → Q (l.getD i 0)
  | _, _, .nil, h => (Nat.not_lt_zero _ h).elim
  | _, 0, .cons q _, _ => q
  | _, i + 1, .cons _ t, h => AL.at_ (i := i) t (Nat.lt_of_succ_lt_succ h)
/-- a class of errors with this line of bases -/
structure ClsM (K : PySem.W.Frag) (C : Addr) (tl : List Value) : Prop where
  mro : ∃ cd, PySem.W.clsIn K C = some cd ∧ cd.mro = .ref C :: tl
  ty : PySem.W.typeIn K (.ref C) = some (.type "type")
theorem clsM_of {K : PySem.W.Frag} {C : Addr} {o : Obj} {tl : List Value} (l : K.lookup C = some o) (h : ∃ od cd osl, o = ⟨.type "type", od, .cls cd, osl⟩ ∧ cd.mro = .ref C :: tl) : ClsM K C tl := by
  obtain ⟨od, cd, osl, rfl, h⟩ := h
  refine ⟨⟨cd, by unfold PySem.W.clsIn; rw [l], h⟩, ?_⟩
  show (K.lookup C).map (·.cls) = _
  rw [l]
  rfl
theorem ClsM.sub {K : PySem.W.Frag} {C : Addr} {tl : List Value} (h : ClsM K C tl) (b : Value) : PySem.W.subIn K (.ref C) b = some ((Value.ref C :: tl).contains b) := by
  obtain ⟨cd, h1, h2⟩ := h.mro
  show PySem.W.mroIn K C b = _
  unfold PySem.W.mroIn
  rw [h1, Option.bind_some, h2]
  rfl
theorem ClsM.is {K : PySem.W.Frag} {C D : Addr} {tl tl' : List Value} (h : ClsM K C tl) (k : ClsM K D tl') : PySem.W.kitOne K (.ref C) (.ref D) = some ((Value.ref C :: tl).contains (.ref D)) := by
  unfold PySem.W.kitOne
  by_cases e : (Value.ref C == Value.ref D) = true
  · rw [if_pos e]
    have e' := beq_iff_eq.mp e
    rw [e']
    simp
  · rw [if_neg e]
    obtain ⟨cd, k1, _⟩ := k.mro
    show (if ((PySem.W.clsIn K D).isSome && PySem.W.typeIn K (.ref D) == some (.type "type")) = true then PySem.W.subIn K (.ref C) (.ref D) else none) = _
    rw [k1, k.ty, if_pos (by simp)]
    exact h.sub _
theorem ClsM.isT {K : PySem.W.Frag} {C : Addr} {tl : List Value} {T : String} (h : ClsM K C tl) (m : PySem.W.kitMeta T = true) : PySem.W.kitOne K (.ref C) (.type T) = some ((Value.ref C :: tl).contains (.type T)) := by
  unfold PySem.W.kitOne
  rw [if_neg (by simp)]
  show (if PySem.W.kitMeta T = true then PySem.W.subIn K (.ref C) (.type T) else none) = _
  rw [if_pos m]
  exact h.sub _
end Z
end

section
set_option linter.all false
set_option maxRecDepth 100000
set_option maxHeartbeats 2000000
namespace R7
open PySem L2 Z
local macro_rules | `(tactic| walk_at "vis") => `(tactic| first | exact Or.inl rfl | exact Or.inr (Or.inl rfl) | exact Or.inr (Or.inr rfl))
local macro_rules | `(tactic| walk_at "v") => `(tactic| first
  | refine de_var (i := 0) rfl (by walk_at "vis") rfl ?_ | refine de_var (i := 1) rfl (by walk_at "vis") rfl ?_ | refine de_var (i := 2) rfl (by walk_at "vis") rfl ?_ | refine de_var (i := 3) rfl (by walk_at "vis") rfl ?_
  | refine de_var (i := 4) rfl (by walk_at "vis") rfl ?_ | refine de_var (i := 5) rfl (by walk_at "vis") rfl ?_ | refine de_var (i := 6) rfl (by walk_at "vis") rfl ?_ | refine de_var (i := 7) rfl (by walk_at "vis") rfl ?_)
def top (i : Nat) : Stmt := PySem.Challenge.pw_twolistings_k75_errors_and_fields.main.body.getD i (.Pass ⟨0, 0, 0, 0⟩)
abbrev sPick : Stmt := top 28
abbrev sKinds : Stmt := top 29
abbrev sOne : Stmt := top 30
theorem scPick : FnScope ["feed", "some"] ["feed", "some"] (defScope sPick) := ⟨rfl, rfl, rfl, by decide +kernel, rfl, by decide +kernel, by decide +kernel⟩
theorem scKinds : FnScope ["thing", "found"] ["thing"] (defScope sKinds) := ⟨rfl, rfl, rfl, by decide +kernel, rfl, by decide +kernel, by decide +kernel⟩
theorem scOne : FnScope ["odd", "found"] ["odd"] (defScope sOne) := ⟨rfl, rfl, rfl, by decide +kernel, rfl, by decide +kernel, by decide +kernel⟩
section
variable {P : Program} {w : World} {K : PySem.W.Frag} {mg : Str → Option Value} {base : Heap}
/-- the next draw of some values -/
def fPickD : DSp := fun p ds Kp => ∃ a l, p = some a ∧ ds = [.v (.ref a), .d (.list l)] ∧ 1 ≤ l.length ∧ l.length < 1000000 ∧ ∀ d, d ∈ l → Kp (.d d)
theorem okPick {f : Addr} {fd : FuncData} (F : Fun K "_law_pick" "_law_pick" sPick f fd) (hlen : mg "len" = none) (ct : Callee P w K mg base "_law_take" 1 fTakeD) : FnG P w K mg base CX0 2 f fd ["feed", "some"] (spD K fPickD) := by
  refine fnD_of F scPick fPickD (fun p ds Kp ⟨a, l, _, h, _⟩ => by rw [h]; rfl) fun cdv A outer s H E hg hr p ds Kp hf => ?_
  obtain ⟨a, l, rfl, rfl, h1, h2, k⟩ := hf
  refine dss_cons (ds_ret (de_ixL (fun _ _ => rfl) ?_))
  walk_at "v"
  refine ⟨l, rfl, ?_⟩
  refine de_call ct hg hr rfl (da_cons ?_)
  walk_at "v"
  refine da_cons (de_len rfl hlen ?_)
  walk_at "v"
  refine ⟨_, _, rfl, rfl, da_nil ⟨a, l.length, rfl, rfl, by omega, by omega, fun r r0 r1 => ?_⟩⟩
  obtain ⟨n, rfl⟩ : ∃ n : Nat, r = n := ⟨r.toNat, by omega⟩
  have hn : n < l.length := by omega
  refine ⟨n, l[n], rfl, ?_, k _ (List.getElem_mem hn)⟩
  unfold atI ixN
  rw [if_pos (by omega), if_pos (by omega)]
  simp [hn]
theorem sl {n : Nat} (h : n ≤ 100) : n ≤ sizeLine := by rw [sizeLine_eq]; omega
/-- the classes in the law's order -/
def cn : List Str := ["BadModes", "BadRow", "NoPlace", "BadRecord", "NoRecord", "BadEvent", "BadRules", "BadPlan", "NoQuestion", "BadPosition", "BadSaying", "BadWriter", "BadDeed", "Parted", "NoBook", "NoDefeat", "BadName", "BadThing", "BadSteps", "OffBook", "Barred", "BadOrder", "BadText"]
def fKindsD (K : PySem.W.Frag) (ad : Nat → Addr) : DSp := fun p ds Kp => ∃ C fs, ∃ bs : Nat → Bool, ds = [.o (excK C fs)] ∧ ExcC K C ∧ (∀ i, i < 23 → PySem.W.kitOne K (.ref C) (.ref (ad i)) = some (bs i)) ∧ Kp (.d (.list ((List.range 23).map fun i => .bool (bs i))))
theorem okKinds {ad : Nat → Addr} {f : Addr} {fd : FuncData} (F : Fun K "_law_kinds" "_law_kinds" sKinds f fd) (hisi : mg "isinstance" = none) (m : ∀ i, i < 23 → mg (cn.getD i "") = some (.ref (ad i))) : FnG P w K mg base CX0 1 f fd ["thing"] (spD K (fKindsD K ad)) := by
  refine fnD_of F scKinds (fKindsD K ad) (fun p ds Kp ⟨_, _, _, h, _⟩ => by rw [h]; rfl) fun cdv A outer s H E hg hr p ds Kp hf => ?_
  obtain ⟨C, fs, bs, rfl, EC, hb, k⟩ := hf
  refine dss_cons (ds_set (i := 1) scKinds.nd rfl (Or.inl rfl) (de_lst ?_))
  refine da_cons (de_isX (cv := .ref (ad 0)) (u := .ref (ad 0)) (.own _) rfl hisi (fun Kq k => de_glob (v := .ref (ad 0)) (r := .v (.ref (ad 0))) rfl (m 0 (by decide)) rfl (fun _ => rfl) k) (de_var (i := 0) rfl (Or.inl rfl) rfl ⟨C, fs, bs 0, rfl, EC, hb 0 (by decide), ?_⟩))
  refine da_cons (de_isX (cv := .ref (ad 1)) (u := .ref (ad 1)) (.own _) rfl hisi (fun Kq k => de_glob (v := .ref (ad 1)) (r := .v (.ref (ad 1))) rfl (m 1 (by decide)) rfl (fun _ => rfl) k) (de_var (i := 0) rfl (Or.inl rfl) rfl ⟨C, fs, bs 1, rfl, EC, hb 1 (by decide), ?_⟩))
  refine da_cons (de_isX (cv := .ref (ad 2)) (u := .ref (ad 2)) (.own _) rfl hisi (fun Kq k => de_glob (v := .ref (ad 2)) (r := .v (.ref (ad 2))) rfl (m 2 (by decide)) rfl (fun _ => rfl) k) (de_var (i := 0) rfl (Or.inl rfl) rfl ⟨C, fs, bs 2, rfl, EC, hb 2 (by decide), ?_⟩))
  refine da_nil ⟨_, rfl, sl (Nat.le_of_ble_eq_true rfl), ?_⟩
  refine dss_cons (ds_set (i := 1) scKinds.nd rfl (Or.inl rfl) (de_cat (de_var (i := 1) rfl (Or.inl rfl) rfl ⟨_, rfl, de_lst ?_⟩)))
  refine da_cons (de_isX (cv := .ref (ad 3)) (u := .ref (ad 3)) (.own _) rfl hisi (fun Kq k => de_glob (v := .ref (ad 3)) (r := .v (.ref (ad 3))) rfl (m 3 (by decide)) rfl (fun _ => rfl) k) (de_var (i := 0) rfl (Or.inl rfl) rfl ⟨C, fs, bs 3, rfl, EC, hb 3 (by decide), ?_⟩))
  refine da_cons (de_isX (cv := .ref (ad 4)) (u := .ref (ad 4)) (.own _) rfl hisi (fun Kq k => de_glob (v := .ref (ad 4)) (r := .v (.ref (ad 4))) rfl (m 4 (by decide)) rfl (fun _ => rfl) k) (de_var (i := 0) rfl (Or.inl rfl) rfl ⟨C, fs, bs 4, rfl, EC, hb 4 (by decide), ?_⟩))
  refine da_cons (de_isX (cv := .ref (ad 5)) (u := .ref (ad 5)) (.own _) rfl hisi (fun Kq k => de_glob (v := .ref (ad 5)) (r := .v (.ref (ad 5))) rfl (m 5 (by decide)) rfl (fun _ => rfl) k) (de_var (i := 0) rfl (Or.inl rfl) rfl ⟨C, fs, bs 5, rfl, EC, hb 5 (by decide), ?_⟩))
  refine da_nil ⟨_, rfl, sl (Nat.le_of_ble_eq_true rfl), _, rfl, sl (Nat.le_of_ble_eq_true rfl), ?_⟩
  refine dss_cons (ds_set (i := 1) scKinds.nd rfl (Or.inl rfl) (de_cat (de_var (i := 1) rfl (Or.inl rfl) rfl ⟨_, rfl, de_lst ?_⟩)))
  refine da_cons (de_isX (cv := .ref (ad 6)) (u := .ref (ad 6)) (.own _) rfl hisi (fun Kq k => de_glob (v := .ref (ad 6)) (r := .v (.ref (ad 6))) rfl (m 6 (by decide)) rfl (fun _ => rfl) k) (de_var (i := 0) rfl (Or.inl rfl) rfl ⟨C, fs, bs 6, rfl, EC, hb 6 (by decide), ?_⟩))
  refine da_cons (de_isX (cv := .ref (ad 7)) (u := .ref (ad 7)) (.own _) rfl hisi (fun Kq k => de_glob (v := .ref (ad 7)) (r := .v (.ref (ad 7))) rfl (m 7 (by decide)) rfl (fun _ => rfl) k) (de_var (i := 0) rfl (Or.inl rfl) rfl ⟨C, fs, bs 7, rfl, EC, hb 7 (by decide), ?_⟩))
  refine da_cons (de_isX (cv := .ref (ad 8)) (u := .ref (ad 8)) (.own _) rfl hisi (fun Kq k => de_glob (v := .ref (ad 8)) (r := .v (.ref (ad 8))) rfl (m 8 (by decide)) rfl (fun _ => rfl) k) (de_var (i := 0) rfl (Or.inl rfl) rfl ⟨C, fs, bs 8, rfl, EC, hb 8 (by decide), ?_⟩))
  refine da_nil ⟨_, rfl, sl (Nat.le_of_ble_eq_true rfl), _, rfl, sl (Nat.le_of_ble_eq_true rfl), ?_⟩
  refine dss_cons (ds_set (i := 1) scKinds.nd rfl (Or.inl rfl) (de_cat (de_var (i := 1) rfl (Or.inl rfl) rfl ⟨_, rfl, de_lst ?_⟩)))
  refine da_cons (de_isX (cv := .ref (ad 9)) (u := .ref (ad 9)) (.own _) rfl hisi (fun Kq k => de_glob (v := .ref (ad 9)) (r := .v (.ref (ad 9))) rfl (m 9 (by decide)) rfl (fun _ => rfl) k) (de_var (i := 0) rfl (Or.inl rfl) rfl ⟨C, fs, bs 9, rfl, EC, hb 9 (by decide), ?_⟩))
  refine da_cons (de_isX (cv := .ref (ad 10)) (u := .ref (ad 10)) (.own _) rfl hisi (fun Kq k => de_glob (v := .ref (ad 10)) (r := .v (.ref (ad 10))) rfl (m 10 (by decide)) rfl (fun _ => rfl) k) (de_var (i := 0) rfl (Or.inl rfl) rfl ⟨C, fs, bs 10, rfl, EC, hb 10 (by decide), ?_⟩))
  refine da_cons (de_isX (cv := .ref (ad 11)) (u := .ref (ad 11)) (.own _) rfl hisi (fun Kq k => de_glob (v := .ref (ad 11)) (r := .v (.ref (ad 11))) rfl (m 11 (by decide)) rfl (fun _ => rfl) k) (de_var (i := 0) rfl (Or.inl rfl) rfl ⟨C, fs, bs 11, rfl, EC, hb 11 (by decide), ?_⟩))
  refine da_nil ⟨_, rfl, sl (Nat.le_of_ble_eq_true rfl), _, rfl, sl (Nat.le_of_ble_eq_true rfl), ?_⟩
  refine dss_cons (ds_set (i := 1) scKinds.nd rfl (Or.inl rfl) (de_cat (de_var (i := 1) rfl (Or.inl rfl) rfl ⟨_, rfl, de_lst ?_⟩)))
  refine da_cons (de_isX (cv := .ref (ad 12)) (u := .ref (ad 12)) (.own _) rfl hisi (fun Kq k => de_glob (v := .ref (ad 12)) (r := .v (.ref (ad 12))) rfl (m 12 (by decide)) rfl (fun _ => rfl) k) (de_var (i := 0) rfl (Or.inl rfl) rfl ⟨C, fs, bs 12, rfl, EC, hb 12 (by decide), ?_⟩))
  refine da_cons (de_isX (cv := .ref (ad 13)) (u := .ref (ad 13)) (.own _) rfl hisi (fun Kq k => de_glob (v := .ref (ad 13)) (r := .v (.ref (ad 13))) rfl (m 13 (by decide)) rfl (fun _ => rfl) k) (de_var (i := 0) rfl (Or.inl rfl) rfl ⟨C, fs, bs 13, rfl, EC, hb 13 (by decide), ?_⟩))
  refine da_cons (de_isX (cv := .ref (ad 14)) (u := .ref (ad 14)) (.own _) rfl hisi (fun Kq k => de_glob (v := .ref (ad 14)) (r := .v (.ref (ad 14))) rfl (m 14 (by decide)) rfl (fun _ => rfl) k) (de_var (i := 0) rfl (Or.inl rfl) rfl ⟨C, fs, bs 14, rfl, EC, hb 14 (by decide), ?_⟩))
  refine da_nil ⟨_, rfl, sl (Nat.le_of_ble_eq_true rfl), _, rfl, sl (Nat.le_of_ble_eq_true rfl), ?_⟩
  refine dss_cons (ds_set (i := 1) scKinds.nd rfl (Or.inl rfl) (de_cat (de_var (i := 1) rfl (Or.inl rfl) rfl ⟨_, rfl, de_lst ?_⟩)))
  refine da_cons (de_isX (cv := .ref (ad 15)) (u := .ref (ad 15)) (.own _) rfl hisi (fun Kq k => de_glob (v := .ref (ad 15)) (r := .v (.ref (ad 15))) rfl (m 15 (by decide)) rfl (fun _ => rfl) k) (de_var (i := 0) rfl (Or.inl rfl) rfl ⟨C, fs, bs 15, rfl, EC, hb 15 (by decide), ?_⟩))
  refine da_cons (de_isX (cv := .ref (ad 16)) (u := .ref (ad 16)) (.own _) rfl hisi (fun Kq k => de_glob (v := .ref (ad 16)) (r := .v (.ref (ad 16))) rfl (m 16 (by decide)) rfl (fun _ => rfl) k) (de_var (i := 0) rfl (Or.inl rfl) rfl ⟨C, fs, bs 16, rfl, EC, hb 16 (by decide), ?_⟩))
  refine da_cons (de_isX (cv := .ref (ad 17)) (u := .ref (ad 17)) (.own _) rfl hisi (fun Kq k => de_glob (v := .ref (ad 17)) (r := .v (.ref (ad 17))) rfl (m 17 (by decide)) rfl (fun _ => rfl) k) (de_var (i := 0) rfl (Or.inl rfl) rfl ⟨C, fs, bs 17, rfl, EC, hb 17 (by decide), ?_⟩))
  refine da_nil ⟨_, rfl, sl (Nat.le_of_ble_eq_true rfl), _, rfl, sl (Nat.le_of_ble_eq_true rfl), ?_⟩
  refine dss_cons (ds_set (i := 1) scKinds.nd rfl (Or.inl rfl) (de_cat (de_var (i := 1) rfl (Or.inl rfl) rfl ⟨_, rfl, de_lst ?_⟩)))
  refine da_cons (de_isX (cv := .ref (ad 18)) (u := .ref (ad 18)) (.own _) rfl hisi (fun Kq k => de_glob (v := .ref (ad 18)) (r := .v (.ref (ad 18))) rfl (m 18 (by decide)) rfl (fun _ => rfl) k) (de_var (i := 0) rfl (Or.inl rfl) rfl ⟨C, fs, bs 18, rfl, EC, hb 18 (by decide), ?_⟩))
  refine da_cons (de_isX (cv := .ref (ad 19)) (u := .ref (ad 19)) (.own _) rfl hisi (fun Kq k => de_glob (v := .ref (ad 19)) (r := .v (.ref (ad 19))) rfl (m 19 (by decide)) rfl (fun _ => rfl) k) (de_var (i := 0) rfl (Or.inl rfl) rfl ⟨C, fs, bs 19, rfl, EC, hb 19 (by decide), ?_⟩))
  refine da_cons (de_isX (cv := .ref (ad 20)) (u := .ref (ad 20)) (.own _) rfl hisi (fun Kq k => de_glob (v := .ref (ad 20)) (r := .v (.ref (ad 20))) rfl (m 20 (by decide)) rfl (fun _ => rfl) k) (de_var (i := 0) rfl (Or.inl rfl) rfl ⟨C, fs, bs 20, rfl, EC, hb 20 (by decide), ?_⟩))
  refine da_nil ⟨_, rfl, sl (Nat.le_of_ble_eq_true rfl), _, rfl, sl (Nat.le_of_ble_eq_true rfl), ?_⟩
  refine dss_cons (ds_ret (de_cat (de_var (i := 1) rfl (Or.inl rfl) rfl ⟨_, rfl, de_lst ?_⟩)))
  refine da_cons (de_isX (cv := .ref (ad 21)) (u := .ref (ad 21)) (.own _) rfl hisi (fun Kq k => de_glob (v := .ref (ad 21)) (r := .v (.ref (ad 21))) rfl (m 21 (by decide)) rfl (fun _ => rfl) k) (de_var (i := 0) rfl (Or.inl rfl) rfl ⟨C, fs, bs 21, rfl, EC, hb 21 (by decide), ?_⟩))
  refine da_cons (de_isX (cv := .ref (ad 22)) (u := .ref (ad 22)) (.own _) rfl hisi (fun Kq k => de_glob (v := .ref (ad 22)) (r := .v (.ref (ad 22))) rfl (m 22 (by decide)) rfl (fun _ => rfl) k) (de_var (i := 0) rfl (Or.inl rfl) rfl ⟨C, fs, bs 22, rfl, EC, hb 22 (by decide), ?_⟩))
  refine da_nil ⟨_, rfl, sl (Nat.le_of_ble_eq_true rfl), _, rfl, sl (Nat.le_of_ble_eq_true rfl), ?_⟩
  exact k
structure OwnC (P : Program) (w : World) (K : PySem.W.Frag) (mg : Str → Option Value) (base : Heap) (C : Addr) (fl : List Str) : Prop where
  T : OexC K C
  no : ∀ f, f ∈ fl → PySem.W.findIn K (.ref C) f = some none
  xf : XfC K C
  ex : ∃ fI fd, PySem.W.findIn K (.ref C) "__init__" = some (some (.ref fI)) ∧ PySem.W.typeIn K (.ref fI) = some (.type "function") ∧ FnOk P w K mg base CX0 1 fI fd (("self" : Str) :: fl) (spInit K fl) ∧ Binds K fd (("self" : Str) :: fl) [] ∧
    (∀ (s : Shared) (a u : Value) (f : Str), fl = [f] → BindsTo s fd ⟨[a], [(f, u)]⟩ [("self", a), (f, u)]) ∧
    ∀ (s : Shared) (a u v : Value) (f g : Str), fl = [f, g] → BindsTo s fd ⟨[a], [(g, u), (f, v)]⟩ [("self", a), (f, v), (g, u)]
theorem OwnC.i {X : Cx} {C : Addr} {fl : List Str} (o : OwnC X.prog X.w X.K X.mg X.base C fl) (h : fl.length ≤ 1000) : ExI X C fl := ⟨o.T, o.no, h, o.ex⟩
def fo : Nat → List Str
  | 1 => ["place"] | 2 => ["place"] | 3 => ["number"] | 4 => ["number"] | 5 => ["number"] | 8 => ["word"] | 10 => ["saying"] | 11 => ["at"] | 12 => ["at"] | 13 => ["name"] | 19 => ["number", "name"] | 20 => ["name"] | 22 => ["number"] | _ => []
def own : List Nat := [1, 2, 3, 4, 5, 8, 10, 11, 12, 13, 19, 20, 22]
def Good (d : PyData) : Prop := d.canLay0 = true ∧ d.depth ≤ 60 ∧ d.showable = true ∧ d.shown.length ≤ sizeLine
def fOneD : DSp := fun p ds Kp => ∃ d, ds = [.d d] ∧ Good (.list (List.replicate 24 d)) ∧ Kp (.d (.bool true))
theorem okOne {ad : Nat → Addr} {f : Addr} {fd : FuncData} (F : Fun K "_law_one_field" "_law_one_field" sOne f fd) (hrep : mg "repr" = none) (m : ∀ i, i < 23 → mg (cn.getD i "") = some (.ref (ad i))) (ho : ∀ i, i ∈ own → OwnC P w K mg base (ad i) (fo i)) : FnG P w K mg base CX0 4 f fd ["odd"] (spD K fOneD) := by
  refine fnD_of F scOne fOneD (fun p ds Kp ⟨_, h, _⟩ => by rw [h]; rfl) fun cdv A outer s H E hg hr p ds Kp hf => ?_
  obtain ⟨d, rfl, hd, k⟩ := hf
  refine dss_cons (ds_set (i := 1) scOne.nd rfl (Or.inl rfl) (de_lst ?_))
  refine da_cons (de_excF (n := "place") (de_exc (C := ad 1) (fl := ["place"]) (OwnC.i (ho 1 (by decide)) (by simp)) (hr.mono (by decide)) pass0 rfl (m 1 (by decide)) (da_cons (de_var (i := 0) rfl (Or.inl rfl) rfl (da_nil ⟨[d], rfl, rfl, ad 1, _, d, rfl, (ho 1 (by decide)).xf, (ho 1 (by decide)).no "place" (by simp [fo]), by simp [exFs], ?_⟩)))))
  refine da_cons (de_excF (n := "place") (de_excK (C := ad 1) (f := "place") (OwnC.i (ho 1 (by decide)) (by simp)) (hr.mono (by decide)) pass0 rfl (m 1 (by decide)) (de_var (i := 0) rfl (Or.inl rfl) rfl ⟨d, rfl, ad 1, _, d, rfl, (ho 1 (by decide)).xf, (ho 1 (by decide)).no "place" (by simp [fo]), by simp [exFs], ?_⟩)))
  refine da_cons (de_excF (n := "place") (de_exc (C := ad 2) (fl := ["place"]) (OwnC.i (ho 2 (by decide)) (by simp)) (hr.mono (by decide)) pass0 rfl (m 2 (by decide)) (da_cons (de_var (i := 0) rfl (Or.inl rfl) rfl (da_nil ⟨[d], rfl, rfl, ad 2, _, d, rfl, (ho 2 (by decide)).xf, (ho 2 (by decide)).no "place" (by simp [fo]), by simp [exFs], ?_⟩)))))
  refine da_cons (de_excF (n := "place") (de_excK (C := ad 2) (f := "place") (OwnC.i (ho 2 (by decide)) (by simp)) (hr.mono (by decide)) pass0 rfl (m 2 (by decide)) (de_var (i := 0) rfl (Or.inl rfl) rfl ⟨d, rfl, ad 2, _, d, rfl, (ho 2 (by decide)).xf, (ho 2 (by decide)).no "place" (by simp [fo]), by simp [exFs], ?_⟩)))
  refine da_nil ⟨_, rfl, sl (Nat.le_of_ble_eq_true rfl), ?_⟩
  refine dss_cons (ds_set (i := 1) scOne.nd rfl (Or.inl rfl) (de_cat (de_var (i := 1) rfl (Or.inl rfl) rfl ⟨_, rfl, de_lst ?_⟩)))
  refine da_cons (de_excF (n := "number") (de_exc (C := ad 3) (fl := ["number"]) (OwnC.i (ho 3 (by decide)) (by simp)) (hr.mono (by decide)) pass0 rfl (m 3 (by decide)) (da_cons (de_var (i := 0) rfl (Or.inl rfl) rfl (da_nil ⟨[d], rfl, rfl, ad 3, _, d, rfl, (ho 3 (by decide)).xf, (ho 3 (by decide)).no "number" (by simp [fo]), by simp [exFs], ?_⟩)))))
  refine da_cons (de_excF (n := "number") (de_excK (C := ad 3) (f := "number") (OwnC.i (ho 3 (by decide)) (by simp)) (hr.mono (by decide)) pass0 rfl (m 3 (by decide)) (de_var (i := 0) rfl (Or.inl rfl) rfl ⟨d, rfl, ad 3, _, d, rfl, (ho 3 (by decide)).xf, (ho 3 (by decide)).no "number" (by simp [fo]), by simp [exFs], ?_⟩)))
  refine da_cons (de_excF (n := "number") (de_exc (C := ad 4) (fl := ["number"]) (OwnC.i (ho 4 (by decide)) (by simp)) (hr.mono (by decide)) pass0 rfl (m 4 (by decide)) (da_cons (de_var (i := 0) rfl (Or.inl rfl) rfl (da_nil ⟨[d], rfl, rfl, ad 4, _, d, rfl, (ho 4 (by decide)).xf, (ho 4 (by decide)).no "number" (by simp [fo]), by simp [exFs], ?_⟩)))))
  refine da_nil ⟨_, rfl, sl (Nat.le_of_ble_eq_true rfl), _, rfl, sl (Nat.le_of_ble_eq_true rfl), ?_⟩
  refine dss_cons (ds_set (i := 1) scOne.nd rfl (Or.inl rfl) (de_cat (de_var (i := 1) rfl (Or.inl rfl) rfl ⟨_, rfl, de_lst ?_⟩)))
  refine da_cons (de_excF (n := "number") (de_excK (C := ad 4) (f := "number") (OwnC.i (ho 4 (by decide)) (by simp)) (hr.mono (by decide)) pass0 rfl (m 4 (by decide)) (de_var (i := 0) rfl (Or.inl rfl) rfl ⟨d, rfl, ad 4, _, d, rfl, (ho 4 (by decide)).xf, (ho 4 (by decide)).no "number" (by simp [fo]), by simp [exFs], ?_⟩)))
  refine da_cons (de_excF (n := "number") (de_exc (C := ad 5) (fl := ["number"]) (OwnC.i (ho 5 (by decide)) (by simp)) (hr.mono (by decide)) pass0 rfl (m 5 (by decide)) (da_cons (de_var (i := 0) rfl (Or.inl rfl) rfl (da_nil ⟨[d], rfl, rfl, ad 5, _, d, rfl, (ho 5 (by decide)).xf, (ho 5 (by decide)).no "number" (by simp [fo]), by simp [exFs], ?_⟩)))))
  refine da_cons (de_excF (n := "number") (de_excK (C := ad 5) (f := "number") (OwnC.i (ho 5 (by decide)) (by simp)) (hr.mono (by decide)) pass0 rfl (m 5 (by decide)) (de_var (i := 0) rfl (Or.inl rfl) rfl ⟨d, rfl, ad 5, _, d, rfl, (ho 5 (by decide)).xf, (ho 5 (by decide)).no "number" (by simp [fo]), by simp [exFs], ?_⟩)))
  refine da_nil ⟨_, rfl, sl (Nat.le_of_ble_eq_true rfl), _, rfl, sl (Nat.le_of_ble_eq_true rfl), ?_⟩
  refine dss_cons (ds_set (i := 1) scOne.nd rfl (Or.inl rfl) (de_cat (de_var (i := 1) rfl (Or.inl rfl) rfl ⟨_, rfl, de_lst ?_⟩)))
  refine da_cons (de_excF (n := "word") (de_exc (C := ad 8) (fl := ["word"]) (OwnC.i (ho 8 (by decide)) (by simp)) (hr.mono (by decide)) pass0 rfl (m 8 (by decide)) (da_cons (de_var (i := 0) rfl (Or.inl rfl) rfl (da_nil ⟨[d], rfl, rfl, ad 8, _, d, rfl, (ho 8 (by decide)).xf, (ho 8 (by decide)).no "word" (by simp [fo]), by simp [exFs], ?_⟩)))))
  refine da_cons (de_excF (n := "word") (de_excK (C := ad 8) (f := "word") (OwnC.i (ho 8 (by decide)) (by simp)) (hr.mono (by decide)) pass0 rfl (m 8 (by decide)) (de_var (i := 0) rfl (Or.inl rfl) rfl ⟨d, rfl, ad 8, _, d, rfl, (ho 8 (by decide)).xf, (ho 8 (by decide)).no "word" (by simp [fo]), by simp [exFs], ?_⟩)))
  refine da_nil ⟨_, rfl, sl (Nat.le_of_ble_eq_true rfl), _, rfl, sl (Nat.le_of_ble_eq_true rfl), ?_⟩
  refine dss_cons (ds_set (i := 1) scOne.nd rfl (Or.inl rfl) (de_cat (de_var (i := 1) rfl (Or.inl rfl) rfl ⟨_, rfl, de_lst ?_⟩)))
  refine da_cons (de_excF (n := "saying") (de_exc (C := ad 10) (fl := ["saying"]) (OwnC.i (ho 10 (by decide)) (by simp)) (hr.mono (by decide)) pass0 rfl (m 10 (by decide)) (da_cons (de_var (i := 0) rfl (Or.inl rfl) rfl (da_nil ⟨[d], rfl, rfl, ad 10, _, d, rfl, (ho 10 (by decide)).xf, (ho 10 (by decide)).no "saying" (by simp [fo]), by simp [exFs], ?_⟩)))))
  refine da_cons (de_excF (n := "saying") (de_excK (C := ad 10) (f := "saying") (OwnC.i (ho 10 (by decide)) (by simp)) (hr.mono (by decide)) pass0 rfl (m 10 (by decide)) (de_var (i := 0) rfl (Or.inl rfl) rfl ⟨d, rfl, ad 10, _, d, rfl, (ho 10 (by decide)).xf, (ho 10 (by decide)).no "saying" (by simp [fo]), by simp [exFs], ?_⟩)))
  refine da_nil ⟨_, rfl, sl (Nat.le_of_ble_eq_true rfl), _, rfl, sl (Nat.le_of_ble_eq_true rfl), ?_⟩
  refine dss_cons (ds_set (i := 1) scOne.nd rfl (Or.inl rfl) (de_cat (de_var (i := 1) rfl (Or.inl rfl) rfl ⟨_, rfl, de_lst ?_⟩)))
  refine da_cons (de_excF (n := "at") (de_exc (C := ad 11) (fl := ["at"]) (OwnC.i (ho 11 (by decide)) (by simp)) (hr.mono (by decide)) pass0 rfl (m 11 (by decide)) (da_cons (de_var (i := 0) rfl (Or.inl rfl) rfl (da_nil ⟨[d], rfl, rfl, ad 11, _, d, rfl, (ho 11 (by decide)).xf, (ho 11 (by decide)).no "at" (by simp [fo]), by simp [exFs], ?_⟩)))))
  refine da_cons (de_excF (n := "at") (de_excK (C := ad 11) (f := "at") (OwnC.i (ho 11 (by decide)) (by simp)) (hr.mono (by decide)) pass0 rfl (m 11 (by decide)) (de_var (i := 0) rfl (Or.inl rfl) rfl ⟨d, rfl, ad 11, _, d, rfl, (ho 11 (by decide)).xf, (ho 11 (by decide)).no "at" (by simp [fo]), by simp [exFs], ?_⟩)))
  refine da_cons (de_excF (n := "at") (de_exc (C := ad 12) (fl := ["at"]) (OwnC.i (ho 12 (by decide)) (by simp)) (hr.mono (by decide)) pass0 rfl (m 12 (by decide)) (da_cons (de_var (i := 0) rfl (Or.inl rfl) rfl (da_nil ⟨[d], rfl, rfl, ad 12, _, d, rfl, (ho 12 (by decide)).xf, (ho 12 (by decide)).no "at" (by simp [fo]), by simp [exFs], ?_⟩)))))
  refine da_cons (de_excF (n := "at") (de_excK (C := ad 12) (f := "at") (OwnC.i (ho 12 (by decide)) (by simp)) (hr.mono (by decide)) pass0 rfl (m 12 (by decide)) (de_var (i := 0) rfl (Or.inl rfl) rfl ⟨d, rfl, ad 12, _, d, rfl, (ho 12 (by decide)).xf, (ho 12 (by decide)).no "at" (by simp [fo]), by simp [exFs], ?_⟩)))
  refine da_nil ⟨_, rfl, sl (Nat.le_of_ble_eq_true rfl), _, rfl, sl (Nat.le_of_ble_eq_true rfl), ?_⟩
  refine dss_cons (ds_set (i := 1) scOne.nd rfl (Or.inl rfl) (de_cat (de_var (i := 1) rfl (Or.inl rfl) rfl ⟨_, rfl, de_lst ?_⟩)))
  refine da_cons (de_excF (n := "name") (de_exc (C := ad 13) (fl := ["name"]) (OwnC.i (ho 13 (by decide)) (by simp)) (hr.mono (by decide)) pass0 rfl (m 13 (by decide)) (da_cons (de_var (i := 0) rfl (Or.inl rfl) rfl (da_nil ⟨[d], rfl, rfl, ad 13, _, d, rfl, (ho 13 (by decide)).xf, (ho 13 (by decide)).no "name" (by simp [fo]), by simp [exFs], ?_⟩)))))
  refine da_cons (de_excF (n := "name") (de_excK (C := ad 13) (f := "name") (OwnC.i (ho 13 (by decide)) (by simp)) (hr.mono (by decide)) pass0 rfl (m 13 (by decide)) (de_var (i := 0) rfl (Or.inl rfl) rfl ⟨d, rfl, ad 13, _, d, rfl, (ho 13 (by decide)).xf, (ho 13 (by decide)).no "name" (by simp [fo]), by simp [exFs], ?_⟩)))
  refine da_cons (de_excF (n := "name") (de_exc (C := ad 20) (fl := ["name"]) (OwnC.i (ho 20 (by decide)) (by simp)) (hr.mono (by decide)) pass0 rfl (m 20 (by decide)) (da_cons (de_var (i := 0) rfl (Or.inl rfl) rfl (da_nil ⟨[d], rfl, rfl, ad 20, _, d, rfl, (ho 20 (by decide)).xf, (ho 20 (by decide)).no "name" (by simp [fo]), by simp [exFs], ?_⟩)))))
  refine da_cons (de_excF (n := "name") (de_excK (C := ad 20) (f := "name") (OwnC.i (ho 20 (by decide)) (by simp)) (hr.mono (by decide)) pass0 rfl (m 20 (by decide)) (de_var (i := 0) rfl (Or.inl rfl) rfl ⟨d, rfl, ad 20, _, d, rfl, (ho 20 (by decide)).xf, (ho 20 (by decide)).no "name" (by simp [fo]), by simp [exFs], ?_⟩)))
  refine da_nil ⟨_, rfl, sl (Nat.le_of_ble_eq_true rfl), _, rfl, sl (Nat.le_of_ble_eq_true rfl), ?_⟩
  refine dss_cons (ds_set (i := 1) scOne.nd rfl (Or.inl rfl) (de_cat (de_var (i := 1) rfl (Or.inl rfl) rfl ⟨_, rfl, de_lst ?_⟩)))
  refine da_cons (de_excF (n := "number") (de_exc (C := ad 22) (fl := ["number"]) (OwnC.i (ho 22 (by decide)) (by simp)) (hr.mono (by decide)) pass0 rfl (m 22 (by decide)) (da_cons (de_var (i := 0) rfl (Or.inl rfl) rfl (da_nil ⟨[d], rfl, rfl, ad 22, _, d, rfl, (ho 22 (by decide)).xf, (ho 22 (by decide)).no "number" (by simp [fo]), by simp [exFs], ?_⟩)))))
  refine da_cons (de_excF (n := "number") (de_excK (C := ad 22) (f := "number") (OwnC.i (ho 22 (by decide)) (by simp)) (hr.mono (by decide)) pass0 rfl (m 22 (by decide)) (de_var (i := 0) rfl (Or.inl rfl) rfl ⟨d, rfl, ad 22, _, d, rfl, (ho 22 (by decide)).xf, (ho 22 (by decide)).no "number" (by simp [fo]), by simp [exFs], ?_⟩)))
  refine da_nil ⟨_, rfl, sl (Nat.le_of_ble_eq_true rfl), _, rfl, sl (Nat.le_of_ble_eq_true rfl), ?_⟩
  have hu : ∀ m, m ≤ 200 → (bx CX0 P w K mg base ["odd", "found"] "_law_one_field" sOne f cdv A outer s H E).nox.A.units + m < cLine := fun m h => by have := hr.un; omega
  have hu := hu 64 (by decide)
  refine dss_cons (ds_ret (de_eqS (de_reprD hg hu rfl hrep (de_var (i := 1) rfl (Or.inl rfl) rfl ⟨_, rfl, hd, _, rfl, ?_⟩))))
  refine de_reprD hg hu rfl hrep (de_rep (de_lst (da_cons (de_var (i := 0) rfl (Or.inl rfl) rfl (da_nil ⟨[d], rfl, sl (Nat.le_of_ble_eq_true rfl), [d], rfl, ?_⟩)))))
  refine de_int ⟨24, rfl, by decide, by decide, sl (Nat.le_of_ble_eq_true rfl), _, rfl, hd, _, rfl, ?_⟩
  have k' : Kp (.d (.bool (decide ((PyData.list (List.replicate 24 d)).shown = (PyData.list (List.replicate 24 d)).shown)))) := by rw [decide_eq_true rfl]; exact k
  exact k'
end
end R7
end

section
set_option linter.all false
set_option maxRecDepth 100000
set_option maxHeartbeats 2000000
namespace R7
open PySem L2 Z
def shortB (d : PyData) : Bool := d.canLay0 && (decide (d.depth ≤ 5) && (d.showable && (d.leavesShort 50 && decide (d.bulk ≤ 20))))
theorem shortB_ok {d : PyData} (h : shortB d = true) : d.canLay0 = true ∧ d.depth ≤ 5 ∧ d.showable = true ∧ d.leavesShort 50 = true ∧ d.bulk ≤ 20 := by
  unfold shortB at h
  simp only [Bool.and_eq_true, decide_eq_true_eq] at h
  exact ⟨h.1, h.2.1, h.2.2.1, h.2.2.2.1, h.2.2.2.2⟩
theorem good_of {d : PyData} (h1 : d.canLay0 = true) (h2 : d.depth ≤ 60) (h3 : d.showable = true) (h4 : d.leavesShort 50 = true) (h5 : d.bulk ≤ 1000) : Good d := ⟨h1, h2, h3, by
  have h := PyData.shown_le_bulk 50 (by decide) d h4
  rw [sizeLine_eq]
  have h6 : (50 + 2) * d.bulk ≤ 52 * 1000 := Nat.mul_le_mul (by omega) h5
  omega⟩
theorem depth_rep (d : PyData) : ∀ n, PyData.depthAll (List.replicate n d) ≤ d.depth
  | 0 => Nat.zero_le _
  | n + 1 => by
    have := depth_rep d n
    rw [List.replicate_succ]
    simp only [PyData.depthAll]
    omega
theorem bulk_rep (d : PyData) : ∀ n, PyData.bulkAll (List.replicate n d) = n * (d.bulk + 1)
  | 0 => by simp [PyData.bulkAll]
  | n + 1 => by
    have := bulk_rep d n
    rw [List.replicate_succ]
    simp only [PyData.bulkAll, this, Nat.succ_mul]
    omega
theorem lay_rep {d : PyData} (h : d.canLay0 = true) : ∀ n, PyData.canLayAll0 (List.replicate n d) = true
  | 0 => rfl
  | n + 1 => by
    rw [List.replicate_succ]
    simp only [PyData.canLayAll0, h, lay_rep h n, Bool.and_self]
theorem show_rep {d : PyData} (h : d.showable = true) : ∀ n, PyData.showableAll (List.replicate n d) = true
  | 0 => rfl
  | n + 1 => by
    rw [List.replicate_succ]
    simp only [PyData.showableAll, h, show_rep h n, Bool.and_self]
theorem leaf_rep {d : PyData} (h : d.leavesShort 50 = true) : ∀ n, PyData.leavesShortAll 50 (List.replicate n d) = true
  | 0 => rfl
  | n + 1 => by
    rw [List.replicate_succ]
    simp only [PyData.leavesShortAll, h, leaf_rep h n, Bool.and_self]
theorem good24 {d : PyData} (h : shortB d = true) : Good (.list (List.replicate 24 d)) := by
  obtain ⟨h1, h2, h3, h4, h5⟩ := shortB_ok h
  refine good_of (lay_rep h1 24) ?_ (show_rep h3 24) (leaf_rep h4 24) ?_
  · have := depth_rep d 24
    simp only [PyData.depth]
    omega
  · show PyData.bulkAll _ ≤ _
    rw [bulk_rep]
    omega
theorem good2 {d e : PyData} (h : shortB d = true) (k : shortB e = true) : Good (.tuple [d, e]) := by
  obtain ⟨h1, h2, h3, h4, h5⟩ := shortB_ok h
  obtain ⟨k1, k2, k3, k4, k5⟩ := shortB_ok k
  refine good_of ?_ ?_ ?_ ?_ ?_
  · simp [PyData.canLay0, PyData.canLayAll0, h1, k1]
  · simp [PyData.depth, PyData.depthAll]; omega
  · simp [PyData.showable, PyData.showableAll, h3, k3]
  · simp [PyData.leavesShort, PyData.leavesShortAll, h4, k4]
  · simp [PyData.bulk, PyData.bulkAll]; omega
def vals (r : Int) : List PyData := [.none, .int 0, .int (-5), .bool true, .str "text", .tuple [], .tuple [.int 1, .list [.int 2]], .list [.int 3, .tuple [.int 4]], .int (10 ^ 39), .int r]
theorem vals_short : ((List.range 100).all fun r => (vals (r : Nat)).all shortB) = true := by decide +kernel
theorem vals_ok {r : Int} (h0 : 0 ≤ r) (h1 : r < 100) {d : PyData} (hd : d ∈ vals r) : shortB d = true := by
  obtain ⟨n, rfl⟩ : ∃ n : Nat, r = n := ⟨r.toNat, by omega⟩
  have := List.all_eq_true.mp vals_short n (List.mem_range.mpr (by omega))
  exact List.all_eq_true.mp this d hd
/-- the fields of the law's errors -/
def fsOf : Nat → List (Str × PyData)
  | 1 => exFs ["place"] [.int 0] | 2 => exFs ["place"] [.int 0] | 3 => exFs ["number"] [.int 0] | 4 => exFs ["number"] [.int 0] | 5 => exFs ["number"] [.int 0] | 8 => exFs ["word"] [.str ""] | 10 => exFs ["saying"] [.str ""] | 11 => exFs ["at"] [.int 0] | 12 => exFs ["at"] [.int 0]
  | 13 => exFs ["name"] [.str "a"] | 19 => exFs ["number", "name"] [.int 1, .str "a"] | 20 => exFs ["name"] [.str "a"] | 22 => exFs ["number"] [.int 1] | _ => []
def madeL (ad : Nat → Addr) : List DV := (List.range 23).map fun i => .o (excK (ad i) (fsOf i))
theorem made_at {ad : Nat → Addr} {k : Nat} {r : DV} (h : (madeL ad)[k]? = some r) : k < 23 ∧ r = .o (excK (ad k) (fsOf k)) := by
  unfold madeL at h
  have hk : k < 23 := by
    have := (List.getElem?_eq_some_iff.mp h).1
    simpa using this
  rw [List.getElem?_map, List.getElem?_range hk] at h
  cases h
  exact ⟨hk, rfl⟩
def boolsD (k n : Nat) : List PyData := (List.range n).map fun i => .bool (decide (i = k))
theorem bools_shaped (k : Nat) : SeqAt.shaped (.list (boolsD k 23)) = true := by
  unfold SeqAt.shaped boolsD
  simp [PyData.canLay0, PyData.canLayAll0, PyData.depth, PyData.depthAll, List.range, List.range.loop]
theorem bools_eq (k : Nat) : PyData.eqv (.list (boolsD k 23)) (.list (boolsD k 23)) = true := SeqAt.eqv_refl _ (SeqAt.canLay_of_shaped (bools_shaped k))
end R7
end

section
set_option linter.all false
set_option maxRecDepth 100000
set_option maxHeartbeats 2000000
namespace R5
open PySem L2 Z
local macro_rules | `(tactic| walk_at "vis") => `(tactic| first | exact Or.inl rfl | exact Or.inr (Or.inl rfl) | exact Or.inr (Or.inr rfl))
local macro_rules | `(tactic| walk_at "side") => `(tactic| first | rfl | assumption | decide | omega)
local macro_rules | `(tactic| walk_at "v") => `(tactic| first
  | refine de_var (i := 0) rfl (by walk_at "vis") rfl ?_ | refine de_var (i := 1) rfl (by walk_at "vis") rfl ?_ | refine de_var (i := 2) rfl (by walk_at "vis") rfl ?_ | refine de_var (i := 3) rfl (by walk_at "vis") rfl ?_
  | refine de_var (i := 4) rfl (by walk_at "vis") rfl ?_ | refine de_var (i := 5) rfl (by walk_at "vis") rfl ?_ | refine de_var (i := 6) rfl (by walk_at "vis") rfl ?_ | refine de_var (i := 7) rfl (by walk_at "vis") rfl ?_)
local macro_rules | `(tactic| walk_at "c") => `(tactic| first
  | refine ⟨_, rfl, ?_⟩ | refine ⟨_, _, rfl, rfl, ?_⟩ | refine ⟨by walk_at "side", ?_⟩)
local macro_rules | `(tactic| walk_at "e") => `(tactic| first
  | refine de_int ?_ | refine de_str ?_ | refine de_bl ?_ | refine de_non ?_ | walk_at "v"
  | refine da_nil ?_ | refine da_cons ?_ rfl
  | refine de_mod ?_ | refine de_fdiv ?_ | refine de_mul ?_ | refine de_addD ?_ | refine de_sub ?_
  | refine de_gt ?_ | refine de_lt ?_ | refine de_le ?_ | refine de_ge ?_
  | refine dt_w (dw_and ?_) | refine dt_w (dw_or ?_) | refine dw_and ?_ | refine dw_or ?_ | refine dw_and1 ?_ | refine dw_or1 ?_ | refine dt_not ?_
  | refine dt_gt ?_ | refine dt_lt ?_ | refine dt_le ?_ | refine dt_ge ?_
  | refine dt_val ?_ (by intro _; rfl)
  | refine de_ix (fun _ _ => rfl) ?_
  | refine dss_cons ?_ | refine dss_nil ?_ | refine ds_ret ?_ | refine ds_if ?_)

def top (i : Nat) : Stmt := PySem.Challenge.pw_twolistings_k75_errors_and_fields.main.body.getD i (.Pass ⟨0, 0, 0, 0⟩)
abbrev sTake : Stmt := top 27
abbrev sFeed : Stmt := top 26
theorem scTake : FnScope ["feed", "many", "digit"] ["feed", "many"] (defScope sTake) := ⟨rfl, rfl, rfl, by decide +kernel, rfl, by decide +kernel, by decide +kernel⟩
theorem scFeed : FnScope ["script", "k", "cell", "digits", "state"] ["script", "k"] (defScope sFeed) := ⟨rfl, rfl, rfl, by decide +kernel, rfl, by decide +kernel, by decide +kernel⟩
structure Blt (mg : Str → Option Value) : Prop where
  len : mg "len" = none
  int : mg "int" = none
  max : mg "max" = none
  abs : mg "abs" = none
section
variable {P : Program} {w : World} {K : PySem.W.Frag} {mg : Str → Option Value} {base : Heap}
theorem okTake {f : Addr} {fd : FuncData} (F : Fun K "_law_take" "_law_take" sTake f fd) (B : Blt mg) : FnG P w K mg base CX0 1 f fd ["feed", "many"] (spD K fTakeD) := by
  refine fnD_of F scTake fTakeD (fun p ds Kp ⟨a, n, _, h, _⟩ => by rw [h]; rfl) fun cdv A outer s H E hg hr p ds Kp hf => ?_
  obtain ⟨a, n, rfl, rfl, h1, h2, k⟩ := hf
  walk_at "e"
  walk_at "e"
  walk_at "e"
  refine de_feed (i := 0) rfl (Or.inl rfl) rfl (.inl rfl) fun m => ?_
  walk_at "c"
  walk_at "e"
  walk_at "c"
  refine ⟨fun hm => ?_, fun hm => ?_⟩
  · walk_at "e"
    refine ds_set (i := 2) scTake.nd rfl (Or.inl rfl) ?_
    walk_at "e"
    refine de_intI rfl B.int ?_
    refine de_feed (i := 0) rfl (Or.inl rfl) rfl (.inl rfl) fun m2 => ?_
    walk_at "c"
    walk_at "c"
    walk_at "e"
    walk_at "c"
    walk_at "c"
    walk_at "e"
    refine ds_feed (i := 0) rfl (Or.inl rfl) rfl (.inl rfl) ?_
    walk_at "e"
    refine de_feed (i := 0) rfl (Or.inl rfl) rfl (.inl rfl) fun m2 => ?_
    walk_at "c"
    walk_at "e"
    walk_at "c"
    refine ⟨⟨by omega, by omega⟩, ?_⟩
    walk_at "c"
    walk_at "e"
    walk_at "e"
    walk_at "e"
    exact k _ (Int.emod_nonneg _ (by omega)) (Int.emod_lt_of_pos _ (by omega))
  · walk_at "e"
    walk_at "e"
    refine ds_feed (i := 0) rfl (Or.inl rfl) rfl (.inr rfl) ?_
    walk_at "e"
    refine de_intI rfl B.int ?_
    walk_at "e"
    walk_at "e"
    refine de_feed (i := 0) rfl (Or.inl rfl) rfl (.inr rfl) fun m2 => ?_
    walk_at "c"
    walk_at "e"
    walk_at "c"
    refine ⟨.inr ⟨by omega, by omega⟩, ?_⟩
    walk_at "c"
    walk_at "e"
    refine ⟨_, _, rfl, rfl, ?_⟩
    walk_at "c"
    walk_at "c"
    walk_at "e"
    walk_at "c"
    refine ⟨by omega, ?_⟩
    walk_at "c"
    walk_at "e"
    walk_at "e"
    walk_at "e"
    refine de_intI rfl B.int ?_
    walk_at "e"
    refine de_feed (i := 0) rfl (Or.inl rfl) rfl (.inr rfl) fun m3 => ?_
    walk_at "c"
    walk_at "e"
    walk_at "c"
    refine ⟨⟨by omega, by omega⟩, ?_⟩
    walk_at "c"
    walk_at "c"
    walk_at "e"
    walk_at "c"
    refine ⟨by omega, ?_⟩
    exact k _ (Int.emod_nonneg _ (by omega)) (Int.emod_lt_of_pos _ (by omega))
end
end R5
end

section
set_option linter.all false
set_option maxRecDepth 100000
set_option maxHeartbeats 2000000
namespace R6
open PySem L2 Z
local macro_rules | `(tactic| walk_at "vis") => `(tactic| first | exact Or.inl rfl | exact Or.inr (Or.inl rfl) | exact Or.inr (Or.inr rfl))
local macro_rules | `(tactic| walk_at "side") => `(tactic| first | rfl | assumption | decide | omega)
local macro_rules | `(tactic| walk_at "v") => `(tactic| first
  | refine de_var (i := 0) rfl (by walk_at "vis") rfl ?_ | refine de_var (i := 1) rfl (by walk_at "vis") rfl ?_ | refine de_var (i := 2) rfl (by walk_at "vis") rfl ?_ | refine de_var (i := 3) rfl (by walk_at "vis") rfl ?_
  | refine de_var (i := 4) rfl (by walk_at "vis") rfl ?_ | refine de_var (i := 5) rfl (by walk_at "vis") rfl ?_ | refine de_var (i := 6) rfl (by walk_at "vis") rfl ?_ | refine de_var (i := 7) rfl (by walk_at "vis") rfl ?_)
local macro_rules | `(tactic| walk_at "c") => `(tactic| first
  | refine ⟨_, rfl, ?_⟩ | refine ⟨_, _, rfl, rfl, ?_⟩ | refine ⟨by walk_at "side", ?_⟩)
local macro_rules | `(tactic| walk_at "e") => `(tactic| first
  | refine de_int ?_ | refine de_str ?_ | refine de_bl ?_ | refine de_non ?_ | walk_at "v"
  | refine da_nil ?_ | refine da_cons ?_ rfl
  | refine de_mod ?_ | refine de_fdiv ?_ | refine de_mul ?_ | refine de_addD ?_ | refine de_sub ?_
  | refine de_gt ?_ | refine de_lt ?_ | refine de_le ?_ | refine de_ge ?_
  | refine dt_w (dw_and ?_) | refine dt_w (dw_or ?_) | refine dw_and ?_ | refine dw_or ?_ | refine dw_and1 ?_ | refine dw_or1 ?_ | refine dt_not ?_
  | refine dt_gt ?_ | refine dt_lt ?_ | refine dt_le ?_ | refine dt_ge ?_
  | refine dt_val ?_ (by intro _; rfl)
  | refine de_ix (fun _ _ => rfl) ?_
  | refine dss_cons ?_ | refine dss_nil ?_ | refine ds_ret ?_ | refine ds_if ?_)

def top (i : Nat) : Stmt := PySem.Challenge.pw_twolistings_k75_errors_and_fields.main.body.getD i (.Pass ⟨0, 0, 0, 0⟩)
abbrev sTake : Stmt := top 27
abbrev sFeed : Stmt := top 26
theorem scTake : FnScope ["feed", "many", "digit"] ["feed", "many"] (defScope sTake) := ⟨rfl, rfl, rfl, by decide +kernel, rfl, by decide +kernel, by decide +kernel⟩
theorem scFeed : FnScope ["script", "k", "cell", "digits", "state"] ["script", "k"] (defScope sFeed) := ⟨rfl, rfl, rfl, by decide +kernel, rfl, by decide +kernel, by decide +kernel⟩
structure Blt (mg : Str → Option Value) : Prop where
  len : mg "len" = none
  int : mg "int" = none
  max : mg "max" = none
  abs : mg "abs" = none
section
variable {P : Program} {w : World} {K : PySem.W.Frag} {mg : Str → Option Value} {base : Heap}
theorem okFeed {f : Addr} {fd : FuncData} (F : Fun K "_law_feed" "_law_feed" sFeed f fd) (B : Blt mg) : FnG P w K mg base CX0 1 f fd ["script", "k"] (spD K fFeedD) := by
  refine fnD_of F scFeed fFeedD (fun p ds Kp ⟨_, a, ns, k, h, _⟩ => by rw [h]; rfl) fun cdv A outer s H E hg hr p ds Kp hf => ?_
  obtain ⟨rfl, a, ns, k, rfl, hl, k0, k1, kk⟩ := hf
  refine dss_cons ?_
  refine ds_set (i := 2) scFeed.nd rfl (Or.inl rfl) (DE.imp (Kp := fun r => ∃ m : Int, r = .d (.int m)) ?cell fun r ⟨m, hm⟩ => ?rest)
  case cell =>
    refine de_ifE ?_
    refine dt_lt ?_
    walk_at "v"
    refine ⟨_, rfl, ?_⟩
    refine de_lenS (i := 0) rfl (Or.inl rfl) rfl rfl B.len ?_
    refine ⟨_, rfl, ?_⟩
    refine ⟨fun hlt => ?_, fun hge => ?_⟩
    · refine de_ixS (i := 0) rfl (Or.inl rfl) rfl (fun _ _ => rfl) ?_
      walk_at "v"
      exact ⟨_, rfl, k0, by simpa using hlt, fun m => ⟨m, rfl⟩⟩
    · repeat (first | exact ⟨_, rfl⟩ | walk_at "e" | refine ⟨_, rfl, ?_⟩ | refine ⟨_, _, rfl, rfl, ?_⟩ | refine ⟨.inl ⟨by omega, by omega⟩, ?_⟩)
  case rest =>
    subst hm
    refine dss_cons ?_
    refine ds_set (i := 3) scFeed.nd rfl (Or.inl rfl) (DE.imp (Kp := fun r => ∃ m : Int, r = .d (.int m)) ?dig fun r ⟨m2, hm2⟩ => ?rest2)
    case dig =>
      refine de_max2 rfl rfl B.max ?_
      repeat (first | exact ⟨_, rfl⟩ | refine de_abs rfl B.abs ?_ | refine de_pow ?_ | walk_at "e" | refine ⟨_, rfl, ?_⟩ | refine ⟨_, _, rfl, rfl, ?_⟩ | refine ⟨⟨by decide, by decide, by decide⟩, ?_⟩)
    case rest2 =>
      subst hm2
      refine dss_cons ?_
      refine ds_set (i := 4) scFeed.nd rfl (Or.inl rfl) (DE.imp (Kp := fun r => ∃ m : Int, r = .d (.int m)) ?st fun r ⟨m3, hm3⟩ => ?rest3)
      case st =>
        repeat (first | exact ⟨_, rfl⟩ | refine de_intI rfl B.int ?_ | walk_at "e" | refine ⟨_, rfl, ?_⟩ | refine ⟨_, _, rfl, rfl, ?_⟩ | refine ⟨.inr ⟨by omega, by omega⟩, ?_⟩ | refine ⟨.inl ⟨by omega, by omega⟩, ?_⟩ | refine ⟨by omega, ?_⟩)
      case rest3 =>
        subst hm3
        refine dss_cons ?_
        refine ds_ret ?_
        refine de_lst ?_
        walk_at "e"
        walk_at "v"
        walk_at "e"
        walk_at "v"
        walk_at "e"
        exact ⟨_, rfl, by rw [sizeLine_eq]; simp, kk _ _⟩
end
end R6
end

section
set_option linter.all false
set_option maxRecDepth 100000
set_option maxHeartbeats 2000000
namespace R7
open PySem L2 Z
def clsB : Stmt → List Stmt
  | .ClassDef _ _ _ b _ _ _ _ _ _ _ => b
  | _ => []
def meth (c i : Nat) : Stmt := (clsB (top c)).getD i (.Pass ⟨0, 0, 0, 0⟩)
section
variable {P : Program} {w : World} {K : PySem.W.Frag} {mg : Str → Option Value} {base : Heap} {C fI : Addr} {qual f g : Str} {st : Stmt} {p1 p2 p3 p4 r1 r2 r3 r4 : Pos}
theorem fdOf {x : Str} (d : DefK K x qual st fI) : ∃ fd, Fun K x qual st fI fd := by
  obtain ⟨⟨oc, od, kV, doc, pm, an, cdv, ct, osl, lk, hcd⟩, kp⟩ := d
  exact ⟨_, ⟨⟨oc, od, kV, doc, pm, an, cdv, ct, osl, rfl, lk, hcd⟩, kp⟩⟩
theorem ownC1 (T : OexC K C) (no : PySem.W.findIn K (.ref C) f = some none) (xf : XfC K C) (iC : PySem.W.findIn K (.ref C) "__init__" = some (some (.ref fI))) (tI : PySem.W.typeIn K (.ref fI) = some (.type "function")) (d : DefK K "__init__" qual st fI)
    (S : FnScope ["self", f] ["self", f] (defScope st)) (hb : defBody st = [.Assign [.Attribute (.Name "self" p1) f p2] (.Name f p3) p4]) (hv : Vis (defScope st) "self") (hw : Vis (defScope st) f) (hd : (f == ("__debug__" : Str)) = false) (hcd : (f == ("__classdict__" : Str)) = false)
    (bp : ∀ (kV doc pm : Value) (an : Option Addr) (cdv ct : Value) (us : List Value), us.length = (["self", f] : List Str).length → bindArgs (PySem.W.fnOf "__init__" qual (defArgs st) (defBody st) (defScope st) .none kV doc pm an cdv ct) ⟨us, []⟩ = pure ((["self", f] : List Str).zip us))
    (bk : ∀ (kV doc pm : Value) (an : Option Addr) (cdv ct a u : Value), bindArgs (PySem.W.fnOf "__init__" qual (defArgs st) (defBody st) (defScope st) .none kV doc pm an cdv ct) ⟨[a], [(f, u)]⟩ = pure [(("self" : Str), a), (f, u)]) : OwnC P w K mg base C [f] := by
  obtain ⟨fd, F⟩ := fdOf d
  refine ⟨T, fun x hx => ?_, xf, fI, fd, iC, tI, ok_init1 F S hb hv hw hd hcd, F.binds bp, fun s a u x hx => ?_, fun s a u v x y hx => by cases hx⟩
  · rw [List.mem_singleton.mp hx]; exact no
  · cases hx
    obtain ⟨oc, od, kV, doc, pm, an, cdv, ct, osl, rfl, lk, hcd⟩ := F.ex
    exact .of_eq (bk kV doc pm an cdv ct a u)
theorem ownC2 (T : OexC K C) (no : PySem.W.findIn K (.ref C) f = some none) (no2 : PySem.W.findIn K (.ref C) g = some none) (xf : XfC K C) (iC : PySem.W.findIn K (.ref C) "__init__" = some (some (.ref fI))) (tI : PySem.W.typeIn K (.ref fI) = some (.type "function")) (d : DefK K "__init__" qual st fI)
    (S : FnScope ["self", f, g] ["self", f, g] (defScope st)) (hb : defBody st = [.Assign [.Attribute (.Name "self" p1) f p2] (.Name f p3) p4, .Assign [.Attribute (.Name "self" r1) g r2] (.Name g r3) r4]) (hv : Vis (defScope st) "self") (hw : Vis (defScope st) f) (hz : Vis (defScope st) g)
    (hd : (f == ("__debug__" : Str)) = false) (hcd : (f == ("__classdict__" : Str)) = false) (hd2 : (g == ("__debug__" : Str)) = false) (hcd2 : (g == ("__classdict__" : Str)) = false)
    (bp : ∀ (kV doc pm : Value) (an : Option Addr) (cdv ct : Value) (us : List Value), us.length = (["self", f, g] : List Str).length → bindArgs (PySem.W.fnOf "__init__" qual (defArgs st) (defBody st) (defScope st) .none kV doc pm an cdv ct) ⟨us, []⟩ = pure ((["self", f, g] : List Str).zip us))
    (bk : ∀ (kV doc pm : Value) (an : Option Addr) (cdv ct a u v : Value), bindArgs (PySem.W.fnOf "__init__" qual (defArgs st) (defBody st) (defScope st) .none kV doc pm an cdv ct) ⟨[a], [(g, u), (f, v)]⟩ = pure [(("self" : Str), a), (f, v), (g, u)]) : OwnC P w K mg base C [f, g] := by
  obtain ⟨fd, F⟩ := fdOf d
  refine ⟨T, fun x hx => ?_, xf, fI, fd, iC, tI, ok_init2 F S hb hv hw hz hd hcd hd2 hcd2, F.binds bp, (fun s a u x hx => by cases hx), fun s a u v x y hx => ?_⟩
  · rcases List.mem_cons.mp hx with e | e
    · rw [e]; exact no
    · rw [List.mem_singleton.mp e]; exact no2
  · cases hx
    obtain ⟨oc, od, kV, doc, pm, an, cdv, ct, osl, rfl, lk, hcd⟩ := F.ex
    exact .of_eq (bk kV doc pm an cdv ct a u v)
theorem callee {x : Str} {k : Nat} {D : DSp} {fa : Addr} {fd : FuncData} {ps : List Str} (m : mg x = some (.ref fa)) (kp : PySem.W.keepIn K (.ref fa) = true) (b : Binds K fd ps []) (F : FnG P w K mg base CX0 k fa fd ps (spD K D)) : Callee P w K mg base x k D := ⟨fa, fd, ps, m, kp, b, F⟩
end
def adL : List Nat := [37, 56, 75, 94, 113, 132, 144, 156, 175, 187, 206, 225, 244, 263, 275, 287, 299, 311, 323, 342, 361, 373, 392]
def ad (i : Nat) : Addr := adL.getD i 0
def tlE : List Value := [.ref 24, .type "ValueError", .type "Exception", .type "BaseException", .type "object"]
theorem ad_at {Q : Nat → Prop} (h : AL Q adL) : ∀ i, i < 23 → Q (ad i) := fun i hi => h.at_ hi
theorem mem_tbl : ∀ i, i < 23 → ∀ j, j < 23 → ((Value.ref (ad i) :: tlE).contains (.ref (ad j))) = decide (j = i) := by decide +kernel
theorem two_tbl : ∀ i, i < 23 → ((Value.ref (ad i) :: tlE).contains (.ref 24)) = true := by decide +kernel
theorem ve_tbl : ∀ i, i < 23 → ((Value.ref (ad i) :: tlE).contains (.type "ValueError")) = true := by decide +kernel
end R7
end

section
set_option linter.all false
set_option maxRecDepth 100000
set_option maxHeartbeats 2000000
namespace R7
open PySem L2 Z
abbrev sLaw : Stmt := top 31
def Nl : List Str := ["script", "made", "nth", "thing", "nr", "k", "feed", "some", "one", "other"]
theorem scLaw : FnScope Nl ["script"] (defScope sLaw) := ⟨rfl, rfl, rfl, by decide +kernel, rfl, by decide +kernel, by decide +kernel⟩
def bmVE : List Value := [.type "ValueError", .type "Exception", .type "BaseException", .type "object"]
def zs : List Nat := [0, 6, 7, 9, 14, 15, 16, 17, 18, 21]
structure LW (P : Program) (w : World) (K : PySem.W.Frag) (mg : Str → Option Value) (base : Heap) (ad : Nat → Addr) (tw : Addr) : Prop where
  m : ∀ i, i < 23 → mg (cn.getD i "") = some (.ref (ad i))
  two : mg "TwoError" = some (.ref tw)
  z : ∀ i, i ∈ zs → PySem.W.excIn K (ad i) bmVE "ValueError.__new__" = true ∧ PySem.W.keepIn K (.ref (ad i)) = true
  ho : ∀ i, i ∈ own → OwnC P w K mg base (ad i) (fo i)
  ec : ∀ i, i < 23 → ExcC K (ad i)
  kk : ∀ i j, i < 23 → j < 23 → PySem.W.kitOne K (.ref (ad i)) (.ref (ad j)) = some (decide (j = i))
  k2 : ∀ i, i < 23 → PySem.W.kitOne K (.ref (ad i)) (.ref tw) = some true
  kv : ∀ i, i < 23 → PySem.W.kitOne K (.ref (ad i)) (.type "ValueError") = some true
  kx : PySem.W.kitOne K (.type "ValueError") (.ref tw) = some false
  isi : mg "isinstance" = none
  rng : mg "range" = none
  enu : mg "enumerate" = none
  max : mg "max" = none
  min : mg "min" = none
  len : mg "len" = none
  rep : mg "repr" = none
  ve : mg "ValueError" = none
  cTake : Callee P w K mg base "_law_take" 1 fTakeD
  cPick : Callee P w K mg base "_law_pick" 2 fPickD
  cKinds : Callee P w K mg base "_law_kinds" 1 (fKindsD K ad)
  cOne : Callee P w K mg base "_law_one_field" 4 fOneD
  cFeed : ∃ f fd, mg "_law_feed" = some (.ref f) ∧ PySem.W.keepIn K (.ref f) = true ∧ Binds K fd ["script", "k"] [] ∧ FnG P w K mg base CX0 1 f fd ["script", "k"] (spD K fFeedD)
theorem vals_len (r : Int) : (vals r).length = 10 := rfl
theorem bools_next (n j : Nat) : boolsD n j ++ [.bool (decide ((j : Int) = (n : Int)))] = boolsD n (j + 1) := by
  unfold boolsD
  rw [List.range_succ, List.map_append]
  simp
  omega
def fLawD : DSp := fun p ds Kp => p = none ∧ ∃ a ns, ds = [.o (scrF a ns)] ∧ ns.length ≤ 63 ∧ Kp (.d (.bool true))
section
variable {P : Program} {w : World} {K : PySem.W.Frag} {mg : Str → Option Value} {base : Heap}
theorem okLaw {ad : Nat → Addr} {two : Addr} {f : Addr} {fd : FuncData} (F : Fun K "law" "law" sLaw f fd) (W : LW P w K mg base ad two) : FnG P w K mg base CX0 6 f fd ["script"] (spD K fLawD) := by
  refine fnD_of F scLaw fLawD (fun p ds Kp ⟨_, _, _, h, _⟩ => by rw [h]; rfl) fun cdv A outer s H E hg hr p ds Kp hf => ?_
  obtain ⟨rfl, a, ns, rfl, hl, k⟩ := hf
  have hu : ∀ m, m ≤ 200 → (bx CX0 P w K mg base Nl "law" sLaw f cdv A outer s H E).nox.A.units + m < cLine := fun m h => by have := hr.un; omega
  have hpass : PassesOwn (model P w) (bx CX0 P w K mg base Nl "law" sLaw f cdv A outer s H E).nox.A (bx CX0 P w K mg base Nl "law" sLaw f cdv A outer s H E).nox.env (bx CX0 P w K mg base Nl "law" sLaw f cdv A outer s H E).nox.xe := PassesOwn.never
  refine dss_cons (ds_set (i := 1) scLaw.nd rfl (Or.inl rfl) (de_lstO ?_))
  refine da_cons (de_exc0 (C := ad 0) PySem.F.excBase_ValueError (W.z 0 (by decide)).1 (W.m 0 (by decide)) (W.z 0 (by decide)).2 rfl ?_)
  refine da_cons (de_exc (C := ad 1) (fl := ["place"]) (OwnC.i (W.ho 1 (by decide)) (by simp)) (hr.mono (by decide)) pass0 rfl (W.m 1 (by decide)) (da_cons (de_int (da_nil ⟨[.int 0], rfl, rfl, ?_⟩))))
  refine da_cons (de_exc (C := ad 2) (fl := ["place"]) (OwnC.i (W.ho 2 (by decide)) (by simp)) (hr.mono (by decide)) pass0 rfl (W.m 2 (by decide)) (da_cons (de_int (da_nil ⟨[.int 0], rfl, rfl, ?_⟩))))
  refine da_cons (de_exc (C := ad 3) (fl := ["number"]) (OwnC.i (W.ho 3 (by decide)) (by simp)) (hr.mono (by decide)) pass0 rfl (W.m 3 (by decide)) (da_cons (de_int (da_nil ⟨[.int 0], rfl, rfl, ?_⟩))))
  refine da_cons (de_exc (C := ad 4) (fl := ["number"]) (OwnC.i (W.ho 4 (by decide)) (by simp)) (hr.mono (by decide)) pass0 rfl (W.m 4 (by decide)) (da_cons (de_int (da_nil ⟨[.int 0], rfl, rfl, ?_⟩))))
  refine da_cons (de_exc (C := ad 5) (fl := ["number"]) (OwnC.i (W.ho 5 (by decide)) (by simp)) (hr.mono (by decide)) pass0 rfl (W.m 5 (by decide)) (da_cons (de_int (da_nil ⟨[.int 0], rfl, rfl, ?_⟩))))
  refine da_cons (de_exc0 (C := ad 6) PySem.F.excBase_ValueError (W.z 6 (by decide)).1 (W.m 6 (by decide)) (W.z 6 (by decide)).2 rfl ?_)
  refine da_cons (de_exc0 (C := ad 7) PySem.F.excBase_ValueError (W.z 7 (by decide)).1 (W.m 7 (by decide)) (W.z 7 (by decide)).2 rfl ?_)
  refine da_nil ⟨sl (Nat.le_of_ble_eq_true rfl), ?_⟩
  refine dss_cons (ds_set (i := 1) scLaw.nd rfl (Or.inl rfl) (de_catO (de_var (i := 1) rfl (Or.inl rfl) rfl ⟨_, rfl, de_lstO ?_⟩)))
  refine da_cons (de_exc (C := ad 8) (fl := ["word"]) (OwnC.i (W.ho 8 (by decide)) (by simp)) (hr.mono (by decide)) pass0 rfl (W.m 8 (by decide)) (da_cons (de_str (da_nil ⟨[.str ""], rfl, rfl, ?_⟩))))
  refine da_cons (de_exc0 (C := ad 9) PySem.F.excBase_ValueError (W.z 9 (by decide)).1 (W.m 9 (by decide)) (W.z 9 (by decide)).2 rfl ?_)
  refine da_cons (de_exc (C := ad 10) (fl := ["saying"]) (OwnC.i (W.ho 10 (by decide)) (by simp)) (hr.mono (by decide)) pass0 rfl (W.m 10 (by decide)) (da_cons (de_str (da_nil ⟨[.str ""], rfl, rfl, ?_⟩))))
  refine da_cons (de_exc (C := ad 11) (fl := ["at"]) (OwnC.i (W.ho 11 (by decide)) (by simp)) (hr.mono (by decide)) pass0 rfl (W.m 11 (by decide)) (da_cons (de_int (da_nil ⟨[.int 0], rfl, rfl, ?_⟩))))
  refine da_nil ⟨sl (Nat.le_of_ble_eq_true rfl), _, rfl, sl (Nat.le_of_ble_eq_true rfl), ?_⟩
  refine dss_cons (ds_set (i := 1) scLaw.nd rfl (Or.inl rfl) (de_catO (de_var (i := 1) rfl (Or.inl rfl) rfl ⟨_, rfl, de_lstO ?_⟩)))
  refine da_cons (de_exc (C := ad 12) (fl := ["at"]) (OwnC.i (W.ho 12 (by decide)) (by simp)) (hr.mono (by decide)) pass0 rfl (W.m 12 (by decide)) (da_cons (de_int (da_nil ⟨[.int 0], rfl, rfl, ?_⟩))))
  refine da_cons (de_exc (C := ad 13) (fl := ["name"]) (OwnC.i (W.ho 13 (by decide)) (by simp)) (hr.mono (by decide)) pass0 rfl (W.m 13 (by decide)) (da_cons (de_str (da_nil ⟨[.str "a"], rfl, rfl, ?_⟩))))
  refine da_cons (de_exc0 (C := ad 14) PySem.F.excBase_ValueError (W.z 14 (by decide)).1 (W.m 14 (by decide)) (W.z 14 (by decide)).2 rfl ?_)
  refine da_nil ⟨sl (Nat.le_of_ble_eq_true rfl), _, rfl, sl (Nat.le_of_ble_eq_true rfl), ?_⟩
  refine dss_cons (ds_set (i := 1) scLaw.nd rfl (Or.inl rfl) (de_catO (de_var (i := 1) rfl (Or.inl rfl) rfl ⟨_, rfl, de_lstO ?_⟩)))
  refine da_cons (de_exc0 (C := ad 15) PySem.F.excBase_ValueError (W.z 15 (by decide)).1 (W.m 15 (by decide)) (W.z 15 (by decide)).2 rfl ?_)
  refine da_cons (de_exc0 (C := ad 16) PySem.F.excBase_ValueError (W.z 16 (by decide)).1 (W.m 16 (by decide)) (W.z 16 (by decide)).2 rfl ?_)
  refine da_cons (de_exc0 (C := ad 17) PySem.F.excBase_ValueError (W.z 17 (by decide)).1 (W.m 17 (by decide)) (W.z 17 (by decide)).2 rfl ?_)
  refine da_cons (de_exc0 (C := ad 18) PySem.F.excBase_ValueError (W.z 18 (by decide)).1 (W.m 18 (by decide)) (W.z 18 (by decide)).2 rfl ?_)
  refine da_nil ⟨sl (Nat.le_of_ble_eq_true rfl), _, rfl, sl (Nat.le_of_ble_eq_true rfl), ?_⟩
  refine dss_cons (ds_set (i := 1) scLaw.nd rfl (Or.inl rfl) (de_catO (de_var (i := 1) rfl (Or.inl rfl) rfl ⟨_, rfl, de_lstO ?_⟩)))
  refine da_cons (de_exc (C := ad 19) (fl := ["number", "name"]) (OwnC.i (W.ho 19 (by decide)) (by simp)) (hr.mono (by decide)) pass0 rfl (W.m 19 (by decide)) (da_cons (de_int (da_cons (de_str (da_nil ⟨[.int 1, .str "a"], rfl, rfl, ?_⟩))))))
  refine da_cons (de_exc (C := ad 20) (fl := ["name"]) (OwnC.i (W.ho 20 (by decide)) (by simp)) (hr.mono (by decide)) pass0 rfl (W.m 20 (by decide)) (da_cons (de_str (da_nil ⟨[.str "a"], rfl, rfl, ?_⟩))))
  refine da_cons (de_exc0 (C := ad 21) PySem.F.excBase_ValueError (W.z 21 (by decide)).1 (W.m 21 (by decide)) (W.z 21 (by decide)).2 rfl ?_)
  refine da_cons (de_exc (C := ad 22) (fl := ["number"]) (OwnC.i (W.ho 22 (by decide)) (by simp)) (hr.mono (by decide)) pass0 rfl (W.m 22 (by decide)) (da_cons (de_int (da_nil ⟨[.int 1], rfl, rfl, ?_⟩))))
  refine da_nil ⟨sl (Nat.le_of_ble_eq_true rfl), _, rfl, sl (Nat.le_of_ble_eq_true rfl), ?_⟩
  refine dss_cons (ds_enumO (i := 2) (j := 3) hpass rfl scLaw.nd rfl (Or.inr rfl) rfl (Or.inl rfl) rfl W.enu (de_var (i := 1) rfl (Or.inl rfl) rfl ⟨_, rfl, fun _ δ' => ∃ o1 o2 o3, δ' = [some (.o (scrF a ns)), o1, o2, o3, none, none, none, none, none, none], ⟨_, _, _, rfl⟩, ?turn, ?rest⟩))
  case turn =>
    rintro n δ' r hrn ⟨o1, o2, o3, rfl⟩
    have hrn' : (madeL ad)[n]? = some r := hrn
    obtain ⟨hn, rfl⟩ := made_at hrn'
    refine dss_cons (ds_if (dt_neD (hu 64 (by decide)) (de_call W.cKinds hg (hr.mono (by decide)) rfl (da_cons (de_var (i := 3) rfl (Or.inl rfl) rfl (da_nil ⟨ad n, fsOf n, fun i => decide (i = n), rfl, W.ec n hn, fun i hi => W.kk n i hn hi, .list (boolsD n 23), rfl, bools_shaped n, ?_⟩))))))
    refine de_of (pe_lc (own := [("nr", 4)]) rfl scLaw.nd (pi_range1 rfl W.rng (paW [_]) rfl) (@blkOk ⟨K, a, ns⟩ _ _ _ _ (by show blkB Nl (defScope sLaw) _ _ = true; decide +kernel)) (fun s H C cl fp => pg_name (i := 4) scLaw.nd rfl (Or.inl rfl) (.inr rfl)) (fun s H C cl fp => ⟨fun pins s' σ H' Q I h => h s H C cl fp pins s' I⟩) (fun s H C cl fp => ⟨fun pins s' σ H' Q I h => h s H C cl fp pins s' I⟩)) (lc_R1 (ta := tNil) (by intro σ x; simp [wipe]) (da_cons (de_int (da_nil ⟨23, rfl, by decide, by decide, fun j acc => acc = boolsD n j, rfl, fun j hj s H0 C cl fp acc hacc => dts_nil ?_, fun acc hacc => ?_⟩))))
    · rw [if_pos rfl]
      intro s H0 C cl fp
      refine de_eqI (de_var (i := 4) rfl (Or.inl rfl) rfl ⟨_, rfl, de_var (i := 2) rfl (by first | exact Or.inl rfl | exact Or.inr (Or.inl rfl) | exact Or.inr (Or.inr rfl)) rfl ⟨_, rfl, _, rfl, ?_⟩⟩)
      rw [hacc]
      exact bools_next n j
    · rw [hacc]
      refine ⟨_, rfl, bools_shaped n, ?_⟩
      have e : PyData.eqv (.list (boolsD n 23)) (.list (boolsD n (23 : Int).toNat)) = true := bools_eq n
      rw [e]
      refine ⟨(fun z => nomatch z), fun _ => dss_nil ?_⟩
      refine dss_cons (ds_if (dt_w (dw_or (dt_not (dt_val (de_isX (cv := .ref two) (u := .ref two) (.own _) rfl W.isi (fun Kq k => de_glob (v := .ref two) (r := .v (.ref two)) rfl W.two rfl (fun _ => rfl) k) (de_var (i := 3) rfl (Or.inl rfl) rfl ⟨ad n, fsOf n, true, rfl, W.ec n hn, W.k2 n hn, true, rfl, ?_⟩)))))))
      refine ⟨fun _ => ?_, (fun z => nomatch z)⟩
      refine dw_or1 (dt_not (dt_val (de_isX (cv := .ty "ValueError") (u := .type "ValueError") (.ty _) rfl W.isi (fun Kq k => de_ty rfl W.ve boot_ValueError k) (de_var (i := 3) rfl (Or.inl rfl) rfl ⟨ad n, fsOf n, true, rfl, W.ec n hn, W.kv n hn, true, rfl, ?_⟩))))
      refine ⟨(fun z => nomatch z), fun _ => dss_nil (dss_nil ?_)⟩
      exact ⟨_, _, _, rfl⟩
  case rest =>
    rintro δ' ⟨o1, o2, o3, rfl⟩
    refine dss_cons (ds_forR1 (i := 5) hpass rfl scLaw.nd rfl (Or.inl rfl) rfl W.rng (da_cons (de_max2 rfl rfl W.max (de_int ⟨1, rfl, de_min2 rfl rfl W.min (de_int ⟨2, rfl, de_lenF (i := 0) rfl (Or.inl rfl) rfl rfl W.len ⟨_, rfl, _, rfl, da_nil ⟨_, rfl, ?b1, ?b2, fun _ δ' => ∃ o1 o2 o3 o5 o6 o7 o8 o9, δ' = [some (.o (scrF a ns)), o1, o2, o3, none, o5, o6, o7, o8, o9], ⟨_, _, _, _, _, _, _, _, rfl⟩, ?turn2, ?rest2⟩⟩⟩)⟩))))
    case b1 => split <;> (try split) <;> omega
    case b2 => split <;> (try split) <;> omega
    case rest2 =>
      rintro δ' ⟨o1, o2, o3, o5, o6, o7, o8, o9, rfl⟩
      refine dss_cons (ds_ret (de_not (de_isV (b := false) (cv := .ref two) (u := .ref two) (.own _) rfl W.isi (fun Kq k => de_glob (v := .ref two) (r := .v (.ref two)) rfl W.two rfl (fun _ => rfl) k) (de_VE exb_ValueError rfl W.ve boot_ValueError ⟨rfl, W.kx, false, rfl, k⟩))))
    case turn2 =>
      rintro n δ' hn ⟨o1, o2, o3, o5, o6, o7, o8, o9, rfl⟩
      have hn2 : (n : Int) < 1000000 := by
        refine Int.lt_of_lt_of_le hn ?_
        split <;> (try split) <;> omega
      obtain ⟨ff, fdf, q1, q2, q3, q4⟩ := W.cFeed
      refine ds_feedNew (i := 6) (q4.imp feed_Fd) hg (hr.mono (by decide)) rfl q1 q2 q3 scLaw.nd rfl (Or.inl rfl) (da_cons (de_var (i := 0) rfl (Or.inl rfl) rfl (da_cons (de_var (i := 5) rfl (Or.inl rfl) rfl (da_nil ⟨a, ns, _, rfl, hl, Int.natCast_nonneg n, hn2, fun b => ?_⟩)))))
      refine dss_cons (ds_set (i := 7) scLaw.nd rfl (Or.inl rfl) (de_lst ?_))
      refine da_cons (de_non ?_)
      refine da_cons (de_int ?_)
      refine da_cons (de_negI (de_int ⟨5, rfl, ?_⟩))
      refine da_cons (de_bl ?_)
      refine da_cons (de_str ?_)
      refine da_cons (de_tup (da_nil ⟨[], rfl, Nat.zero_le _, ?_⟩))
      refine da_cons (de_tup (da_cons (de_int (da_cons (de_lst (da_cons (de_int (da_nil ⟨[.int 2], rfl, sl (by decide), da_nil ⟨[.int 1, .list [.int 2]], rfl, sl (by decide), ?_⟩⟩))))))))
      refine da_cons (de_lst (da_cons (de_int (da_cons (de_tup (da_cons (de_int (da_nil ⟨[.int 4], rfl, sl (by decide), da_nil ⟨[.int 3, .tuple [.int 4]], rfl, sl (by decide), ?_⟩⟩))))))))
      refine da_cons (de_pow (de_int ⟨10, rfl, de_int ⟨39, rfl, ?pow, ?_⟩⟩))
      case pow => exact ⟨by decide, by decide, by decide⟩
      refine da_cons (de_call W.cTake hg (hr.mono (by decide)) rfl (da_cons (de_var (i := 6) rfl (Or.inl rfl) rfl (da_cons (de_int (da_nil ⟨b, 100, rfl, rfl, by decide, by decide, fun r r0 r1 => ?_⟩))))))
      refine da_nil ⟨vals r, rfl, sl (by rw [vals_len]; decide), ?_⟩
      refine dss_cons (ds_par2 (i := 8) (j := 9) rfl scLaw.nd rfl rfl (by decide) rfl rfl (da_cons (de_call W.cPick hg (hr.mono (by decide)) rfl (da_cons (de_var (i := 6) rfl (Or.inl rfl) rfl (da_cons (de_var (i := 7) rfl (Or.inl rfl) rfl (da_nil ⟨b, vals r, rfl, rfl, by rw [vals_len]; decide, by rw [vals_len]; decide, fun d hd => ?_⟩))))))) ?sw)
      case sw => rfl
      refine da_cons (de_call W.cPick hg (hr.mono (by decide)) rfl (da_cons (de_var (i := 6) rfl (Or.inl rfl) rfl (da_cons (de_var (i := 7) rfl (Or.inl rfl) rfl (da_nil ⟨b, vals r, rfl, rfl, by rw [vals_len]; decide, by rw [vals_len]; decide, fun d' hd' => ?_⟩))))))
      refine da_nil ⟨_, _, rfl, ?_⟩
      have sd := vals_ok r0 r1 hd
      have sd' := vals_ok r0 r1 hd'
      refine dss_cons (ds_if (dt_not (dt_val (de_call W.cOne hg (hr.mono (by decide)) rfl (da_cons (de_var (i := 8) rfl (Or.inl rfl) rfl (da_nil ⟨d, rfl, good24 sd, true, rfl, (fun z => nomatch z), fun _ => dss_nil ?_⟩)))))))
      refine dss_cons (ds_forO (i := 3) hpass rfl scLaw.nd rfl (Or.inl rfl) (de_lstO ?_))
      refine da_cons (de_exc (C := ad 19) (fl := ["number", "name"]) (OwnC.i (W.ho 19 (by decide)) (by simp)) (hr.mono (by decide)) pass0 rfl (W.m 19 (by decide)) (da_cons (de_var (i := 8) rfl (Or.inl rfl) rfl (da_cons (de_var (i := 9) rfl (Or.inl rfl) rfl (da_nil ⟨[d, d'], rfl, rfl, ?_⟩))))))
      refine da_cons (de_excK2 (C := ad 19) (f := "number") (g := "name") (OwnC.i (W.ho 19 (by decide)) (by simp)) (hr.mono (by decide)) pass0 rfl (W.m 19 (by decide)) (de_var (i := 9) rfl (Or.inl rfl) rfl ⟨d', rfl, de_var (i := 8) rfl (Or.inl rfl) rfl ⟨d, rfl, ?_⟩⟩))
      refine da_nil ⟨sl (Nat.le_of_ble_eq_true rfl), _, rfl, fun _ δ' => ∃ o3, δ' = [some (.o (scrF a ns)), o1, o2, o3, none, some (.d (.int (n : Int))), some (.v (.ref b)), some (.d (.list (vals r))), some (.d d), some (.d d')], ⟨_, rfl⟩, ?turn3, ?rest3⟩
      case rest3 =>
        rintro δ' ⟨o3, rfl⟩
        exact dss_nil ⟨_, _, _, _, _, _, _, _, rfl⟩
      case turn3 =>
        rintro j δ' q hq ⟨o3, rfl⟩
        have hq' : q = .o (excK (ad 19) (exFs ["number", "name"] [d, d'])) := by
          match j, hq with
          | 0, hq => cases hq; rfl
          | 1, hq => cases hq; rfl
          | j + 2, hq => cases hq
        subst hq'
        refine dss_cons (ds_if (dt_neS (de_reprD hg (hu 64 (by decide)) rfl W.rep (de_tup (da_cons (de_excF (n := "number") (de_var (i := 3) rfl (Or.inl rfl) rfl ⟨ad 19, _, d, rfl, (W.ho 19 (by decide)).xf, (W.ho 19 (by decide)).no "number" (by simp [fo]), by rfl, ?_⟩)))))))
        refine da_cons (de_excF (n := "name") (de_var (i := 3) rfl (Or.inl rfl) rfl ⟨ad 19, _, d', rfl, (W.ho 19 (by decide)).xf, (W.ho 19 (by decide)).no "name" (by simp [fo]), by rfl, ?_⟩))
        refine da_nil ⟨[d, d'], rfl, sl (Nat.le_of_ble_eq_true rfl), _, rfl, good2 sd sd', _, rfl, ?_⟩
        refine de_reprD hg (hu 64 (by decide)) rfl W.rep (de_tup (da_cons (de_var (i := 8) rfl (Or.inl rfl) rfl (da_cons (de_var (i := 9) rfl (Or.inl rfl) rfl (da_nil ⟨[d, d'], rfl, sl (Nat.le_of_ble_eq_true rfl), _, rfl, good2 sd sd', _, rfl, ?_⟩))))))
        rw [decide_eq_true rfl]
        exact ⟨(fun z => nomatch z), fun _ => dss_nil (dss_nil ⟨_, rfl⟩)⟩
end
end R7
end

section
set_option maxRecDepth 100000
set_option maxHeartbeats 0
open PySem PySem.W PyProof.Rows
open_top hd75 for PySem.Challenge.rw_twolistings_k75_errors_and_fields
end

section
set_option linter.all false
set_option maxRecDepth 100000
set_option maxHeartbeats 0
namespace R7
open PySem L2 Z
theorem b__law_feed : ∀ (kV doc pm : Value) (an : Option Addr) (cdv ct : Value) (us : List Value), us.length = (["script", "k"] : List Str).length → bindArgs (PySem.W.fnOf "_law_feed" "_law_feed" (defArgs (top 26)) (defBody (top 26)) (defScope (top 26)) .none kV doc pm an cdv ct) ⟨us, []⟩ = pure ((["script", "k"] : List Str).zip us) := fun _ _ _ _ _ _ us hl => match us, hl with | [_, _], _ => rfl
theorem b__law_take : ∀ (kV doc pm : Value) (an : Option Addr) (cdv ct : Value) (us : List Value), us.length = (["feed", "many"] : List Str).length → bindArgs (PySem.W.fnOf "_law_take" "_law_take" (defArgs (top 27)) (defBody (top 27)) (defScope (top 27)) .none kV doc pm an cdv ct) ⟨us, []⟩ = pure ((["feed", "many"] : List Str).zip us) := fun _ _ _ _ _ _ us hl => match us, hl with | [_, _], _ => rfl
theorem b__law_pick : ∀ (kV doc pm : Value) (an : Option Addr) (cdv ct : Value) (us : List Value), us.length = (["feed", "some"] : List Str).length → bindArgs (PySem.W.fnOf "_law_pick" "_law_pick" (defArgs (top 28)) (defBody (top 28)) (defScope (top 28)) .none kV doc pm an cdv ct) ⟨us, []⟩ = pure ((["feed", "some"] : List Str).zip us) := fun _ _ _ _ _ _ us hl => match us, hl with | [_, _], _ => rfl
theorem b__law_kinds : ∀ (kV doc pm : Value) (an : Option Addr) (cdv ct : Value) (us : List Value), us.length = (["thing"] : List Str).length → bindArgs (PySem.W.fnOf "_law_kinds" "_law_kinds" (defArgs (top 29)) (defBody (top 29)) (defScope (top 29)) .none kV doc pm an cdv ct) ⟨us, []⟩ = pure ((["thing"] : List Str).zip us) := fun _ _ _ _ _ _ us hl => match us, hl with | [_], _ => rfl
theorem b__law_one_field : ∀ (kV doc pm : Value) (an : Option Addr) (cdv ct : Value) (us : List Value), us.length = (["odd"] : List Str).length → bindArgs (PySem.W.fnOf "_law_one_field" "_law_one_field" (defArgs (top 30)) (defBody (top 30)) (defScope (top 30)) .none kV doc pm an cdv ct) ⟨us, []⟩ = pure ((["odd"] : List Str).zip us) := fun _ _ _ _ _ _ us hl => match us, hl with | [_], _ => rfl
theorem b_law : ∀ (kV doc pm : Value) (an : Option Addr) (cdv ct : Value) (us : List Value), us.length = (["script"] : List Str).length → bindArgs (PySem.W.fnOf "law" "law" (defArgs (top 31)) (defBody (top 31)) (defScope (top 31)) .none kV doc pm an cdv ct) ⟨us, []⟩ = pure ((["script"] : List Str).zip us) := fun _ _ _ _ _ _ us hl => match us, hl with | [_], _ => rfl
theorem sc_1 : FnScope ["self", "place"] ["self", "place"] (defScope (meth 3 0)) := ⟨rfl, rfl, rfl, by decide +kernel, rfl, by decide +kernel, by decide +kernel⟩
theorem bp_1 : ∀ (kV doc pm : Value) (an : Option Addr) (cdv ct : Value) (us : List Value), us.length = (["self", "place"] : List Str).length → bindArgs (PySem.W.fnOf "__init__" "BadRow.__init__" (defArgs (meth 3 0)) (defBody (meth 3 0)) (defScope (meth 3 0)) .none kV doc pm an cdv ct) ⟨us, []⟩ = pure ((["self", "place"] : List Str).zip us) := fun _ _ _ _ _ _ us hl => match us, hl with | [_, _], _ => rfl
theorem bk_1 : ∀ (kV doc pm : Value) (an : Option Addr) (cdv ct a u : Value), bindArgs (PySem.W.fnOf "__init__" "BadRow.__init__" (defArgs (meth 3 0)) (defBody (meth 3 0)) (defScope (meth 3 0)) .none kV doc pm an cdv ct) ⟨[a], [("place", u)]⟩ = pure [(("self" : Str), a), ("place", u)] := fun _ _ _ _ _ _ a u => rfl
theorem sc_2 : FnScope ["self", "place"] ["self", "place"] (defScope (meth 4 0)) := ⟨rfl, rfl, rfl, by decide +kernel, rfl, by decide +kernel, by decide +kernel⟩
theorem bp_2 : ∀ (kV doc pm : Value) (an : Option Addr) (cdv ct : Value) (us : List Value), us.length = (["self", "place"] : List Str).length → bindArgs (PySem.W.fnOf "__init__" "NoPlace.__init__" (defArgs (meth 4 0)) (defBody (meth 4 0)) (defScope (meth 4 0)) .none kV doc pm an cdv ct) ⟨us, []⟩ = pure ((["self", "place"] : List Str).zip us) := fun _ _ _ _ _ _ us hl => match us, hl with | [_, _], _ => rfl
theorem bk_2 : ∀ (kV doc pm : Value) (an : Option Addr) (cdv ct a u : Value), bindArgs (PySem.W.fnOf "__init__" "NoPlace.__init__" (defArgs (meth 4 0)) (defBody (meth 4 0)) (defScope (meth 4 0)) .none kV doc pm an cdv ct) ⟨[a], [("place", u)]⟩ = pure [(("self" : Str), a), ("place", u)] := fun _ _ _ _ _ _ a u => rfl
theorem sc_3 : FnScope ["self", "number"] ["self", "number"] (defScope (meth 5 0)) := ⟨rfl, rfl, rfl, by decide +kernel, rfl, by decide +kernel, by decide +kernel⟩
theorem bp_3 : ∀ (kV doc pm : Value) (an : Option Addr) (cdv ct : Value) (us : List Value), us.length = (["self", "number"] : List Str).length → bindArgs (PySem.W.fnOf "__init__" "BadRecord.__init__" (defArgs (meth 5 0)) (defBody (meth 5 0)) (defScope (meth 5 0)) .none kV doc pm an cdv ct) ⟨us, []⟩ = pure ((["self", "number"] : List Str).zip us) := fun _ _ _ _ _ _ us hl => match us, hl with | [_, _], _ => rfl
theorem bk_3 : ∀ (kV doc pm : Value) (an : Option Addr) (cdv ct a u : Value), bindArgs (PySem.W.fnOf "__init__" "BadRecord.__init__" (defArgs (meth 5 0)) (defBody (meth 5 0)) (defScope (meth 5 0)) .none kV doc pm an cdv ct) ⟨[a], [("number", u)]⟩ = pure [(("self" : Str), a), ("number", u)] := fun _ _ _ _ _ _ a u => rfl
theorem sc_4 : FnScope ["self", "number"] ["self", "number"] (defScope (meth 6 0)) := ⟨rfl, rfl, rfl, by decide +kernel, rfl, by decide +kernel, by decide +kernel⟩
theorem bp_4 : ∀ (kV doc pm : Value) (an : Option Addr) (cdv ct : Value) (us : List Value), us.length = (["self", "number"] : List Str).length → bindArgs (PySem.W.fnOf "__init__" "NoRecord.__init__" (defArgs (meth 6 0)) (defBody (meth 6 0)) (defScope (meth 6 0)) .none kV doc pm an cdv ct) ⟨us, []⟩ = pure ((["self", "number"] : List Str).zip us) := fun _ _ _ _ _ _ us hl => match us, hl with | [_, _], _ => rfl
theorem bk_4 : ∀ (kV doc pm : Value) (an : Option Addr) (cdv ct a u : Value), bindArgs (PySem.W.fnOf "__init__" "NoRecord.__init__" (defArgs (meth 6 0)) (defBody (meth 6 0)) (defScope (meth 6 0)) .none kV doc pm an cdv ct) ⟨[a], [("number", u)]⟩ = pure [(("self" : Str), a), ("number", u)] := fun _ _ _ _ _ _ a u => rfl
theorem sc_5 : FnScope ["self", "number"] ["self", "number"] (defScope (meth 7 0)) := ⟨rfl, rfl, rfl, by decide +kernel, rfl, by decide +kernel, by decide +kernel⟩
theorem bp_5 : ∀ (kV doc pm : Value) (an : Option Addr) (cdv ct : Value) (us : List Value), us.length = (["self", "number"] : List Str).length → bindArgs (PySem.W.fnOf "__init__" "BadEvent.__init__" (defArgs (meth 7 0)) (defBody (meth 7 0)) (defScope (meth 7 0)) .none kV doc pm an cdv ct) ⟨us, []⟩ = pure ((["self", "number"] : List Str).zip us) := fun _ _ _ _ _ _ us hl => match us, hl with | [_, _], _ => rfl
theorem bk_5 : ∀ (kV doc pm : Value) (an : Option Addr) (cdv ct a u : Value), bindArgs (PySem.W.fnOf "__init__" "BadEvent.__init__" (defArgs (meth 7 0)) (defBody (meth 7 0)) (defScope (meth 7 0)) .none kV doc pm an cdv ct) ⟨[a], [("number", u)]⟩ = pure [(("self" : Str), a), ("number", u)] := fun _ _ _ _ _ _ a u => rfl
theorem sc_8 : FnScope ["self", "word"] ["self", "word"] (defScope (meth 10 0)) := ⟨rfl, rfl, rfl, by decide +kernel, rfl, by decide +kernel, by decide +kernel⟩
theorem bp_8 : ∀ (kV doc pm : Value) (an : Option Addr) (cdv ct : Value) (us : List Value), us.length = (["self", "word"] : List Str).length → bindArgs (PySem.W.fnOf "__init__" "NoQuestion.__init__" (defArgs (meth 10 0)) (defBody (meth 10 0)) (defScope (meth 10 0)) .none kV doc pm an cdv ct) ⟨us, []⟩ = pure ((["self", "word"] : List Str).zip us) := fun _ _ _ _ _ _ us hl => match us, hl with | [_, _], _ => rfl
theorem bk_8 : ∀ (kV doc pm : Value) (an : Option Addr) (cdv ct a u : Value), bindArgs (PySem.W.fnOf "__init__" "NoQuestion.__init__" (defArgs (meth 10 0)) (defBody (meth 10 0)) (defScope (meth 10 0)) .none kV doc pm an cdv ct) ⟨[a], [("word", u)]⟩ = pure [(("self" : Str), a), ("word", u)] := fun _ _ _ _ _ _ a u => rfl
theorem sc_10 : FnScope ["self", "saying"] ["self", "saying"] (defScope (meth 12 0)) := ⟨rfl, rfl, rfl, by decide +kernel, rfl, by decide +kernel, by decide +kernel⟩
theorem bp_10 : ∀ (kV doc pm : Value) (an : Option Addr) (cdv ct : Value) (us : List Value), us.length = (["self", "saying"] : List Str).length → bindArgs (PySem.W.fnOf "__init__" "BadSaying.__init__" (defArgs (meth 12 0)) (defBody (meth 12 0)) (defScope (meth 12 0)) .none kV doc pm an cdv ct) ⟨us, []⟩ = pure ((["self", "saying"] : List Str).zip us) := fun _ _ _ _ _ _ us hl => match us, hl with | [_, _], _ => rfl
theorem bk_10 : ∀ (kV doc pm : Value) (an : Option Addr) (cdv ct a u : Value), bindArgs (PySem.W.fnOf "__init__" "BadSaying.__init__" (defArgs (meth 12 0)) (defBody (meth 12 0)) (defScope (meth 12 0)) .none kV doc pm an cdv ct) ⟨[a], [("saying", u)]⟩ = pure [(("self" : Str), a), ("saying", u)] := fun _ _ _ _ _ _ a u => rfl
theorem sc_11 : FnScope ["self", "at"] ["self", "at"] (defScope (meth 13 0)) := ⟨rfl, rfl, rfl, by decide +kernel, rfl, by decide +kernel, by decide +kernel⟩
theorem bp_11 : ∀ (kV doc pm : Value) (an : Option Addr) (cdv ct : Value) (us : List Value), us.length = (["self", "at"] : List Str).length → bindArgs (PySem.W.fnOf "__init__" "BadWriter.__init__" (defArgs (meth 13 0)) (defBody (meth 13 0)) (defScope (meth 13 0)) .none kV doc pm an cdv ct) ⟨us, []⟩ = pure ((["self", "at"] : List Str).zip us) := fun _ _ _ _ _ _ us hl => match us, hl with | [_, _], _ => rfl
theorem bk_11 : ∀ (kV doc pm : Value) (an : Option Addr) (cdv ct a u : Value), bindArgs (PySem.W.fnOf "__init__" "BadWriter.__init__" (defArgs (meth 13 0)) (defBody (meth 13 0)) (defScope (meth 13 0)) .none kV doc pm an cdv ct) ⟨[a], [("at", u)]⟩ = pure [(("self" : Str), a), ("at", u)] := fun _ _ _ _ _ _ a u => rfl
theorem sc_12 : FnScope ["self", "at"] ["self", "at"] (defScope (meth 14 0)) := ⟨rfl, rfl, rfl, by decide +kernel, rfl, by decide +kernel, by decide +kernel⟩
theorem bp_12 : ∀ (kV doc pm : Value) (an : Option Addr) (cdv ct : Value) (us : List Value), us.length = (["self", "at"] : List Str).length → bindArgs (PySem.W.fnOf "__init__" "BadDeed.__init__" (defArgs (meth 14 0)) (defBody (meth 14 0)) (defScope (meth 14 0)) .none kV doc pm an cdv ct) ⟨us, []⟩ = pure ((["self", "at"] : List Str).zip us) := fun _ _ _ _ _ _ us hl => match us, hl with | [_, _], _ => rfl
theorem bk_12 : ∀ (kV doc pm : Value) (an : Option Addr) (cdv ct a u : Value), bindArgs (PySem.W.fnOf "__init__" "BadDeed.__init__" (defArgs (meth 14 0)) (defBody (meth 14 0)) (defScope (meth 14 0)) .none kV doc pm an cdv ct) ⟨[a], [("at", u)]⟩ = pure [(("self" : Str), a), ("at", u)] := fun _ _ _ _ _ _ a u => rfl
theorem sc_13 : FnScope ["self", "name"] ["self", "name"] (defScope (meth 15 0)) := ⟨rfl, rfl, rfl, by decide +kernel, rfl, by decide +kernel, by decide +kernel⟩
theorem bp_13 : ∀ (kV doc pm : Value) (an : Option Addr) (cdv ct : Value) (us : List Value), us.length = (["self", "name"] : List Str).length → bindArgs (PySem.W.fnOf "__init__" "Parted.__init__" (defArgs (meth 15 0)) (defBody (meth 15 0)) (defScope (meth 15 0)) .none kV doc pm an cdv ct) ⟨us, []⟩ = pure ((["self", "name"] : List Str).zip us) := fun _ _ _ _ _ _ us hl => match us, hl with | [_, _], _ => rfl
theorem bk_13 : ∀ (kV doc pm : Value) (an : Option Addr) (cdv ct a u : Value), bindArgs (PySem.W.fnOf "__init__" "Parted.__init__" (defArgs (meth 15 0)) (defBody (meth 15 0)) (defScope (meth 15 0)) .none kV doc pm an cdv ct) ⟨[a], [("name", u)]⟩ = pure [(("self" : Str), a), ("name", u)] := fun _ _ _ _ _ _ a u => rfl
theorem sc_19 : FnScope ["self", "number", "name"] ["self", "number", "name"] (defScope (meth 21 0)) := ⟨rfl, rfl, rfl, by decide +kernel, rfl, by decide +kernel, by decide +kernel⟩
theorem bp_19 : ∀ (kV doc pm : Value) (an : Option Addr) (cdv ct : Value) (us : List Value), us.length = (["self", "number", "name"] : List Str).length → bindArgs (PySem.W.fnOf "__init__" "OffBook.__init__" (defArgs (meth 21 0)) (defBody (meth 21 0)) (defScope (meth 21 0)) .none kV doc pm an cdv ct) ⟨us, []⟩ = pure ((["self", "number", "name"] : List Str).zip us) := fun _ _ _ _ _ _ us hl => match us, hl with | [_, _, _], _ => rfl
theorem bk_19 : ∀ (kV doc pm : Value) (an : Option Addr) (cdv ct a u v : Value), bindArgs (PySem.W.fnOf "__init__" "OffBook.__init__" (defArgs (meth 21 0)) (defBody (meth 21 0)) (defScope (meth 21 0)) .none kV doc pm an cdv ct) ⟨[a], [("name", u), ("number", v)]⟩ = pure [(("self" : Str), a), ("number", v), ("name", u)] := fun _ _ _ _ _ _ a u v => rfl
theorem sc_20 : FnScope ["self", "name"] ["self", "name"] (defScope (meth 22 0)) := ⟨rfl, rfl, rfl, by decide +kernel, rfl, by decide +kernel, by decide +kernel⟩
theorem bp_20 : ∀ (kV doc pm : Value) (an : Option Addr) (cdv ct : Value) (us : List Value), us.length = (["self", "name"] : List Str).length → bindArgs (PySem.W.fnOf "__init__" "Barred.__init__" (defArgs (meth 22 0)) (defBody (meth 22 0)) (defScope (meth 22 0)) .none kV doc pm an cdv ct) ⟨us, []⟩ = pure ((["self", "name"] : List Str).zip us) := fun _ _ _ _ _ _ us hl => match us, hl with | [_, _], _ => rfl
theorem bk_20 : ∀ (kV doc pm : Value) (an : Option Addr) (cdv ct a u : Value), bindArgs (PySem.W.fnOf "__init__" "Barred.__init__" (defArgs (meth 22 0)) (defBody (meth 22 0)) (defScope (meth 22 0)) .none kV doc pm an cdv ct) ⟨[a], [("name", u)]⟩ = pure [(("self" : Str), a), ("name", u)] := fun _ _ _ _ _ _ a u => rfl
theorem sc_22 : FnScope ["self", "number"] ["self", "number"] (defScope (meth 24 0)) := ⟨rfl, rfl, rfl, by decide +kernel, rfl, by decide +kernel, by decide +kernel⟩
theorem bp_22 : ∀ (kV doc pm : Value) (an : Option Addr) (cdv ct : Value) (us : List Value), us.length = (["self", "number"] : List Str).length → bindArgs (PySem.W.fnOf "__init__" "BadText.__init__" (defArgs (meth 24 0)) (defBody (meth 24 0)) (defScope (meth 24 0)) .none kV doc pm an cdv ct) ⟨us, []⟩ = pure ((["self", "number"] : List Str).zip us) := fun _ _ _ _ _ _ us hl => match us, hl with | [_, _], _ => rfl
theorem bk_22 : ∀ (kV doc pm : Value) (an : Option Addr) (cdv ct a u : Value), bindArgs (PySem.W.fnOf "__init__" "BadText.__init__" (defArgs (meth 24 0)) (defBody (meth 24 0)) (defScope (meth 24 0)) .none kV doc pm an cdv ct) ⟨[a], [("number", u)]⟩ = pure [(("self" : Str), a), ("number", u)] := fun _ _ _ _ _ _ a u => rfl
theorem law_sp {K : PySem.W.Frag} (vs : List V) (H : Hp) (Q : VK) (E : XK) (q : spTrue K vs H Q E) : spD K fLawD vs H Q E := by
  obtain ⟨a, ns, rfl, hs, hl, ho, hq⟩ := q
  have hs' : (∃ o, H a = some (.frz o (.lst (ns.map V.int)))) ∨ ∀ H', SqL K H' a (ns.map V.int) := by
    rcases hs with (hs | ⟨o, hs⟩) | hs
    · rcases ho a with z | ⟨ob, xs, z⟩
      · rw [z] at hs; cases hs
      · rw [z] at hs; cases hs
    · exact .inl ⟨o, hs⟩
    · exact .inr fun H' => .inr hs
  refine ⟨none, H, _, fun r => r = .d (.bool true), ⟨.refl H, (fun _ e => nomatch e)⟩, .cons (r := .o (scrF a ns)) ⟨rfl, hs'⟩ .nil, ⟨rfl, a, ns, rfl, hl, rfl⟩, ?_⟩
  rintro v r G2 H2 rfl g rr
  cases rr
  exact hq H2
end R7
open PySem PySem.W PyProof.Rows
theorem PySem.Challenge.cw_twolistings_k75_errors_and_fields_holds : PySem.Challenge.rw_twolistings_k75_errors_and_fields.Holds := by
  refine hd75 ?_
  k_fill
  refine Z.walk_G (l := PySem.Challenge.rw_twolistings_k75_errors_and_fields) (k := 6) (x := "script") rfl rfl ⟨rfl, by decide, by decide⟩ (fun w h Y => PySem.W.kIn_of Y) ?F
  case F =>
    intro w mg fa h KX G hmg
    have hfa : mg "law" = some (.ref fa) := hmg
    clear hmg
    have c0 : Z.ClsM (hd75.heap_39 w.params) 37 R7.tlE := Z.clsM_of (by k_is) (by exact ⟨_, _, _, rfl, rfl⟩)
    have e0 : L2.ExcC (hd75.heap_39 w.params) 37 := ⟨by k_is, by k_is, by k_is, by k_is, by k_is, by k_is, by k_is, by k_is⟩
    have c1 : Z.ClsM (hd75.heap_39 w.params) 56 R7.tlE := Z.clsM_of (by k_is) (by exact ⟨_, _, _, rfl, rfl⟩)
    have e1 : L2.ExcC (hd75.heap_39 w.params) 56 := ⟨by k_is, by k_is, by k_is, by k_is, by k_is, by k_is, by k_is, by k_is⟩
    have c2 : Z.ClsM (hd75.heap_39 w.params) 75 R7.tlE := Z.clsM_of (by k_is) (by exact ⟨_, _, _, rfl, rfl⟩)
    have e2 : L2.ExcC (hd75.heap_39 w.params) 75 := ⟨by k_is, by k_is, by k_is, by k_is, by k_is, by k_is, by k_is, by k_is⟩
    have c3 : Z.ClsM (hd75.heap_39 w.params) 94 R7.tlE := Z.clsM_of (by k_is) (by exact ⟨_, _, _, rfl, rfl⟩)
    have e3 : L2.ExcC (hd75.heap_39 w.params) 94 := ⟨by k_is, by k_is, by k_is, by k_is, by k_is, by k_is, by k_is, by k_is⟩
    have c4 : Z.ClsM (hd75.heap_39 w.params) 113 R7.tlE := Z.clsM_of (by k_is) (by exact ⟨_, _, _, rfl, rfl⟩)
    have e4 : L2.ExcC (hd75.heap_39 w.params) 113 := ⟨by k_is, by k_is, by k_is, by k_is, by k_is, by k_is, by k_is, by k_is⟩
    have c5 : Z.ClsM (hd75.heap_39 w.params) 132 R7.tlE := Z.clsM_of (by k_is) (by exact ⟨_, _, _, rfl, rfl⟩)
    have e5 : L2.ExcC (hd75.heap_39 w.params) 132 := ⟨by k_is, by k_is, by k_is, by k_is, by k_is, by k_is, by k_is, by k_is⟩
    have c6 : Z.ClsM (hd75.heap_39 w.params) 144 R7.tlE := Z.clsM_of (by k_is) (by exact ⟨_, _, _, rfl, rfl⟩)
    have e6 : L2.ExcC (hd75.heap_39 w.params) 144 := ⟨by k_is, by k_is, by k_is, by k_is, by k_is, by k_is, by k_is, by k_is⟩
    have c7 : Z.ClsM (hd75.heap_39 w.params) 156 R7.tlE := Z.clsM_of (by k_is) (by exact ⟨_, _, _, rfl, rfl⟩)
    have e7 : L2.ExcC (hd75.heap_39 w.params) 156 := ⟨by k_is, by k_is, by k_is, by k_is, by k_is, by k_is, by k_is, by k_is⟩
    have c8 : Z.ClsM (hd75.heap_39 w.params) 175 R7.tlE := Z.clsM_of (by k_is) (by exact ⟨_, _, _, rfl, rfl⟩)
    have e8 : L2.ExcC (hd75.heap_39 w.params) 175 := ⟨by k_is, by k_is, by k_is, by k_is, by k_is, by k_is, by k_is, by k_is⟩
    have c9 : Z.ClsM (hd75.heap_39 w.params) 187 R7.tlE := Z.clsM_of (by k_is) (by exact ⟨_, _, _, rfl, rfl⟩)
    have e9 : L2.ExcC (hd75.heap_39 w.params) 187 := ⟨by k_is, by k_is, by k_is, by k_is, by k_is, by k_is, by k_is, by k_is⟩
    have c10 : Z.ClsM (hd75.heap_39 w.params) 206 R7.tlE := Z.clsM_of (by k_is) (by exact ⟨_, _, _, rfl, rfl⟩)
    have e10 : L2.ExcC (hd75.heap_39 w.params) 206 := ⟨by k_is, by k_is, by k_is, by k_is, by k_is, by k_is, by k_is, by k_is⟩
    have c11 : Z.ClsM (hd75.heap_39 w.params) 225 R7.tlE := Z.clsM_of (by k_is) (by exact ⟨_, _, _, rfl, rfl⟩)
    have e11 : L2.ExcC (hd75.heap_39 w.params) 225 := ⟨by k_is, by k_is, by k_is, by k_is, by k_is, by k_is, by k_is, by k_is⟩
    have c12 : Z.ClsM (hd75.heap_39 w.params) 244 R7.tlE := Z.clsM_of (by k_is) (by exact ⟨_, _, _, rfl, rfl⟩)
    have e12 : L2.ExcC (hd75.heap_39 w.params) 244 := ⟨by k_is, by k_is, by k_is, by k_is, by k_is, by k_is, by k_is, by k_is⟩
    have c13 : Z.ClsM (hd75.heap_39 w.params) 263 R7.tlE := Z.clsM_of (by k_is) (by exact ⟨_, _, _, rfl, rfl⟩)
    have e13 : L2.ExcC (hd75.heap_39 w.params) 263 := ⟨by k_is, by k_is, by k_is, by k_is, by k_is, by k_is, by k_is, by k_is⟩
    have c14 : Z.ClsM (hd75.heap_39 w.params) 275 R7.tlE := Z.clsM_of (by k_is) (by exact ⟨_, _, _, rfl, rfl⟩)
    have e14 : L2.ExcC (hd75.heap_39 w.params) 275 := ⟨by k_is, by k_is, by k_is, by k_is, by k_is, by k_is, by k_is, by k_is⟩
    have c15 : Z.ClsM (hd75.heap_39 w.params) 287 R7.tlE := Z.clsM_of (by k_is) (by exact ⟨_, _, _, rfl, rfl⟩)
    have e15 : L2.ExcC (hd75.heap_39 w.params) 287 := ⟨by k_is, by k_is, by k_is, by k_is, by k_is, by k_is, by k_is, by k_is⟩
    have c16 : Z.ClsM (hd75.heap_39 w.params) 299 R7.tlE := Z.clsM_of (by k_is) (by exact ⟨_, _, _, rfl, rfl⟩)
    have e16 : L2.ExcC (hd75.heap_39 w.params) 299 := ⟨by k_is, by k_is, by k_is, by k_is, by k_is, by k_is, by k_is, by k_is⟩
    have c17 : Z.ClsM (hd75.heap_39 w.params) 311 R7.tlE := Z.clsM_of (by k_is) (by exact ⟨_, _, _, rfl, rfl⟩)
    have e17 : L2.ExcC (hd75.heap_39 w.params) 311 := ⟨by k_is, by k_is, by k_is, by k_is, by k_is, by k_is, by k_is, by k_is⟩
    have c18 : Z.ClsM (hd75.heap_39 w.params) 323 R7.tlE := Z.clsM_of (by k_is) (by exact ⟨_, _, _, rfl, rfl⟩)
    have e18 : L2.ExcC (hd75.heap_39 w.params) 323 := ⟨by k_is, by k_is, by k_is, by k_is, by k_is, by k_is, by k_is, by k_is⟩
    have c19 : Z.ClsM (hd75.heap_39 w.params) 342 R7.tlE := Z.clsM_of (by k_is) (by exact ⟨_, _, _, rfl, rfl⟩)
    have e19 : L2.ExcC (hd75.heap_39 w.params) 342 := ⟨by k_is, by k_is, by k_is, by k_is, by k_is, by k_is, by k_is, by k_is⟩
    have c20 : Z.ClsM (hd75.heap_39 w.params) 361 R7.tlE := Z.clsM_of (by k_is) (by exact ⟨_, _, _, rfl, rfl⟩)
    have e20 : L2.ExcC (hd75.heap_39 w.params) 361 := ⟨by k_is, by k_is, by k_is, by k_is, by k_is, by k_is, by k_is, by k_is⟩
    have c21 : Z.ClsM (hd75.heap_39 w.params) 373 R7.tlE := Z.clsM_of (by k_is) (by exact ⟨_, _, _, rfl, rfl⟩)
    have e21 : L2.ExcC (hd75.heap_39 w.params) 373 := ⟨by k_is, by k_is, by k_is, by k_is, by k_is, by k_is, by k_is, by k_is⟩
    have c22 : Z.ClsM (hd75.heap_39 w.params) 392 R7.tlE := Z.clsM_of (by k_is) (by exact ⟨_, _, _, rfl, rfl⟩)
    have e22 : L2.ExcC (hd75.heap_39 w.params) 392 := ⟨by k_is, by k_is, by k_is, by k_is, by k_is, by k_is, by k_is, by k_is⟩
    have c99 : Z.ClsM (hd75.heap_39 w.params) 24 [.type "ValueError", .type "Exception", .type "BaseException", .type "object"] := Z.clsM_of (by k_is) (by exact ⟨_, _, _, rfl, rfl⟩)
    have t1 : L2.OexC (hd75.heap_39 w.params) 56 := Z.oexC_of (by k_is) (by exact ⟨_, _, _, _, _, _, _, _, _, _, _, _, _, _, _, rfl, by decide +kernel⟩) (by k_is) (by k_is) (by k_is) (by k_is)
    have x1 : L2.XfC (hd75.heap_39 w.params) 56 := ⟨by k_is, by k_is, by k_is, by k_is⟩
    have d1 : Z.DefK (hd75.heap_39 w.params) "__init__" "BadRow.__init__" (R7.meth 3 0) 53 := ⟨⟨_, _, _, _, _, _, _, _, _, by k_is, by k_is⟩, by k_is⟩
    have t2 : L2.OexC (hd75.heap_39 w.params) 75 := Z.oexC_of (by k_is) (by exact ⟨_, _, _, _, _, _, _, _, _, _, _, _, _, _, _, rfl, by decide +kernel⟩) (by k_is) (by k_is) (by k_is) (by k_is)
    have x2 : L2.XfC (hd75.heap_39 w.params) 75 := ⟨by k_is, by k_is, by k_is, by k_is⟩
    have d2 : Z.DefK (hd75.heap_39 w.params) "__init__" "NoPlace.__init__" (R7.meth 4 0) 72 := ⟨⟨_, _, _, _, _, _, _, _, _, by k_is, by k_is⟩, by k_is⟩
    have t3 : L2.OexC (hd75.heap_39 w.params) 94 := Z.oexC_of (by k_is) (by exact ⟨_, _, _, _, _, _, _, _, _, _, _, _, _, _, _, rfl, by decide +kernel⟩) (by k_is) (by k_is) (by k_is) (by k_is)
    have x3 : L2.XfC (hd75.heap_39 w.params) 94 := ⟨by k_is, by k_is, by k_is, by k_is⟩
    have d3 : Z.DefK (hd75.heap_39 w.params) "__init__" "BadRecord.__init__" (R7.meth 5 0) 91 := ⟨⟨_, _, _, _, _, _, _, _, _, by k_is, by k_is⟩, by k_is⟩
    have t4 : L2.OexC (hd75.heap_39 w.params) 113 := Z.oexC_of (by k_is) (by exact ⟨_, _, _, _, _, _, _, _, _, _, _, _, _, _, _, rfl, by decide +kernel⟩) (by k_is) (by k_is) (by k_is) (by k_is)
    have x4 : L2.XfC (hd75.heap_39 w.params) 113 := ⟨by k_is, by k_is, by k_is, by k_is⟩
    have d4 : Z.DefK (hd75.heap_39 w.params) "__init__" "NoRecord.__init__" (R7.meth 6 0) 110 := ⟨⟨_, _, _, _, _, _, _, _, _, by k_is, by k_is⟩, by k_is⟩
    have t5 : L2.OexC (hd75.heap_39 w.params) 132 := Z.oexC_of (by k_is) (by exact ⟨_, _, _, _, _, _, _, _, _, _, _, _, _, _, _, rfl, by decide +kernel⟩) (by k_is) (by k_is) (by k_is) (by k_is)
    have x5 : L2.XfC (hd75.heap_39 w.params) 132 := ⟨by k_is, by k_is, by k_is, by k_is⟩
    have d5 : Z.DefK (hd75.heap_39 w.params) "__init__" "BadEvent.__init__" (R7.meth 7 0) 129 := ⟨⟨_, _, _, _, _, _, _, _, _, by k_is, by k_is⟩, by k_is⟩
    have t8 : L2.OexC (hd75.heap_39 w.params) 175 := Z.oexC_of (by k_is) (by exact ⟨_, _, _, _, _, _, _, _, _, _, _, _, _, _, _, rfl, by decide +kernel⟩) (by k_is) (by k_is) (by k_is) (by k_is)
    have x8 : L2.XfC (hd75.heap_39 w.params) 175 := ⟨by k_is, by k_is, by k_is, by k_is⟩
    have d8 : Z.DefK (hd75.heap_39 w.params) "__init__" "NoQuestion.__init__" (R7.meth 10 0) 172 := ⟨⟨_, _, _, _, _, _, _, _, _, by k_is, by k_is⟩, by k_is⟩
    have t10 : L2.OexC (hd75.heap_39 w.params) 206 := Z.oexC_of (by k_is) (by exact ⟨_, _, _, _, _, _, _, _, _, _, _, _, _, _, _, rfl, by decide +kernel⟩) (by k_is) (by k_is) (by k_is) (by k_is)
    have x10 : L2.XfC (hd75.heap_39 w.params) 206 := ⟨by k_is, by k_is, by k_is, by k_is⟩
    have d10 : Z.DefK (hd75.heap_39 w.params) "__init__" "BadSaying.__init__" (R7.meth 12 0) 203 := ⟨⟨_, _, _, _, _, _, _, _, _, by k_is, by k_is⟩, by k_is⟩
    have t11 : L2.OexC (hd75.heap_39 w.params) 225 := Z.oexC_of (by k_is) (by exact ⟨_, _, _, _, _, _, _, _, _, _, _, _, _, _, _, rfl, by decide +kernel⟩) (by k_is) (by k_is) (by k_is) (by k_is)
    have x11 : L2.XfC (hd75.heap_39 w.params) 225 := ⟨by k_is, by k_is, by k_is, by k_is⟩
    have d11 : Z.DefK (hd75.heap_39 w.params) "__init__" "BadWriter.__init__" (R7.meth 13 0) 222 := ⟨⟨_, _, _, _, _, _, _, _, _, by k_is, by k_is⟩, by k_is⟩
    have t12 : L2.OexC (hd75.heap_39 w.params) 244 := Z.oexC_of (by k_is) (by exact ⟨_, _, _, _, _, _, _, _, _, _, _, _, _, _, _, rfl, by decide +kernel⟩) (by k_is) (by k_is) (by k_is) (by k_is)
    have x12 : L2.XfC (hd75.heap_39 w.params) 244 := ⟨by k_is, by k_is, by k_is, by k_is⟩
    have d12 : Z.DefK (hd75.heap_39 w.params) "__init__" "BadDeed.__init__" (R7.meth 14 0) 241 := ⟨⟨_, _, _, _, _, _, _, _, _, by k_is, by k_is⟩, by k_is⟩
    have t13 : L2.OexC (hd75.heap_39 w.params) 263 := Z.oexC_of (by k_is) (by exact ⟨_, _, _, _, _, _, _, _, _, _, _, _, _, _, _, rfl, by decide +kernel⟩) (by k_is) (by k_is) (by k_is) (by k_is)
    have x13 : L2.XfC (hd75.heap_39 w.params) 263 := ⟨by k_is, by k_is, by k_is, by k_is⟩
    have d13 : Z.DefK (hd75.heap_39 w.params) "__init__" "Parted.__init__" (R7.meth 15 0) 260 := ⟨⟨_, _, _, _, _, _, _, _, _, by k_is, by k_is⟩, by k_is⟩
    have t19 : L2.OexC (hd75.heap_39 w.params) 342 := Z.oexC_of (by k_is) (by exact ⟨_, _, _, _, _, _, _, _, _, _, _, _, _, _, _, rfl, by decide +kernel⟩) (by k_is) (by k_is) (by k_is) (by k_is)
    have x19 : L2.XfC (hd75.heap_39 w.params) 342 := ⟨by k_is, by k_is, by k_is, by k_is⟩
    have d19 : Z.DefK (hd75.heap_39 w.params) "__init__" "OffBook.__init__" (R7.meth 21 0) 339 := ⟨⟨_, _, _, _, _, _, _, _, _, by k_is, by k_is⟩, by k_is⟩
    have t20 : L2.OexC (hd75.heap_39 w.params) 361 := Z.oexC_of (by k_is) (by exact ⟨_, _, _, _, _, _, _, _, _, _, _, _, _, _, _, rfl, by decide +kernel⟩) (by k_is) (by k_is) (by k_is) (by k_is)
    have x20 : L2.XfC (hd75.heap_39 w.params) 361 := ⟨by k_is, by k_is, by k_is, by k_is⟩
    have d20 : Z.DefK (hd75.heap_39 w.params) "__init__" "Barred.__init__" (R7.meth 22 0) 358 := ⟨⟨_, _, _, _, _, _, _, _, _, by k_is, by k_is⟩, by k_is⟩
    have t22 : L2.OexC (hd75.heap_39 w.params) 392 := Z.oexC_of (by k_is) (by exact ⟨_, _, _, _, _, _, _, _, _, _, _, _, _, _, _, rfl, by decide +kernel⟩) (by k_is) (by k_is) (by k_is) (by k_is)
    have x22 : L2.XfC (hd75.heap_39 w.params) 392 := ⟨by k_is, by k_is, by k_is, by k_is⟩
    have d22 : Z.DefK (hd75.heap_39 w.params) "__init__" "BadText.__init__" (R7.meth 24 0) 389 := ⟨⟨_, _, _, _, _, _, _, _, _, by k_is, by k_is⟩, by k_is⟩
    have dk_law_feed : Z.DefK (hd75.heap_39 w.params) "_law_feed" "_law_feed" (R7.top 26) 401 := ⟨⟨_, _, _, _, _, _, _, _, _, by k_is, by k_is⟩, by k_is⟩
    have dk_law_take : Z.DefK (hd75.heap_39 w.params) "_law_take" "_law_take" (R7.top 27) 408 := ⟨⟨_, _, _, _, _, _, _, _, _, by k_is, by k_is⟩, by k_is⟩
    have dk_law_pick : Z.DefK (hd75.heap_39 w.params) "_law_pick" "_law_pick" (R7.top 28) 415 := ⟨⟨_, _, _, _, _, _, _, _, _, by k_is, by k_is⟩, by k_is⟩
    have dk_law_kinds : Z.DefK (hd75.heap_39 w.params) "_law_kinds" "_law_kinds" (R7.top 29) 422 := ⟨⟨_, _, _, _, _, _, _, _, _, by k_is, by k_is⟩, by k_is⟩
    have dk_law_one_field : Z.DefK (hd75.heap_39 w.params) "_law_one_field" "_law_one_field" (R7.top 30) 429 := ⟨⟨_, _, _, _, _, _, _, _, _, by k_is, by k_is⟩, by k_is⟩
    have dklaw : Z.DefK (hd75.heap_39 w.params) "law" "law" (R7.top 31) 434 := ⟨⟨_, _, _, _, _, _, _, _, _, by k_is, by k_is⟩, by k_is⟩
    obtain ⟨fd, Fl⟩ := R7.fdOf dklaw
    have hfx : fa = 434 := by
      have e := (PySem.W.mg_of KX G (n := "law") (v := .ref 434) (by k_is)).symm.trans hfa
      cases e
      rfl
    subst hfx
    refine ⟨fd, fun s u => ?_, fun base KX G => ?_⟩
    · obtain ⟨oc, od, kV, doc, pm, an, cdv, ct, osl, rfl, lk, hcd⟩ := Fl.ex
      exact .of_eq (R7.b_law kV doc pm an cdv ct [u] rfl)
    obtain ⟨fd_law_feed, F_law_feed⟩ := R7.fdOf dk_law_feed
    obtain ⟨fd_law_take, F_law_take⟩ := R7.fdOf dk_law_take
    obtain ⟨fd_law_pick, F_law_pick⟩ := R7.fdOf dk_law_pick
    obtain ⟨fd_law_kinds, F_law_kinds⟩ := R7.fdOf dk_law_kinds
    obtain ⟨fd_law_one_field, F_law_one_field⟩ := R7.fdOf dk_law_one_field
    have b1 : R5.Blt mg := ⟨PySem.W.mg_none_of KX G (by k_is), PySem.W.mg_none_of KX G (by k_is), PySem.W.mg_none_of KX G (by k_is), PySem.W.mg_none_of KX G (by k_is)⟩
    have b2 : R6.Blt mg := ⟨b1.len, b1.int, b1.max, b1.abs⟩
    have hm : ∀ i, i < 23 → mg (R7.cn.getD i "") = some (.ref (R7.ad i)) := by
      intro i hi
      match i, hi with
      | 0, _ => exact PySem.W.mg_of KX G (n := "BadModes") (v := .ref 37) (by k_is)
      | 1, _ => exact PySem.W.mg_of KX G (n := "BadRow") (v := .ref 56) (by k_is)
      | 2, _ => exact PySem.W.mg_of KX G (n := "NoPlace") (v := .ref 75) (by k_is)
      | 3, _ => exact PySem.W.mg_of KX G (n := "BadRecord") (v := .ref 94) (by k_is)
      | 4, _ => exact PySem.W.mg_of KX G (n := "NoRecord") (v := .ref 113) (by k_is)
      | 5, _ => exact PySem.W.mg_of KX G (n := "BadEvent") (v := .ref 132) (by k_is)
      | 6, _ => exact PySem.W.mg_of KX G (n := "BadRules") (v := .ref 144) (by k_is)
      | 7, _ => exact PySem.W.mg_of KX G (n := "BadPlan") (v := .ref 156) (by k_is)
      | 8, _ => exact PySem.W.mg_of KX G (n := "NoQuestion") (v := .ref 175) (by k_is)
      | 9, _ => exact PySem.W.mg_of KX G (n := "BadPosition") (v := .ref 187) (by k_is)
      | 10, _ => exact PySem.W.mg_of KX G (n := "BadSaying") (v := .ref 206) (by k_is)
      | 11, _ => exact PySem.W.mg_of KX G (n := "BadWriter") (v := .ref 225) (by k_is)
      | 12, _ => exact PySem.W.mg_of KX G (n := "BadDeed") (v := .ref 244) (by k_is)
      | 13, _ => exact PySem.W.mg_of KX G (n := "Parted") (v := .ref 263) (by k_is)
      | 14, _ => exact PySem.W.mg_of KX G (n := "NoBook") (v := .ref 275) (by k_is)
      | 15, _ => exact PySem.W.mg_of KX G (n := "NoDefeat") (v := .ref 287) (by k_is)
      | 16, _ => exact PySem.W.mg_of KX G (n := "BadName") (v := .ref 299) (by k_is)
      | 17, _ => exact PySem.W.mg_of KX G (n := "BadThing") (v := .ref 311) (by k_is)
      | 18, _ => exact PySem.W.mg_of KX G (n := "BadSteps") (v := .ref 323) (by k_is)
      | 19, _ => exact PySem.W.mg_of KX G (n := "OffBook") (v := .ref 342) (by k_is)
      | 20, _ => exact PySem.W.mg_of KX G (n := "Barred") (v := .ref 361) (by k_is)
      | 21, _ => exact PySem.W.mg_of KX G (n := "BadOrder") (v := .ref 373) (by k_is)
      | 22, _ => exact PySem.W.mg_of KX G (n := "BadText") (v := .ref 392) (by k_is)
      | i + 23, h => exact absurd h (by omega)
    have hc : ∀ i, i < 23 → Z.ClsM (hd75.heap_39 w.params) (R7.ad i) R7.tlE := R7.ad_at (Q := fun a => Z.ClsM (hd75.heap_39 w.params) a R7.tlE) (.cons (c0) (.cons (c1) (.cons (c2) (.cons (c3) (.cons (c4) (.cons (c5) (.cons (c6) (.cons (c7) (.cons (c8) (.cons (c9) (.cons (c10) (.cons (c11) (.cons (c12) (.cons (c13) (.cons (c14) (.cons (c15) (.cons (c16) (.cons (c17) (.cons (c18) (.cons (c19) (.cons (c20) (.cons (c21) (.cons (c22) (.nil))))))))))))))))))))))))
    have he : ∀ i, i < 23 → L2.ExcC (hd75.heap_39 w.params) (R7.ad i) := R7.ad_at (Q := fun a => L2.ExcC (hd75.heap_39 w.params) a) (.cons (e0) (.cons (e1) (.cons (e2) (.cons (e3) (.cons (e4) (.cons (e5) (.cons (e6) (.cons (e7) (.cons (e8) (.cons (e9) (.cons (e10) (.cons (e11) (.cons (e12) (.cons (e13) (.cons (e14) (.cons (e15) (.cons (e16) (.cons (e17) (.cons (e18) (.cons (e19) (.cons (e20) (.cons (e21) (.cons (e22) (.nil))))))))))))))))))))))))
    have hz : ∀ i, i ∈ R7.zs → PySem.W.excIn (hd75.heap_39 w.params) (R7.ad i) R7.bmVE "ValueError.__new__" = true ∧ PySem.W.keepIn (hd75.heap_39 w.params) (.ref (R7.ad i)) = true := by
      have z0 : PySem.W.excIn (hd75.heap_39 w.params) 37 [.type "ValueError", .type "Exception", .type "BaseException", .type "object"] "ValueError.__new__" = true ∧ PySem.W.keepIn (hd75.heap_39 w.params) (.ref 37) = true := ⟨by k_exc, by k_is⟩
      have z6 : PySem.W.excIn (hd75.heap_39 w.params) 144 [.type "ValueError", .type "Exception", .type "BaseException", .type "object"] "ValueError.__new__" = true ∧ PySem.W.keepIn (hd75.heap_39 w.params) (.ref 144) = true := ⟨by k_exc, by k_is⟩
      have z7 : PySem.W.excIn (hd75.heap_39 w.params) 156 [.type "ValueError", .type "Exception", .type "BaseException", .type "object"] "ValueError.__new__" = true ∧ PySem.W.keepIn (hd75.heap_39 w.params) (.ref 156) = true := ⟨by k_exc, by k_is⟩
      have z9 : PySem.W.excIn (hd75.heap_39 w.params) 187 [.type "ValueError", .type "Exception", .type "BaseException", .type "object"] "ValueError.__new__" = true ∧ PySem.W.keepIn (hd75.heap_39 w.params) (.ref 187) = true := ⟨by k_exc, by k_is⟩
      have z14 : PySem.W.excIn (hd75.heap_39 w.params) 275 [.type "ValueError", .type "Exception", .type "BaseException", .type "object"] "ValueError.__new__" = true ∧ PySem.W.keepIn (hd75.heap_39 w.params) (.ref 275) = true := ⟨by k_exc, by k_is⟩
      have z15 : PySem.W.excIn (hd75.heap_39 w.params) 287 [.type "ValueError", .type "Exception", .type "BaseException", .type "object"] "ValueError.__new__" = true ∧ PySem.W.keepIn (hd75.heap_39 w.params) (.ref 287) = true := ⟨by k_exc, by k_is⟩
      have z16 : PySem.W.excIn (hd75.heap_39 w.params) 299 [.type "ValueError", .type "Exception", .type "BaseException", .type "object"] "ValueError.__new__" = true ∧ PySem.W.keepIn (hd75.heap_39 w.params) (.ref 299) = true := ⟨by k_exc, by k_is⟩
      have z17 : PySem.W.excIn (hd75.heap_39 w.params) 311 [.type "ValueError", .type "Exception", .type "BaseException", .type "object"] "ValueError.__new__" = true ∧ PySem.W.keepIn (hd75.heap_39 w.params) (.ref 311) = true := ⟨by k_exc, by k_is⟩
      have z18 : PySem.W.excIn (hd75.heap_39 w.params) 323 [.type "ValueError", .type "Exception", .type "BaseException", .type "object"] "ValueError.__new__" = true ∧ PySem.W.keepIn (hd75.heap_39 w.params) (.ref 323) = true := ⟨by k_exc, by k_is⟩
      have z21 : PySem.W.excIn (hd75.heap_39 w.params) 373 [.type "ValueError", .type "Exception", .type "BaseException", .type "object"] "ValueError.__new__" = true ∧ PySem.W.keepIn (hd75.heap_39 w.params) (.ref 373) = true := ⟨by k_exc, by k_is⟩
      simp only [R7.zs, List.forall_mem_cons]
      exact ⟨z0, z6, z7, z9, z14, z15, z16, z17, z18, z21, fun _ h => nomatch h⟩
    have ho : ∀ i, i ∈ R7.own → R7.OwnC PySem.Challenge.rw_twolistings_k75_errors_and_fields.prog w (hd75.heap_39 w.params) mg base (R7.ad i) (R7.fo i) := by
      have o1 : R7.OwnC PySem.Challenge.rw_twolistings_k75_errors_and_fields.prog w (hd75.heap_39 w.params) mg base 56 ["place"] := R7.ownC1 t1 (by k_is) x1 (by k_is) (by k_is) d1 R7.sc_1 rfl (Or.inl rfl) (Or.inl rfl) (by decide) (by decide) R7.bp_1 R7.bk_1
      have o2 : R7.OwnC PySem.Challenge.rw_twolistings_k75_errors_and_fields.prog w (hd75.heap_39 w.params) mg base 75 ["place"] := R7.ownC1 t2 (by k_is) x2 (by k_is) (by k_is) d2 R7.sc_2 rfl (Or.inl rfl) (Or.inl rfl) (by decide) (by decide) R7.bp_2 R7.bk_2
      have o3 : R7.OwnC PySem.Challenge.rw_twolistings_k75_errors_and_fields.prog w (hd75.heap_39 w.params) mg base 94 ["number"] := R7.ownC1 t3 (by k_is) x3 (by k_is) (by k_is) d3 R7.sc_3 rfl (Or.inl rfl) (Or.inl rfl) (by decide) (by decide) R7.bp_3 R7.bk_3
      have o4 : R7.OwnC PySem.Challenge.rw_twolistings_k75_errors_and_fields.prog w (hd75.heap_39 w.params) mg base 113 ["number"] := R7.ownC1 t4 (by k_is) x4 (by k_is) (by k_is) d4 R7.sc_4 rfl (Or.inl rfl) (Or.inl rfl) (by decide) (by decide) R7.bp_4 R7.bk_4
      have o5 : R7.OwnC PySem.Challenge.rw_twolistings_k75_errors_and_fields.prog w (hd75.heap_39 w.params) mg base 132 ["number"] := R7.ownC1 t5 (by k_is) x5 (by k_is) (by k_is) d5 R7.sc_5 rfl (Or.inl rfl) (Or.inl rfl) (by decide) (by decide) R7.bp_5 R7.bk_5
      have o8 : R7.OwnC PySem.Challenge.rw_twolistings_k75_errors_and_fields.prog w (hd75.heap_39 w.params) mg base 175 ["word"] := R7.ownC1 t8 (by k_is) x8 (by k_is) (by k_is) d8 R7.sc_8 rfl (Or.inl rfl) (Or.inl rfl) (by decide) (by decide) R7.bp_8 R7.bk_8
      have o10 : R7.OwnC PySem.Challenge.rw_twolistings_k75_errors_and_fields.prog w (hd75.heap_39 w.params) mg base 206 ["saying"] := R7.ownC1 t10 (by k_is) x10 (by k_is) (by k_is) d10 R7.sc_10 rfl (Or.inl rfl) (Or.inl rfl) (by decide) (by decide) R7.bp_10 R7.bk_10
      have o11 : R7.OwnC PySem.Challenge.rw_twolistings_k75_errors_and_fields.prog w (hd75.heap_39 w.params) mg base 225 ["at"] := R7.ownC1 t11 (by k_is) x11 (by k_is) (by k_is) d11 R7.sc_11 rfl (Or.inl rfl) (Or.inl rfl) (by decide) (by decide) R7.bp_11 R7.bk_11
      have o12 : R7.OwnC PySem.Challenge.rw_twolistings_k75_errors_and_fields.prog w (hd75.heap_39 w.params) mg base 244 ["at"] := R7.ownC1 t12 (by k_is) x12 (by k_is) (by k_is) d12 R7.sc_12 rfl (Or.inl rfl) (Or.inl rfl) (by decide) (by decide) R7.bp_12 R7.bk_12
      have o13 : R7.OwnC PySem.Challenge.rw_twolistings_k75_errors_and_fields.prog w (hd75.heap_39 w.params) mg base 263 ["name"] := R7.ownC1 t13 (by k_is) x13 (by k_is) (by k_is) d13 R7.sc_13 rfl (Or.inl rfl) (Or.inl rfl) (by decide) (by decide) R7.bp_13 R7.bk_13
      have o19 : R7.OwnC PySem.Challenge.rw_twolistings_k75_errors_and_fields.prog w (hd75.heap_39 w.params) mg base 342 ["number", "name"] := R7.ownC2 t19 (by k_is) (by k_is) x19 (by k_is) (by k_is) d19 R7.sc_19 rfl (Or.inl rfl) (Or.inl rfl) (Or.inl rfl) (by decide) (by decide) (by decide) (by decide) R7.bp_19 R7.bk_19
      have o20 : R7.OwnC PySem.Challenge.rw_twolistings_k75_errors_and_fields.prog w (hd75.heap_39 w.params) mg base 361 ["name"] := R7.ownC1 t20 (by k_is) x20 (by k_is) (by k_is) d20 R7.sc_20 rfl (Or.inl rfl) (Or.inl rfl) (by decide) (by decide) R7.bp_20 R7.bk_20
      have o22 : R7.OwnC PySem.Challenge.rw_twolistings_k75_errors_and_fields.prog w (hd75.heap_39 w.params) mg base 392 ["number"] := R7.ownC1 t22 (by k_is) x22 (by k_is) (by k_is) d22 R7.sc_22 rfl (Or.inl rfl) (Or.inl rfl) (by decide) (by decide) R7.bp_22 R7.bk_22
      simp only [R7.own, List.forall_mem_cons]
      exact ⟨o1, o2, o3, o4, o5, o8, o10, o11, o12, o13, o19, o20, o22, fun _ h => nomatch h⟩
    have cT := R7.callee (x := "_law_take") (PySem.W.mg_of KX G (by k_is)) dk_law_take.kp (F_law_take.binds R7.b__law_take) (R5.okTake (P := PySem.Challenge.rw_twolistings_k75_errors_and_fields.prog) (w := w) (base := base) F_law_take b1)
    have none_ : ∀ x : Str, PySem.W.nsIn (hd75.heap_39 w.params) mainGlobals x = some none → mg x = none := fun x h => PySem.W.mg_none_of KX G h
    have W : R7.LW PySem.Challenge.rw_twolistings_k75_errors_and_fields.prog w (hd75.heap_39 w.params) mg base R7.ad 24 := by
      refine ⟨hm, PySem.W.mg_of KX G (by k_is), hz, ho, he, fun i j hi hj => ?_, fun i hi => ?_, fun i hi => ?_, ?_, PySem.W.mg_none_of KX G (by k_is), PySem.W.mg_none_of KX G (by k_is), PySem.W.mg_none_of KX G (by k_is), b1.max, PySem.W.mg_none_of KX G (by k_is), b1.len, PySem.W.mg_none_of KX G (by k_is), PySem.W.mg_none_of KX G (by k_is), cT, ?_, ?_, ?_, ?_⟩
      · rw [(hc i hi).is (hc j hj), R7.mem_tbl i hi j hj]
      · rw [(hc i hi).is c99, R7.two_tbl i hi]
      · rw [(hc i hi).isT (by decide +kernel), R7.ve_tbl i hi]
      · obtain ⟨cd, k1, _⟩ := c99.mro
        show (if ((PySem.W.clsIn (hd75.heap_39 w.params) 24).isSome && PySem.W.typeIn (hd75.heap_39 w.params) (.ref 24) == some (.type "type")) = true then PySem.W.subIn (hd75.heap_39 w.params) (.type "ValueError") (.ref 24) else none) = some false
        rw [k1, c99.ty, if_pos (by simp)]
        kernel_rfl
      · exact R7.callee (PySem.W.mg_of KX G (by k_is)) dk_law_pick.kp (F_law_pick.binds R7.b__law_pick) (R7.okPick F_law_pick b1.len cT)
      · exact R7.callee (PySem.W.mg_of KX G (by k_is)) dk_law_kinds.kp (F_law_kinds.binds R7.b__law_kinds) (R7.okKinds F_law_kinds (PySem.W.mg_none_of KX G (by k_is)) hm)
      · exact R7.callee (PySem.W.mg_of KX G (by k_is)) dk_law_one_field.kp (F_law_one_field.binds R7.b__law_one_field) (R7.okOne F_law_one_field (PySem.W.mg_none_of KX G (by k_is)) hm ho)
      · exact ⟨401, fd_law_feed, PySem.W.mg_of KX G (by k_is), dk_law_feed.kp, F_law_feed.binds R7.b__law_feed, R6.okFeed F_law_feed b2⟩
    exact (R7.okLaw Fl W).imp R7.law_sp
end
