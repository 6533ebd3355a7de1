import PyProof.Rows.All
import Wide.All
import OpenK.AllK
import Wide.FinOn
import HandS.ForMost
import HandS.ForExc
import HandS.IsInst
import HandS.Deep
import HandS.TupMul
import HandS.TupAny
import KE.GoesEnum
import HandS.Zip
import HandS.Property
import HandS.ClsMeth
import HandS.Walk
import HandS.Conv
import HandS.Strs
import HandS.Style
import PySem.Challenge.RW_twolistings_k03_known_rules
set_option Elab.async false
section
set_option linter.all false
set_option maxRecDepth 100000
set_option maxHeartbeats 2000000
namespace Z
open PySem L2

def Ex (H H' : Hp) : Prop := ∀ a o, H a = some o → H' a = some o
theorem Ex.refl (H : Hp) : Ex H H := fun _ _ h => h
theorem Ex.trans {H H1 H2 : Hp} (a : Ex H H1) (b : Ex H1 H2) : Ex H H2 := fun x o h => b x o (a x o h)
theorem Ex.new {H : Hp} {p : Addr} {o : HO} (h : H p = none) : Ex H (upd H p o) := fun a u e => by
  rw [upd_ne (ne_of_none e h)]
  exact e
theorem Ex.sl {K : PySem.W.Frag} {H H' : Hp} {a : Addr} {xs : List V} (e : Ex H H') (h : SqL K H a xs) : SqL K H' a xs := by
  rcases h with (h | ⟨o, h⟩) | h
  · exact .inl (.inl (e _ _ h))
  · exact .inl (.inr ⟨o, e _ _ h⟩)
  · exact .inr h
theorem Ex.st {K : PySem.W.Frag} {H H' : Hp} {a : Addr} {xs : List V} (e : Ex H H') (h : SqT K H a xs) : SqT K H' a xs := by
  rcases h with (h | ⟨o, h⟩) | h
  · exact .inl (.inl (e _ _ h))
  · exact .inl (.inr ⟨o, e _ _ h⟩)
  · exact .inr h
mutual
/-- a value that is read as data: its lists are tracked and stand still -/
inductive Rp (K : PySem.W.Frag) (H : Hp) : V → PyData → Prop
  | non : Rp K H .non .none
  | bl (b : Bool) : Rp K H (.bl b) (.bool b)
  | int (i : Int) : Rp K H (.int i) (.int i)
  | str (x : Str) : Rp K H (.str x) (.str x)
  | lst {a : Addr} {xs : List V} {ds : List PyData} : H a = some (.lst xs) → RpAll K H xs ds → Rp K H (.ref a) (.list ds)
  | tup {a : Addr} {xs : List V} {ds : List PyData} : SqT K H a xs → RpAll K H xs ds → Rp K H (.ref a) (.tuple ds)
inductive RpAll (K : PySem.W.Frag) (H : Hp) : List V → List PyData → Prop
  | nil : RpAll K H [] []
  | cons {v : V} {vs : List V} {d : PyData} {ds : List PyData} : Rp K H v d → RpAll K H vs ds → RpAll K H (v :: vs) (d :: ds)
end
mutual
theorem Ex.dp {K : PySem.W.Frag} {H H' : Hp} (e : Ex H H') : ∀ (d : PyData) (v : V), Rp K H v d → Rp K H' v d
  | .none, _, h => by cases h; exact .non
  | .bool b, _, h => by cases h; exact .bl b
  | .int i, _, h => by cases h; exact .int i
  | .str x, _, h => by cases h; exact .str x
  | .list ds, _, h => by
    cases h with
    | lst hs ha => exact .lst (e _ _ hs) (Ex.dps e ds _ ha)
  | .tuple ds, _, h => by
    cases h with
    | tup hs ha => exact .tup (e.st hs) (Ex.dps e ds _ ha)
  | .dict _, _, h => by cases h
theorem Ex.dps {K : PySem.W.Frag} {H H' : Hp} (e : Ex H H') : ∀ (ds : List PyData) (vs : List V), RpAll K H vs ds → RpAll K H' vs ds
  | [], _, h => by cases h; exact .nil
  | d :: ds, _, h => by
    cases h with
    | cons h1 h2 => exact .cons (Ex.dp e d _ h1) (Ex.dps e ds _ h2)
end
mutual
theorem Rp.dp {K : PySem.W.Frag} {H : Hp} : ∀ (d : PyData) (v : V), Rp K H v d → Dp K H v d
  | .none, _, h => by cases h; exact .non
  | .bool b, _, h => by cases h; exact .bl b
  | .int i, _, h => by cases h; exact .int i
  | .str x, _, h => by cases h; exact .str x
  | .list ds, _, h => by
    cases h with
    | lst hs ha => exact .lst (.of hs) (RpAll.dp ds _ ha)
  | .tuple ds, _, h => by
    cases h with
    | tup hs ha => exact .tup hs (RpAll.dp ds _ ha)
  | .dict _, _, h => by cases h
theorem RpAll.dp {K : PySem.W.Frag} {H : Hp} : ∀ (ds : List PyData) (vs : List V), RpAll K H vs ds → DpAll K H vs ds
  | [], _, h => by cases h; exact .nil
  | d :: ds, _, h => by
    cases h with
    | cons h1 h2 => exact .cons (Rp.dp d _ h1) (RpAll.dp ds _ h2)
end
theorem RpAll.len {K : PySem.W.Frag} {H : Hp} : ∀ {ds : List PyData} {vs : List V}, RpAll K H vs ds → vs.length = ds.length
  | [], _, h => by cases h; rfl
  | d :: ds, _, h => by
    cases h with
    | cons h1 h2 => simp [RpAll.len h2]
theorem RpAll.get {K : PySem.W.Frag} {H : Hp} : ∀ {ds : List PyData} {vs : List V} {i : Nat} {d : PyData}, RpAll K H vs ds → ds[i]? = some d → ∃ v, vs[i]? = some v ∧ Rp K H v d
  | [], _, i, d, h, e => by simp at e
  | c :: ds, _, 0, d, h, e => by
    cases h with
    | cons h1 h2 =>
      simp at e
      subst e
      exact ⟨_, rfl, h1⟩
  | c :: ds, _, i + 1, d, h, e => by
    cases h with
    | cons h1 h2 =>
      obtain ⟨v, a, b⟩ := RpAll.get (i := i) (d := d) h2 (by simpa using e)
      exact ⟨v, by simpa using a, b⟩
theorem RpAll.app {K : PySem.W.Frag} {H : Hp} : ∀ {ds es : List PyData} {vs us : List V}, RpAll K H vs ds → RpAll K H us es → RpAll K H (vs ++ us) (ds ++ es)
  | [], _, _, _, h, k => by cases h; exact k
  | d :: ds, _, _, _, h, k => by
    cases h with
    | cons h1 h2 => exact .cons h1 (RpAll.app h2 k)
theorem RpAll.take {K : PySem.W.Frag} {H : Hp} : ∀ (n : Nat) {ds : List PyData} {vs : List V}, RpAll K H vs ds → RpAll K H (vs.take n) (ds.take n)
  | 0, _, _, _ => .nil
  | n + 1, [], _, h => by cases h; exact .nil
  | n + 1, d :: ds, _, h => by
    cases h with
    | cons h1 h2 => exact .cons h1 (RpAll.take n h2)
theorem RpAll.drop {K : PySem.W.Frag} {H : Hp} : ∀ (n : Nat) {ds : List PyData} {vs : List V}, RpAll K H vs ds → RpAll K H (vs.drop n) (ds.drop n)
  | 0, _, _, h => h
  | n + 1, [], _, h => by cases h; exact .nil
  | n + 1, d :: ds, _, h => by
    cases h with
    | cons h1 h2 => exact RpAll.drop n h2
theorem RpAll.rep {K : PySem.W.Frag} {H : Hp} {ds : List PyData} {vs : List V} (h : RpAll K H vs ds) : ∀ n : Nat, RpAll K H (List.replicate n vs).flatten (List.replicate n ds).flatten
  | 0 => .nil
  | n + 1 => by
    rw [List.replicate_succ, List.replicate_succ, List.flatten_cons, List.flatten_cons]
    exact h.app (RpAll.rep h n)

/-- what is known of a value, as long as the steady part of the heap only grows -/
structure Kind where
  ok : PySem.W.Frag → Hp → V → Prop
  up : ∀ K G G' v, Ex G G' → ok K G v → ok K G' v
inductive DV where
  | d (x : PyData)
  | v (x : V)
  | o (k : Kind)
def rel (K : PySem.W.Frag) (G : Hp) : DV → V → Prop
  | .d x, v => Rp K G v x
  | .v x, v => v = x
  | .o k, v => k.ok K G v
theorem rel.up {K : PySem.W.Frag} {G G' : Hp} (e : Ex G G') : ∀ {r : DV} {v : V}, rel K G r v → rel K G' r v
  | .d x, v, h => Ex.dp e x v h
  | .v x, v, h => h
  | .o k, v, h => k.up K G G' v e h
/-- the drawing list, two ints -/
def FeedAt (H : Hp) (a : Addr) : Prop := ∃ m n : Int, H a = some (.lst [.int m, .int n])
structure Sat (p : Option Addr) (G H : Hp) : Prop where
  ex : Ex G H
  fd : ∀ a, p = some a → G a = none ∧ FeedAt H a
structure Go (p : Option Addr) (G H G2 H2 : Hp) : Prop where
  ex : Ex G G2
  nw : ∀ a o, G2 a = some o → G a = some o ∨ H a = none
  sat : Sat p G2 H2
  kp : ∀ a o, p ≠ some a → H a = some o → H2 a = some o
theorem Go.refl {p : Option Addr} {G H : Hp} (s : Sat p G H) : Go p G H G H := ⟨.refl G, fun _ _ e => .inl e, s, fun _ _ _ e => e⟩
theorem Go.trans {p : Option Addr} {G H G1 H1 G2 H2 : Hp} (a : Go p G H G1 H1) (b : Go p G1 H1 G2 H2) (s : Sat p G H) : Go p G H G2 H2 :=
  ⟨a.ex.trans b.ex, (fun x o e => by
    rcases b.nw x o e with h | h
    · exact a.nw x o h
    · refine .inr ?_
      cases q : H x with
      | none => rfl
      | some u =>
        exfalso
        by_cases hp : p = some x
        · obtain ⟨_, m, n, z⟩ := a.sat.fd x hp
          rw [z] at h
          cases h
        · rw [a.kp x u hp q] at h
          cases h), b.sat, fun x o hp e => b.kp x o hp (a.kp x o hp e)⟩
theorem Sat.fresh {p : Option Addr} {G H : Hp} (s : Sat p G H) {a : Addr} (h : H a = none) : G a = none := by
  cases q : G a with
  | none => rfl
  | some o =>
    rw [s.ex a o q] at h
    cases h
theorem Sat.ne {p : Option Addr} {G H : Hp} (s : Sat p G H) {a : Addr} (h : H a = none) : p ≠ some a := fun e => by
  obtain ⟨_, m, n, z⟩ := s.fd a e
  rw [z] at h
  cases h
theorem Go.alloc {p : Option Addr} {G H : Hp} {a : Addr} {o : HO} (s : Sat p G H) (h : H a = none) : Go p G H (upd G a o) (upd H a o) := by
  have hg := s.fresh h
  refine ⟨Ex.new hg, fun x u e => ?_, ⟨fun x u e => ?_, fun x e => ?_⟩, fun x u _ e => by rw [upd_ne (ne_of_none e h)]; exact e⟩
  · by_cases hx : x = a
    · exact .inr (by rw [hx]; exact h)
    · rw [upd_ne hx] at e
      exact .inl e
  · by_cases hx : x = a
    · subst hx
      rw [upd_same] at e ⊢
      exact e
    · rw [upd_ne hx] at e ⊢
      exact s.ex x u e
  · obtain ⟨h1, m, n, h2⟩ := s.fd x e
    have hx : x ≠ a := fun z => s.ne h (z ▸ e)
    exact ⟨by rw [upd_ne hx]; exact h1, m, n, by rw [upd_ne hx]; exact h2⟩
/-- an object that isn't tracked in the steady part comes -/
theorem Go.side {p : Option Addr} {G H : Hp} {a : Addr} {o : HO} (s : Sat p G H) (h : H a = none) : Go p G H G (upd H a o) :=
  ⟨.refl G, fun _ _ e => .inl e, ⟨s.ex.trans (Ex.new h), fun x e => by
    obtain ⟨h1, m, n, h2⟩ := s.fd x e
    have hx : x ≠ a := fun z => s.ne h (z ▸ e)
    exact ⟨h1, m, n, by rw [upd_ne hx]; exact h2⟩⟩, fun x u _ e => by rw [upd_ne (ne_of_none e h)]; exact e⟩

/-- what is known of the slots -/
structure EnvD (K : PySem.W.Frag) (G : Hp) (δ : List (Option DV)) (σ : St) : Prop where
  len : δ.length = σ.length
  at_ : ∀ (i : Nat) (r : DV), δ[i]? = some (some r) → ∃ v, σ[i]? = some (some v) ∧ rel K G r v
theorem EnvD.up {K : PySem.W.Frag} {G G' : Hp} {δ : List (Option DV)} {σ : St} (h : EnvD K G δ σ) (e : Ex G G') : EnvD K G' δ σ :=
  ⟨h.len, fun i r q => let ⟨v, a, b⟩ := h.at_ i r q; ⟨v, a, b.up e⟩⟩
theorem EnvD.set {K : PySem.W.Frag} {G : Hp} {δ : List (Option DV)} {σ : St} (h : EnvD K G δ σ) {i : Nat} {r : DV} {v : V} (hr : rel K G r v) : EnvD K G (δ.set i (some r)) (σ.set i (some v)) := by
  refine ⟨by simp [h.len], fun j q e => ?_⟩
  by_cases hj : j = i
  · subst hj
    by_cases hl : j < δ.length
    · rw [List.getElem?_set_self hl] at e
      cases e
      exact ⟨v, List.getElem?_set_self (by rw [← h.len]; exact hl), hr⟩
    · rw [List.getElem?_eq_none (by simp; omega)] at e
      cases e
  · rw [List.getElem?_set_ne (Ne.symm hj)] at e ⊢
    exact h.at_ j q e

/-! ### what a piece of syntax does -/
def wpE (X : Cx) (e : Expr) : TE := fun σ H Q => ∀ (pins : List (Addr × Obj)) (s : Shared), Inv X pins σ H s → wpAny (model X.prog X.w) X.A (eval e X.env) (EP X pins σ Q) X.xe s
def wpT (X : Cx) (e : Expr) : TT := fun σ H Q => ∀ (pins : List (Addr × Obj)) (s : Shared), Inv X pins σ H s → wpAny (model X.prog X.w) X.A (isTrue e X.env (eval e X.env)) (TP X pins σ Q) X.xe s
def wpA (X : Cx) (es : List Expr) : TA := fun σ H Q => ∀ (pos : Pos) (pins : List (Addr × Obj)) (s : Shared), Inv X pins σ H s → wpAny (model X.prog X.w) X.A (spliced (backTo pos (starEach es X.env))) (AP X pins σ Q) X.xe s
def wpS (X : Cx) (st : Stmt) : TS := fun D σ H => ∀ (pins : List (Addr × Obj)) (s : Shared), Inv X pins σ H s → wpAny (model X.prog X.w) X.A (exec st X.env) (SP X pins D) X.xe s
def wpSs (X : Cx) (st : List Stmt) : TS := fun D σ H => ∀ (pins : List (Addr × Obj)) (s : Shared), Inv X pins σ H s → wpAny (model X.prog X.w) X.A (execs st X.env) (SP X pins D) X.xe s
def wpW (X : Cx) (e : Expr) : TT := fun σ H Q => ∀ (whole : Sem Value) (pins : List (Addr × Obj)) (s : Shared), Inv X pins σ H s → wpAny (model X.prog X.w) X.A (isTrue e X.env whole) (TP X pins σ Q) X.xe s
section
variable {X : Cx}
theorem peW (e : Expr) : PE X e (wpE X e) := ⟨fun pins s σ H Q I h => h pins s I⟩
theorem ptW (e : Expr) : PT X e (wpT X e) := ⟨fun pins s σ H Q I h => h pins s I⟩
theorem paW (es : List Expr) : PA X es (wpA X es) := ⟨fun pos pins s σ H Q I h => h pos pins s I⟩
theorem psW (st : Stmt) : PS X st (wpS X st) := ⟨fun pins s σ H D I h => h pins s I⟩
theorem pssW (st : List Stmt) : PSs X st (wpSs X st) := ⟨fun pins s σ H D I h => h pins s I⟩
theorem pwW (e : Expr) : PW X e (wpW X e) := ⟨fun wh pins s σ H Q I h => h wh pins s I⟩
theorem ofE {e : Expr} {t : TE} (h : PE X e t) {σ : St} {H : Hp} {Q : VK} (q : t σ H Q) : wpE X e σ H Q := fun pins s I => h.run pins s σ H Q I q
theorem ofT {e : Expr} {t : TT} (h : PT X e t) {σ : St} {H : Hp} {Q : Bool → Hp → Prop} (q : t σ H Q) : wpT X e σ H Q := fun pins s I => h.run pins s σ H Q I q
theorem ofW {e : Expr} {t : TT} (h : PW X e t) {σ : St} {H : Hp} {Q : Bool → Hp → Prop} (q : t σ H Q) : wpW X e σ H Q := fun wh pins s I => h.run wh pins s σ H Q I q
theorem ofA {es : List Expr} {t : TA} (h : PA X es t) {σ : St} {H : Hp} {Q : List V → Hp → Prop} (q : t σ H Q) : wpA X es σ H Q := fun pos pins s I => h.run pos pins s σ H Q I q
theorem ofS {st : Stmt} {t : TS} (h : PS X st t) {σ : St} {H : Hp} {D : Ends} (q : t D σ H) : wpS X st D σ H := fun pins s I => h.run pins s σ H D I q
theorem ofSs {st : List Stmt} {t : TS} (h : PSs X st t) {σ : St} {H : Hp} {D : Ends} (q : t D σ H) : wpSs X st D σ H := fun pins s I => h.run pins s σ H D I q
end

/-! ### the judgements over what is known -/
abbrev En := List (Option DV)
def DE (X : Cx) (p : Option Addr) (δ : En) (e : Expr) (Kp : DV → Prop) : Prop := ∀ σ G H, EnvD X.K G δ σ → Sat p G H → ∀ Q : VK, (∀ v r G2 H2, Kp r → Go p G H G2 H2 → rel X.K G2 r v → Q v H2) → wpE X e σ H Q
def DT (X : Cx) (p : Option Addr) (δ : En) (e : Expr) (Kp : Bool → Prop) : Prop := ∀ σ G H, EnvD X.K G δ σ → Sat p G H → ∀ Q : Bool → Hp → Prop, (∀ b G2 H2, Kp b → Go p G H G2 H2 → Q b H2) → wpT X e σ H Q
def DW (X : Cx) (p : Option Addr) (δ : En) (e : Expr) (Kp : Bool → Prop) : Prop := ∀ σ G H, EnvD X.K G δ σ → Sat p G H → ∀ Q : Bool → Hp → Prop, (∀ b G2 H2, Kp b → Go p G H G2 H2 → Q b H2) → wpW X e σ H Q
inductive Rels (K : PySem.W.Frag) (G : Hp) : List DV → List V → Prop
  | nil : Rels K G [] []
  | cons {r v rs vs} : rel K G r v → Rels K G rs vs → Rels K G (r :: rs) (v :: vs)
theorem Rels.up {K : PySem.W.Frag} {G G' : Hp} (e : Ex G G') : ∀ {rs : List DV} {vs : List V}, Rels K G rs vs → Rels K G' rs vs
  | _, _, .nil => .nil
  | _, _, .cons a b => .cons (a.up e) (Rels.up e b)
theorem Rels.length {K : PySem.W.Frag} {G : Hp} : ∀ {rs : List DV} {vs : List V}, Rels K G rs vs → vs.length = rs.length
  | _, _, .nil => rfl
  | _, _, .cons _ b => by simp [Rels.length b]
theorem Rels.dp {K : PySem.W.Frag} {G : Hp} : ∀ {ds : List PyData} {vs : List V}, Rels K G (ds.map DV.d) vs → RpAll K G vs ds
  | [], _, h => by cases h; exact .nil
  | d :: ds, _, h => by
    cases h with
    | cons a b => exact .cons a (Rels.dp b)
theorem Rels.ofDp {K : PySem.W.Frag} {G : Hp} : ∀ {ds : List PyData} {vs : List V}, RpAll K G vs ds → Rels K G (ds.map DV.d) vs
  | [], _, h => by cases h; exact .nil
  | d :: ds, _, h => by
    cases h with
    | cons a b => exact .cons a (Rels.ofDp b)
def DA (X : Cx) (p : Option Addr) (δ : En) (es : List Expr) (Kp : List DV → Prop) : Prop := ∀ σ G H, EnvD X.K G δ σ → Sat p G H → ∀ Q : List V → Hp → Prop, (∀ vs rs G2 H2, Kp rs → Go p G H G2 H2 → Rels X.K G2 rs vs → Q vs H2) → wpA X es σ H Q
/-- a statement's ends -/
inductive Out where
  | nx (δ : En) | rt (r : DV) | bk (δ : En) | ct (δ : En)
structure EndsOk (X : Cx) (p : Option Addr) (G H : Hp) (P : Out → Prop) (D : Ends) : Prop where
  nx : ∀ δ σ G2 H2, P (.nx δ) → Go p G H G2 H2 → EnvD X.K G2 δ σ → D.nx σ H2
  rt : ∀ r v G2 H2, P (.rt r) → Go p G H G2 H2 → rel X.K G2 r v → D.rt v H2
  bk : ∀ δ σ G2 H2, P (.bk δ) → Go p G H G2 H2 → EnvD X.K G2 δ σ → D.bk σ H2
  ct : ∀ δ σ G2 H2, P (.ct δ) → Go p G H G2 H2 → EnvD X.K G2 δ σ → D.ct σ H2
def DS (X : Cx) (p : Option Addr) (δ : En) (st : Stmt) (P : Out → Prop) : Prop := ∀ σ G H, EnvD X.K G δ σ → Sat p G H → ∀ D : Ends, EndsOk X p G H P D → wpS X st D σ H
def DSs (X : Cx) (p : Option Addr) (δ : En) (st : List Stmt) (P : Out → Prop) : Prop := ∀ σ G H, EnvD X.K G δ σ → Sat p G H → ∀ D : Ends, EndsOk X p G H P D → wpSs X st D σ H

section
variable {X : Cx} {p : Option Addr} {δ : En} {Kp : DV → Prop} {a b c e : Expr} {pos : Pos}
theorem DE.imp {Kq : DV → Prop} (h : DE X p δ e Kp) (k : ∀ r, Kp r → Kq r) : DE X p δ e Kq := fun σ G H he hs Q hq => h σ G H he hs Q fun v r G2 H2 q => hq v r G2 H2 (k r q)
theorem de_var {i : Nat} {x : Str} {r : DV} (hN : X.N[i]? = some x) (hv : Vis X.env.scope x) (hr : δ[i]? = some (some r)) (k : Kp r)
    (hd : (x == ("__debug__" : Str)) = false := by decide) (hcd : (x == ("__classdict__" : Str)) = false := by decide) : DE X p δ (.Name x pos) Kp := fun σ G H he hs Q hq => by
  obtain ⟨v, h1, h2⟩ := he.at_ i r hr
  exact ofE (pe_var hN hv hd hcd) ⟨v, h1, hq v r G H k (.refl hs) h2⟩
theorem de_int {i j} (k : Kp (.d (.int i))) : DE X p δ (.Constant (.int i) j pos) Kp := fun σ G H he hs Q hq => ofE pe_int (hq _ _ G H k (.refl hs) (Rp.int i))
theorem de_bl {i j} (k : Kp (.d (.bool i))) : DE X p δ (.Constant (.bool i) j pos) Kp := fun σ G H he hs Q hq => ofE pe_bl (hq _ _ G H k (.refl hs) (Rp.bl i))
theorem de_non {j} (k : Kp (.d .none)) : DE X p δ (.Constant .none j pos) Kp := fun σ G H he hs Q hq => ofE pe_non (hq _ _ G H k (.refl hs) Rp.non)
theorem de_str {i j} (k : Kp (.d (.str i))) : DE X p δ (.Constant (.str i) j pos) Kp := fun σ G H he hs Q hq => ofE pe_str (hq _ _ G H k (.refl hs) (Rp.str i))
theorem de_glob {x : Str} {v : V} {u : Value} {r : DV} (hg : Gl X x) (hm : X.mg x = some u) (rv : RelV v u) (hr : ∀ G, rel X.K G r v) (k : Kp r) (hd : (x == ("__debug__" : Str)) = false := by decide) : DE X p δ (.Name x pos) Kp :=
  fun σ G H he hs Q hq => ofE (pe_glob hg hm rv hd) (hq v r G H k (.refl hs) (hr G))

/-- two operands, an operation by values -/
theorem de_op2 {R : R2} {t : TE → TE → TE} (ht : ∀ ta tb, PE X a ta → PE X b tb → PE X e (t ta tb)) (hR : ∀ ta tb σ H Q, ta σ H (fun x H1 => tb σ H1 fun y H2 => R x y H2 Q) → t ta tb σ H Q)
    (h : DE X p δ a fun x => DE X p δ b fun y => ∀ G H vx vy, Sat p G H → rel X.K G x vx → rel X.K G y vy → ∀ Q : VK, (∀ v r G2 H2, Kp r → Go p G H G2 H2 → rel X.K G2 r v → Q v H2) → R vx vy H Q) : DE X p δ e Kp := fun σ G H he hs Q hq => by
  refine ofE (ht _ _ (peW a) (peW b)) (hR _ _ _ _ _ ?_)
  refine h σ G H he hs _ fun vx x G1 H1 kx g1 rx => ?_
  refine kx σ G1 H1 (he.up g1.ex) g1.sat _ fun vy y G2 H2 ky g2 ry => ?_
  exact ky G2 H2 vx vy g2.sat (rx.up g2.ex) ry Q fun v r G3 H3 kr g3 rr => hq v r G3 H3 kr ((g1.trans g2 hs).trans g3 hs) rr
theorem de_bop {op : Operator} {R : R2} (ho : OpR X (binaryOp op) R)
    (h : DE X p δ a fun x => DE X p δ b fun y => ∀ G H vx vy, Sat p G H → rel X.K G x vx → rel X.K G y vy → ∀ Q : VK, (∀ v r G2 H2, Kp r → Go p G H G2 H2 → rel X.K G2 r v → Q v H2) → R vx vy H Q) : DE X p δ (.BinOp a op b pos) Kp :=
  de_op2 (t := tOp R) (fun _ _ ha hb => pe_op ho ha hb) (fun _ _ _ _ _ h => h) h
theorem de_cmp {op : CmpOp} {R : R2} (ho : OpR X (compareOp op) R) (hm : behindInMarks op b = false)
    (h : DE X p δ a fun x => DE X p δ b fun y => ∀ G H vx vy, Sat p G H → rel X.K G x vx → rel X.K G y vy → ∀ Q : VK, (∀ v r G2 H2, Kp r → Go p G H G2 H2 → rel X.K G2 r v → Q v H2) → R vx vy H Q) : DE X p δ (.Compare a [op] [b] pos) Kp :=
  de_op2 (t := tOp R) (fun _ _ ha hb => pe_cmpR ho ha hb hm) (fun _ _ _ _ _ h => h) h
end
end Z
end

section
set_option linter.all false
set_option maxRecDepth 100000
set_option maxHeartbeats 2000000
namespace Z
open PySem L2
section
variable {X : Cx} {p : Option Addr} {δ : En} {Kp : DV → Prop} {a b c e : Expr} {pos : Pos}

/-- what two operands must give -/
def H2 (X : Cx) (p : Option Addr) (δ : En) (a b : Expr) (R : R2) (Kp : DV → Prop) : Prop := DE X p δ a fun x => DE X p δ b fun y => ∀ G H vx vy, Sat p G H → rel X.K G x vx → rel X.K G y vy → ∀ Q : VK, (∀ v r G2 H2, Kp r → Go p G H G2 H2 → rel X.K G2 r v → Q v H2) → R vx vy H Q
theorem dt_cmp0 {op : CmpOp} {R : R2} {Kb : Bool → Prop} (ho : OpR X (compareOp op) R) (hm : behindInMarks op b = false) (h : H2 X p δ a b R fun x => ∃ t, x = .d (.bool t) ∧ Kb t) : DT X p δ (.Compare a [op] [b] pos) Kb := fun σ G H he hs Q hq => by
  refine ofT (pt_cmpR ho (peW a) (peW b) hm) ?_
  refine h σ G H he hs _ fun vx x G1 H1 kx g1 rx => ?_
  refine kx σ G1 H1 (he.up g1.ex) g1.sat _ fun vy y G2 H2 ky g2 ry => ?_
  refine ky G2 H2 vx vy g2.sat (rx.up g2.ex) ry _ fun v r G3 H3 ⟨t, hr, kt⟩ g3 rr => ?_
  subst hr
  cases rr
  exact ⟨t, rfl, hq t G3 H3 kt ((g1.trans g2 hs).trans g3 hs)⟩
/-! ### ints -/
theorem de_bopI {op : Operator} {C : Int → Int → Prop} {g : Int → Int → Int} (ho : OpR X (binaryOp op) (rI C fun i j => .int (g i j)))
    (h : DE X p δ a fun x => ∃ i, x = .d (.int i) ∧ DE X p δ b fun y => ∃ j, y = .d (.int j) ∧ C i j ∧ Kp (.d (.int (g i j)))) : DE X p δ (.BinOp a op b pos) Kp :=
  de_bop ho (h.imp fun x ⟨i, hx, hb⟩ => hb.imp fun y ⟨j, hy, hc, k⟩ G H vx vy s rx ry Q q => by
    subst hx hy
    cases rx
    cases ry
    exact ⟨i, j, rfl, rfl, hc, q _ _ G H k (.refl s) (Rp.int _)⟩)
theorem de_bopI0 {op : Operator} {g : Int → Int → Int} (ho : OpR X (binaryOp op) (rI0 fun i j => .int (g i j)))
    (h : DE X p δ a fun x => ∃ i, x = .d (.int i) ∧ DE X p δ b fun y => ∃ j, y = .d (.int j) ∧ Kp (.d (.int (g i j)))) : DE X p δ (.BinOp a op b pos) Kp :=
  de_bop ho (h.imp fun x ⟨i, hx, hb⟩ => hb.imp fun y ⟨j, hy, k⟩ G H vx vy s rx ry Q q => by
    subst hx hy
    cases rx
    cases ry
    exact ⟨i, j, rfl, rfl, q _ _ G H k (.refl s) (Rp.int _)⟩)
theorem de_add (h : DE X p δ a fun x => ∃ i, x = .d (.int i) ∧ DE X p δ b fun y => ∃ j, y = .d (.int j) ∧ Kp (.d (.int (i + j)))) : DE X p δ (.BinOp a .Add b pos) Kp := de_bopI0 op_add h
theorem de_sub (h : DE X p δ a fun x => ∃ i, x = .d (.int i) ∧ DE X p δ b fun y => ∃ j, y = .d (.int j) ∧ Kp (.d (.int (i - j)))) : DE X p δ (.BinOp a .Sub b pos) Kp := de_bopI0 op_sub h
theorem de_mul (h : DE X p δ a fun x => ∃ i, x = .d (.int i) ∧ DE X p δ b fun y => ∃ j, y = .d (.int j) ∧ CMul i j ∧ Kp (.d (.int (i * j)))) : DE X p δ (.BinOp a .Mult b pos) Kp := de_bopI op_mul h
theorem de_fdiv (h : DE X p δ a fun x => ∃ i, x = .d (.int i) ∧ DE X p δ b fun y => ∃ j, y = .d (.int j) ∧ CDiv i j ∧ Kp (.d (.int (i / j)))) : DE X p δ (.BinOp a .FloorDiv b pos) Kp := de_bopI op_fdiv h
theorem de_mod (h : DE X p δ a fun x => ∃ i, x = .d (.int i) ∧ DE X p δ b fun y => ∃ j, y = .d (.int j) ∧ 0 < j ∧ Kp (.d (.int (i % j)))) : DE X p δ (.BinOp a .Mod b pos) Kp := de_bopI op_mod h
theorem de_pow (h : DE X p δ a fun x => ∃ i, x = .d (.int i) ∧ DE X p δ b fun y => ∃ j, y = .d (.int j) ∧ CPow i j ∧ Kp (.d (.int (i ^ j.toNat)))) : DE X p δ (.BinOp a .Pow b pos) Kp := de_bopI op_pow h
theorem h_cmpI {g : Int → Int → Bool} (h : DE X p δ a fun x => ∃ i, x = .d (.int i) ∧ DE X p δ b fun y => ∃ j, y = .d (.int j) ∧ Kp (.d (.bool (g i j)))) : H2 X p δ a (b) (rI0 fun i j => .bl (g i j)) Kp :=
  h.imp fun x ⟨i, hx, hb⟩ => hb.imp fun y ⟨j, hy, k⟩ G H vx vy s rx ry Q q => by
    subst hx hy
    cases rx
    cases ry
    exact ⟨i, j, rfl, rfl, q _ _ G H k (.refl s) (Rp.bl _)⟩
theorem de_cmpI {op : CmpOp} {g : Int → Int → Bool} (ho : OpR X (compareOp op) (rI0 fun i j => .bl (g i j))) (hm : behindInMarks op b = false)
    (h : DE X p δ a fun x => ∃ i, x = .d (.int i) ∧ DE X p δ b fun y => ∃ j, y = .d (.int j) ∧ Kp (.d (.bool (g i j)))) : DE X p δ (.Compare a [op] [b] pos) Kp := de_cmp ho hm (h_cmpI h)
theorem dt_cmpI {Kb : Bool → Prop} {op : CmpOp} {g : Int → Int → Bool} (ho : OpR X (compareOp op) (rI0 fun i j => .bl (g i j))) (hm : behindInMarks op b = false)
    (h : DE X p δ a fun x => ∃ i, x = .d (.int i) ∧ DE X p δ b fun y => ∃ j, y = .d (.int j) ∧ Kb ((g i j))) : DT X p δ (.Compare a [op] [b] pos) Kb := dt_cmp0 ho hm (h_cmpI (h.imp fun x ⟨i, hx, hb⟩ => ⟨i, hx, hb.imp fun y ⟨j, hy, k⟩ => ⟨j, hy, _, rfl, k⟩⟩))
theorem dt_lt {Kb : Bool → Prop} (h : DE X p δ a fun x => ∃ i, x = .d (.int i) ∧ DE X p δ b fun y => ∃ j, y = .d (.int j) ∧ Kb (decide (i < j))) : DT X p δ (.Compare a [.Lt] [b] pos) Kb := dt_cmpI op_lt (nomark _) h
theorem de_lt (h : DE X p δ a fun x => ∃ i, x = .d (.int i) ∧ DE X p δ b fun y => ∃ j, y = .d (.int j) ∧ Kp (.d (.bool (decide (i < j))))) : DE X p δ (.Compare a [.Lt] [b] pos) Kp := de_cmpI op_lt (nomark _) h
theorem dt_le {Kb : Bool → Prop} (h : DE X p δ a fun x => ∃ i, x = .d (.int i) ∧ DE X p δ b fun y => ∃ j, y = .d (.int j) ∧ Kb (decide (i ≤ j))) : DT X p δ (.Compare a [.LtE] [b] pos) Kb := dt_cmpI op_le (nomark _) h
theorem de_le (h : DE X p δ a fun x => ∃ i, x = .d (.int i) ∧ DE X p δ b fun y => ∃ j, y = .d (.int j) ∧ Kp (.d (.bool (decide (i ≤ j))))) : DE X p δ (.Compare a [.LtE] [b] pos) Kp := de_cmpI op_le (nomark _) h
theorem dt_gt {Kb : Bool → Prop} (h : DE X p δ a fun x => ∃ i, x = .d (.int i) ∧ DE X p δ b fun y => ∃ j, y = .d (.int j) ∧ Kb (decide (j < i))) : DT X p δ (.Compare a [.Gt] [b] pos) Kb := dt_cmpI op_gt (nomark _) h
theorem de_gt (h : DE X p δ a fun x => ∃ i, x = .d (.int i) ∧ DE X p δ b fun y => ∃ j, y = .d (.int j) ∧ Kp (.d (.bool (decide (j < i))))) : DE X p δ (.Compare a [.Gt] [b] pos) Kp := de_cmpI op_gt (nomark _) h
theorem dt_ge {Kb : Bool → Prop} (h : DE X p δ a fun x => ∃ i, x = .d (.int i) ∧ DE X p δ b fun y => ∃ j, y = .d (.int j) ∧ Kb (decide (j ≤ i))) : DT X p δ (.Compare a [.GtE] [b] pos) Kb := dt_cmpI op_ge (nomark _) h
theorem de_ge (h : DE X p δ a fun x => ∃ i, x = .d (.int i) ∧ DE X p δ b fun y => ∃ j, y = .d (.int j) ∧ Kp (.d (.bool (decide (j ≤ i))))) : DE X p δ (.Compare a [.GtE] [b] pos) Kp := de_cmpI op_ge (nomark _) h
/-- lo <= x < hi -/
theorem de_chain {op op' : CmpOp} {g g' : Int → Int → Bool} (hm : lastMarks [op, op'] [b, c] = false) (ho : OpR X (compareOp op) (rI0 fun i j => .bl (g i j))) (ho' : OpR X (compareOp op') (rI0 fun i j => .bl (g' i j)))
    (h : DE X p δ a fun x => ∃ i, x = .d (.int i) ∧ DE X p δ b fun y => ∃ j, y = .d (.int j) ∧ (g i j = true → DE X p δ c fun z => ∃ k, z = .d (.int k) ∧ Kp (.d (.bool (g' j k)))) ∧ (g i j = false → Kp (.d (.bool false)))) : DE X p δ (.Compare a [op, op'] [b, c] pos) Kp := fun σ G H he hs Q hq => by
  refine ofE (pe_chain ho ho' (peW a) (peW b) (peW c) (hm := hm)) ?_
  refine h σ G H he hs _ fun vx x G1 H1 ⟨i, hx, hb⟩ g1 rx => ?_
  subst hx
  cases rx
  refine hb σ G1 H1 (he.up g1.ex) g1.sat _ fun vy y G2 H2 ⟨j, hy, k1, k2⟩ g2 ry => ?_
  subst hy
  cases ry
  refine ⟨i, j, rfl, rfl, _, rfl, ?_⟩
  have g12 := g1.trans g2 hs
  cases hg : g i j with
  | true =>
    rw [if_pos rfl]
    refine k1 hg σ G2 H2 (he.up g12.ex) g2.sat _ fun vz z G3 H3 ⟨k, hz, kk⟩ g3 rz => ?_
    subst hz
    cases rz
    exact ⟨j, k, rfl, rfl, hq _ _ G3 H3 kk (g12.trans g3 hs) (Rp.bl _)⟩
  | false =>
    rw [if_neg Bool.false_ne_true]
    exact hq _ _ G2 H2 (k2 hg) g12 (Rp.bl _)

theorem dt_chain {op op' : CmpOp} {g g' : Int → Int → Bool} {Kb : Bool → Prop} (hm : lastMarks [op, op'] [b, c] = false) (ho : OpR X (compareOp op) (rI0 fun i j => .bl (g i j))) (ho' : OpR X (compareOp op') (rI0 fun i j => .bl (g' i j)))
    (h : DE X p δ a fun x => ∃ i, x = .d (.int i) ∧ DE X p δ b fun y => ∃ j, y = .d (.int j) ∧ (g i j = true → DE X p δ c fun z => ∃ k, z = .d (.int k) ∧ Kb (g' j k)) ∧ (g i j = false → Kb false)) : DT X p δ (.Compare a [op, op'] [b, c] pos) Kb := fun σ G H he hs Q hq => by
  refine ofT (pt_chain ho ho' (peW a) (peW b) (peW c) (hm := hm)) ?_
  refine h σ G H he hs _ fun vx x G1 H1 ⟨i, hx, hb⟩ g1 rx => ?_
  subst hx
  cases rx
  refine hb σ G1 H1 (he.up g1.ex) g1.sat _ fun vy y G2 H2 ⟨j, hy, k1, k2⟩ g2 ry => ?_
  subst hy
  cases ry
  have g12 := g1.trans g2 hs
  refine ⟨i, j, rfl, rfl, _, rfl, ?_⟩
  cases hg : g i j with
  | true =>
    rw [if_pos rfl]
    refine k1 hg σ G2 H2 (he.up g12.ex) g2.sat _ fun vz z G3 H3 ⟨k, hz, kk⟩ g3 rz => ?_
    subst hz
    cases rz
    exact ⟨j, k, rfl, rfl, _, rfl, hq _ G3 H3 kk (g12.trans g3 hs)⟩
  | false =>
    rw [if_neg Bool.false_ne_true]
    exact ⟨_, rfl, hq _ G2 H2 (k2 hg) g12⟩

/-! ### equality, in, is -/
theorem h_eqD (h : DE X p δ a fun x => ∃ d, x = .d d ∧ SeqAt.shaped d = true ∧ DE X p δ b fun y => ∃ d', y = .d d' ∧ SeqAt.shaped d' = true ∧ Kp (.d (.bool (PyData.eqv d d')))) : H2 X p δ a (b) (rEqD X.K) Kp :=
  h.imp fun x ⟨d, hx, s1, hb⟩ => hb.imp fun y ⟨d', hy, s2, k⟩ G H vx vy s rx ry Q q => by
    subst hx hy
    exact ⟨d, d', Rp.dp _ _ (Ex.dp s.ex _ _ rx), Rp.dp _ _ (Ex.dp s.ex _ _ ry), s1, s2, q _ _ G H k (.refl s) (Rp.bl _)⟩
theorem de_eqD (hu : X.A.units + 64 < cLine) (h : DE X p δ a fun x => ∃ d, x = .d d ∧ SeqAt.shaped d = true ∧ DE X p δ b fun y => ∃ d', y = .d d' ∧ SeqAt.shaped d' = true ∧ Kp (.d (.bool (PyData.eqv d d')))) : DE X p δ (.Compare a [.Eq] [b] pos) Kp := de_cmp (op_eqD hu) (nomark _) (h_eqD h)
theorem dt_eqD {Kb : Bool → Prop} (hu : X.A.units + 64 < cLine) (h : DE X p δ a fun x => ∃ d, x = .d d ∧ SeqAt.shaped d = true ∧ DE X p δ b fun y => ∃ d', y = .d d' ∧ SeqAt.shaped d' = true ∧ Kb ((PyData.eqv d d'))) : DT X p δ (.Compare a [.Eq] [b] pos) Kb := dt_cmp0 (op_eqD hu) (nomark _) (h_eqD (h.imp fun x ⟨d, hx, s1, hb⟩ => ⟨d, hx, s1, hb.imp fun y ⟨d', hy, s2, k⟩ => ⟨d', hy, s2, _, rfl, k⟩⟩))
theorem h_neD (h : DE X p δ a fun x => ∃ d, x = .d d ∧ SeqAt.shaped d = true ∧ DE X p δ b fun y => ∃ d', y = .d d' ∧ SeqAt.shaped d' = true ∧ Kp (.d (.bool (!PyData.eqv d d')))) : H2 X p δ a (b) (rNeD X.K) Kp :=
  h.imp fun x ⟨d, hx, s1, hb⟩ => hb.imp fun y ⟨d', hy, s2, k⟩ G H vx vy s rx ry Q q => by
    subst hx hy
    exact ⟨d, d', Rp.dp _ _ (Ex.dp s.ex _ _ rx), Rp.dp _ _ (Ex.dp s.ex _ _ ry), s1, s2, q _ _ G H k (.refl s) (Rp.bl _)⟩
theorem de_neD (hu : X.A.units + 64 < cLine) (h : DE X p δ a fun x => ∃ d, x = .d d ∧ SeqAt.shaped d = true ∧ DE X p δ b fun y => ∃ d', y = .d d' ∧ SeqAt.shaped d' = true ∧ Kp (.d (.bool (!PyData.eqv d d')))) : DE X p δ (.Compare a [.NotEq] [b] pos) Kp := de_cmp (op_neD hu) (nomark _) (h_neD h)
theorem dt_neD {Kb : Bool → Prop} (hu : X.A.units + 64 < cLine) (h : DE X p δ a fun x => ∃ d, x = .d d ∧ SeqAt.shaped d = true ∧ DE X p δ b fun y => ∃ d', y = .d d' ∧ SeqAt.shaped d' = true ∧ Kb ((!PyData.eqv d d'))) : DT X p δ (.Compare a [.NotEq] [b] pos) Kb := dt_cmp0 (op_neD hu) (nomark _) (h_neD (h.imp fun x ⟨d, hx, s1, hb⟩ => ⟨d, hx, s1, hb.imp fun y ⟨d', hy, s2, k⟩ => ⟨d', hy, s2, _, rfl, k⟩⟩))
/-- x in t, t a list or tuple of data -/
def itemsOf : PyData → Option (List PyData)
  | .list ds => some ds
  | .tuple ds => some ds
  | _ => none
def rInS (K : PySem.W.Frag) (neg : Bool) : R2 := fun x y H Q => ∃ d c ds, Dp K H x d ∧ Dp K H y c ∧ itemsOf c = some ds ∧ SeqAt.shaped d = true ∧ SeqAt.shaped c = true ∧ Q (.bl (if neg then !ds.any (fun z => PyData.eqv z d) else ds.any (fun z => PyData.eqv z d))) H
theorem canLayAll_of {ds : List PyData} {c : PyData} (h : SeqAt.shaped c = true) (e : itemsOf c = some ds) : PyData.canLayAll0 ds = true := by
  have q := SeqAt.canLay_of_shaped h
  cases c with
  | list xs => cases e; exact q
  | tuple xs => cases e; exact q
  | none => cases e
  | bool _ => cases e
  | int _ => cases e
  | str _ => cases e
  | dict _ => cases e
theorem op_inS (hu : X.A.units + 65 < cLine) : OpR X (compareOp .In) (rInS X.K false) := by
  intro pins s σ H x y v u Q I rx ry h
  obtain ⟨d, c, ds, hd, hc, e, sd, sc, q⟩ := h
  obtain ⟨as, r1⟩ := Dp.reads I d x v hd rx
  obtain ⟨bs, r2⟩ := Dp.reads I c y u hc ry
  have hl := canLayAll_of sc e
  cases c with
  | list xs => cases e; exact SeqAt.in_list_reads r2 r1 hl (SeqAt.canLay_of_shaped sd) (PyProof.Rows.room_in_shaped sd hu) ⟨.bl _, H, I, rfl, q⟩
  | tuple xs => cases e; exact SeqAt.in_tuple_reads r2 r1 hl (SeqAt.canLay_of_shaped sd) (PyProof.Rows.room_in_shaped sd hu) ⟨.bl _, H, I, rfl, q⟩
  | none => cases e
  | bool _ => cases e
  | int _ => cases e
  | str _ => cases e
  | dict _ => cases e
theorem op_notInS (hu : X.A.units + 65 < cLine) : OpR X (compareOp .NotIn) (rInS X.K true) := by
  intro pins s σ H x y v u Q I rx ry h
  obtain ⟨d, c, ds, hd, hc, e, sd, sc, q⟩ := h
  obtain ⟨as, r1⟩ := Dp.reads I d x v hd rx
  obtain ⟨bs, r2⟩ := Dp.reads I c y u hc ry
  have hl := canLayAll_of sc e
  cases c with
  | list xs => cases e; exact SeqAt.notIn_list_reads r2 r1 hl (SeqAt.canLay_of_shaped sd) (PyProof.Rows.room_in_shaped sd hu) ⟨.bl _, H, I, rfl, q⟩
  | tuple xs => cases e; exact SeqAt.notIn_tuple_reads r2 r1 hl (SeqAt.canLay_of_shaped sd) (PyProof.Rows.room_in_shaped sd hu) ⟨.bl _, H, I, rfl, q⟩
  | none => cases e
  | bool _ => cases e
  | int _ => cases e
  | str _ => cases e
  | dict _ => cases e
theorem h_in (h : DE X p δ a fun x => ∃ d, x = .d d ∧ SeqAt.shaped d = true ∧ DE X p δ b fun y => ∃ c ds, y = .d c ∧ itemsOf c = some ds ∧ SeqAt.shaped c = true ∧ Kp (.d (.bool (ds.any fun z => PyData.eqv z d)))) : H2 X p δ a (b) (rInS X.K false) Kp :=
  h.imp fun x ⟨d, hx, s1, hb⟩ => hb.imp fun y ⟨c, ds, hy, e, s2, k⟩ G H vx vy s rx ry Q q => by
    subst hx hy
    exact ⟨d, c, ds, Rp.dp _ _ (Ex.dp s.ex _ _ rx), Rp.dp _ _ (Ex.dp s.ex _ _ ry), e, s1, s2, q _ _ G H k (.refl s) (Rp.bl _)⟩
theorem de_in (hu : X.A.units + 65 < cLine) (hm : behindInMarks .In b = false) (h : DE X p δ a fun x => ∃ d, x = .d d ∧ SeqAt.shaped d = true ∧ DE X p δ b fun y => ∃ c ds, y = .d c ∧ itemsOf c = some ds ∧ SeqAt.shaped c = true ∧ Kp (.d (.bool (ds.any fun z => PyData.eqv z d)))) : DE X p δ (.Compare a [.In] [b] pos) Kp := de_cmp (op_inS hu) hm (h_in h)
theorem dt_in {Kb : Bool → Prop} (hu : X.A.units + 65 < cLine) (hm : behindInMarks .In b = false) (h : DE X p δ a fun x => ∃ d, x = .d d ∧ SeqAt.shaped d = true ∧ DE X p δ b fun y => ∃ c ds, y = .d c ∧ itemsOf c = some ds ∧ SeqAt.shaped c = true ∧ Kb ((ds.any fun z => PyData.eqv z d))) : DT X p δ (.Compare a [.In] [b] pos) Kb := dt_cmp0 (op_inS hu) hm (h_in (h.imp fun x ⟨d, hx, s1, hb⟩ => ⟨d, hx, s1, hb.imp fun y ⟨c, ds, hy, e, s2, k⟩ => ⟨c, ds, hy, e, s2, _, rfl, k⟩⟩))
theorem h_notIn (h : DE X p δ a fun x => ∃ d, x = .d d ∧ SeqAt.shaped d = true ∧ DE X p δ b fun y => ∃ c ds, y = .d c ∧ itemsOf c = some ds ∧ SeqAt.shaped c = true ∧ Kp (.d (.bool (!ds.any fun z => PyData.eqv z d)))) : H2 X p δ a (b) (rInS X.K true) Kp :=
  h.imp fun x ⟨d, hx, s1, hb⟩ => hb.imp fun y ⟨c, ds, hy, e, s2, k⟩ G H vx vy s rx ry Q q => by
    subst hx hy
    exact ⟨d, c, ds, Rp.dp _ _ (Ex.dp s.ex _ _ rx), Rp.dp _ _ (Ex.dp s.ex _ _ ry), e, s1, s2, q _ _ G H k (.refl s) (Rp.bl _)⟩
theorem de_notIn (hu : X.A.units + 65 < cLine) (hm : behindInMarks .NotIn b = false) (h : DE X p δ a fun x => ∃ d, x = .d d ∧ SeqAt.shaped d = true ∧ DE X p δ b fun y => ∃ c ds, y = .d c ∧ itemsOf c = some ds ∧ SeqAt.shaped c = true ∧ Kp (.d (.bool (!ds.any fun z => PyData.eqv z d)))) : DE X p δ (.Compare a [.NotIn] [b] pos) Kp := de_cmp (op_notInS hu) hm (h_notIn h)
theorem dt_notIn {Kb : Bool → Prop} (hu : X.A.units + 65 < cLine) (hm : behindInMarks .NotIn b = false) (h : DE X p δ a fun x => ∃ d, x = .d d ∧ SeqAt.shaped d = true ∧ DE X p δ b fun y => ∃ c ds, y = .d c ∧ itemsOf c = some ds ∧ SeqAt.shaped c = true ∧ Kb ((!ds.any fun z => PyData.eqv z d))) : DT X p δ (.Compare a [.NotIn] [b] pos) Kb := dt_cmp0 (op_notInS hu) hm (h_notIn (h.imp fun x ⟨d, hx, s1, hb⟩ => ⟨d, hx, s1, hb.imp fun y ⟨c, ds, hy, e, s2, k⟩ => ⟨c, ds, hy, e, s2, _, rfl, k⟩⟩))
def isNone : DV → Bool
  | .d .none => true
  | .v .non => true
  | _ => false
theorem rel_none {K : PySem.W.Frag} {G : Hp} : ∀ {d : PyData} {v : V}, Rp K G v d → decide (v = .non) = (match d with | .none => true | _ => false)
  | _, _, .non => rfl
  | _, _, .bl _ => rfl
  | _, _, .int _ => rfl
  | _, _, .str _ => rfl
  | _, _, .lst _ _ => rfl
  | _, _, .tup _ _ => rfl
theorem h_isN {j pos'} (h : DE X p δ a fun x => ∃ d, x = .d d ∧ Kp (.d (.bool (match d with | .none => true | _ => false)))) : H2 X p δ a (.Constant .none j pos') (fun x y H Q => y = .non ∧ Q (.bl (decide (x = .non))) H) Kp :=
  h.imp fun x ⟨d, hx, k⟩ => de_non fun G H vx vy s rx ry Q q => by
    subst hx
    cases ry
    refine ⟨rfl, q _ _ G H k (.refl s) ?_⟩
    rw [rel_none rx]
    exact Rp.bl _
theorem de_isN {j pos'} (h : DE X p δ a fun x => ∃ d, x = .d d ∧ Kp (.d (.bool (match d with | .none => true | _ => false)))) : DE X p δ (.Compare a [.Is] [.Constant .none j pos'] pos) Kp := de_cmp op_isN (nomark _) (h_isN h)
theorem dt_isN {Kb : Bool → Prop} {j pos'} (h : DE X p δ a fun x => ∃ d, x = .d d ∧ Kb ((match d with | .none => true | _ => false))) : DT X p δ (.Compare a [.Is] [.Constant .none j pos'] pos) Kb := dt_cmp0 op_isN (nomark _) (h_isN (h.imp fun x ⟨d, hx, k⟩ => ⟨d, hx, _, rfl, k⟩))
theorem h_notN {j pos'} (h : DE X p δ a fun x => ∃ d, x = .d d ∧ Kp (.d (.bool (!match d with | .none => true | _ => false)))) : H2 X p δ a (.Constant .none j pos') (fun x y H Q => y = .non ∧ Q (.bl (!decide (x = .non))) H) Kp :=
  h.imp fun x ⟨d, hx, k⟩ => de_non fun G H vx vy s rx ry Q q => by
    subst hx
    cases ry
    refine ⟨rfl, q _ _ G H k (.refl s) ?_⟩
    rw [rel_none rx]
    exact Rp.bl _
theorem de_notN {j pos'} (h : DE X p δ a fun x => ∃ d, x = .d d ∧ Kp (.d (.bool (!match d with | .none => true | _ => false)))) : DE X p δ (.Compare a [.IsNot] [.Constant .none j pos'] pos) Kp := de_cmp op_notN (nomark _) (h_notN h)
theorem dt_notN {Kb : Bool → Prop} {j pos'} (h : DE X p δ a fun x => ∃ d, x = .d d ∧ Kb ((!match d with | .none => true | _ => false))) : DT X p δ (.Compare a [.IsNot] [.Constant .none j pos'] pos) Kb := dt_cmp0 op_notN (nomark _) (h_notN (h.imp fun x ⟨d, hx, k⟩ => ⟨d, hx, _, rfl, k⟩))
/-! ### and, or, not, if -/
theorem de_one {op} (h : DE X p δ a Kp) : DE X p δ (.BoolOp op [a] pos) Kp := fun σ G H he hs Q hq => ofE (pe_one (peW a)) (h σ G H he hs Q hq)
theorem de_and {rest : List Expr} (h : DE X p δ a fun x => ∃ t, x = .d (.bool t) ∧ (t = true → DE X p δ (.BoolOp .And (b :: rest) pos) Kp) ∧ (t = false → Kp (.d (.bool false)))) : DE X p δ (.BoolOp .And (a :: b :: rest) pos) Kp := fun σ G H he hs Q hq => by
  refine ofE (pe_and (peW a) (peW _)) (h σ G H he hs _ fun v r G2 H2 ⟨t, hr, k1, k2⟩ g rv => ?_)
  subst hr
  cases rv
  refine ⟨t, rfl, ?_⟩
  cases t with
  | true =>
    rw [if_pos rfl]
    exact k1 rfl σ G2 H2 (he.up g.ex) g.sat Q fun v r G3 H3 k g3 rv => hq v r G3 H3 k (g.trans g3 hs) rv
  | false =>
    rw [if_neg Bool.false_ne_true]
    exact hq _ _ G2 H2 (k2 rfl) g (Rp.bl _)
theorem de_or {rest : List Expr} (h : DE X p δ a fun x => ∃ t, x = .d (.bool t) ∧ (t = false → DE X p δ (.BoolOp .Or (b :: rest) pos) Kp) ∧ (t = true → Kp (.d (.bool true)))) : DE X p δ (.BoolOp .Or (a :: b :: rest) pos) Kp := fun σ G H he hs Q hq => by
  refine ofE (pe_or (peW a) (peW _)) (h σ G H he hs _ fun v r G2 H2 ⟨t, hr, k1, k2⟩ g rv => ?_)
  subst hr
  cases rv
  refine ⟨t, rfl, ?_⟩
  cases t with
  | false =>
    rw [if_neg Bool.false_ne_true]
    exact k1 rfl σ G2 H2 (he.up g.ex) g.sat Q fun v r G3 H3 k g3 rv => hq v r G3 H3 k (g.trans g3 hs) rv
  | true =>
    rw [if_pos rfl]
    exact hq _ _ G2 H2 (k2 rfl) g (Rp.bl _)
theorem de_not (h : DE X p δ a fun x => ∃ t, x = .d (.bool t) ∧ Kp (.d (.bool (!t)))) : DE X p δ (.UnaryOp .Not a pos) Kp := fun σ G H he hs Q hq => by
  refine ofE (pe_not (peW a)) (h σ G H he hs _ fun v r G2 H2 ⟨t, hr, k⟩ g rv => ?_)
  subst hr
  cases rv
  exact ⟨t, rfl, hq _ _ G2 H2 k g (Rp.bl _)⟩
theorem de_ifE (h : DT X p δ c fun t => (t = true → DE X p δ a Kp) ∧ (t = false → DE X p δ b Kp)) : DE X p δ (.IfExp c a b pos) Kp := fun σ G H he hs Q hq => by
  refine ofE (pe_ifExp (ptW c) (peW a) (peW b)) (h σ G H he hs _ fun t G2 H2 ⟨k1, k2⟩ g => ?_)
  cases t with
  | true =>
    rw [if_pos rfl]
    exact k1 rfl σ G2 H2 (he.up g.ex) g.sat Q fun v r G3 H3 k g3 rv => hq v r G3 H3 k (g.trans g3 hs) rv
  | false =>
    rw [if_neg Bool.false_ne_true]
    exact k2 rfl σ G2 H2 (he.up g.ex) g.sat Q fun v r G3 H3 k g3 rv => hq v r G3 H3 k (g.trans g3 hs) rv
/-! ### tests -/
variable {Kb : Bool → Prop}
theorem dt_val (h : DE X p δ e fun x => ∃ t, x = .d (.bool t) ∧ Kb t) (hE : ∀ whole, isTrue e X.env whole = (do let v ← whole; standAt e.pos; holding [v] (truthy v)) := by intro _; rfl) : DT X p δ e Kb := fun σ G H he hs Q hq => by
  refine ofT (pt_val (peW e) hE) (h σ G H he hs _ fun v r G2 H2 ⟨t, hr, k⟩ g rv => ?_)
  subst hr
  cases rv
  exact ⟨t, rfl, hq t G2 H2 k g⟩
theorem dt_w (h : DW X p δ e Kb) : DT X p δ e Kb := fun σ G H he hs Q hq => ofT (pwW e).pt (h σ G H he hs Q hq)
theorem dw_and1 (h : DT X p δ a Kb) : DW X p δ (.BoolOp .And [a] pos) Kb := fun σ G H he hs Q hq => ofW (pw_and1 (ptW a)) (h σ G H he hs Q hq)
theorem dw_or1 (h : DT X p δ a Kb) : DW X p δ (.BoolOp .Or [a] pos) Kb := fun σ G H he hs Q hq => ofW (pw_or1 (ptW a)) (h σ G H he hs Q hq)
theorem dw_and {rest : List Expr} (h : DT X p δ a fun t => (t = true → DW X p δ (.BoolOp .And (b :: rest) pos) Kb) ∧ (t = false → Kb false)) : DW X p δ (.BoolOp .And (a :: b :: rest) pos) Kb := fun σ G H he hs Q hq => by
  refine ofW (pw_and (ptW a) (pwW _)) (h σ G H he hs _ fun t G2 H2 ⟨k1, k2⟩ g => ?_)
  cases t with
  | true =>
    rw [if_pos rfl]
    exact k1 rfl σ G2 H2 (he.up g.ex) g.sat Q fun t G3 H3 k g3 => hq t G3 H3 k (g.trans g3 hs)
  | false =>
    rw [if_neg Bool.false_ne_true]
    exact hq _ G2 H2 (k2 rfl) g
theorem dw_or {rest : List Expr} (h : DT X p δ a fun t => (t = false → DW X p δ (.BoolOp .Or (b :: rest) pos) Kb) ∧ (t = true → Kb true)) : DW X p δ (.BoolOp .Or (a :: b :: rest) pos) Kb := fun σ G H he hs Q hq => by
  refine ofW (pw_or (ptW a) (pwW _)) (h σ G H he hs _ fun t G2 H2 ⟨k1, k2⟩ g => ?_)
  cases t with
  | false =>
    rw [if_neg Bool.false_ne_true]
    exact k1 rfl σ G2 H2 (he.up g.ex) g.sat Q fun t G3 H3 k g3 => hq t G3 H3 k (g.trans g3 hs)
  | true =>
    rw [if_pos rfl]
    exact hq _ G2 H2 (k2 rfl) g
theorem dt_not (h : DT X p δ a fun t => Kb (!t)) : DT X p δ (.UnaryOp .Not a pos) Kb := fun σ G H he hs Q hq => ofT (pt_not (ptW a)) (h σ G H he hs _ fun t G2 H2 k g => hq _ G2 H2 k g)

/-! ### arguments, displays -/
variable {Ka : List DV → Prop} {es : List Expr}
theorem da_nil (k : Ka []) : DA X p δ [] Ka := fun σ G H he hs Q hq => ofA pa_nil (hq [] [] G H k (.refl hs) .nil)
theorem da_cons (h : DE X p δ e fun x => DA X p δ es fun xs => Ka (x :: xs)) (hst : starEach (e :: es) X.env = (false, eval e X.env) :: starEach es X.env := by rfl) : DA X p δ (e :: es) Ka := fun σ G H he hs Q hq => by
  refine ofA (pa_cons (peW e) (paW es) hst) (h σ G H he hs _ fun v x G1 H1 k1 g1 rv => ?_)
  exact k1 σ G1 H1 (he.up g1.ex) g1.sat _ fun vs xs G2 H2 k2 g2 rvs => hq _ _ G2 H2 k2 (g1.trans g2 hs) (.cons (rv.up g2.ex) rvs)
theorem Rels.rp {K : PySem.W.Frag} {G : Hp} : ∀ {ds : List PyData} {vs : List V}, Rels K G (ds.map DV.d) vs → RpAll K G vs ds
  | [], _, h => by cases h; exact .nil
  | d :: ds, _, h => by
    cases h with
    | cons a b => exact .cons a (Rels.rp b)
/-- all are data -/
def datas : List DV → Option (List PyData)
  | [] => some []
  | .d x :: rs => (datas rs).map (x :: ·)
  | _ :: _ => none
theorem datas_map : ∀ {rs : List DV} {ds : List PyData}, datas rs = some ds → rs = ds.map DV.d
  | [], ds, h => by cases h; rfl
  | .d x :: rs, ds, h => by
    cases q : datas rs with
    | none => simp [datas, q] at h
    | some l =>
      simp [datas, q] at h
      subst h
      simp [datas_map q]
  | .v _ :: _, _, h => by cases h
  | .o _ :: _, _, h => by cases h
theorem de_tup {x1} (h : DA X p δ es fun rs => ∃ ds, datas rs = some ds ∧ ds.length ≤ sizeLine ∧ Kp (.d (.tuple ds))) : DE X p δ (.Tuple es x1 pos) Kp := fun σ G H he hs Q hq => by
  refine ofE (pe_tup (paW es)) (h σ G H he hs _ fun vs rs G1 H1 ⟨ds, e, hl, k⟩ g1 rv => ?_)
  have q := datas_map e
  subst q
  have ra := Rels.rp rv
  refine ⟨by rw [ra.len]; exact hl, fun q hq' => ?_⟩
  have g2 := Go.alloc (o := .tup vs) g1.sat hq'
  exact hq _ _ _ _ k (g1.trans g2 hs) (Rp.tup (.of upd_same) (Ex.dps g2.ex _ _ ra))
theorem de_lst (h : DA X p δ es fun rs => ∃ ds, datas rs = some ds ∧ ds.length ≤ sizeLine ∧ Kp (.d (.list ds))) : DE X p δ (.List es pos) Kp := fun σ G H he hs Q hq => by
  refine ofE (pe_lst (paW es)) (h σ G H he hs _ fun vs rs G1 H1 ⟨ds, e, hl, k⟩ g1 rv => ?_)
  have q := datas_map e
  subst q
  have ra := Rels.rp rv
  refine ⟨by rw [ra.len]; exact hl, fun q hq' => ?_⟩
  have g2 := Go.alloc (o := .lst vs) g1.sat hq'
  exact hq _ _ _ _ k (g1.trans g2 hs) (Rp.lst upd_same (Ex.dps g2.ex _ _ ra))

/-! ### items, slices, sums of lists -/
theorem atI_len {α β : Type} {xs : List α} {ys : List β} (h : xs.length = ys.length) {i : Int} {y : β} (e : atI ys i = some y) : ∃ j : Nat, ys[j]? = some y ∧ ∀ x, xs[j]? = some x → atI xs i = some x := by
  unfold atI at e ⊢
  rw [h]
  cases q : ixN ys.length i with
  | none => rw [q] at e; cases e
  | some j => exact ⟨j, by rw [q] at e; exact e, fun x hx => hx⟩
theorem de_ixL (hp : PlainIx b) (h : DE X p δ a fun x => ∃ ds, x = .d (.list ds) ∧ DE X p δ b fun y => ∃ i d, y = .d (.int i) ∧ atI ds i = some d ∧ Kp (.d d)) : DE X p δ (.Subscript a b pos) Kp :=
  de_op2 (t := tOp (rIxL X.K)) (fun _ _ ha hb => pe_ix ix_list ha hb hp) (fun _ _ _ _ _ h => h) (h.imp fun x ⟨ds, hx, hb⟩ => hb.imp fun y ⟨i, d, hy, e, k⟩ G H vx vy s rx ry Q q => by
    subst hx hy
    cases ry
    cases rx with
    | lst hl ha =>
      obtain ⟨j, hj, f⟩ := atI_len ha.len e
      obtain ⟨v, hv, rv⟩ := ha.get hj
      exact ⟨_, _, i, v, rfl, rfl, .of (s.ex _ _ hl), f v hv, q v (.d d) G H k (.refl s) rv⟩)
theorem de_ixT (hp : PlainIx b) (h : DE X p δ a fun x => ∃ ds, x = .d (.tuple ds) ∧ DE X p δ b fun y => ∃ i d, y = .d (.int i) ∧ atI ds i = some d ∧ Kp (.d d)) : DE X p δ (.Subscript a b pos) Kp :=
  de_op2 (t := tOp (rIxT X.K)) (fun _ _ ha hb => pe_ix ix_tup ha hb hp) (fun _ _ _ _ _ h => h) (h.imp fun x ⟨ds, hx, hb⟩ => hb.imp fun y ⟨i, d, hy, e, k⟩ G H vx vy s rx ry Q q => by
    subst hx hy
    cases ry
    cases rx with
    | tup hl ha =>
      obtain ⟨j, hj, f⟩ := atI_len ha.len e
      obtain ⟨v, hv, rv⟩ := ha.get hj
      exact ⟨_, _, i, v, rfl, rfl, s.ex.st hl, f v hv, q v (.d d) G H k (.refl s) rv⟩)
/-- an item of a list or a tuple of data -/
theorem de_ix (hp : PlainIx b) (h : DE X p δ a fun x => ∃ c ds, x = .d c ∧ itemsOf c = some ds ∧ DE X p δ b fun y => ∃ i d, y = .d (.int i) ∧ atI ds i = some d ∧ Kp (.d d)) : DE X p δ (.Subscript a b pos) Kp :=
  de_op2 (t := tOp (rIx X.K)) (fun _ _ ha hb => pe_ix ix_seq ha hb hp) (fun _ _ _ _ _ h => h) (h.imp fun x ⟨c, ds, hx, ec, hb⟩ => hb.imp fun y ⟨i, d, hy, e, k⟩ G H vx vy s rx ry Q q => by
    subst hx hy
    cases ry
    cases rx with
    | lst hl ha =>
      cases ec
      obtain ⟨j, hj, f⟩ := atI_len ha.len e
      obtain ⟨v, hv, rv⟩ := ha.get hj
      exact .inl ⟨_, _, i, v, rfl, rfl, .of (s.ex _ _ hl), f v hv, q v (.d d) G H k (.refl s) rv⟩
    | tup hl ha =>
      cases ec
      obtain ⟨j, hj, f⟩ := atI_len ha.len e
      obtain ⟨v, hv, rv⟩ := ha.get hj
      exact .inr (.inl ⟨_, _, i, v, rfl, rfl, s.ex.st hl, f v hv, q v (.d d) G H k (.refl s) rv⟩)
    | non => cases ec
    | bl _ => cases ec
    | int _ => cases ec
    | str _ => cases ec)
theorem de_cat (h : DE X p δ a fun x => ∃ ds, x = .d (.list ds) ∧ DE X p δ b fun y => ∃ es, y = .d (.list es) ∧ ds.length + es.length ≤ sizeLine ∧ Kp (.d (.list (ds ++ es)))) : DE X p δ (.BinOp a .Add b pos) Kp :=
  de_bop op_cat (h.imp fun x ⟨ds, hx, hb⟩ => hb.imp fun y ⟨es, hy, hz, k⟩ G H vx vy s rx ry Q q => by
    subst hx hy
    cases rx with
    | lst hl ha =>
      cases ry with
      | lst hl' ha' =>
        refine ⟨_, _, _, _, rfl, rfl, s.ex _ _ hl, s.ex _ _ hl', by rw [ha.len, ha'.len]; exact hz, fun q' hq' => ?_⟩
        exact q _ _ _ _ k (Go.alloc s hq') (Rp.lst upd_same (Ex.dps (Ex.new (s.fresh hq')) _ _ (ha.app ha'))))
theorem de_catT (h : DE X p δ a fun x => ∃ ds, x = .d (.tuple ds) ∧ DE X p δ b fun y => ∃ es, y = .d (.tuple es) ∧ ds.length + es.length ≤ sizeLine ∧ Kp (.d (.tuple (ds ++ es)))) : DE X p δ (.BinOp a .Add b pos) Kp :=
  de_bop op_catA (h.imp fun x ⟨ds, hx, hb⟩ => hb.imp fun y ⟨es, hy, hz, k⟩ G H vx vy s rx ry Q q => by
    subst hx hy
    cases rx with
    | tup hl ha =>
      cases ry with
      | tup hl' ha' =>
        refine ⟨_, _, _, _, rfl, rfl, s.ex.st hl, s.ex.st hl', by rw [ha.len, ha'.len]; exact hz, fun e0 => ?_, fun _ e0 => ?_, fun _ _ q' hq' => ?_⟩
        · subst e0
          have : ds = [] := by have := ha.len; simp at this; exact List.eq_nil_of_length_eq_zero this.symm
          subst this
          exact q _ _ G H k (.refl s) (Rp.tup hl' ha')
        · subst e0
          have : es = [] := by have := ha'.len; simp at this; exact List.eq_nil_of_length_eq_zero this.symm
          subst this
          rw [List.append_nil] at k
          exact q _ _ G H k (.refl s) (Rp.tup hl ha)
        · exact q _ _ _ _ k (Go.alloc s hq') (Rp.tup (.of upd_same) (Ex.dps (Ex.new (s.fresh hq')) _ _ (ha.app ha'))))
theorem de_rep (h : DE X p δ a fun x => ∃ ds, x = .d (.list ds) ∧ DE X p δ b fun y => ∃ i : Int, y = .d (.int i) ∧ -(2 ^ 63) ≤ i ∧ i < 2 ^ 63 ∧ ds.length * i.toNat ≤ sizeLine ∧ Kp (.d (.list (List.replicate i.toNat ds).flatten))) : DE X p δ (.BinOp a .Mult b pos) Kp :=
  de_bop op_rep (h.imp fun x ⟨ds, hx, hb⟩ => hb.imp fun y ⟨i, hy, h1, h2, h3, k⟩ G H vx vy s rx ry Q q => by
    subst hx hy
    cases ry
    cases rx with
    | lst hl ha =>
      refine ⟨_, i, _, rfl, rfl, s.ex _ _ hl, h1, h2, by rw [ha.len]; exact h3, fun q' hq' => ?_⟩
      exact q _ _ _ _ k (Go.alloc s hq') (Rp.lst upd_same (Ex.dps (Ex.new (s.fresh hq')) _ _ (ha.rep _))))
end
end Z
end

section
set_option linter.all false
set_option maxRecDepth 100000
set_option maxHeartbeats 2000000
namespace Z
open PySem L2
section
variable {X : Cx} {p : Option Addr} {δ : En} {Kp : DV → Prop} {P : Out → Prop} {a b c e : Expr} {pos : Pos} {st : Stmt} {rest body orelse : List Stmt}

theorem EndsOk.go {G H G1 H1 : Hp} {D : Ends} (h : EndsOk X p G H P D) (hs : Sat p G H) (g : Go p G H G1 H1) : EndsOk X p G1 H1 P D :=
  ⟨fun δ σ G2 H2 k g2 => h.nx δ σ G2 H2 k (g.trans g2 hs), fun r v G2 H2 k g2 => h.rt r v G2 H2 k (g.trans g2 hs), fun δ σ G2 H2 k g2 => h.bk δ σ G2 H2 k (g.trans g2 hs), fun δ σ G2 H2 k g2 => h.ct δ σ G2 H2 k (g.trans g2 hs)⟩
theorem DSs.imp {Q : Out → Prop} {st : List Stmt} (h : DSs X p δ st P) (k : ∀ o, P o → Q o) : DSs X p δ st Q := fun σ G H he hs D d => h σ G H he hs D
  ⟨fun δ σ G2 H2 q => d.nx δ σ G2 H2 (k _ q), fun r v G2 H2 q => d.rt r v G2 H2 (k _ q), fun δ σ G2 H2 q => d.bk δ σ G2 H2 (k _ q), fun δ σ G2 H2 q => d.ct δ σ G2 H2 (k _ q)⟩
theorem DS.imp {Q : Out → Prop} (h : DS X p δ st P) (k : ∀ o, P o → Q o) : DS X p δ st Q := fun σ G H he hs D d => h σ G H he hs D
  ⟨fun δ σ G2 H2 q => d.nx δ σ G2 H2 (k _ q), fun r v G2 H2 q => d.rt r v G2 H2 (k _ q), fun δ σ G2 H2 q => d.bk δ σ G2 H2 (k _ q), fun δ σ G2 H2 q => d.ct δ σ G2 H2 (k _ q)⟩
/-- what follows a statement -/
def thenP (Nx : En → Prop) (P : Out → Prop) : Out → Prop
  | .nx δ => Nx δ
  | .rt r => P (.rt r)
  | .bk δ => P (.bk δ)
  | .ct δ => P (.ct δ)
theorem dss_nil (k : P (.nx δ)) : DSs X p δ [] P := fun σ G H he hs D d => ofSs pss_nil (d.nx δ σ G H k (.refl hs) he)
theorem dss_cons (h : DS X p δ st (thenP (fun δ' => DSs X p δ' rest P) P)) : DSs X p δ (st :: rest) P := fun σ G H he hs D d => by
  refine ofSs (pss_cons (psW st) (pssW rest)) ?_
  refine h σ G H he hs { D with nx := wpSs X rest D } ⟨fun δ' σ' G2 H2 k g he' => ?_, fun r v G2 H2 k g => d.rt r v G2 H2 k g, fun δ' σ' G2 H2 k g => d.bk δ' σ' G2 H2 k g, fun δ' σ' G2 H2 k g => d.ct δ' σ' G2 H2 k g⟩
  exact k σ' G2 H2 he' g.sat D (d.go hs g)
theorem ds_pass (k : P (.nx δ)) : DS X p δ (.Pass pos) P := fun σ G H he hs D d => ofS ps_pass (d.nx δ σ G H k (.refl hs) he)
theorem ds_break (k : P (.bk δ)) : DS X p δ (.Break pos) P := fun σ G H he hs D d => ofS ps_break (d.bk δ σ G H k (.refl hs) he)
theorem ds_cont (k : P (.ct δ)) : DS X p δ (.Continue pos) P := fun σ G H he hs D d => ofS ps_continue (d.ct δ σ G H k (.refl hs) he)
theorem ds_doc {x j pos'} (k : P (.nx δ)) : DS X p δ (.Expr (.Constant (.str x) j pos) pos') P := fun σ G H he hs D d => ofS ps_doc (d.nx δ σ G H k (.refl hs) he)
theorem ds_expr (h : DE X p δ e fun _ => P (.nx δ)) (hw : swapsWith e none pos.line X.env = pure false := by rfl) : DS X p δ (.Expr e pos) P := fun σ G H he hs D d =>
  ofS (ps_expr (peW e) hw) (h σ G H he hs _ fun v r G2 H2 k g rv => d.nx δ σ G2 H2 k g (he.up g.ex))
theorem ds_ret (h : DE X p δ e fun r => P (.rt r)) : DS X p δ (.Return (some e) pos) P := fun σ G H he hs D d => ofS (ps_ret (peW e)) (h σ G H he hs _ fun v r G2 H2 k g rv => d.rt r v G2 H2 k g rv)
theorem ds_retN (k : P (.rt (.d .none))) : DS X p δ (.Return none pos) P := fun σ G H he hs D d => ofS ps_retN (d.rt _ _ G H k (.refl hs) Rp.non)
theorem ds_if (h : DT X p δ c fun t => (t = true → DSs X p δ body P) ∧ (t = false → DSs X p δ orelse P)) : DS X p δ (.If c body orelse pos) P := fun σ G H he hs D d => by
  refine ofS (ps_if (ptW c) (pssW body) (pssW orelse)) (h σ G H he hs _ fun t G2 H2 ⟨k1, k2⟩ g => ?_)
  cases t with
  | true =>
    rw [if_pos rfl]
    exact k1 rfl σ G2 H2 (he.up g.ex) g.sat D (d.go hs g)
  | false =>
    rw [if_neg Bool.false_ne_true]
    exact k2 rfl σ G2 H2 (he.up g.ex) g.sat D (d.go hs g)
theorem ds_set {i : Nat} {x : Str} {pos' : Pos} (hN : X.N.Nodup) (hi : X.N[i]? = some x) (hx : Loc X.env.scope x) (h : DE X p δ e fun r => P (.nx (δ.set i (some r)))) (hw : swapsWith e (some (.Name x pos')) pos.line X.env = pure false := by rfl)
    (hf : X.fn x = true ∨ X.env.scope.names.lookup x = some .local := by first | exact .inl rfl | exact .inr rfl | assumption) : DS X p δ (.Assign [.Name x pos'] e pos) P := fun σ G H he hs D d =>
  ofS (ps_set hN hi hx (peW e) hw hf) (h σ G H he hs _ fun v r G2 H2 k g rv => d.nx _ _ G2 H2 k g ((he.up g.ex).set rv))

/-! ### targets -/
/-- a target takes a value: what is known of the slots behind it -/
def DG (X : Cx) (p : Option Addr) (δ : En) (tg : Expr) (r : DV) (N : En → Prop) : Prop := ∃ t, PG X tg t ∧ ∀ σ G H v, EnvD X.K G δ σ → Sat p G H → rel X.K G r v → ∀ Q : St → Hp → Prop, (∀ δ' σ', N δ' → EnvD X.K G δ' σ' → Q σ' H) → t v σ H Q
def DGs (X : Cx) (p : Option Addr) (δ : En) (tgs : List Expr) (rs : List DV) (N : En → Prop) : Prop := ∃ t, PGs X tgs t ∧ ∀ σ G H vs, EnvD X.K G δ σ → Sat p G H → Rels X.K G rs vs → ∀ Q : St → Hp → Prop, (∀ δ' σ', N δ' → EnvD X.K G δ' σ' → Q σ' H) → t vs σ H Q
end

/-! ### loops -/
section
variable {X : Cx} {p : Option Addr} {δ : En} {P : Out → Prop} {it tg : Expr} {pos : Pos} {body : List Stmt}
/-- what a turn of a loop is to reach -/
def turnP (I : En → Prop) (P : Out → Prop) : Out → Prop
  | .nx δ => I δ
  | .ct δ => I δ
  | .bk δ => P (.nx δ)
  | .rt r => P (.rt r)
/-- over a list of data; the target told by t -/
theorem ds_forL (hp : PassesOwn (model X.prog X.w) X.A X.env X.xe) (hc : X.calm = true) {t : TG} (hg : PG X tg t) (S : En → PyData → En)
    (hS : ∀ δ' d σ' G' H' v, EnvD X.K G' δ' σ' → Rp X.K G' v d → Sat p G' H' → ∀ Q : St → Hp → Prop, (∀ σ2, EnvD X.K G' (S δ' d) σ2 → Q σ2 H') → t v σ' H' Q)
    (h : DE X p δ it fun r => ∃ ds, r = .d (.list ds) ∧ ∃ I : Nat → En → Prop, I 0 δ ∧ (∀ k δ' d, ds[k]? = some d → I k δ' → DSs X p (S δ' d) body (turnP (I (k + 1)) P)) ∧ ∀ δ', I ds.length δ' → P (.nx δ'))
    (hs : ∀ x, foldedSetIterable it X.env x = pure x := by intro _; rfl) : DS X p δ (.For tg it body [] pos) P := fun σ G H he hst D d => by
  refine ofS (ps_for hp hc (pi_list (peW it)) hg (pssW body) hs) ?_
  refine h σ G H he hst _ fun v r G1 H1 ⟨ds, hr, I, i0, i1, i2⟩ g1 rv => ?_
  subst hr
  cases rv with
  | @lst a xs _ hl ha =>
    refine ⟨a, rfl, ⟨xs, .of (g1.sat.ex _ _ hl)⟩, for_list (xs := xs) (fun k σ' H' => ∃ δ' G', I k δ' ∧ EnvD X.K G' δ' σ' ∧ Go p G H G' H' ∧ Ex G1 G') ⟨δ, G1, i0, he.up g1.ex, g1, .refl _⟩ (fun k σ' H' _ ⟨δ', G', _, _, g', e'⟩ => .of (g'.sat.ex _ _ (e' _ _ hl))) ?_ ?_⟩
    · rintro k x σ' H' hx ⟨δ', G', ik, he', g', e'⟩
      have hk : k < xs.length := (List.getElem?_eq_some_iff.mp hx).1
      have hd : ds[k]? = some (ds[k]'(by rw [← ha.len]; exact hk)) := List.getElem?_eq_getElem _
      obtain ⟨v, hv, rv⟩ := ha.get hd
      rw [hx] at hv
      cases hv
      refine hS δ' _ σ' G' H' x he' (Ex.dp e' _ _ rv) g'.sat _ fun σ2 he2 => ?_
      exact i1 k δ' _ hd ik σ2 G' H' he2 g'.sat _ ⟨fun δ2 σ2 G2 H2 k2 g2 he2 => ⟨δ2, G2, k2, he2, g'.trans g2 hst, e'.trans g2.ex⟩, fun r v G2 H2 k2 g2 rv => d.rt r v G2 H2 k2 (g'.trans g2 hst) rv, fun δ2 σ2 G2 H2 k2 g2 he2 => d.nx δ2 σ2 G2 H2 k2 (g'.trans g2 hst) he2, fun δ2 σ2 G2 H2 k2 g2 he2 => ⟨δ2, G2, k2, he2, g'.trans g2 hst, e'.trans g2.ex⟩⟩
    · rintro σ' H' ⟨δ', G', ik, he', g', e'⟩
      rw [ha.len] at ik
      exact d.nx δ' σ' G' H' (i2 δ' ik) g' he'
/-- over a tuple of data -/
theorem ds_forT (hp : PassesOwn (model X.prog X.w) X.A X.env X.xe) (hc : X.calm = true) {t : TG} (hg : PG X tg t) (S : En → PyData → En)
    (hS : ∀ δ' d σ' G' H' v, EnvD X.K G' δ' σ' → Rp X.K G' v d → Sat p G' H' → ∀ Q : St → Hp → Prop, (∀ σ2, EnvD X.K G' (S δ' d) σ2 → Q σ2 H') → t v σ' H' Q)
    (h : DE X p δ it fun r => ∃ ds, r = .d (.tuple ds) ∧ ∃ I : Nat → En → Prop, I 0 δ ∧ (∀ k δ' d, ds[k]? = some d → I k δ' → DSs X p (S δ' d) body (turnP (I (k + 1)) P)) ∧ ∀ δ', I ds.length δ' → P (.nx δ'))
    (hs : ∀ x, foldedSetIterable it X.env x = pure x := by intro _; rfl) : DS X p δ (.For tg it body [] pos) P := fun σ G H he hst D d => by
  refine ofS (ps_for hp hc (pi_tup (peW it)) hg (pssW body) hs) ?_
  refine h σ G H he hst _ fun v r G1 H1 ⟨ds, hr, I, i0, i1, i2⟩ g1 rv => ?_
  subst hr
  cases rv with
  | @tup a xs _ hl ha =>
    refine ⟨a, rfl, ⟨xs, g1.sat.ex.st hl⟩, for_tup (xs := xs) (fun k σ' H' => ∃ δ' G', I k δ' ∧ EnvD X.K G' δ' σ' ∧ Go p G H G' H' ∧ Ex G1 G') ⟨δ, G1, i0, he.up g1.ex, g1, .refl _⟩ (fun k σ' H' _ ⟨δ', G', _, _, g', e'⟩ => g'.sat.ex.st (e'.st hl)) ?_ ?_⟩
    · rintro k x σ' H' hx ⟨δ', G', ik, he', g', e'⟩
      have hk : k < xs.length := (List.getElem?_eq_some_iff.mp hx).1
      have hd : ds[k]? = some (ds[k]'(by rw [← ha.len]; exact hk)) := List.getElem?_eq_getElem _
      obtain ⟨v, hv, rv⟩ := ha.get hd
      rw [hx] at hv
      cases hv
      refine hS δ' _ σ' G' H' x he' (Ex.dp e' _ _ rv) g'.sat _ fun σ2 he2 => ?_
      exact i1 k δ' _ hd ik σ2 G' H' he2 g'.sat _ ⟨fun δ2 σ2 G2 H2 k2 g2 he2 => ⟨δ2, G2, k2, he2, g'.trans g2 hst, e'.trans g2.ex⟩, fun r v G2 H2 k2 g2 rv => d.rt r v G2 H2 k2 (g'.trans g2 hst) rv, fun δ2 σ2 G2 H2 k2 g2 he2 => d.nx δ2 σ2 G2 H2 k2 (g'.trans g2 hst) he2, fun δ2 σ2 G2 H2 k2 g2 he2 => ⟨δ2, G2, k2, he2, g'.trans g2 hst, e'.trans g2.ex⟩⟩
    · rintro σ' H' ⟨δ', G', ik, he', g', e'⟩
      rw [ha.len] at ik
      exact d.nx δ' σ' G' H' (i2 δ' ik) g' he'
theorem ds_forR1 {a : Expr} {x : Str} {px pc pf : Pos} {i : Nat} (hp : PassesOwn (model X.prog X.w) X.A X.env X.xe) (hc : X.calm = true) (hN : X.N.Nodup) (hi : X.N[i]? = some x) (hx : Loc X.env.scope x) (hg : Gl X "range") (hm : X.mg "range" = none)
    (h : DA X p δ [a] fun rs => ∃ n : Int, rs = [.d (.int n)] ∧ -(2 ^ 62) ≤ n ∧ n < 2 ^ 62 ∧ ∃ I : Nat → En → Prop, I 0 δ ∧ (∀ (k : Nat) δ', (k : Int) < n → I k δ' → DSs X p (δ'.set i (some (.d (.int (k : Int))))) body (turnP (I (k + 1)) P)) ∧ ∀ δ', I n.toNat δ' → P (.nx δ'))
    (hf : X.fn x = true ∨ X.env.scope.names.lookup x = some .local := by first | exact .inl rfl | exact .inr rfl | assumption) (hst : starEach [a] X.env = [(false, eval a X.env)] := by rfl)
    (hs : ∀ v, foldedSetIterable (.Call (.Name "range" pf) [a] [] pc) X.env v = pure v := by intro _; rfl) : DS X p δ (.For (.Name x px) (.Call (.Name "range" pf) [a] [] pc) body [] pos) P := fun σ G H he hst' D d => by
  refine ofS (ps_for hp hc (pi_range1 hg hm (paW [a]) hst) (pg_name hN hi hx hf) (pssW body) hs) ?_
  refine h σ G H he hst' _ fun vs rs G1 H1 ⟨n, hr, n1, n2, I, i0, i1, i2⟩ g1 rv => ?_
  subst hr
  cases rv with
  | cons r1 r2 =>
    cases r1
    cases r2
    refine ⟨n, rfl, n1, n2, for_range (lo := 0) (n := n.toNat) (fun k σ' H' => ∃ δ' G', I k δ' ∧ EnvD X.K G' δ' σ' ∧ Go p G H G' H') ⟨δ, G1, i0, he.up g1.ex, g1⟩ ?_ ?_⟩
    · rintro k σ' H' hk ⟨δ', G', ik, he', g'⟩
      show wpSs X body _ (σ'.set i (some (.int ((0 : Int) + (k : Int))))) H'
      have e0 : (0 : Int) + (k : Int) = (k : Int) := Int.zero_add _
      rw [e0]
      exact i1 k δ' (by omega) ik _ G' H' (he'.set (Rp.int _)) g'.sat _ ⟨fun δ2 σ2 G2 H2 k2 g2 he2 => ⟨δ2, G2, k2, he2, g'.trans g2 hst'⟩, fun r v G2 H2 k2 g2 rv => d.rt r v G2 H2 k2 (g'.trans g2 hst') rv, fun δ2 σ2 G2 H2 k2 g2 he2 => d.nx δ2 σ2 G2 H2 k2 (g'.trans g2 hst') he2, fun δ2 σ2 G2 H2 k2 g2 he2 => ⟨δ2, G2, k2, he2, g'.trans g2 hst'⟩⟩
    · rintro σ' H' ⟨δ', G', ik, he', g'⟩
      exact d.nx δ' σ' G' H' (i2 δ' ik) g' he'
theorem ds_forR2 {a b : Expr} {x : Str} {px pc pf : Pos} {i : Nat} (hp : PassesOwn (model X.prog X.w) X.A X.env X.xe) (hc : X.calm = true) (hN : X.N.Nodup) (hi : X.N[i]? = some x) (hx : Loc X.env.scope x) (hg : Gl X "range") (hm : X.mg "range" = none)
    (h : DA X p δ [a, b] fun rs => ∃ lo n : Int, rs = [.d (.int lo), .d (.int n)] ∧ (-(2 ^ 62) ≤ lo ∧ lo < 2 ^ 62 ∧ -(2 ^ 62) ≤ n ∧ n < 2 ^ 62) ∧ ∃ I : Nat → En → Prop, I 0 δ ∧ (∀ (k : Nat) δ', lo + (k : Int) < n → I k δ' → DSs X p (δ'.set i (some (.d (.int (lo + (k : Int)))))) body (turnP (I (k + 1)) P)) ∧ ∀ δ', I (n - lo).toNat δ' → P (.nx δ'))
    (hf : X.fn x = true ∨ X.env.scope.names.lookup x = some .local := by first | exact .inl rfl | exact .inr rfl | assumption) (hst : starEach [a, b] X.env = [(false, eval a X.env), (false, eval b X.env)] := by rfl) (hst2 : starEach [b] X.env = [(false, eval b X.env)] := by rfl)
    (hs : ∀ v, foldedSetIterable (.Call (.Name "range" pf) [a, b] [] pc) X.env v = pure v := by intro _; rfl) : DS X p δ (.For (.Name x px) (.Call (.Name "range" pf) [a, b] [] pc) body [] pos) P := fun σ G H he hst' D d => by
  refine ofS (ps_for hp hc (pi_range2 hg hm (paW [a, b]) hst hst2) (pg_name hN hi hx hf) (pssW body) hs) ?_
  refine h σ G H he hst' _ fun vs rs G1 H1 ⟨lo, n, hr, n1, I, i0, i1, i2⟩ g1 rv => ?_
  subst hr
  cases rv with
  | cons r1 r2 =>
    cases r2 with
    | cons r2 r3 =>
      cases r1
      cases r2
      cases r3
      refine ⟨lo, n, rfl, n1, for_range (lo := lo) (n := (n - lo).toNat) (fun k σ' H' => ∃ δ' G', I k δ' ∧ EnvD X.K G' δ' σ' ∧ Go p G H G' H') ⟨δ, G1, i0, he.up g1.ex, g1⟩ ?_ ?_⟩
      · rintro k σ' H' hk ⟨δ', G', ik, he', g'⟩
        exact i1 k δ' (by omega) ik _ G' H' (he'.set (Rp.int _)) g'.sat _ ⟨fun δ2 σ2 G2 H2 k2 g2 he2 => ⟨δ2, G2, k2, he2, g'.trans g2 hst'⟩, fun r v G2 H2 k2 g2 rv => d.rt r v G2 H2 k2 (g'.trans g2 hst') rv, fun δ2 σ2 G2 H2 k2 g2 he2 => d.nx δ2 σ2 G2 H2 k2 (g'.trans g2 hst') he2, fun δ2 σ2 G2 H2 k2 g2 he2 => ⟨δ2, G2, k2, he2, g'.trans g2 hst'⟩⟩
      · rintro σ' H' ⟨δ', G', ik, he', g'⟩
        exact d.nx δ' σ' G' H' (i2 δ' ik) g' he'
end

/-! ### comprehensions -/
/-- a reading at what is known -/
def Lc (X : Cx) (p : Option Addr) (δ : En) (t : TE) (Kp : DV → Prop) : Prop := ∀ σ G H, EnvD X.K G δ σ → Sat p G H → ∀ Q : VK, (∀ v r G2 H2, Kp r → Go p G H G2 H2 → rel X.K G2 r v → Q v H2) → t σ H Q
theorem de_of {X : Cx} {p : Option Addr} {δ : En} {e : Expr} {t : TE} {Kp : DV → Prop} (h : PE X e t) (k : Lc X p δ t Kp) : DE X p δ e Kp := fun σ G H he hs Q hq => ofE h (k σ G H he hs Q hq)
theorem ds_setOf {X : Cx} {p : Option Addr} {δ : En} {st : Stmt} {t : TE} {i : Nat} {P : Out → Prop} (h : PS X st (tAsg t (gName i))) (k : Lc X p δ t fun r => P (.nx (δ.set i (some r)))) : DS X p δ st P := fun σ G H he hs D d =>
  ofS h (k σ G H he hs _ fun v r G2 H2 k g rv => d.nx _ _ G2 H2 k g ((he.up g.ex).set rv))
def wipeE (δ : En) : List Nat → En
  | [] => δ
  | v :: vs => (wipeE δ vs).set v none
theorem EnvD.wipe {K : PySem.W.Frag} {G : Hp} {δ : En} {σ : St} (h : EnvD K G δ σ) : ∀ vs : List Nat, EnvD K G (wipeE δ vs) (L2.wipe σ vs)
  | [] => h
  | v :: vs => by
    have q := EnvD.wipe h vs
    refine ⟨by simp [wipeE, L2.wipe, q.len], fun i r e => ?_⟩
    show ∃ u, ((L2.wipe σ vs).set v none)[i]? = some (some u) ∧ rel K G r u
    have e : ((wipeE δ vs).set v none)[i]? = some (some r) := e
    by_cases hi : v = i
    · subst hi
      by_cases hv : v < (wipeE δ vs).length
      · rw [List.getElem?_set_self hv] at e; cases e
      · rw [List.getElem?_eq_none (by simpa using hv)] at e; cases e
    · rw [List.getElem?_set_ne hi] at e ⊢
      exact q.at_ i r e
def wpTs (X : Cx) (ifs : List Expr) : TT := fun σ H Q => ∀ (pins : List (Addr × Obj)) (s : Shared), Inv X pins σ H s → wpAny (model X.prog X.w) X.A (forIn ifs true fun c r => if r = true then do let ok ← isTrue c X.env (eval c X.env); pure (ForInStep.yield ok) else pure (ForInStep.yield r)) (TP X pins σ Q) X.xe s
def DTs (X : Cx) (p : Option Addr) (δ : En) (ifs : List Expr) (Kb : Bool → Prop) : Prop := ∀ σ G H, EnvD X.K G δ σ → Sat p G H → ∀ Q : Bool → Hp → Prop, (∀ b G2 H2, Kb b → Go p G H G2 H2 → Q b H2) → wpTs X ifs σ H Q
theorem dts_nil {X : Cx} {p : Option Addr} {δ : En} {Kb : Bool → Prop} (k : Kb true) : DTs X p δ [] Kb := fun σ G H he hs Q hq pins s I => (pts_nil (X := X)).run pins s σ H Q I (hq true G H k (.refl hs))
theorem dts_one {X : Cx} {p : Option Addr} {δ : En} {c : Expr} {Kb : Bool → Prop} (k : DT X p δ c Kb) : DTs X p δ [c] Kb := fun σ G H he hs Q hq pins s I => (pts_one (ptW c)).run pins s σ H Q I (k σ G H he hs Q hq)
/-- within the block, whatever its frame -/
def wpEB (X : Cx) (scope : Scope) (e : Expr) : TE := fun σ H Q => ∀ (s : Shared) (H0 : Hp) (C : Addr) (cl : List (Str × Addr)) (fp : List Addr), wpE (X.blk s H0 scope (compEnvC scope cl C X.env) fp) e σ H Q
def wpTsB (X : Cx) (scope : Scope) (ifs : List Expr) : TT := fun σ H Q => ∀ (s : Shared) (H0 : Hp) (C : Addr) (cl : List (Str × Addr)) (fp : List Addr), wpTs (X.blk s H0 scope (compEnvC scope cl C X.env) fp) ifs σ H Q
theorem Go.mut {p : Option Addr} {G H G2 H2 : Hp} {D : Addr} {o : HO} (g : Go p G H G2 H2) (hs : Sat p G H) (h1 : H D = none) (h2 : G2 D = none) : Go p G H G2 (upd H2 D o) := by
  refine ⟨g.ex, g.nw, ⟨fun a u e => ?_, fun a e => ?_⟩, fun a u hp e => ?_⟩
  · rw [upd_ne (ne_of_none e h2)]
    exact g.sat.ex a u e
  · obtain ⟨q1, m, n, q2⟩ := g.sat.fd a e
    have hx : a ≠ D := fun z => hs.ne h1 (z ▸ e)
    exact ⟨q1, m, n, by rw [upd_ne hx]; exact q2⟩
  · rw [upd_ne (ne_of_none e h1)]
    exact g.kp a u hp e
/-- a new object is known from now on -/
theorem Go.fix {p : Option Addr} {G H G2 H2 : Hp} {D : Addr} {o : HO} (g : Go p G H G2 H2) (hs : Sat p G H) (h1 : H D = none) (h2 : G2 D = none) (h3 : H2 D = some o) : Go p G H (upd G2 D o) H2 := by
  refine ⟨g.ex.trans (Ex.new h2), fun a u e => ?_, ⟨fun a u e => ?_, fun a e => ?_⟩, g.kp⟩
  · by_cases ha : a = D
    · exact .inr (by rw [ha]; exact h1)
    · rw [upd_ne ha] at e
      exact g.nw a u e
  · by_cases ha : a = D
    · subst ha
      rw [upd_same] at e
      rw [← e]
      exact h3
    · rw [upd_ne ha] at e
      exact g.sat.ex a u e
  · obtain ⟨q1, q2⟩ := g.sat.fd a e
    have hx : a ≠ D := fun z => hs.ne h1 (z ▸ e)
    exact ⟨by rw [upd_ne hx]; exact q1, q2⟩
section
variable {X : Cx} {p : Option Addr} {δ : En} {Kp : DV → Prop} {it elt : Expr} {ifs : List Expr} {scope : Scope} {i : Nat} {vs : List Nat}
/-- the state of a comprehension's list behind k items -/
def LcAt (K : PySem.W.Frag) (p : Option Addr) (G H : Hp) (I : Nat → List PyData → Prop) (D : Addr) (k : Nat) (H' : Hp) : Prop := ∃ acc us G', I k acc ∧ RpAll K G' us acc ∧ H' D = some (.lst us) ∧ G' D = none ∧ Go p G H G' H' ∧ acc.length ≤ k
theorem lc_turn {σ : St} {G1 H1 : Hp} {I : Nat → List PyData → Prop} {D : Addr} {k : Nat} {H' : Hp} {v : V} {r : DV} (hs1 : Sat p G1 H1) (he : EnvD X.K G1 δ σ) (hD : H1 D = none) (hk : k < 1000000) (hq : LcAt X.K p G1 H1 I D k H') (rv : rel X.K G1 r v)
    (ht : ∀ (s : Shared) (H0 : Hp) (C : Addr) (cl : List (Str × Addr)) (fp : List Addr) acc, I k acc → DTs (X.blk s H0 scope (compEnvC scope cl C X.env) fp) p ((wipeE δ vs).set i (some r)) ifs fun b =>
      if b = true then ∀ (s : Shared) (H0 : Hp) (C : Addr) (cl : List (Str × Addr)) (fp : List Addr), DE (X.blk s H0 scope (compEnvC scope cl C X.env) fp) p ((wipeE δ vs).set i (some r)) elt fun y => ∃ d, y = .d d ∧ I (k + 1) (acc ++ [d]) else I (k + 1) acc) :
    wpTsB X scope ifs ((wipe σ vs).set i (some v)) H' fun b H3 => if b = true then wpEB X scope elt ((wipe σ vs).set i (some v)) H3 fun y H4 => ∃ acc, H4 D = some (.lst acc) ∧ acc.length < sizeLine ∧ LcAt X.K p G1 H1 I D (k + 1) (upd H4 D (.lst (acc ++ [y]))) else LcAt X.K p G1 H1 I D (k + 1) H3 := by
  obtain ⟨acc, us, G', ik, ra, hd, gd, g, hl⟩ := hq
  have heW : EnvD X.K G' ((wipeE δ vs).set i (some r)) ((wipe σ vs).set i (some v)) := ((he.up g.ex).wipe vs).set (rv.up g.ex)
  have pD : p ≠ some D := hs1.ne hD
  intro s H0 C cl fp
  refine ht s H0 C cl fp acc ik _ G' H' heW g.sat _ fun b G2 H2 kb g2 => ?_
  have gd2 : G2 D = none := by
    cases q : G2 D with
    | none => rfl
    | some o =>
      rcases g2.nw D o q with z | z
      · rw [gd] at z; cases z
      · rw [hd] at z; cases z
  have hd2 := g2.kp D _ pD hd
  cases b with
  | true =>
    rw [if_pos rfl] at kb ⊢
    intro s H0 C cl fp
    refine kb s H0 C cl fp _ G2 H2 (heW.up g2.ex) g2.sat _ fun y ry G3 H3 ⟨d, hy, i3⟩ g3 rv3 => ?_
    subst hy
    have gd3 : G3 D = none := by
      cases q : G3 D with
      | none => rfl
      | some o =>
        rcases g3.nw D o q with z | z
        · rw [gd2] at z; cases z
        · rw [hd2] at z; cases z
    have hd3 := g3.kp D _ pD hd2
    have g23 := g2.ex.trans g3.ex
    refine ⟨us, hd3, by rw [ra.len, sizeLine_eq]; omega, acc ++ [d], us ++ [y], G3, i3, (Ex.dps g23 _ _ ra).app (.cons rv3 .nil), upd_same, gd3, ((g.trans g2 hs1).trans g3 hs1).mut hs1 hD gd3, by simp; omega⟩
  | false =>
    rw [if_neg Bool.false_ne_true] at kb ⊢
    exact ⟨acc, us, G2, kb, Ex.dps g2.ex _ _ ra, hd2, gd2, g.trans g2 hs1, by omega⟩
theorem LcAt.start {K : PySem.W.Frag} {G1 H1 : Hp} {I : Nat → List PyData → Prop} {D : Addr} (hs1 : Sat p G1 H1) (hD : H1 D = none) (i0 : I 0 []) : LcAt K p G1 H1 I D 0 (upd H1 D (.lst [])) :=
  ⟨[], [], G1, i0, .nil, upd_same, hs1.fresh hD, Go.side hs1 hD, Nat.le_refl _⟩
/-- over a list of data, the target one name -/
theorem lc_L (hw : ∀ (σ : St) x, wipe ((wipe σ vs).set i (some x)) vs = wipe σ vs)
    (h : DE X p δ it fun r => ∃ ds, r = .d (.list ds) ∧ ds.length < 1000000 ∧ ∃ I : Nat → List PyData → Prop, I 0 [] ∧ (∀ k d, ds[k]? = some d →
      ∀ (s : Shared) (H0 : Hp) (C : Addr) (cl : List (Str × Addr)) (fp : List Addr) acc, I k acc → DTs (X.blk s H0 scope (compEnvC scope cl C X.env) fp) p ((wipeE δ vs).set i (some (.d d))) ifs fun b =>
      if b = true then ∀ (s : Shared) (H0 : Hp) (C : Addr) (cl : List (Str × Addr)) (fp : List Addr), DE (X.blk s H0 scope (compEnvC scope cl C X.env) fp) p ((wipeE δ vs).set i (some (.d d))) elt fun y => ∃ d, y = .d d ∧ I (k + 1) (acc ++ [d]) else I (k + 1) acc) ∧
      ∀ acc, I ds.length acc → Kp (.d (.list acc))) : Lc X p δ (tLc (iList X.K (wpE X it)) (gName i) (wpTsB X scope ifs) (wpEB X scope elt) vs) Kp := fun σ G H he hs Q hq => by
  refine h σ G H he hs _ fun v r G1 H1 ⟨ds, hr, hz, I, i0, i1, i2⟩ g1 rv => ?_
  subst hr
  cases rv with
  | @lst a xs _ hl ha =>
    refine ⟨a, rfl, ⟨xs, .of (g1.sat.ex _ _ hl)⟩, fun D hD => lc_list (xs := xs) (LcAt X.K p G1 H1 I D) (LcAt.start g1.sat hD i0) (fun k H' _ ⟨_, _, G', _, _, _, _, g', _⟩ => .of (g'.sat.ex _ _ (g'.ex _ _ hl))) ?_ ?_⟩
    · intro k x H' hx hq'
      have hk : k < xs.length := (List.getElem?_eq_some_iff.mp hx).1
      have hd : ds[k]? = some (ds[k]'(by rw [← ha.len]; exact hk)) := List.getElem?_eq_getElem _
      obtain ⟨v, hv, rv⟩ := ha.get hd
      rw [hx] at hv
      cases hv
      exact ⟨hw σ x, lc_turn (scope := scope) (ifs := ifs) (elt := elt) g1.sat (he.up g1.ex) hD (by have := ha.len; omega) hq' (r := .d _) rv (i1 k _ hd)⟩
    · rintro H' ⟨acc, us, G', ik, ra, hd, gd, g', _⟩
      rw [ha.len] at ik
      have gf := g'.fix g1.sat hD gd hd
      exact hq _ (.d (.list acc)) _ H' (i2 acc ik) (g1.trans gf hs) (Rp.lst upd_same (Ex.dps (Ex.new gd) _ _ ra))
/-- over a tuple -/
theorem lc_T (hw : ∀ (σ : St) x, wipe ((wipe σ vs).set i (some x)) vs = wipe σ vs)
    (h : DE X p δ it fun r => ∃ ds, r = .d (.tuple ds) ∧ ds.length < 1000000 ∧ ∃ I : Nat → List PyData → Prop, I 0 [] ∧ (∀ k d, ds[k]? = some d →
      ∀ (s : Shared) (H0 : Hp) (C : Addr) (cl : List (Str × Addr)) (fp : List Addr) acc, I k acc → DTs (X.blk s H0 scope (compEnvC scope cl C X.env) fp) p ((wipeE δ vs).set i (some (.d d))) ifs fun b =>
      if b = true then ∀ (s : Shared) (H0 : Hp) (C : Addr) (cl : List (Str × Addr)) (fp : List Addr), DE (X.blk s H0 scope (compEnvC scope cl C X.env) fp) p ((wipeE δ vs).set i (some (.d d))) elt fun y => ∃ d, y = .d d ∧ I (k + 1) (acc ++ [d]) else I (k + 1) acc) ∧
      ∀ acc, I ds.length acc → Kp (.d (.list acc))) : Lc X p δ (tLc (iTup X.K (wpE X it)) (gName i) (wpTsB X scope ifs) (wpEB X scope elt) vs) Kp := fun σ G H he hs Q hq => by
  refine h σ G H he hs _ fun v r G1 H1 ⟨ds, hr, hz, I, i0, i1, i2⟩ g1 rv => ?_
  subst hr
  cases rv with
  | @tup a xs _ hl ha =>
    refine ⟨a, rfl, ⟨xs, g1.sat.ex.st hl⟩, fun D hD => lc_tup (xs := xs) (LcAt X.K p G1 H1 I D) (LcAt.start g1.sat hD i0) (fun k H' _ ⟨_, _, G', _, _, _, _, g', _⟩ => g'.sat.ex.st (g'.ex.st hl)) ?_ ?_⟩
    · intro k x H' hx hq'
      have hk : k < xs.length := (List.getElem?_eq_some_iff.mp hx).1
      have hd : ds[k]? = some (ds[k]'(by rw [← ha.len]; exact hk)) := List.getElem?_eq_getElem _
      obtain ⟨v, hv, rv⟩ := ha.get hd
      rw [hx] at hv
      cases hv
      exact ⟨hw σ x, lc_turn (scope := scope) (ifs := ifs) (elt := elt) g1.sat (he.up g1.ex) hD (by have := ha.len; omega) hq' (r := .d _) rv (i1 k _ hd)⟩
    · rintro H' ⟨acc, us, G', ik, ra, hd, gd, g', _⟩
      rw [ha.len] at ik
      have gf := g'.fix g1.sat hD gd hd
      exact hq _ (.d (.list acc)) _ H' (i2 acc ik) (g1.trans gf hs) (Rp.lst upd_same (Ex.dps (Ex.new gd) _ _ ra))
/-- over range(n) -/
theorem lc_R1 {ta : TA} {a : Expr} (hw : ∀ (σ : St) x, wipe ((wipe σ vs).set i (some x)) vs = wipe σ vs)
    (h : DA X p δ [a] fun rs => ∃ n : Int, rs = [.d (.int n)] ∧ n < 1000000 ∧ -(2 ^ 62) ≤ n ∧ ∃ I : Nat → List PyData → Prop, I 0 [] ∧ (∀ k : Nat, (k : Int) < n →
      ∀ (s : Shared) (H0 : Hp) (C : Addr) (cl : List (Str × Addr)) (fp : List Addr) acc, I k acc → DTs (X.blk s H0 scope (compEnvC scope cl C X.env) fp) p ((wipeE δ vs).set i (some (.d (.int (k : Int))))) ifs fun b =>
      if b = true then ∀ (s : Shared) (H0 : Hp) (C : Addr) (cl : List (Str × Addr)) (fp : List Addr), DE (X.blk s H0 scope (compEnvC scope cl C X.env) fp) p ((wipeE δ vs).set i (some (.d (.int (k : Int))))) elt fun y => ∃ d, y = .d d ∧ I (k + 1) (acc ++ [d]) else I (k + 1) acc) ∧
      ∀ acc, I n.toNat acc → Kp (.d (.list acc))) : Lc X p δ (tLc (iRng1 (wpA X [a])) (gName i) (wpTsB X scope ifs) (wpEB X scope elt) vs) Kp := fun σ G H he hs Q hq => by
  refine h σ G H he hs _ fun us rs G1 H1 ⟨n, hr, hz, hz2, I, i0, i1, i2⟩ g1 rv => ?_
  subst hr
  cases rv with
  | cons r1 r2 =>
    cases r1
    cases r2
    refine ⟨n, rfl, hz2, by omega, fun D hD => lc_range (lo := 0) (n := n.toNat) (LcAt X.K p G1 H1 I D) (LcAt.start g1.sat hD i0) ?_ ?_⟩
    · intro k H' hk hq'
      have e0 : (0 : Int) + (k : Int) = (k : Int) := Int.zero_add _
      rw [e0]
      exact ⟨hw σ _, lc_turn (scope := scope) (ifs := ifs) (elt := elt) g1.sat (he.up g1.ex) hD (by omega) hq' (r := .d (.int (k : Int))) (Rp.int _) (i1 k (by omega))⟩
    · rintro H' ⟨acc, us, G', ik, ra, hd, gd, g', _⟩
      have gf := g'.fix g1.sat hD gd hd
      exact hq _ (.d (.list acc)) _ H' (i2 acc ik) (g1.trans gf hs) (Rp.lst upd_same (Ex.dps (Ex.new gd) _ _ ra))
end
end Z
end

section
set_option linter.all false
set_option maxRecDepth 100000
set_option maxHeartbeats 2000000
namespace Z
open PySem L2 PyProof.Rows

/-! ### a def's promise where no repr is under way -/
structure FnG (P : Program) (w : World) (K : PySem.W.Frag) (mg : Str → Option Value) (base : Heap) (CX : CXT) (k : Nat) (f : Addr) (fd : FuncData) (ps : List Str) (sp : Sp) : Prop where
  len : ∀ vs H Q E, sp vs H Q E → vs.length = ps.length
  run : ∀ (A : Around) (outer : List Env) (s : Shared) (H : Hp) (args : Args) (us : List Value) (vs : List V) (Q : VK) (E : XK), A.guards = some [] → Room k A → Env0 P w K mg base A outer s H →
    BindsTo s fd args (ps.zip us) → Vals vs us → sp vs H Q E → codeAny (model P w) A (.call (.ref f) args) (CR CX outer P w H s Q E) s
theorem FnG.mono {P : Program} {w : World} {K : PySem.W.Frag} {mg : Str → Option Value} {base : Heap} {CX : CXT} {j k : Nat} {f : Addr} {fd : FuncData} {ps : List Str} {sp : Sp} (F : FnG P w K mg base CX j f fd ps sp) (h : j ≤ k) : FnG P w K mg base CX k f fd ps sp :=
  ⟨F.len, fun A outer s H args us vs Q E g hr => F.run A outer s H args us vs Q E g (hr.mono h)⟩

/-- the context of a def's body -/
abbrev bx (CX : CXT) (P : Program) (w : World) (K : PySem.W.Frag) (mg : Str → Option Value) (base : Heap) (N : List Str) (qual : Str) (st : Stmt) (f : Addr) (cdv : Value) (A : Around) (outer : List Env) (s : Shared) (H : Hp) (E : XK) : Cx :=
  cxOf CX P w K mg base N qual (defScope st) f cdv A outer s H E
theorem fnG_of {CX : CXT} {P : Program} {w : World} {K : PySem.W.Frag} {mg : Str → Option Value} {base : Heap} {k : Nat} {f : Addr} {x qual : Str} {st : Stmt} {fd : FuncData} {N ps : List Str} {sp : Sp} (F : Fun K x qual st f fd) (S : FnScope N ps (defScope st))
    (len : ∀ vs H Q E, sp vs H Q E → vs.length = ps.length)
    (hb : ∀ (cdv : Value) (A : Around) (outer : List Env) (s : Shared) (H : Hp) (vs : List V) (Q : VK) (E : XK), A.guards = some [] → Room k (bx CX P w K mg base N qual st f cdv A outer s H E).A → sp vs H Q E →
      wpSs (bx CX P w K mg base N qual st f cdv A outer s H E) (defBody st) { nx := fun _ H' => Q .non H', rt := Q } (start N vs) H) : FnG P w K mg base CX (k + 1) f fd ps sp := by
  obtain ⟨oc, od, kV, doc, pm, an, cdv, ct, osl, rfl, lk, hcd⟩ := F.ex
  refine ⟨len, fun A outer s H args us vs Q E hg hr e0 bnd rv hsp => ?_⟩
  have hlen := len _ _ _ _ hsp
  have KX : K.In s.heap := e0.mod.kin.keeps fun b o e => (e0.bs b o e).1
  have lim : s.heap.NoLimit := e0.mod.nolimit.keeps fun b o e => (e0.bs b o e).1
  have kinds : ∀ y ∈ ps.zip us, (defScope st).names.lookup y.1 = some .local ∨ ((defScope st).names.lookup y.1 = some .cell ∧ ((cellsFrom (s.heap.objs.size + 1) (defScope st).names []).lookup y.1).isSome = true) := by
    rintro ⟨n, v⟩ hy
    rcases S.par n (List.of_mem_zip hy).1 with q | q
    · exact .inl q
    · exact .inr ⟨q, PySem.W.cellsFrom_some _ _ _ (.inl q)⟩
  refine codeAny_call_function hr.depth (KX _ _ lk) rfl S.co S.gen rfl (PySem.W.codeRec_of KX hcd) (bnd _ _ _ _ ?_)
  refine wpAny_newFunctionEnv_cells S.kind kinds fun env he s1 x => ?_
  subst he
  refine ⟨lim.keeps x.toInCall.keep, codeAny_func ?_⟩
  have I := inv_start (CX := CX) (qual := qual) (f := f) (cd := cdv) (E := E) S hr.hd e0 hlen rv x
  have main := hb cdv A outer s H vs Q E hg (hr.deeper _) hsp [] s1 I
  refine wpAny_mono main (fun fl s' hs => ?_) fun e s' hs => hs
  cases fl with
  | ret u =>
    obtain ⟨v, σ', H', J, r2, q⟩ := hs
    exact ⟨v, H', J.os, J.bare, J.base, J.hok, r2, q⟩
  | next =>
    obtain ⟨σ', H', J, q⟩ := hs
    exact ⟨V.non, H', J.os, J.bare, J.base, J.hok, rfl, q⟩
  | brk =>
    obtain ⟨_, _, _, q⟩ := hs
    exact q.elim
  | cont =>
    obtain ⟨_, _, _, q⟩ := hs
    exact q.elim
section
variable {X : Cx} {CX : CXT} {k : Nat} {f : Addr} {fd : FuncData} {ps : List Str} {sp : Sp} {E : XK} {x : Str} {q pos : Pos} {e : Expr} {es : List Expr}
theorem runG {pins : List (Addr × Obj)} {σ : L2.St} {H : Hp} {s : Shared} {Q : VK} {us : List Value} {vs : List V} (F : FnG X.prog X.w X.K X.mg X.base CX k f fd ps sp) (hg : X.A.guards = some []) (hr : Room k X.A) (hb : Binds X.K fd ps []) (hx : Passes CX X E)
    (I : Inv X pins σ H s) (r : Vals vs us) (h : sp vs H Q E) : wpAny (model X.prog X.w) X.A (call (.ref f) us) (EP X pins σ Q) X.xe s := by
  have hl : (us ++ []).length = ps.length := by rw [List.append_nil, ← r.length]; exact F.len _ _ _ _ h
  have bt := hb s us I.kIn hl
  rw [List.append_nil] at bt
  refine wpAny_call (codeAny_mono (F.run X.A X.stack s H ⟨us, []⟩ us vs Q E hg hr I.env0 bt r h) fun r s' hq => ?_)
  cases r with
  | error e => exact hx pins σ H s e s' I hq
  | ok fl =>
    cases fl with
    | ret u => exact I.after hq
    | next => exact hq.elim
    | brk => exact hq.elim
    | cont => exact hq.elim
theorem pe_callG (F : FnG X.prog X.w X.K X.mg X.base CX k f fd ps sp) (hgd : X.A.guards = some []) (hr : Room k X.A) (hg : Gl X x) (hm : X.mg x = some (.ref f)) (hk : PySem.W.keepIn X.K (.ref f) = true) (hb : Binds X.K fd ps []) (hx : Passes CX X E)
    (hdb : (x == ("__debug__" : Str)) = false := by decide) (he : starEach (e :: es) X.env = (false, eval e X.env) :: starEach es X.env := by rfl) (hpl : (backTo pos (starEach es X.env)).any (·.1) = false := by rfl) :
    PE X (.Call (.Name x q) (e :: es) [] pos) (fun σ H Q => wpA X (e :: es) σ H fun vs H1 => sp vs H1 Q E) := by
  refine ⟨fun pins s σ H Q I h => wpAny_Call_Name_kw (ld_glob I hg hm ?_ hdb)⟩
  refine PySem.W.callWith_K (h₀ := X.base) I.ok.mod.kin hk (thn ((paW (e :: es)).run pos pins s σ H _ I h) fun us s1 ⟨vs, H1, I1, r, q⟩ => ⟨I1.kIn, ?_⟩) he hpl
  exact runG F hgd hr hb hx I1 r q
theorem pe_callG0 (F : FnG X.prog X.w X.K X.mg X.base CX k f fd ps sp) (hgd : X.A.guards = some []) (hr : Room k X.A) (hg : Gl X x) (hm : X.mg x = some (.ref f)) (hk : PySem.W.keepIn X.K (.ref f) = true) (hb : Binds X.K fd ps []) (hx : Passes CX X E)
    (hdb : (x == ("__debug__" : Str)) = false := by decide) : PE X (.Call (.Name x q) [] [] pos) (fun σ H Q => sp [] H Q E) := by
  refine ⟨fun pins s σ H Q I h => wpAny_Call_Name_kw (ld_glob I hg hm ?_ hdb)⟩
  exact PySem.W.callWith_K0 I.kIn hk (runG (us := []) F hgd hr hb hx I .nil h)
end

/-! ### promises over what is known -/
/-- what a def does of what is known: the drawing list, the arguments, what is wanted of the answer -/
abbrev DSp := Option Addr → List DV → (DV → Prop) → Prop
def spD (K : PySem.W.Frag) (F : DSp) : Sp := fun vs H Q _ => ∃ p G ds Kp, Sat p G H ∧ Rels K G ds vs ∧ F p ds Kp ∧ ∀ v r G2 H2, Kp r → Go p G H G2 H2 → rel K G2 r v → Q v H2
structure Callee (P : Program) (w : World) (K : PySem.W.Frag) (mg : Str → Option Value) (base : Heap) (x : Str) (k : Nat) (F : DSp) : Prop where
  ex : ∃ f fd ps, mg x = some (.ref f) ∧ PySem.W.keepIn K (.ref f) = true ∧ Binds K fd ps [] ∧ FnG P w K mg base CX0 k f fd ps (spD K F)
section
variable {X : Cx} {p : Option Addr} {δ : En} {Kp : DV → Prop} {k : Nat} {F : DSp} {x : Str} {q pos : Pos} {e : Expr} {es : List Expr}
theorem de_call (c : Callee X.prog X.w X.K X.mg X.base x k F) (hgd : X.A.guards = some []) (hr : Room k X.A) (hg : Gl X x) (h : DA X p δ (e :: es) fun rs => F p rs Kp)
    (hdb : (x == ("__debug__" : Str)) = false := by decide) (he : starEach (e :: es) X.env = (false, eval e X.env) :: starEach es X.env := by rfl) (hpl : (backTo pos (starEach es X.env)).any (·.1) = false := by rfl) : DE X p δ (.Call (.Name x q) (e :: es) [] pos) Kp := fun σ G H he' hs Q hq => by
  obtain ⟨f, fd, ps, c1, c2, c3, c4⟩ := c.ex
  refine ofE (pe_callG c4 hgd hr hg c1 c2 c3 pass0 hdb he hpl) (h σ G H he' hs _ fun vs rs G1 H1 hf g1 rv => ?_)
  exact ⟨p, G1, rs, Kp, g1.sat, rv, hf, fun v r G2 H2 k g2 rr => hq v r G2 H2 k (g1.trans g2 hs) rr⟩
theorem de_call0 (c : Callee X.prog X.w X.K X.mg X.base x k F) (hgd : X.A.guards = some []) (hr : Room k X.A) (hg : Gl X x) (h : F p [] Kp) (hdb : (x == ("__debug__" : Str)) = false := by decide) : DE X p δ (.Call (.Name x q) [] [] pos) Kp := fun σ G H he' hs Q hq => by
  obtain ⟨f, fd, ps, c1, c2, c3, c4⟩ := c.ex
  exact ofE (pe_callG0 c4 hgd hr hg c1 c2 c3 pass0 hdb) ⟨p, G, [], Kp, hs, .nil, h, fun v r G2 H2 k g2 rr => hq v r G2 H2 k g2 rr⟩
/-- a built-in function by its values -/
theorem de_callB {id : String} {r : List V → Hp → VK → Prop} (hc : CallR X (.builtin id) r) (hg : Gl X x) (hm : X.mg x = none) (hv : bootBuiltins x = some (.builtin id))
    (h : DA X p δ (e :: es) fun rs => ∀ G H vs, Sat p G H → Rels X.K G rs vs → ∀ Q : VK, (∀ v r G2 H2, Kp r → Go p G H G2 H2 → rel X.K G2 r v → Q v H2) → r vs H Q)
    (hn : x ≠ "__name__" := by decide) (hdb : (x == ("__debug__" : Str)) = false := by decide) (he : starEach (e :: es) X.env = (false, eval e X.env) :: starEach es X.env := by rfl) (hpl : (backTo pos (starEach es X.env)).any (·.1) = false := by rfl) :
    DE X p δ (.Call (.Name x q) (e :: es) [] pos) Kp := fun σ G H he' hs Q hq =>
  ofE (pe_callB hc hg hm hv (paW _) hn hdb he hpl) (h σ G H he' hs _ fun vs rs G1 H1 k1 g1 rv => k1 G1 H1 vs g1.sat rv Q fun v r G2 H2 k g2 rr => hq v r G2 H2 k (g1.trans g2 hs) rr)
theorem de_callTy {T : String} {r : List V → Hp → VK → Prop} (hc : CallR X (.type T) r) (hg : Gl X x) (hm : X.mg x = none) (hv : bootBuiltins x = some (.type T))
    (h : DA X p δ (e :: es) fun rs => ∀ G H vs, Sat p G H → Rels X.K G rs vs → ∀ Q : VK, (∀ v r G2 H2, Kp r → Go p G H G2 H2 → rel X.K G2 r v → Q v H2) → r vs H Q)
    (hn : x ≠ "__name__" := by decide) (hdb : (x == ("__debug__" : Str)) = false := by decide) (he : starEach (e :: es) X.env = (false, eval e X.env) :: starEach es X.env := by rfl) (hpl : (backTo pos (starEach es X.env)).any (·.1) = false := by rfl) :
    DE X p δ (.Call (.Name x q) (e :: es) [] pos) Kp := fun σ G H he' hs Q hq =>
  ofE (pe_callTy hc hg hm hv (paW _) hn hdb he hpl) (h σ G H he' hs _ fun vs rs G1 H1 k1 g1 rv => k1 G1 H1 vs g1.sat rv Q fun v r G2 H2 k g2 rr => hq v r G2 H2 k (g1.trans g2 hs) rr)
/-- len of data -/
def lenD : PyData → Option Nat
  | .list ds => some ds.length
  | .tuple ds => some ds.length
  | .str x => if x.length ≤ sizeLine then some x.length else none
  | _ => none
theorem de_len (hg : Gl X "len") (hm : X.mg "len" = none) (h : DE X p δ e fun r => ∃ d n, r = .d d ∧ lenD d = some n ∧ Kp (.d (.int (n : Int))))
    (he : starEach [e] X.env = (false, eval e X.env) :: starEach [] X.env := by rfl) : DE X p δ (.Call (.Name "len" q) [e] [] pos) Kp :=
  de_callB call_len hg hm PySem.boot_len (da_cons (h.imp fun r ⟨d, n, hr, hl, k⟩ => da_nil fun G H vs s rv Q hq => by
    subst hr
    cases rv with
    | cons r1 r2 =>
      cases r2
      refine ⟨_, n, rfl, ?_, hq _ _ G H k (.refl s) (Rp.int _)⟩
      cases r1 with
      | non => cases hl
      | bl _ => cases hl
      | int _ => cases hl
      | str y =>
        have hl : (if y.length ≤ sizeLine then some y.length else none) = some n := hl
        by_cases hz : y.length ≤ sizeLine
        · rw [if_pos hz] at hl
          cases hl
          exact ⟨hz, rfl⟩
        · rw [if_neg hz] at hl
          cases hl
      | lst hl' ha =>
        cases hl
        exact .inl ⟨_, .of (s.ex _ _ hl'), ha.len.symm⟩
      | tup hl' ha =>
        cases hl
        exact .inr ⟨_, s.ex.st hl', ha.len.symm⟩) he) (he := he)
/-- the name of the class of data -/
def tyN : PyData → String
  | .none => "NoneType"
  | .bool _ => "bool"
  | .int _ => "int"
  | .str _ => "str"
  | .list _ => "list"
  | .tuple _ => "tuple"
  | .dict _ => "dict"
theorem ty_of {K : PySem.W.Frag} {G H : Hp} {d : PyData} {v : V} (e : Ex G H) (h : Rp K G v d) : TyX K H v (.type (tyN d)) := by
  cases h with
  | non => exact .base .non
  | bl b => exact .base (.bl b)
  | int i => exact .base (.int i)
  | str x => exact .base (.str x)
  | lst hl ha => exact .base (.lst (e _ _ hl))
  | tup hl ha =>
    rcases e.st hl with (h | ⟨o, h⟩) | ⟨o, its, n, hk, hc, _⟩
    · exact .base (.tup h)
    · exact .fTuple h
    · exact .kTuple hk hc
theorem de_isi {T : String} {c : Expr} {b : PyData → Bool} (hT : ∀ d, (∀ l, d ≠ .dict l) → kitB (tyN d) T = some (b d)) (hg : Gl X "isinstance") (hm : X.mg "isinstance" = none)
    (hc : ∀ Kq : DV → Prop, Kq (.v (.ty T)) → DE X p δ c Kq) (h : DE X p δ e fun r => ∃ d, r = .d d ∧ Kp (.d (.bool (b d))))
    (he : starEach [e, c] X.env = (false, eval e X.env) :: starEach [c] X.env := by rfl) (he2 : starEach [c] X.env = (false, eval c X.env) :: starEach [] X.env := by rfl) (hpl : (backTo pos (starEach [c] X.env)).any (·.1) = false := by rfl) : DE X p δ (.Call (.Name "isinstance" q) [e, c] [] pos) Kp :=
  de_callB call_isi hg hm (by decide +kernel) (da_cons (h.imp fun r ⟨d, hr, k⟩ => da_cons (hc _ (da_nil fun G H vs s rv Q hq => by
    subst hr
    cases rv with
    | cons r1 r2 =>
      cases r2 with
      | cons r2 r3 =>
        cases r3
        cases r2
        refine ⟨_, _, _, _, b d, rfl, .ty T, ty_of s.ex r1, kit_ty (hT d fun l z => ?_), hq _ _ G H k (.refl s) (Rp.bl _)⟩
        subst z
        cases r1)) he2) he) (he := he) (hpl := hpl)
theorem de_ty {T : String} {Kq : DV → Prop} (hg : Gl X x) (hm : X.mg x = none) (hv : bootBuiltins x = some (.type T)) (k : Kq (.v (.ty T))) (hn : x ≠ "__name__" := by decide) (hdb : (x == ("__debug__" : Str)) = false := by decide) : DE X p δ (.Name x pos) Kq := fun σ G H he hs Q hq =>
  ofE (pe_bltn (v := .ty T) hg hm hv rfl hn hdb) (hq _ (.v (.ty T)) G H k (.refl hs) rfl)
/-- int(n), n an int or a bool -/
theorem de_intI (hg : Gl X "int") (hm : X.mg "int" = none) (h : DE X p δ e fun r => ∃ i, r = .d (.int i) ∧ Kp (.d (.int i))) (he : starEach [e] X.env = (false, eval e X.env) :: starEach [] X.env := by rfl) : DE X p δ (.Call (.Name "int" q) [e] [] pos) Kp :=
  de_callTy call_int1 hg hm (by decide +kernel) (da_cons (h.imp fun r ⟨i, hr, k⟩ => da_nil fun G H vs s rv Q hq => by
    subst hr
    cases rv with
    | cons r1 r2 =>
      cases r2
      cases r1
      exact .inl ⟨i, rfl, hq _ _ G H k (.refl s) (Rp.int _)⟩) he) (he := he)
theorem de_intB (hg : Gl X "int") (hm : X.mg "int" = none) (h : DE X p δ e fun r => ∃ b, r = .d (.bool b) ∧ Kp (.d (.int (if b then 1 else 0)))) (he : starEach [e] X.env = (false, eval e X.env) :: starEach [] X.env := by rfl) : DE X p δ (.Call (.Name "int" q) [e] [] pos) Kp :=
  de_callTy call_int1 hg hm (by decide +kernel) (da_cons (h.imp fun r ⟨b, hr, k⟩ => da_nil fun G H vs s rv Q hq => by
    subst hr
    cases rv with
    | cons r1 r2 =>
      cases r2
      cases r1
      exact .inr ⟨b, rfl, hq _ _ G H k (.refl s) (Rp.int _)⟩) he) (he := he)
theorem de_abs (hg : Gl X "abs") (hm : X.mg "abs" = none) (h : DE X p δ e fun r => ∃ i, r = .d (.int i) ∧ Kp (.d (.int (if i < 0 then -i else i)))) (he : starEach [e] X.env = (false, eval e X.env) :: starEach [] X.env := by rfl) : DE X p δ (.Call (.Name "abs" q) [e] [] pos) Kp :=
  de_callB call_abs hg hm (by decide +kernel) (da_cons (h.imp fun r ⟨i, hr, k⟩ => da_nil fun G H vs s rv Q hq => by
    subst hr
    cases rv with
    | cons r1 r2 =>
      cases r2
      cases r1
      exact ⟨i, rfl, hq _ _ G H k (.refl s) (Rp.int _)⟩) he) (he := he)
theorem de_max2 {c : Expr} (hcm : X.calm = true) (hg : Gl X "max") (hm : X.mg "max" = none) (h : DE X p δ e fun r => ∃ i, r = .d (.int i) ∧ DE X p δ c fun r2 => ∃ j, r2 = .d (.int j) ∧ Kp (.d (.int (if j > i then j else i))))
    (he : starEach [e, c] X.env = (false, eval e X.env) :: starEach [c] X.env := by rfl) (he2 : starEach [c] X.env = (false, eval c X.env) :: starEach [] X.env := by rfl) (hpl : (backTo pos (starEach [c] X.env)).any (·.1) = false := by rfl) : DE X p δ (.Call (.Name "max" q) [e, c] [] pos) Kp :=
  de_callB (call_max2 hcm) hg hm (by decide +kernel) (da_cons (h.imp fun r ⟨i, hr, h2⟩ => da_cons (h2.imp fun r2 ⟨j, hr2, k⟩ => da_nil fun G H vs s rv Q hq => by
    subst hr hr2
    cases rv with
    | cons r1 r2 =>
      cases r2 with
      | cons r2 r3 =>
        cases r3
        cases r1
        cases r2
        exact ⟨i, j, rfl, hq _ _ G H k (.refl s) (Rp.int _)⟩) he2) he) (he := he) (hpl := hpl)
theorem de_min2 {c : Expr} (hcm : X.calm = true) (hg : Gl X "min") (hm : X.mg "min" = none) (h : DE X p δ e fun r => ∃ i, r = .d (.int i) ∧ DE X p δ c fun r2 => ∃ j, r2 = .d (.int j) ∧ Kp (.d (.int (if j < i then j else i))))
    (he : starEach [e, c] X.env = (false, eval e X.env) :: starEach [c] X.env := by rfl) (he2 : starEach [c] X.env = (false, eval c X.env) :: starEach [] X.env := by rfl) (hpl : (backTo pos (starEach [c] X.env)).any (·.1) = false := by rfl) : DE X p δ (.Call (.Name "min" q) [e, c] [] pos) Kp :=
  de_callB (call_min2 hcm) hg hm (by decide +kernel) (da_cons (h.imp fun r ⟨i, hr, h2⟩ => da_cons (h2.imp fun r2 ⟨j, hr2, k⟩ => da_nil fun G H vs s rv Q hq => by
    subst hr hr2
    cases rv with
    | cons r1 r2 =>
      cases r2 with
      | cons r2 r3 =>
        cases r3
        cases r1
        cases r2
        exact ⟨i, j, rfl, hq _ _ G H k (.refl s) (Rp.int _)⟩) he2) he) (he := he) (hpl := hpl)
/-- list(xs) -/
theorem de_listOf (hg : Gl X "list") (hm : X.mg "list" = none) (h : DE X p δ e fun r => ∃ d ds, r = .d d ∧ itemsOf d = some ds ∧ Kp (.d (.list ds))) (he : starEach [e] X.env = (false, eval e X.env) :: starEach [] X.env := by rfl) : DE X p δ (.Call (.Name "list" q) [e] [] pos) Kp :=
  de_callTy call_list_of hg hm (by decide +kernel) (da_cons (h.imp fun r ⟨d, ds, hr, hi, k⟩ => da_nil fun G H vs s rv Q hq => by
    subst hr
    cases rv with
    | cons r1 r2 =>
      cases r2
      cases r1 with
      | lst hl ha =>
        cases hi
        exact ⟨_, _, rfl, .inl (.of (s.ex _ _ hl)), fun l hn => hq _ _ _ _ k (Go.alloc s hn) (Rp.lst upd_same (Ex.dps (Ex.new (s.fresh hn)) _ _ ha))⟩
      | tup hl ha =>
        cases hi
        exact ⟨_, _, rfl, .inr (s.ex.st hl), fun l hn => hq _ _ _ _ k (Go.alloc s hn) (Rp.lst upd_same (Ex.dps (Ex.new (s.fresh hn)) _ _ ha))⟩
      | non => cases hi
      | bl _ => cases hi
      | int _ => cases hi
      | str _ => cases hi) he) (he := he)
/-- repr of data -/
def rReprD (K : PySem.W.Frag) : List V → Hp → VK → Prop := fun xs H Q => ∃ v d, xs = [v] ∧ Dp K H v d ∧ d.canLay0 = true ∧ d.depth ≤ 60 ∧ d.showable = true ∧ d.shown.length ≤ sizeLine ∧ Q (.str d.shown) H
theorem call_reprD (hgd : X.A.guards = some []) (hu : X.A.units + 64 < cLine) : CallR X (.builtin "repr") (rReprD X.K) := by
  intro pins s σ H xs us Q I r h
  obtain ⟨v, d, rfl, hd, hc, hdp, hsh, hz, k⟩ := h
  obtain ⟨u, rfl, ru⟩ := vals1 r
  obtain ⟨as, rd⟩ := Dp.reads I d v u hd ru
  have fin : ∀ h' t tk, (∀ b o, s.heap.get? b = some o → h'.get? b = some o) → EP X pins σ Q (.str d.shown t) { s with heap := h', toks := tk } := fun h' t tk hk => ⟨.str d.shown, H, I.kept hk, ⟨t, rfl⟩, k⟩
  have nd : d.hasDict = true → sysModules ∉ as := PyData.noDict_hsm (PyData.hasDict_of_canLay d hc)
  cases rd with
  | none => exact PySem.P.repr_of_none (fin s.heap _ _ fun _ _ e => e)
  | bool b => exact PySem.P.repr_of_bool (fin s.heap _ _ fun _ _ e => e)
  | int i t => exact PySem.P.repr_of_int (by simpa [PyData.showable] using hsh) (fin s.heap _ _ fun _ _ e => e)
  | str y t => exact PySem.P.repr_of_str (fin s.heap _ _ fun _ _ e => e) (by simpa [PyData.shown] using hz)
  | list h1 h2 h3 h4 => exact repr_of_reads' (.list h1 h2 h3 h4) hsh nd hgd (by omega) (fun _ _ e => e) fin hz
  | tuple h1 h2 h3 h4 => exact repr_of_reads' (.tuple h1 h2 h3 h4) hsh nd hgd (by omega) (fun _ _ e => e) fin hz
  | dict _ _ _ _ _ => cases hc
end
end Z
end

section
set_option linter.all false
set_option maxRecDepth 100000
set_option maxHeartbeats 2000000
namespace Z
open PySem L2 PyProof.Rows

def retP (Kp : DV → Prop) : Out → Prop
  | .rt r => Kp r
  | .nx _ => Kp (.d .none)
  | .bk _ => False
  | .ct _ => False
def startD (N : List Str) (ds : List DV) : En := ds.map some ++ List.replicate (N.length - ds.length) none
theorem env_start {K : PySem.W.Frag} {G : Hp} {N : List Str} : ∀ {ds : List DV} {vs : List V}, Rels K G ds vs → ds.length ≤ N.length → EnvD K G (startD N ds) (L2.start N vs) := by
  intro ds vs h hl
  have hlen := h.length
  refine ⟨by simp [startD, L2.start, hlen], fun i r e => ?_⟩
  unfold startD at e
  unfold L2.start
  by_cases hi : i < ds.length
  · rw [List.getElem?_append_left (by simpa using hi), List.getElem?_map] at e
    rw [List.getElem?_append_left (by simpa [hlen] using hi), List.getElem?_map]
    have key : ∀ {ds : List DV} {vs : List V} (i : Nat), Rels K G ds vs → ∀ r, ds[i]? = some r → ∃ v, vs[i]? = some v ∧ rel K G r v := by
      intro ds vs i h
      induction h generalizing i with
      | nil => intro r e; simp at e
      | cons a b ih =>
        intro r e
        cases i with
        | zero => simp at e; subst e; exact ⟨_, rfl, a⟩
        | succ i => obtain ⟨v, h1, h2⟩ := ih i r (by simpa using e); exact ⟨v, by simpa using h1, h2⟩
    cases q : ds[i]? with
    | none => rw [q] at e; cases e
    | some d =>
      rw [q] at e
      cases e
      obtain ⟨v, h1, h2⟩ := key i h _ q
      exact ⟨v, by rw [h1]; rfl, h2⟩
  · rw [List.getElem?_append_right (by simpa using hi), List.getElem?_replicate] at e
    split at e <;> cases e
theorem fnD_of {P : Program} {w : World} {K : PySem.W.Frag} {mg : Str → Option Value} {base : Heap} {k : Nat} {f : Addr} {x qual : Str} {st : Stmt} {fd : FuncData} {N ps : List Str} (F : Fun K x qual st f fd) (S : FnScope N ps (defScope st)) (Fp : DSp)
    (len : ∀ p ds Kp, Fp p ds Kp → ds.length = ps.length)
    (body : ∀ (cdv : Value) (A : Around) (outer : List Env) (s : Shared) (H : Hp) (E : XK), A.guards = some [] → Room k (bx CX0 P w K mg base N qual st f cdv A outer s H E).nox.A → ∀ p ds Kp, Fp p ds Kp →
      DSs (bx CX0 P w K mg base N qual st f cdv A outer s H E).nox p (startD N ds) (defBody st) (retP Kp)) : FnG P w K mg base CX0 (k + 1) f fd ps (spD K Fp) := by
  have hN : ps.length ≤ N.length := by have := congrArg List.length S.pre; rw [List.length_take] at this; omega
  refine fnG_of F S (fun vs H Q E ⟨p, G, ds, Kp, hs, rv, hf, _⟩ => by rw [rv.length]; exact len p ds Kp hf) fun cdv A outer s H vs Q E hg hr hsp => ?_
  obtain ⟨p, G, ds, Kp, hs, rv, hf, k⟩ := hsp
  intro pins s1 I
  refine (PSs.nox (pssW _)).run pins s1 _ H _ I ?_
  refine body cdv A outer s H E hg hr p ds Kp hf _ G H (env_start rv (by rw [len p ds Kp hf]; exact hN)) hs _ ⟨fun δ σ G2 H2 q g _ => k .non (.d .none) G2 H2 q g Rp.non, fun r v G2 H2 q g rr => k v r G2 H2 q g rr, fun _ _ _ _ q => q.elim, fun _ _ _ _ q => q.elim⟩

/-! ### sums and products of data of any kind -/
def addD : PyData → PyData → Option PyData
  | .int i, .int j => some (.int (i + j))
  | .list a, .list b => if a.length + b.length ≤ sizeLine then some (.list (a ++ b)) else none
  | .tuple a, .tuple b => if a.length + b.length ≤ sizeLine then some (.tuple (a ++ b)) else none
  | _, _ => none
def mulD : PyData → PyData → Option PyData
  | .list a, .int k => if -(2 ^ 63) ≤ k ∧ k < 2 ^ 63 ∧ a.length * k.toNat ≤ sizeLine then some (.list (List.replicate k.toNat a).flatten) else none
  | _, _ => none
theorem opr_or {X : Cx} {f : Value → Value → Sem Value} {r1 r2 : R2} (h1 : OpR X f r1) (h2 : OpR X f r2) : OpR X f (fun x y H Q => r1 x y H Q ∨ r2 x y H Q) := fun pins s σ H x y v u Q I rx ry h => h.elim (h1 pins s σ H x y v u Q I rx ry) (h2 pins s σ H x y v u Q I rx ry)
section
variable {X : Cx} {p : Option Addr} {δ : En} {Kp : DV → Prop} {P : Out → Prop} {a b e : Expr} {pos : Pos}
theorem de_addD (h : DE X p δ a fun x => ∃ c, x = .d c ∧ DE X p δ b fun y => ∃ d r, y = .d d ∧ addD c d = some r ∧ Kp (.d r)) : DE X p δ (.BinOp a .Add b pos) Kp :=
  de_bop (opr_or op_add (opr_or op_cat op_catA)) (h.imp fun x ⟨c, hx, hb⟩ => hb.imp fun y ⟨d, r, hy, hr, k⟩ G H vx vy s rx ry Q q => by
    subst hx hy
    cases rx with
    | int i =>
      cases ry with
      | int j => cases hr; exact .inl ⟨i, j, rfl, rfl, q _ _ G H k (.refl s) (Rp.int _)⟩
      | non => cases hr
      | bl _ => cases hr
      | str _ => cases hr
      | lst _ _ => cases hr
      | tup _ _ => cases hr
    | @lst a1 xs ds hl ha =>
      cases ry with
      | @lst a2 ys es hl' ha' =>
        have hr : (if ds.length + es.length ≤ sizeLine then some (PyData.list (ds ++ es)) else none) = some r := hr
        by_cases hz : ds.length + es.length ≤ sizeLine
        · rw [if_pos hz] at hr
          cases hr
          exact .inr (.inl ⟨_, _, _, _, rfl, rfl, s.ex _ _ hl, s.ex _ _ hl', by rw [ha.len, ha'.len]; exact hz, fun q' hq' => q _ _ _ _ k (Go.alloc s hq') (Rp.lst upd_same (Ex.dps (Ex.new (s.fresh hq')) _ _ (ha.app ha')))⟩)
        · rw [if_neg hz] at hr
          cases hr
      | int j => cases hr
      | non => cases hr
      | bl _ => cases hr
      | str _ => cases hr
      | tup _ _ => cases hr
    | @tup a1 xs ds hl ha =>
      cases ry with
      | @tup a2 ys es hl' ha' =>
        have hr : (if ds.length + es.length ≤ sizeLine then some (PyData.tuple (ds ++ es)) else none) = some r := hr
        by_cases hz : ds.length + es.length ≤ sizeLine
        · rw [if_pos hz] at hr
          cases hr
          refine .inr (.inr ⟨_, _, _, _, rfl, rfl, s.ex.st hl, s.ex.st hl', by rw [ha.len, ha'.len]; exact hz, fun e0 => ?_, fun _ e0 => ?_, fun _ _ q' hq' => ?_⟩)
          · subst e0
            have : ds = [] := List.eq_nil_of_length_eq_zero (by have := ha.len; simpa using this.symm)
            subst this
            exact q _ _ G H k (.refl s) (Rp.tup hl' ha')
          · subst e0
            have : es = [] := List.eq_nil_of_length_eq_zero (by have := ha'.len; simpa using this.symm)
            subst this
            rw [List.append_nil] at k
            exact q _ _ G H k (.refl s) (Rp.tup hl ha)
          · exact q _ _ _ _ k (Go.alloc s hq') (Rp.tup (.of upd_same) (Ex.dps (Ex.new (s.fresh hq')) _ _ (ha.app ha')))
        · rw [if_neg hz] at hr
          cases hr
      | int j => cases hr
      | non => cases hr
      | bl _ => cases hr
      | str _ => cases hr
      | lst _ _ => cases hr
    | non => cases ry <;> cases hr
    | bl _ => cases ry <;> cases hr
    | str _ => cases ry <;> cases hr)

/-! ### the drawing list -/
variable {fd : Addr}
theorem de_feed {i : Nat} {x : Str} {px : Pos} {z : Int} {j : Nat} {pz : Pos} (hN : X.N[i]? = some x) (hv : Vis X.env.scope x) (hr : δ[i]? = some (some (.v (.ref fd)))) (hz : z = 0 ∨ z = 1) (k : ∀ m : Int, Kp (.d (.int m)))
    (hd : (x == ("__debug__" : Str)) = false := by decide) (hcd : (x == ("__classdict__" : Str)) = false := by decide) (hp : PlainIx (.Constant (.int z) j pz) := by exact fun _ _ => rfl) : DE X (some fd) δ (.Subscript (.Name x px) (.Constant (.int z) j pz) pos) Kp := fun σ G H he hs Q hq => by
  obtain ⟨v, h1, h2⟩ := he.at_ i _ hr
  cases h2
  obtain ⟨_, m, n, hf⟩ := hs.fd fd rfl
  refine ofE (pe_ix ix_list (pe_var hN hv hd hcd) pe_int hp) ⟨_, h1, ?_⟩
  rcases hz with rfl | rfl
  · exact ⟨fd, [.int m, .int n], 0, .int m, rfl, rfl, .of hf, rfl, hq _ (.d (.int m)) G H (k m) (.refl hs) (Rp.int m)⟩
  · exact ⟨fd, [.int m, .int n], 1, .int n, rfl, rfl, .of hf, rfl, hq _ (.d (.int n)) G H (k n) (.refl hs) (Rp.int n)⟩
theorem Go.feed {G H : Hp} (s : Sat (some fd) G H) {m n : Int} : Go (some fd) G H G (upd H fd (.lst [.int m, .int n])) := by
  obtain ⟨h1, _⟩ := s.fd fd rfl
  refine ⟨.refl G, fun _ _ e => .inl e, ⟨fun a u e => ?_, fun a e => ?_⟩, fun a u hp e => ?_⟩
  · rw [upd_ne (ne_of_none e h1)]
    exact s.ex a u e
  · cases e
    exact ⟨h1, m, n, upd_same⟩
  · rw [upd_ne (fun z => hp (by rw [z]))]
    exact e
theorem ds_feed {i : Nat} {x : Str} {px ps pz pst : Pos} {z : Int} {j : Nat} (hN : X.N[i]? = some x) (hv : Vis X.env.scope x) (hr : δ[i]? = some (some (.v (.ref fd)))) (hz : z = 0 ∨ z = 1) (h : DE X (some fd) δ e fun r => ∃ m : Int, r = .d (.int m) ∧ P (.nx δ))
    (hd : (x == ("__debug__" : Str)) = false := by decide) (hcd : (x == ("__classdict__" : Str)) = false := by decide)
    (hp : PS X (.Assign [.Subscript (.Name x px) (.Constant (.int z) j pz) ps] e pst) (tAsg (wpE X e) (gSub (tVar i) (tC (.int z)) rSetL)) := by exact ps_asg (peW _) (pg_sub (pv _) pe_int set_list)) : DS X (some fd) δ (.Assign [.Subscript (.Name x px) (.Constant (.int z) j pz) ps] e pst) P := fun σ G H he hs D d => by
  refine ofS hp ?_
  refine h σ G H he hs _ fun v r G1 H1 ⟨m, hr', k⟩ g1 rv => ?_
  subst hr'
  cases rv
  obtain ⟨u, h1, h2⟩ := (he.up g1.ex).at_ i _ hr
  cases h2
  obtain ⟨_, m0, n0, hf⟩ := g1.sat.fd fd rfl
  refine ⟨_, h1, ?_⟩
  rcases hz with rfl | rfl
  · exact ⟨fd, [.int m0, .int n0], 0, 0, rfl, rfl, hf, rfl, d.nx δ σ _ _ k (g1.trans (Go.feed g1.sat) hs) (he.up g1.ex)⟩
  · exact ⟨fd, [.int m0, .int n0], 1, 1, rfl, rfl, hf, rfl, d.nx δ σ _ _ k (g1.trans (Go.feed g1.sat) hs) (he.up g1.ex)⟩
end
end Z
end

section
set_option linter.all false
set_option maxRecDepth 100000
set_option maxHeartbeats 2000000
namespace Z
open PySem L2 PyProof.Rows

/-! ### the end of a law's row: the call of law, where no repr is under way -/
section
variable {P : Program} {w : World} {K : PySem.W.Frag} {mg mb : Str → Option Value} {CX : CXT} {k : Nat} {fa a : Addr} {fd : FuncData} {x : Str} {sp : Sp} {s₁ : Shared} {vs : List Value} {ns : List Int}
abbrev GoodEnd (s₁ : Shared) : Result → Shared → Prop := fun r s' => r = .ok (.ret (.bool true)) ∧ OldK s₁.heap s'.heap ∧ s'.os = s₁.os ∧ AllBare s'.gens
theorem law_core (H : Hp) (hO : Only H) (KX : K.In s₁.heap) (hns : s₁.heap.Ns mainGlobals mg) (hb : s₁.heap.Ns builtinsNs mb) (hbb : ∀ x : Str, x ≠ "__name__" → mb x = bootBuiltins x) (hlim : s₁.heap.NoLimit) (hg : s₁.gens = #[])
    (ha : s₁.heap.get? a = some { cls := .type "list", data := .seq vs.toArray }) (hr : Room k callerA) (F : ∀ base : Heap, K.In base → base.Ns mainGlobals mg → FnG P w K mg base CX k fa fd [x] sp)
    (hbind : ∀ (s : Shared) (u : Value), BindsTo s fd ⟨[u], []⟩ [(x, u)]) (hsp : sp [.ref a] H (fun v _ => v = .bl true) fun _ _ _ => False) (hCX : ∀ H e s', CX [] H s₁ (fun _ _ _ => False) e s' → False)
    (ok : HOk P w H s₁.heap) (hA : ∀ b, H b ≠ none → b = a) (hK : H a ≠ none → K.lookup a = none) : codeAny (model P w) callerA (.call (.ref fa) ⟨[.ref a], []⟩) (GoodEnd s₁) s₁ := by
  have free : ∀ {b : Addr} {o : Obj}, s₁.heap.get? b = some o → (b = a → False) → H b = none := fun {b o} _ nb => by
    cases q : H b with
    | none => rfl
    | some u => exact (nb (hA b (by rw [q]; simp))).elim
  have notDict : ∀ {b : Addr} {o : Obj} {es : Array DictEntry} {ep : Nat}, s₁.heap.get? b = some o → o.data = .dict es ep → H b = none := fun {b o es ep} e d => free e fun z => by
    subst z
    rw [ha] at e
    cases e
    cases (show Data.seq vs.toArray _ = Data.dict es ep from d)
  have hideNs : ∀ {b : Addr} {m : Str → Option Value}, s₁.heap.Ns b m → (hidT s₁.heap H).Ns b m := fun {b m} ⟨o, es, ep, e, d, r⟩ => ⟨o, es, ep, hidT_get e (notDict e d), d, r⟩
  have hideK : K.In (hidT s₁.heap H) := fun b o e => hidT_get (KX b o e) (by
    cases q : H b with
    | none => rfl
    | some u =>
      obtain rfl := hA b (by rw [q]; simp)
      rw [hK (by rw [q]; simp)] at e
      cases e)
  have hM : Mod K mg (hidT s₁.heap H) := ⟨hideK, hideNs hns, ⟨mb, hideNs hb, hbb⟩, let ⟨mc, h1, h2⟩ := hlim; ⟨mc, hideNs h1, h2⟩⟩
  have e0 : Env0 P w K mg (hidT s₁.heap H) callerA [] s₁ H := ⟨rfl, hM, fun b o e => of_hidT e, Nat.le_of_eq (hidT_size _ _), trivial, fun b hb => (nomatch (show b ∈ ([] : List Addr) from hb)), ok, .of_eq hg⟩
  refine codeAny_mono ((F _ hideK (hideNs hns)).run callerA [] s₁ H ⟨[.ref a], []⟩ [.ref a] [.ref a] _ _ rfl hr e0 (hbind s₁ (.ref a)) (.cons rfl .nil) hsp) fun r s' h => ?_
  match r, h with
  | .error e, h => exact (hCX H e s' h).elim
  | .ok .next, h => exact h.elim
  | .ok .brk, h => exact h.elim
  | .ok .cont, h => exact h.elim
  | .ok (.ret u), ⟨v, H', os, bare, un, hok', r', q⟩ =>
    have q' : v = .bl true := q
    subst q'
    obtain rfl : u = Value.bool true := r'
    refine ⟨rfl, OldK.of_keep fun b o e => ?_, os, bare⟩
    cases q : H b with
    | none => exact un.keep b o e q (fun z => nomatch (show b ∈ ([] : List Addr) from z)) (by simp)
    | some u =>
      rcases hO b with z | ⟨ob, xs, z⟩
      · rw [q] at z
        cases z
      · obtain ⟨e1, _⟩ := ok b _ z
        obtain ⟨e2, _⟩ := hok' b _ (un.frzs b ob _ z)
        rw [e] at e1
        cases e1
        exact e2
theorem law_callG (KX : K.In s₁.heap) (hns : s₁.heap.Ns mainGlobals mg) (hb : s₁.heap.Ns builtinsNs mb) (hbb : ∀ x : Str, x ≠ "__name__" → mb x = bootBuiltins x) (hlim : s₁.heap.NoLimit) (hg : s₁.gens = #[])
    (ha : s₁.heap.get? a = some { cls := .type "list", data := .seq vs.toArray }) (hi : IntsAre vs ns) (hl : ns.length ≤ sizeLine) (hr : Room k callerA) (F : ∀ base : Heap, K.In base → base.Ns mainGlobals mg → FnG P w K mg base CX k fa fd [x] sp)
    (hbind : ∀ (s : Shared) (u : Value), BindsTo s fd ⟨[u], []⟩ [(x, u)]) (hsp : ∀ H : Hp, Only H → SqL K H a (ns.map V.int) → sp [.ref a] H (fun v _ => v = .bl true) fun _ _ _ => False)
    (hCX : ∀ H e s', CX [] H s₁ (fun _ _ _ => False) e s' → False) : codeAny (model P w) callerA (.call (.ref fa) ⟨[.ref a], []⟩) (GoodEnd s₁) s₁ := by
  have rv := vals_ints hi
  have lenV := hi.length
  cases hk : K.lookup a with
  | some o =>
    have e := KX a o hk
    rw [ha] at e
    cases e
    have hO : Only fun _ => none := fun _ => .inl rfl
    exact law_core (fun _ => none) hO KX hns hb hbb hlim hg ha hr F hbind (hsp _ hO (.inr ⟨_, vs.toArray, _, hk, rfl, rfl, rfl, by rw [List.size_toArray, lenV]; exact hl, by simpa using rv⟩)) hCX (fun b u z => nomatch (show (none : Option HO) = some u from z)) (fun b z => absurd rfl z) fun z => absurd rfl z
  | none =>
    have hO : Only fun b => if b = a then some (.frz { cls := .type "list", data := .seq vs.toArray } (.lst (ns.map V.int))) else none := fun b => by
      by_cases hb : b = a
      · exact .inr ⟨_, _, if_pos hb⟩
      · exact .inl (if_neg hb)
    refine law_core _ hO KX hns hb hbb hlim hg ha hr F hbind (hsp _ hO (.inl (.inr ⟨{ cls := .type "list", data := .seq vs.toArray }, if_pos rfl⟩))) hCX (fun b u z => ?_) (fun b z => ?_) fun _ => hk
    · by_cases hb : b = a
      · have z' := (if_pos hb).symm.trans z
        cases z'
        subst hb
        exact ⟨ha, by rw [List.length_map]; exact hl, vs, _, rv, ha⟩
      · have z' := (if_neg hb).symm.trans z
        cases z'
    · by_cases hb : b = a
      · exact hb
      · exact absurd (if_neg hb) z
end
/-- a law that gives True for every script -/
def spTrue (K : PySem.W.Frag) : Sp := fun vs H Q _ => ∃ (a : Addr) (ns : List Int), vs = [.ref a] ∧ SqL K H a (ns.map V.int) ∧ ns.length ≤ 63 ∧ Only H ∧ ∀ H', Q (.bl true) H'
theorem walk_G {l : PySem.W.OpenLaw} {k : Nat} {q : Program} {loose : List Str} {XP : (Str → Option Value) → Heap → Prop} {YP : World → Heap → Prop} {d : DefRec} {K : Params → PySem.W.Frag} {x : Str}
    (hn : l.most = some 63) (hdf : d.params.defaults = []) (hr : Room k callerA) (hY : ∀ (w : World) (h : Heap), YP w h → (K w.params).In h)
    (F : ∀ (w : World) (mg : Str → Option Value) (fa : Addr) (h : Heap), (K w.params).In h → h.Ns mainGlobals mg → mg d.name = some (.ref fa) →
      ∃ fd : FuncData, (∀ (s : Shared) (u : Value), BindsTo s fd ⟨[u], []⟩ [(x, u)]) ∧ ∀ base : Heap, (K w.params).In base → base.Ns mainGlobals mg → FnG l.prog w (K w.params) mg base CX0 k fa fd [x] (spTrue (K w.params))) :
    PySem.W.WalkO q loose XP YP l.row.toRowW d [] (fun f vs => PySem.call f vs) := by
  refine Att.attach_call hn hdf fun w s₀ s₁ mg mb fa o pm cd doc a vs ns G Y ho hd hcd hmg hobj hints hlen hg => ?_
  obtain ⟨fd, hb, hF⟩ := F w mg fa _ (hY w _ Y) G.T.g hmg
  exact law_callG (hY w _ Y) G.T.g G.T.b G.T.builtins G.T.nolimit hg hobj hints (Nat.le_trans hlen (by decide)) hr hF hb (fun H hO hS => ⟨a, ns, rfl, hS, hlen, hO, fun _ => rfl⟩) fun H e s' h => h.elim
end Z
end

section
set_option linter.all false
set_option maxRecDepth 100000
set_option maxHeartbeats 2000000
namespace Z
open PySem L2 PyProof.Rows

/-! ### zip of a tuple and a list -/
def ItzTL (K : PySem.W.Frag) (a b : Addr) : It :=
  ⟨fun i H => ∃ (xs ys : List V) (x y : V), SqT K H a xs ∧ SqL K H b ys ∧ xs[i]? = some x ∧ ys[i]? = some y,
    fun i H v H' => ∃ t x y, v = .ref t ∧ H t = none ∧ H' = upd H t (.tup [x, y]) ∧ (∀ xs, SqT K H a xs → xs[i]? = some x) ∧ ∀ ys, SqL K H b ys → ys[i]? = some y,
    fun i H => ∃ xs ys : List V, SqT K H a xs ∧ SqL K H b ys ∧ (xs.length = i ∧ i ≤ ys.length ∨ ys.length = i ∧ i ≤ xs.length)⟩
theorem turn_zipTL {P : Program} {w : World} {K : PySem.W.Frag} {elts : List Expr} {kk : Nat} {tpos : Pos} {a b z TI TO i1 i2 : Addr} (D : ZipSep2 z TI TO i1 i2 [i1, a] [i2, b]) (na : a ≠ i1) (nb : b ≠ i2) :
    Turn P w K (.Tuple elts kk tpos) (ItzTL K a b) [z, TI, TO, i1, i2] z (fun i h => IsZip h z TI TO .none ∧ IsTupOf2 h TI (.ref i1) (.ref i2) ∧ (∃ x y, IsTupOf2 h TO x y) ∧ h.IsTupleIter i1 a i ∧ h.IsListIter i2 b i) where
  mem := by simp
  obj := fun i h ⟨hz, hTI, ⟨x, y, hTO⟩, ⟨o1, e1, _, d1⟩, ⟨o2, e2, _, d2⟩⟩ c hc => by
    simp only [List.mem_cons, List.not_mem_nil, or_false] at hc
    rcases hc with rfl | rfl | rfl | rfl | rfl
    · exact ⟨_, hz, fun v q => nomatch q⟩
    · exact ⟨_, hTI, fun v q => nomatch q⟩
    · exact ⟨_, hTO, fun v q => nomatch q⟩
    · exact ⟨o1, e1, fun v q => by rw [d1] at q; cases q⟩
    · exact ⟨o2, e2, fun v q => by rw [d2] at q; cases q⟩
  keep := fun i h h' ⟨hz, hTI, ⟨x, y, hTO⟩, h1, h2⟩ k => ⟨k z (by simp) _ hz, k TI (by simp) _ hTI, ⟨x, y, k TO (by simp) _ hTO⟩, h1.at fun o q => k i1 (by simp) o q, h2.at fun o q => k i2 (by simp) o q⟩
  item := by
    intro X hP hw hK hc i pins s σ H E I hf st hg
    subst hP hw hK
    obtain ⟨hz, hTI, ⟨x0, y0, hTO⟩, h1, h2⟩ := st
    obtain ⟨xs, ys, x, y, hqx, hqy, hx, hy⟩ := hg
    obtain ⟨its, rv, p, _⟩ := I.tuple hqx
    obtain ⟨its2, rv2, p2, _⟩ := I.list hqy
    obtain ⟨u, hu, ru⟩ := rv.get hx
    obtain ⟨u2, hu2, ru2⟩ := rv2.get hy
    have hzl : z < s.heap.objs.size := Heap.lt_size hz
    have hh := I.ok.hd hc
    have D1 := Draws.tuple (prog := X.prog) (w := X.w) (A := X.A.in1) hh i1 a na its.toArray
    have D2 := Draws.list (prog := X.prog) (w := X.w) (A := X.A.in1) hh i2 b nb its2.toArray
    have l1 : i < its.toArray.size := by have := (List.getElem?_eq_some_iff.mp hu).1; simpa using this
    have l2 : i < its2.toArray.size := by have := (List.getElem?_eq_some_iff.mp hu2).1; simpa using this
    refine wpAny_pyNext_zipD2_item D D1 D2 hz hTI hTO ⟨h1, show s.heap.IsTuple a its.toArray from p⟩ ⟨h2, p2.isList⟩ l1 l2 fun v1 v2 h' tk q1 q2 z' TO' st1' st2' hT hsz hk => ?_
    have e1 : v1 = u := by rw [show its.toArray[i]? = some u by simpa using hu] at q1; exact (Option.some.inj q1).symm
    have e2 : v2 = u2 := by rw [show its2.toArray[i]? = some u2 by simpa using hu2] at q2; exact (Option.some.inj q2).symm
    subst e1 e2
    refine ⟨_, rfl, wpAny_letOwnedTupleGo_zip (s := { s with heap := h', toks := tk }) z' fun h'' z'' sb => ?_⟩
    have hT2 : h''.get? s.heap.objs.size = some { cls := .type "tuple", data := .seq #[v1, v2] } := (sb.2 _ (Nat.ne_of_gt hzl)).trans hT
    have new : ObjOk X.prog X.w (upd H s.heap.objs.size (.tup [x, y])) h'' s.heap.objs.size (.tup [x, y]) := ⟨by show 2 ≤ sizeLine; decide, [v1, v2], .cons ru (.cons ru2 .nil), ⟨_, hT2, rfl, _, rfl⟩⟩
    have all : ∀ c o, c ∉ [z, TI, TO, i1, i2] → s.heap.get? c = some o → h''.get? c = some o := fun c o hb q => by
      simp only [List.mem_cons, List.not_mem_nil, or_false, not_or] at hb
      exact (sb.2 c hb.1).trans (hk c o hb.1 hb.2.2.1 hb.2.2.2.1 hb.2.2.2.2 q)
    have I1 : Inv X pins σ (upd H s.heap.objs.size (.tup [x, y])) { s with heap := h'', toks := tk } := I.turnedNew (t' := tk) (ch := [z, TI, TO, i1, i2]) all hf (Nat.le_refl _) new
    refine ⟨.ref s.heap.objs.size, _, I1, rfl, ⟨_, x, y, rfl, I.hok.fresh (Nat.le_refl _), rfl, fun l hl => by rw [I.tuple_inj hl hqx]; exact hx, fun l hl => by rw [I.list_inj hl hqy]; exact hy⟩, ⟨z'', ?_, ⟨v1, v2, ?_⟩, ?_, ?_⟩, fun c hcm => ?_⟩
    · exact (sb.2 _ D.TIz).trans (hk _ _ D.TIz D.TITO D.TIi1 D.TIi2 hTI)
    · exact (sb.2 _ D.TOz).trans TO'
    · exact st1'.1.at fun o q => (sb.2 _ (fun e => D.zi1 e.symm)).trans q
    · exact st2'.1.at fun o q => (sb.2 _ (fun e => D.zi2 e.symm)).trans q
    · have hlt : c < s.heap.objs.size := by
        simp only [List.mem_cons, List.not_mem_nil, or_false] at hcm
        obtain ⟨_, o1, _⟩ := h1
        obtain ⟨_, o2, _⟩ := h2
        rcases hcm with rfl | rfl | rfl | rfl | rfl
        · exact hzl
        · exact Heap.lt_size hTI
        · exact Heap.lt_size hTO
        · exact Heap.lt_size o1
        · exact Heap.lt_size o2
      rw [upd_ne (Nat.ne_of_lt hlt)]
      exact (hf c hcm).1
  done := by
    intro X hP hw hK hc i pins s σ H E I hf st hg
    subst hP hw hK
    obtain ⟨hz, hTI, ⟨x0, y0, hTO⟩, h1, h2⟩ := st
    obtain ⟨xs, ys, hqx, hqy, hend⟩ := hg
    obtain ⟨its, rv, p, _⟩ := I.tuple hqx
    obtain ⟨its2, rv2, p2, _⟩ := I.list hqy
    have l1 := rv.length
    have l2 := rv2.length
    have hh := I.ok.hd hc
    have D1 := Draws.tuple (prog := X.prog) (w := X.w) (A := X.A.in1) hh i1 a na its.toArray
    have D2 := Draws.list (prog := X.prog) (w := X.w) (A := X.A.in1) hh i2 b nb its2.toArray
    refine wpAny_pyNext_zipD2_end D D1 D2 hz hTI hTO ⟨h1, show s.heap.IsTuple a its.toArray from p⟩ ⟨h2, p2.isList⟩ (by simp; omega) (by simp; omega) (by simp; omega) fun h' tk hk => ⟨rfl, ?_⟩
    refine I.turnedL (t' := tk) (ch := [z, TI, TO, i1, i2]) (fun c o hb q => ?_) hf
    simp only [List.mem_cons, List.not_mem_nil, or_false, not_or] at hb
    exact hk c o hb.1 hb.2.2.1 hb.2.2.2.1 hb.2.2.2.2 q
  self := fun A i s Q E st h => wpAny_pyIter_zip st.1 h
def iZipTL (K : PySem.W.Frag) (ta : TA) : TI := fun σ H R => ta σ H fun vs H1 => ∃ a b xs ys, vs = [.ref a, .ref b] ∧ SqT K H1 a xs ∧ SqL K H1 b ys ∧ R (ItzTL K a b) H1
theorem pi_zipTL {X : Cx} {e e2 : Expr} {ta : TA} {p pos tpos : Pos} {elts : List Expr} {kk : Nat} (hg : Gl X "zip") (hm : X.mg "zip" = none) (ha : PA X [e, e2] ta)
    (hs : starEach [e, e2] X.env = (false, eval e X.env) :: starEach [e2] X.env := by rfl) (hpl : (backTo pos (starEach [e2] X.env)).any (·.1) = false := by rfl) : PI X (.Tuple elts kk tpos) (.Call (.Name "zip" p) [e, e2] [] pos) (iZipTL X.K ta) := by
  refine ⟨fun pins s σ H R I h => ?_⟩
  refine Call_ (ld_blt I hg hm PyProof.Rows.boot_zip (PyProof.Rows.callWith_type1 (thn (ha.run pos pins s σ H _ I h) fun us s1 ⟨vs, H1, I1, r1, a, b, xs, ys, ex, hqx, hqy, q⟩ => ?_) hs hpl))
  subst ex
  cases r1 with
  | cons r rr =>
    cases rr with
    | cons r' rr =>
      cases rr
      cases r
      cases r'
      obtain ⟨its, rv, p1, _⟩ := I1.tuple hqx
      obtain ⟨its2, rv2, p2, _⟩ := I1.list hqy
      have la : a < s1.heap.objs.size := p1.lt
      have lb : b < s1.heap.objs.size := p2.lt
      refine zip_begins2 (begins_tuple a its.toArray) (begins_list b its2.toArray) (show s1.heap.IsTuple a its.toArray from p1) p2.isList fun h' hz hTI hTO h1 h2 hsz hk => wpAny_pyIter_zip hz ?_
      have I2 : Inv X pins σ H1 { s1 with heap := h' } := I1.kept (t' := s1.toks) hk
      have sa : ∀ c ∈ [a], c < s1.heap.objs.size := fun c hc => by rw [List.mem_singleton.mp hc]; exact la
      have sb : ∀ c ∈ [b], c < s1.heap.objs.size := fun c hc => by rw [List.mem_singleton.mp hc]; exact lb
      have S := zip_sep2 (N := s1.heap.objs.size) sa sb
      refine ⟨s1.heap.objs.size + 4, [s1.heap.objs.size + 4, s1.heap.objs.size + 2, s1.heap.objs.size + 3, s1.heap.objs.size, s1.heap.objs.size + 1], _, _, H1, rfl, I2, turn_zipTL S (Nat.ne_of_lt la) (Nat.ne_of_lt (Nat.lt_succ_of_lt lb)), ⟨hz, hTI, ⟨_, _, hTO⟩, ⟨_, h1, rfl, rfl⟩, ⟨_, h2, rfl, rfl⟩⟩, fun c hcm => ?_, q⟩
      simp only [List.mem_cons, List.not_mem_nil, or_false] at hcm
      have hle : s1.heap.objs.size ≤ c := by rcases hcm with rfl | rfl | rfl | rfl | rfl <;> omega
      exact I1.fpOk hle (I1.hok.fresh hle)
end Z
end

section
set_option linter.all false
set_option maxRecDepth 100000
set_option maxHeartbeats 2000000
namespace Z
open PySem L2 PyProof.Rows

/-! ### a def without repr, for the rules of methods and operators -/
theorem fnK_of {P : Program} {w : World} {K : PySem.W.Frag} {mg : Str → Option Value} {base : Heap} {k : Nat} {f : Addr} {x qual : Str} {st : Stmt} {fd : FuncData} {N ps : List Str} (F : Fun K x qual st f fd) (S : FnScope N ps (defScope st)) (Fp : DSp)
    (len : ∀ p ds Kp, Fp p ds Kp → ds.length = ps.length)
    (body : ∀ (cdv : Value) (A : Around) (outer : List Env) (s : Shared) (H : Hp) (E : XK), Room k (bx CX0 P w K mg base N qual st f cdv A outer s H E).nox.A → ∀ p ds Kp, Fp p ds Kp →
      DSs (bx CX0 P w K mg base N qual st f cdv A outer s H E).nox p (startD N ds) (defBody st) (retP Kp)) : FnOk P w K mg base CX0 (k + 1) f fd ps (spD K Fp) := by
  have hN : ps.length ≤ N.length := by have := congrArg List.length S.pre; rw [List.length_take] at this; omega
  refine F.ok S (fun vs H Q E ⟨p, G, ds, Kp, hs, rv, hf, _⟩ => by rw [rv.length]; exact len p ds Kp hf) fun cdv A outer s H vs Q E hr hsp => ⟨wpSs _ _, pssW _, ?_⟩
  obtain ⟨p, G, ds, Kp, hs, rv, hf, k⟩ := hsp
  exact body cdv A outer s H E hr p ds Kp hf _ G H (env_start rv (by rw [len p ds Kp hf]; exact hN)) hs _ ⟨fun δ σ G2 H2 q g _ => k .non (.d .none) G2 H2 q g Rp.non, fun r v G2 H2 q g rr => k v r G2 H2 q g rr, fun _ _ _ _ q => q.elim, fun _ _ _ _ q => q.elim⟩
theorem FnG.of {P : Program} {w : World} {K : PySem.W.Frag} {mg : Str → Option Value} {base : Heap} {CX : CXT} {k : Nat} {f : Addr} {fd : FuncData} {ps : List Str} {sp : Sp} (F : FnOk P w K mg base CX k f fd ps sp) : FnG P w K mg base CX k f fd ps sp :=
  ⟨F.len, fun A outer s H args us vs Q E _ => F.run A outer s H args us vs Q E⟩
section
variable {X : Cx} {k : Nat} {C f a : Addr} {fd : FuncData} {ps : List Str} {sp : Sp} {e : Expr} {pins : List (Addr × Obj)} {σ : L2.St} {H : Hp} {s : Shared}
/-- a method runs within a built-in -/
theorem run1 {Q : VK} {us : List Value} {vs : List V} {E' : Value → Shared → Prop} (F : FnOk X.prog X.w X.K X.mg X.base CX0 k f fd ps sp) (hr : Room (k + 1) X.A) (hb : Binds X.K fd ps []) (I : Inv X pins σ H s) (r : Vals vs us) (h : sp vs H Q E0) :
    wpAny (model X.prog X.w) X.A.in1 (call (.ref f) us) (EP X pins σ Q) E' s := by
  have hl : (us ++ []).length = ps.length := by rw [List.append_nil, ← r.length]; exact F.len _ _ _ _ h
  have bt := hb s us I.kIn hl
  rw [List.append_nil] at bt
  refine wpAny_call (codeAny_mono (F.run X.A.in1 X.stack s H ⟨us, []⟩ us vs Q E0 hr.in1 I.env0.in1 bt r h) fun r s' hq => ?_)
  cases r with
  | error er => exact hq.elim
  | ok fl =>
    cases fl with
    | ret u => exact I.after hq
    | next => exact hq.elim
    | brk => exact hq.elim
    | cont => exact hq.elim
theorem run0 {Q : VK} {us : List Value} {vs : List V} {E' : Value → Shared → Prop} (F : FnOk X.prog X.w X.K X.mg X.base CX0 k f fd ps sp) (hr : Room k X.A) (hb : Binds X.K fd ps []) (I : Inv X pins σ H s) (r : Vals vs us) (h : sp vs H Q E0) :
    wpAny (model X.prog X.w) X.A (call (.ref f) us) (EP X pins σ Q) E' s := by
  have hl : (us ++ []).length = ps.length := by rw [List.append_nil, ← r.length]; exact F.len _ _ _ _ h
  have bt := hb s us I.kIn hl
  rw [List.append_nil] at bt
  refine wpAny_call (codeAny_mono (F.run X.A X.stack s H ⟨us, []⟩ us vs Q E0 hr I.env0 bt r h) fun r s' hq => ?_)
  cases r with
  | error er => exact hq.elim
  | ok fl =>
    cases fl with
    | ret u => exact I.after hq
    | next => exact hq.elim
    | brk => exact hq.elim
    | cont => exact hq.elim
theorem inst_at (I : Inv X pins σ H s) {dx : Addr} {fs : List (Str × V)} (ea : H a = some (.ins C dx fs)) : ∃ ox od, PySem.W.InstAt s.heap a ox C (some od) := by
  obtain ⟨mA, O, _⟩ := ins_get I.hok ea
  obtain ⟨od, J, _⟩ := O.look
  exact ⟨_, od, J⟩
/-- len(o), o an instance with its own __len__ -/
def rLenO (C : Addr) (sp : Sp) : List V → Hp → VK → Prop := fun xs H Q => ∃ a dx fs, xs = [.ref a] ∧ H a = some (.ins C dx fs) ∧ sp [.ref a] H (fun v H' => ∃ n : Int, v = .int n ∧ 0 ≤ n ∧ n < 2 ^ 63 ∧ Q (.int n) H') E0
theorem call_lenO (F : FnOk X.prog X.w X.K X.mg X.base CX0 k f fd ps sp) (hr : Room (k + 1) X.A) (hb : Binds X.K fd ps []) (hs : PySem.W.findIn X.K (.ref C) "__len__" = some (some (.ref f))) (hf : PySem.W.isFn X.K (.ref f) = true) : CallR X (.builtin "len") (rLenO C sp) := by
  intro pins s σ H xs us Q I r h
  obtain ⟨a, dx, fs, rfl, ea, hsp⟩ := h
  obtain ⟨u, rfl, ru⟩ := vals1 r
  obtain rfl : u = Value.ref a := ru
  obtain ⟨m, fr⟩ := I.fr
  obtain ⟨ox, od, J⟩ := inst_at I ea
  refine PySem.W.len_K fr I.ok.mod.kin J hs hf (thn (run1 (E' := X.xe) F hr hb I (.cons (show RelV (.ref a) (.ref a) from rfl) .nil) hsp) fun v s' hv => ?_)
  obtain ⟨x, H', I', rx, n, ex, h0, h1, q⟩ := hv
  subst ex
  obtain ⟨t, rfl⟩ := rx
  exact ⟨⟨h0, h1⟩, .int n, H', I'.tok _, ⟨_, rfl⟩, q⟩
/-- o[i], o an instance with its own __getitem__ -/
theorem pe_subO {b e : Expr} {pos : Pos} (F : FnOk X.prog X.w X.K X.mg X.base CX0 k f fd ps sp) (hr : Room (k + 1) X.A) (hb : Binds X.K fd ps []) (hs : PySem.W.findIn X.K (.ref C) "__getitem__" = some (some (.ref f))) (hfi : PySem.W.fnIn X.K f = true) (hf : PySem.W.isFn X.K (.ref f) = true)
    (hsl : ∀ (x : Addr) (i : Value), subscripted b true (.ref x) i = runValue (.builtin "lifetime.subscript" ⟨[.ref x, i], []⟩)) :
    PE X (.Subscript e b pos) (fun σ H Q => wpE X e σ H fun x H1 => wpE X b σ H1 fun y H2 => ∃ a dx fs, x = .ref a ∧ H2 a = some (.ins C dx fs) ∧ sp [.ref a, y] H2 Q E0) := by
  refine ⟨fun pins s σ H Q I h => Subscript_ (binT (peW e) (peW b) I h fun v u s2 x y H2 I2 rx ry q => ?_)⟩
  obtain ⟨a, dx, fs, rfl, ea, hsp⟩ := q
  obtain rfl : v = Value.ref a := rx
  obtain ⟨m, fr⟩ := I2.fr
  obtain ⟨ox, od, J⟩ := inst_at I2 ea
  exact PySem.W.sub_K fr I2.ok.mod.kin J hs hfi hf (run1 F hr hb I2 (.cons (show RelV (.ref a) (.ref a) from rfl) (.cons ry .nil)) hsp) (hsl a u)
/-- o == x by an own __eq__, both of the class -/
def rEqO (C : Addr) (sp : Sp) : R2 := fun x y H Q => ∃ a dx fs b dy gs, x = .ref a ∧ H a = some (.ins C dx fs) ∧ y = .ref b ∧ H b = some (.ins C dy gs) ∧ sp [.ref a, .ref b] H (fun v H' => ∃ t, v = .bl t ∧ Q (.bl t) H') E0
theorem op_eqO (F : FnOk X.prog X.w X.K X.mg X.base CX0 k f fd ps sp) (hr : Room k X.A) (hb : Binds X.K fd ps []) (hs : PySem.W.findIn X.K (.ref C) "__eq__" = some (some (.ref f))) (hf : PySem.W.isFn X.K (.ref f) = true) : OpR X (compareOp .Eq) (rEqO C sp) := by
  intro pins s σ H x y v u Q I rx ry h
  obtain ⟨a, dx, fs, b, dy, gs, rfl, ea, rfl, eb, hsp⟩ := h
  obtain rfl : v = Value.ref a := rx
  obtain rfl : u = Value.ref b := ry
  obtain ⟨m, fr⟩ := I.fr
  obtain ⟨ox, od, J⟩ := inst_at I ea
  obtain ⟨oy, oe, J2⟩ := inst_at I eb
  refine PySem.W.cmp_ofEq (PySem.W.cmp_K hr.units0 fr I.ok.mod.kin J J2.type (by show ((Value.ref C == Value.ref C) || _) = true; simp) hs hf (thn (run0 (E' := X.xe) F hr hb I (.cons (show RelV (.ref a) (.ref a) from rfl) (.cons (show RelV (.ref b) (.ref b) from rfl) .nil)) hsp) fun v s' hv => ?_))
  obtain ⟨x, H', I', rx, t, ex, q⟩ := hv
  subst ex
  cases rx
  exact ⟨.bl t, H', I', rfl, q⟩
end
end Z
end

section
set_option linter.all false
set_option maxRecDepth 100000
set_option maxHeartbeats 2000000
/-! A mirror of the program as plain functions over an own heap, checked construct by construct. -/
namespace Z
open PySem L2 PyProof.Rows

/-- what comes, with the draws that are still open -/
inductive T (α : Type) where
  | ok (a : α) | draw (n : Nat) (k : Nat → T α) | bad
namespace T
variable {α β : Type}
def bind : T α → (α → T β) → T β
  | .ok a, f => f a
  | .draw n k, f => .draw n fun i => (k i).bind f
  | .bad, _ => .bad
def sat : T α → (α → Prop) → Prop
  | .ok a, P => P a
  | .draw n k, P => ∀ i, i < n → (k i).sat P
  | .bad, _ => False
def chk : T α → (α → Bool) → Bool
  | .ok a, p => p a
  | .draw n k, p => (List.range n).all fun i => (k i).chk p
  | .bad, _ => false
theorem sat_bind {f : α → T β} {P : β → Prop} : ∀ {t : T α}, (t.bind f).sat P → t.sat fun a => (f a).sat P
  | .ok _, h => h
  | .draw n k, h => fun i hi => sat_bind (h i hi)
  | .bad, h => h
theorem sat_imp {P Q : α → Prop} (k : ∀ a, P a → Q a) : ∀ {t : T α}, t.sat P → t.sat Q
  | .ok a, h => k a h
  | .draw n f, h => fun i hi => sat_imp k (h i hi)
  | .bad, h => h
theorem chk_sat {p : α → Bool} : ∀ {t : T α}, t.chk p = true → t.sat fun a => p a = true
  | .ok a, h => h
  | .draw n f, h => fun i hi => chk_sat (List.all_eq_true.mp h i (List.mem_range.mpr hi))
  | .bad, h => (Bool.false_ne_true h).elim
end T

/-- a value: refs by their number in the own heap -/
inductive AV where
  | non | bl (b : Bool) | int (i : Int) | str (x : Str) | rep (d : PyData) | r (i : Nat) | k (v : V) | scr
inductive AO where
  | lst (xs : List AV) | tup (xs : List AV) | dK (kvs : List (Key × AV)) | ins (C : Addr) (fs : List (Str × AV)) | feed
inductive Tr where
  | lf | nd (l : Tr) (v : Option AO) (r : Tr)
namespace Tr
def l : Tr → Tr | .lf => .lf | .nd l _ _ => l
def v : Tr → Option AO | .lf => none | .nd _ v _ => v
def r : Tr → Tr | .lf => .lf | .nd _ _ r => r
def get : Tr → Nat → Option AO
  | .lf, _ => none
  | .nd l v r, i => bif Nat.beq i 0 then v else bif Nat.beq (i % 2) 1 then l.get (i / 2) else r.get (i / 2 - 1)
def put : Nat → Tr → Nat → AO → Tr
  | 0, t, _, _ => t
  | f + 1, t, i, o => bif Nat.beq i 0 then .nd t.l (some o) t.r else bif Nat.beq (i % 2) 1 then .nd (put f t.l (i / 2) o) t.v t.r else .nd t.l t.v (put f t.r (i / 2 - 1) o)
theorem get_eq (t : Tr) (i : Nat) : t.get i = bif Nat.beq i 0 then t.v else bif Nat.beq (i % 2) 1 then t.l.get (i / 2) else t.r.get (i / 2 - 1) := by
  cases t with
  | nd l v r => rfl
  | lf => simp only [get, l, r, v]; cases Nat.beq i 0 <;> cases Nat.beq (i % 2) 1 <;> rfl
theorem get_put (o : AO) : ∀ (f : Nat) (t : Tr) (i j : Nat), i < f → (put f t i o).get j = if j = i then some o else t.get j
  | 0, _, _, _, h => (Nat.not_lt_zero _ h).elim
  | f + 1, t, i, j, h => by
    have nb : ∀ a b : Nat, Nat.beq a b = decide (a = b) := fun a b => by
      cases h : Nat.beq a b with
      | true => simp [Nat.eq_of_beq_eq_true h]
      | false => simp [Nat.ne_of_beq_eq_false h]
    rw [get_eq t j]
    unfold put
    simp only [nb]
    by_cases hi : i = 0
    · subst hi
      simp only [decide_true, cond_true]
      rw [get_eq]
      simp only [nb, v, l, r]
      by_cases hj : j = 0
      · subst hj; rfl
      · simp [hj]
    · by_cases hm : i % 2 = 1
      · simp only [hi, hm, decide_false, decide_true, cond_true, cond_false]
        rw [get_eq]
        simp only [nb, v, l, r]
        by_cases hj : j = 0
        · subst hj
          have : ¬ (0 : Nat) = i := fun z => hi z.symm
          simp [this]
        · by_cases hn : j % 2 = 1
          · simp only [hj, hn, decide_false, decide_true, cond_true, cond_false]
            rw [get_put o f _ _ _ (by omega)]
            by_cases he : j = i
            · subst he; simp
            · rw [if_neg he, if_neg (by omega)]
          · have : ¬ j = i := fun z => hn (z ▸ hm)
            simp [hj, hn, this]
      · simp only [hi, hm, decide_false, cond_false]
        rw [get_eq]
        simp only [nb, v, l, r]
        by_cases hj : j = 0
        · subst hj
          have : ¬ (0 : Nat) = i := fun z => hi z.symm
          simp [this]
        · by_cases hn : j % 2 = 1
          · have : ¬ j = i := fun z => hm (z ▸ hn)
            simp [hj, hn, this]
          · simp only [hj, hn, decide_false, cond_false]
            rw [get_put o f _ _ _ (by omega)]
            by_cases he : j = i
            · subst he; simp
            · rw [if_neg he, if_neg (by omega)]
end Tr
structure AH where
  sz : Nat
  t : Tr
namespace AH
def get (h : AH) (i : Nat) : Option AO := h.t.get i
def new (h : AH) (o : AO) : AH := ⟨h.sz + 1, Tr.put (h.sz + 1) h.t h.sz o⟩
def set (h : AH) (i : Nat) (o : AO) : AH := ⟨h.sz, Tr.put (i + 1) h.t i o⟩
theorem get_new (h : AH) (o : AO) (j : Nat) : (h.new o).get j = if j = h.sz then some o else h.get j := Tr.get_put o _ _ _ _ (Nat.lt_succ_self _)
theorem get_set (h : AH) (i : Nat) (o : AO) (j : Nat) : (h.set i o).get j = if j = i then some o else h.get j := Tr.get_put o _ _ _ _ (Nat.lt_succ_self _)
end AH

/-- the law's script: it stands still, outside of the own heap -/
class Scr where
  K : PySem.W.Frag
  a : Addr
  ns : List Int
def ScrAt (c : Scr) (H : Hp) : Prop := (∃ o, H c.a = some (.frz o (.lst (c.ns.map V.int)))) ∨ ∀ H', SqL c.K H' c.a (c.ns.map V.int)
theorem ScrAt.sq {c : Scr} {H : Hp} (h : ScrAt c H) : SqL c.K H c.a (c.ns.map V.int) := by
  rcases h with ⟨o, h⟩ | h
  · exact .inl (.inr ⟨o, h⟩)
  · exact h H
theorem ScrAt.upd {c : Scr} {H : Hp} {p : Addr} {o : HO} (h : ScrAt c H) (hp : ∀ ob xs, H p ≠ some (.frz ob (.lst xs))) : ScrAt c (L2.upd H p o) := by
  rcases h with ⟨ob, h⟩ | h
  · exact .inl ⟨ob, by rw [upd_ne (fun z => hp ob _ (z ▸ h))]; exact h⟩
  · exact .inr h
variable [Scr]
abbrev Ro := Nat → Option Addr
inductive RV (ρ : Ro) : AV → V → Prop
  | non : RV ρ .non .non
  | bl (b : Bool) : RV ρ (.bl b) (.bl b)
  | int (i : Int) : RV ρ (.int i) (.int i)
  | str (x : Str) : RV ρ (.str x) (.str x)
  | rep (d : PyData) : RV ρ (.rep d) (.str d.shown)
  | r {i : Nat} {a : Addr} : ρ i = some a → RV ρ (.r i) (.ref a)
  | k (v : V) : RV ρ (.k v) v
  | scr : RV ρ .scr (.ref Scr.a)
abbrev RVs (ρ : Ro) : List AV → List V → Prop := Paired (RV ρ)
def Xt (ρ ρ' : Ro) : Prop := ∀ i a, ρ i = some a → ρ' i = some a
theorem Xt.refl (ρ : Ro) : Xt ρ ρ := fun _ _ h => h
theorem Xt.trans {a b c : Ro} (x : Xt a b) (y : Xt b c) : Xt a c := fun i p h => y i p (x i p h)
theorem RV.up {ρ ρ' : Ro} (e : Xt ρ ρ') : ∀ {x : AV} {v : V}, RV ρ x v → RV ρ' x v
  | _, _, .non => .non
  | _, _, .bl b => .bl b
  | _, _, .int b => .int b
  | _, _, .str b => .str b
  | _, _, .rep b => .rep b
  | _, _, .r h => .r (e _ _ h)
  | _, _, .k v => .k v
  | _, _, .scr => .scr
theorem RVs.up {ρ ρ' : Ro} (e : Xt ρ ρ') {xs : List AV} {vs : List V} (h : RVs ρ xs vs) : RVs ρ' xs vs := Paired.mapP h fun _ _ q => q.up e
abbrev RF (ρ : Ro) {κ : Type} : List (κ × AV) → List (κ × V) → Prop := Paired fun p q => p.1 = q.1 ∧ RV ρ p.2 q.2
theorem RF.up {ρ ρ' : Ro} (e : Xt ρ ρ') {κ : Type} {xs : List (κ × AV)} {vs : List (κ × V)} (h : RF ρ xs vs) : RF ρ' xs vs := Paired.mapP h fun _ _ q => ⟨q.1, q.2.up e⟩
/-- what stands at an address for an object of the own heap -/
inductive OO (ρ : Ro) (H : Hp) (a : Addr) : AO → Prop
  | lst {xs : List AV} {vs : List V} : RVs ρ xs vs → H a = some (.lst vs) → OO ρ H a (.lst xs)
  | tup {xs : List AV} {vs : List V} : RVs ρ xs vs → H a = some (.tup vs) → OO ρ H a (.tup xs)
  | dK {xs : List (Key × AV)} {vs : List (Key × V)} : RF ρ xs vs → H a = some (.dK vs) → OO ρ H a (.dK xs)
  | ins {C dx : Addr} {xs : List (Str × AV)} {vs : List (Str × V)} : RF ρ xs vs → H a = some (.ins C dx vs) → OO ρ H a (.ins C xs)
  | feed : FeedAt H a → OO ρ H a .feed
theorem OO.some {ρ : Ro} {H : Hp} {a : Addr} {o : AO} (h : OO ρ H a o) : ∃ u, H a = some u := by
  cases h with
  | lst _ h => exact ⟨_, h⟩
  | tup _ h => exact ⟨_, h⟩
  | dK _ h => exact ⟨_, h⟩
  | ins _ h => exact ⟨_, h⟩
  | feed h => obtain ⟨_, _, h⟩ := h; exact ⟨_, h⟩
theorem OO.up {ρ ρ' : Ro} {H H' : Hp} {a : Addr} {o : AO} (h : OO ρ H a o) (e : Xt ρ ρ') (k : H' a = H a) : OO ρ' H' a o := by
  cases h with
  | lst r h => exact .lst (RVs.up e r) (k.trans h)
  | tup r h => exact .tup (RVs.up e r) (k.trans h)
  | dK r h => exact .dK (RF.up e r) (k.trans h)
  | ins r h => exact .ins (RF.up e r) (k.trans h)
  | feed h => obtain ⟨_, _, h⟩ := h; exact .feed ⟨_, _, k.trans h⟩
structure RH (ρ : Ro) (h : AH) (H : Hp) : Prop where
  scr : ScrAt inferInstance H
  dom : ∀ i, h.sz ≤ i → ρ i = none
  inj : ∀ i j a, ρ i = some a → ρ j = some a → i = j
  at_ : ∀ i o, h.get i = some o → ∃ a, ρ i = some a ∧ OO ρ H a o
  all : ∀ i a, ρ i = some a → ∃ o, h.get i = some o
def ext (ρ : Ro) (n : Nat) (a : Addr) : Ro := fun i => if i = n then some a else ρ i
section
variable {ρ : Ro} {h : AH} {H : Hp}
theorem RH.xt (r : RH ρ h H) (a : Addr) : Xt ρ (ext ρ h.sz a) := fun i b q => by
  unfold ext
  by_cases hi : i = h.sz
  · rw [r.dom i (by omega)] at q; cases q
  · rw [if_neg hi]; exact q
theorem RH.get (r : RH ρ h H) {i : Nat} {o : AO} {a : Addr} (e : h.get i = some o) (q : ρ i = some a) : OO ρ H a o := by
  obtain ⟨b, hb, ho⟩ := r.at_ i o e
  rw [q] at hb
  cases hb
  exact ho
/-- a new object -/
theorem RH.new (r : RH ρ h H) {a : Addr} {o : AO} {u : HO} (hn : H a = none) (ho : ∀ ρ', Xt ρ ρ' → OO ρ' (upd H a u) a o) : RH (ext ρ h.sz a) (h.new o) (upd H a u) := by
  have fr : ∀ i, ρ i ≠ some a := fun i q => by
    obtain ⟨o, e⟩ := r.all i a q
    obtain ⟨u, z⟩ := (r.get e q).some
    rw [hn] at z
    cases z
  refine ⟨r.scr.upd (fun ob xs z => by rw [hn] at z; cases z), fun i hi => ?_, fun i j b hi hj => ?_, fun i p e => ?_, fun i b q => ?_⟩
  · have : h.sz + 1 ≤ i := hi
    unfold ext
    rw [if_neg (by omega)]
    exact r.dom i (by omega)
  · unfold ext at hi hj
    by_cases h1 : i = h.sz
    · by_cases h2 : j = h.sz
      · rw [h1, h2]
      · rw [if_pos h1] at hi; cases hi
        rw [if_neg h2] at hj
        exact (fr j hj).elim
    · rw [if_neg h1] at hi
      by_cases h2 : j = h.sz
      · rw [if_pos h2] at hj; cases hj
        exact (fr i hi).elim
      · rw [if_neg h2] at hj
        exact r.inj i j b hi hj
  · rw [AH.get_new] at e
    by_cases h1 : i = h.sz
    · rw [if_pos h1] at e; cases e
      exact ⟨a, by unfold ext; rw [if_pos h1], ho _ (r.xt a)⟩
    · rw [if_neg h1] at e
      obtain ⟨b, hb, hq⟩ := r.at_ i p e
      refine ⟨b, by unfold ext; rw [if_neg h1]; exact hb, hq.up (r.xt a) (upd_ne fun z => ?_)⟩
      exact fr i (z ▸ hb)
  · rw [AH.get_new]
    by_cases h1 : i = h.sz
    · exact ⟨_, if_pos h1⟩
    · rw [if_neg h1]
      unfold ext at q
      rw [if_neg h1] at q
      exact r.all i b q
/-- an object that changes -/
theorem RH.set (r : RH ρ h H) {i : Nat} {a : Addr} {o : AO} {u : HO} (hi : ρ i = some a) (ho : OO ρ (upd H a u) a o) : RH ρ (h.set i o) (upd H a u) := by
  refine ⟨r.scr.upd fun ob xs z => (by
    obtain ⟨o0, e0⟩ := r.all i a hi
    cases r.get e0 hi with
    | lst _ q => rw [z] at q; cases q
    | tup _ q => rw [z] at q; cases q
    | dK _ q => rw [z] at q; cases q
    | ins _ q => rw [z] at q; cases q
    | feed q => obtain ⟨_, _, q⟩ := q; rw [z] at q; cases q), r.dom, r.inj, fun j p e => ?_, fun j b q => ?_⟩
  · rw [AH.get_set] at e
    by_cases h1 : j = i
    · rw [if_pos h1] at e; cases e
      exact ⟨a, h1 ▸ hi, ho⟩
    · rw [if_neg h1] at e
      obtain ⟨b, hb, hq⟩ := r.at_ j p e
      refine ⟨b, hb, hq.up (.refl _) (upd_ne fun z => ?_)⟩
      subst z
      exact h1 (r.inj j i b hb hi)
  · rw [AH.get_set]
    by_cases h1 : j = i
    · exact ⟨_, if_pos h1⟩
    · rw [if_neg h1]
      exact r.all j b q
/-- something that isn't tracked comes -/
theorem RH.side (r : RH ρ h H) {a : Addr} {u : HO} (hn : H a = none) : RH ρ h (upd H a u) := by
  refine ⟨r.scr.upd (fun ob xs z => by rw [hn] at z; cases z), r.dom, r.inj, fun j p e => ?_, r.all⟩
  obtain ⟨b, hb, hq⟩ := r.at_ j p e
  refine ⟨b, hb, hq.up (.refl _) (upd_ne fun z => ?_)⟩
  subst z
  obtain ⟨u, q⟩ := hq.some
  rw [hn] at q
  cases q
end

/-! ### slots -/
abbrev AE := List (Option AV)
def RE (ρ : Ro) : AE → L2.St → Prop := Paired fun o v => ∀ x, o = some x → ∃ u, v = some u ∧ RV ρ x u
theorem RE.up {ρ ρ' : Ro} (e : Xt ρ ρ') {s : AE} {σ : L2.St} (h : RE ρ s σ) : RE ρ' s σ := Paired.mapP h fun _ _ q x hx => let ⟨u, a, b⟩ := q x hx; ⟨u, a, b.up e⟩
theorem RE.at_ {ρ : Ro} : ∀ {s : AE} {σ : L2.St} {i : Nat} {x : AV}, RE ρ s σ → s[i]? = some (some x) → ∃ v, σ[i]? = some (some v) ∧ RV ρ x v
  | _, _, i, x, .nil, e => by simp at e
  | _, _, 0, x, .cons q t, e => by
    simp at e
    obtain ⟨u, a, b⟩ := q x e
    exact ⟨u, by simp [a], b⟩
  | _, _, i + 1, x, .cons q t, e => by
    obtain ⟨u, a, b⟩ := RE.at_ (i := i) t (by simpa using e)
    exact ⟨u, by simpa using a, b⟩
theorem RE.set {ρ : Ro} {x : AV} {v : V} (r : RV ρ x v) : ∀ {s : AE} {σ : L2.St} (i : Nat), RE ρ s σ → RE ρ (s.set i (some x)) (σ.set i (some v))
  | _, _, _, .nil => .nil
  | _, _, 0, .cons q t => .cons (fun y hy => by cases hy; exact ⟨v, rfl, r⟩) t
  | _, _, i + 1, .cons q t => .cons q (RE.set r i t)
theorem RE.del {ρ : Ro} : ∀ {s : AE} {σ : L2.St} (i : Nat), RE ρ s σ → RE ρ (s.set i none) (σ.set i none)
  | _, _, _, .nil => .nil
  | _, _, 0, .cons q t => .cons (fun y hy => by cases hy) t
  | _, _, i + 1, .cons q t => .cons q (RE.del i t)

/-! ### judgements -/
abbrev DenE := AE → AH → T (AV × AH)
abbrev DenB := AE → AH → T (Bool × AH)
abbrev DenA := AE → AH → T (List AV × AH)
inductive AR where
  | nx (s : AE) | rt (x : AV) | bk (s : AE) | ct (s : AE)
abbrev DenS := AE → AH → T (AR × AH)
def PQ (ρ : Ro) (Q : VK) : AV × AH → Prop := fun r => ∀ ρ' v H', Xt ρ ρ' → RH ρ' r.2 H' → RV ρ' r.1 v → Q v H'
def PB (ρ : Ro) (Q : Bool → Hp → Prop) : Bool × AH → Prop := fun r => ∀ ρ' H', Xt ρ ρ' → RH ρ' r.2 H' → Q r.1 H'
def PAs (ρ : Ro) (Q : List V → Hp → Prop) : List AV × AH → Prop := fun r => ∀ ρ' vs H', Xt ρ ρ' → RH ρ' r.2 H' → RVs ρ' r.1 vs → Q vs H'
def PD (ρ : Ro) (D : Ends) : AR × AH → Prop := fun r => ∀ ρ' H', Xt ρ ρ' → RH ρ' r.2 H' → match r.1 with
  | .nx s => ∀ σ, RE ρ' s σ → D.nx σ H'
  | .rt x => ∀ v, RV ρ' x v → D.rt v H'
  | .bk s => ∀ σ, RE ρ' s σ → D.bk σ H'
  | .ct s => ∀ σ, RE ρ' s σ → D.ct σ H'
def CE (X : Cx) (e : Expr) (d : DenE) : Prop := ∀ ρ s h σ H Q, RE ρ s σ → RH ρ h H → (d s h).sat (PQ ρ Q) → wpE X e σ H Q
def CT (X : Cx) (e : Expr) (d : DenB) : Prop := ∀ ρ s h σ H Q, RE ρ s σ → RH ρ h H → (d s h).sat (PB ρ Q) → wpT X e σ H Q
def CW (X : Cx) (e : Expr) (d : DenB) : Prop := ∀ ρ s h σ H Q, RE ρ s σ → RH ρ h H → (d s h).sat (PB ρ Q) → wpW X e σ H Q
def CA (X : Cx) (es : List Expr) (d : DenA) : Prop := ∀ ρ s h σ H Q, RE ρ s σ → RH ρ h H → (d s h).sat (PAs ρ Q) → wpA X es σ H Q
def CS (X : Cx) (st : Stmt) (d : DenS) : Prop := ∀ ρ s h σ H D, RE ρ s σ → RH ρ h H → (d s h).sat (PD ρ D) → wpS X st D σ H
def CSs (X : Cx) (st : List Stmt) (d : DenS) : Prop := ∀ ρ s h σ H D, RE ρ s σ → RH ρ h H → (d s h).sat (PD ρ D) → wpSs X st D σ H
theorem PQ.up {ρ ρ' : Ro} {Q : VK} (e : Xt ρ ρ') {r : AV × AH} (h : PQ ρ Q r) : PQ ρ' Q r := fun ρ2 v H2 x => h ρ2 v H2 (e.trans x)
theorem PB.up {ρ ρ' : Ro} {Q : Bool → Hp → Prop} (e : Xt ρ ρ') {r : Bool × AH} (h : PB ρ Q r) : PB ρ' Q r := fun ρ2 H2 x => h ρ2 H2 (e.trans x)
theorem PAs.up {ρ ρ' : Ro} {Q : List V → Hp → Prop} (e : Xt ρ ρ') {r : List AV × AH} (h : PAs ρ Q r) : PAs ρ' Q r := fun ρ2 v H2 x => h ρ2 v H2 (e.trans x)
theorem PD.up {ρ ρ' : Ro} {D : Ends} (e : Xt ρ ρ') {r : AR × AH} (h : PD ρ D r) : PD ρ' D r := fun ρ2 H2 x => h ρ2 H2 (e.trans x)
/-- go on behind an expression -/
theorem CE.then {X : Cx} {e : Expr} {d : DenE} (c : CE X e d) {ρ : Ro} {s : AE} {h : AH} {σ : L2.St} {H : Hp} {Q : VK} {β : Type} {f : AV × AH → T β} {P : β → Prop} (he : RE ρ s σ) (hh : RH ρ h H) (hs : ((d s h).bind f).sat P)
    (k : ∀ x h1 ρ1 v H1, Xt ρ ρ1 → RH ρ1 h1 H1 → RV ρ1 x v → (f (x, h1)).sat P → Q v H1) : wpE X e σ H Q :=
  c ρ s h σ H Q he hh (T.sat_imp (fun ⟨x, h1⟩ q ρ1 v H1 e1 r1 rv => k x h1 ρ1 v H1 e1 r1 rv q) (T.sat_bind hs))
theorem CT.then {X : Cx} {e : Expr} {d : DenB} (c : CT X e d) {ρ : Ro} {s : AE} {h : AH} {σ : L2.St} {H : Hp} {Q : Bool → Hp → Prop} {β : Type} {f : Bool × AH → T β} {P : β → Prop} (he : RE ρ s σ) (hh : RH ρ h H) (hs : ((d s h).bind f).sat P)
    (k : ∀ x h1 ρ1 H1, Xt ρ ρ1 → RH ρ1 h1 H1 → (f (x, h1)).sat P → Q x H1) : wpT X e σ H Q :=
  c ρ s h σ H Q he hh (T.sat_imp (fun ⟨x, h1⟩ q ρ1 H1 e1 r1 => k x h1 ρ1 H1 e1 r1 q) (T.sat_bind hs))
theorem CA.then {X : Cx} {e : List Expr} {d : DenA} (c : CA X e d) {ρ : Ro} {s : AE} {h : AH} {σ : L2.St} {H : Hp} {Q : List V → Hp → Prop} {β : Type} {f : List AV × AH → T β} {P : β → Prop} (he : RE ρ s σ) (hh : RH ρ h H) (hs : ((d s h).bind f).sat P)
    (k : ∀ x h1 ρ1 v H1, Xt ρ ρ1 → RH ρ1 h1 H1 → RVs ρ1 x v → (f (x, h1)).sat P → Q v H1) : wpA X e σ H Q :=
  c ρ s h σ H Q he hh (T.sat_imp (fun ⟨x, h1⟩ q ρ1 v H1 e1 r1 rv => k x h1 ρ1 v H1 e1 r1 rv q) (T.sat_bind hs))

/-! ### names, constants -/
section
variable {X : Cx} {a b c e : Expr} {pos : Pos}
def dVar (i : Nat) : DenE := fun s h => match s[i]? with
  | some (some x) => .ok (x, h)
  | _ => .bad
theorem ce_var {i : Nat} {x : Str} (hN : X.N[i]? = some x) (hv : Vis X.env.scope x) (hd : (x == ("__debug__" : Str)) = false := by decide) (hcd : (x == ("__classdict__" : Str)) = false := by decide) : CE X (.Name x pos) (dVar i) := fun ρ s h σ H Q he hh q => by
  unfold dVar at q
  split at q
  · next x' e =>
    obtain ⟨v, h1, h2⟩ := he.at_ e
    exact ofE (pe_var hN hv hd hcd) ⟨v, h1, q ρ v H (.refl ρ) hh h2⟩
  · exact q.elim
def dC (x : AV) : DenE := fun _ h => .ok (x, h)
theorem ce_int {i j} : CE X (.Constant (.int i) j pos) (dC (.int i)) := fun ρ s h σ H Q he hh q => ofE pe_int (q ρ _ H (.refl ρ) hh (.int i))
theorem ce_bl {i j} : CE X (.Constant (.bool i) j pos) (dC (.bl i)) := fun ρ s h σ H Q he hh q => ofE pe_bl (q ρ _ H (.refl ρ) hh (.bl i))
theorem ce_non {j} : CE X (.Constant .none j pos) (dC .non) := fun ρ s h σ H Q he hh q => ofE pe_non (q ρ _ H (.refl ρ) hh .non)
theorem ce_str {i j} : CE X (.Constant (.str i) j pos) (dC (.str i)) := fun ρ s h σ H Q he hh q => ofE pe_str (q ρ _ H (.refl ρ) hh (.str i))
theorem ce_glob {x : Str} {v : V} {u : Value} (hg : Gl X x) (hm : X.mg x = some u) (rv : RelV v u) (hd : (x == ("__debug__" : Str)) = false := by decide) : CE X (.Name x pos) (dC (.k v)) :=
  fun ρ s h σ H Q he hh q => ofE (pe_glob hg hm rv hd) (q ρ _ H (.refl ρ) hh (.k v))
/-- a global that is a number or a text -/
theorem ce_globI {x : Str} {i : Int} {u : Value} (hg : Gl X x) (hm : X.mg x = some u) (rv : RelV (.int i) u) (hd : (x == ("__debug__" : Str)) = false := by decide) : CE X (.Name x pos) (dC (.int i)) :=
  fun ρ s h σ H Q he hh q => ofE (pe_glob hg hm rv hd) (q ρ _ H (.refl ρ) hh (.int i))
theorem ce_globS {x : Str} {i : Str} {u : Value} (hg : Gl X x) (hm : X.mg x = some u) (rv : RelV (.str i) u) (hd : (x == ("__debug__" : Str)) = false := by decide) : CE X (.Name x pos) (dC (.str i)) :=
  fun ρ s h σ H Q he hh q => ofE (pe_glob hg hm rv hd) (q ρ _ H (.refl ρ) hh (.str i))
theorem ce_bty {x : Str} {n : String} (hg : Gl X x) (hm : X.mg x = none) (hv : bootBuiltins x = some (.type n)) (hn : x ≠ "__name__" := by decide) (hd : (x == ("__debug__" : Str)) = false := by decide) : CE X (.Name x pos) (dC (.k (.ty n))) :=
  fun ρ s h σ H Q he hh q => ofE (pe_bltn (v := .ty n) hg hm hv rfl hn hd) (q ρ _ H (.refl ρ) hh (.k _))

/-! ### arguments, displays -/
def dNil : DenA := fun _ h => .ok ([], h)
def dCons (a : DenE) (r : DenA) : DenA := fun s h => (a s h).bind fun p => (r s p.2).bind fun q => .ok (p.1 :: q.1, q.2)
theorem ca_nil : CA X [] dNil := fun ρ s h σ H Q he hh q => ofA pa_nil (q ρ [] H (.refl ρ) hh .nil)
theorem ca_cons {es : List Expr} {da : DenE} {dr : DenA} (h1 : CE X e da) (h2 : CA X es dr) (hst : starEach (e :: es) X.env = (false, eval e X.env) :: starEach es X.env := by rfl) : CA X (e :: es) (dCons da dr) := fun ρ s h σ H Q he hh q => by
  refine ofA (pa_cons (peW e) (paW es) hst) (h1.then he hh q fun x h1 ρ1 v H1 x1 r1 rv q1 => ?_)
  refine h2.then (he.up x1) r1 q1 fun xs h2 ρ2 vs H2 x2 r2 rvs q2 => ?_
  exact q2 ρ2 _ H2 (x1.trans x2) r2 (.cons (rv.up x2) rvs)
def big (n : Nat) : Bool := Nat.ble 1000000 n
theorem big_le {n : Nat} (h : big n = false) : n < 1000000 := by
  unfold big at h
  exact Nat.lt_of_not_le fun z => by rw [Nat.ble_eq_true_of_le z] at h; cases h
def dNew (mk : List AV → AO) (a : DenA) : DenE := fun s h => (a s h).bind fun p => bif big p.1.length then .bad else .ok (.r p.2.sz, p.2.new (mk p.1))
theorem PQ.new {ρ : Ro} {h : AH} {H : Hp} {o : AO} {Q : VK} {p : Addr} {u : HO} (q : PQ ρ Q (.r h.sz, h.new o)) (hh : RH ρ h H) (hp : H p = none) (ho : ∀ ρ', Xt ρ ρ' → OO ρ' (upd H p u) p o) : Q (.ref p) (upd H p u) :=
  q (ext ρ h.sz p) _ _ (hh.xt p) (hh.new hp ho) (.r (by unfold ext; rw [if_pos rfl]))
theorem ce_lst {es : List Expr} {da : DenA} (h1 : CA X es da) : CE X (.List es pos) (dNew .lst da) := fun ρ s h σ H Q he hh q => by
  refine ofE (pe_lst (paW es)) (h1.then he hh q fun xs h1 ρ1 vs H1 x1 r1 rv q1 => ?_)
  have q1 : (bif big xs.length then T.bad else T.ok (AV.r h1.sz, h1.new (.lst xs))).sat (PQ ρ Q) := q1
  cases hb : big xs.length with
  | true => rw [hb] at q1; exact q1.elim
  | false =>
    rw [hb] at q1
    refine ⟨by rw [← rv.length, sizeLine_eq]; have := big_le hb; omega, fun p hp => ?_⟩
    exact (PQ.up x1 q1).new r1 hp fun ρ' x' => .lst (RVs.up x' rv) upd_same
theorem ce_tup {es : List Expr} {x1} {da : DenA} (h1 : CA X es da) : CE X (.Tuple es x1 pos) (dNew .tup da) := fun ρ s h σ H Q he hh q => by
  refine ofE (pe_tup (paW es)) (h1.then he hh q fun xs h1 ρ1 vs H1 x1 r1 rv q1 => ?_)
  have q1 : (bif big xs.length then T.bad else T.ok (AV.r h1.sz, h1.new (.tup xs))).sat (PQ ρ Q) := q1
  cases hb : big xs.length with
  | true => rw [hb] at q1; exact q1.elim
  | false =>
    rw [hb] at q1
    refine ⟨by rw [← rv.length, sizeLine_eq]; have := big_le hb; omega, fun p hp => ?_⟩
    exact (PQ.up x1 q1).new r1 hp fun ρ' x' => .tup (RVs.up x' rv) upd_same
end
end Z
end

section
set_option linter.all false
set_option maxRecDepth 100000
set_option maxHeartbeats 2000000
namespace Z
open PySem L2 PyProof.Rows
variable [Scr]

/-- the program's own tuples -/
abbrev ST := Addr → Option (List AV)
def GOk (K : PySem.W.Frag) (G : ST) : Prop := ∀ a xs, G a = some xs → ∃ vs, (∀ ρ, RVs ρ xs vs) ∧ ∀ H, SqT K H a vs
/-- the items of a list (true) or a tuple -/
def seqs (G : ST) (h : AH) : AV → Option (Bool × List AV)
  | .r i => match h.get i with
    | some (.lst xs) => some (true, xs)
    | some (.tup xs) => some (false, xs)
    | _ => none
  | .k (.ref a) => match G a with
    | some xs => some (false, xs)
    | none => none
  | _ => none
section
variable {K : PySem.W.Frag} {G : ST} {ρ : Ro} {h : AH} {H : Hp} {x : AV} {v : V} {xs : List AV}
theorem seqs_ok (hG : GOk K G) (hh : RH ρ h H) (rv : RV ρ x v) {t : Bool} (e : seqs G h x = some (t, xs)) : ∃ a vs, v = .ref a ∧ RVs ρ xs vs ∧ ((t = true ∧ H a = some (.lst vs)) ∨ (t = false ∧ SqT K H a vs)) := by
  cases rv with
  | r hr =>
    unfold seqs at e
    dsimp only at e
    split at e
    · next ys hy =>
      cases e
      cases hh.get hy hr with
      | lst r hl => exact ⟨_, _, rfl, r, .inl ⟨rfl, hl⟩⟩
    · next ys hy =>
      cases e
      cases hh.get hy hr with
      | tup r hl => exact ⟨_, _, rfl, r, .inr ⟨rfl, .of hl⟩⟩
    · cases e
  | k v =>
    cases v with
    | ref a =>
      unfold seqs at e
      dsimp only at e
      split at e
      · next ys hy =>
        cases e
        obtain ⟨vs, r, s⟩ := hG _ _ hy
        exact ⟨_, _, rfl, r ρ, .inr ⟨rfl, s H⟩⟩
      · cases e
    | non => cases e
    | bl _ => cases e
    | int _ => cases e
    | str _ => cases e
    | byt _ => cases e
    | flt _ => cases e
    | ty _ => cases e
  | non => cases e
  | bl _ => cases e
  | int _ => cases e
  | str _ => cases e
  | rep _ => cases e
  | scr => cases e
end
/-- a value as data -/
def rd (G : ST) (h : AH) : Nat → AV → Option PyData
  | 0, _ => none
  | n + 1, x => match x with
    | .non => some .none
    | .bl b => some (.bool b)
    | .int i => some (.int i)
    | .str y => some (.str y)
    | .rep d => some (.str d.shown)
    | x => match seqs G h x with
      | some (t, xs) => match rdl (rd G h n) xs with
        | some ds => some (bif t then .list ds else .tuple ds)
        | none => none
      | none => none
where rdl (f : AV → Option PyData) : List AV → Option (List PyData)
  | [] => some []
  | x :: xs => match f x with
    | some d => match rdl f xs with
      | some ds => some (d :: ds)
      | none => none
    | none => none
theorem rdl_dp {K : PySem.W.Frag} {ρ : Ro} {H : Hp} {f : AV → Option PyData} (hf : ∀ x v d, RV ρ x v → f x = some d → Dp K H v d) : ∀ {xs : List AV} {vs : List V} {ds : List PyData}, RVs ρ xs vs → rd.rdl f xs = some ds → DpAll K H vs ds
  | _, _, _, .nil, e => by
    unfold rd.rdl at e
    cases e
    exact .nil
  | _, _, _, .cons r t, e => by
    unfold rd.rdl at e
    split at e
    · next d hd =>
      split at e
      · next ds hds =>
        cases e
        exact .cons (hf _ _ _ r hd) (rdl_dp hf t hds)
      · cases e
    · cases e
theorem rd_dp {K : PySem.W.Frag} {G : ST} {ρ : Ro} {h : AH} {H : Hp} (hG : GOk K G) (hh : RH ρ h H) : ∀ (n : Nat) (x : AV) (v : V) (d : PyData), RV ρ x v → rd G h n x = some d → Dp K H v d
  | 0, _, _, _, _, e => by cases e
  | n + 1, x, v, d, rv, e => by
    have sq : ∀ {x v}, RV ρ x v → (match seqs G h x with
      | some (t, xs) => match rd.rdl (rd G h n) xs with
        | some ds => some (bif t then PyData.list ds else .tuple ds)
        | none => none
      | none => none) = some d → Dp K H v d := fun {x v} rv e => by
      split at e
      · next t xs hs =>
        obtain ⟨a, vs, rfl, r, hk⟩ := seqs_ok hG hh rv hs
        split at e
        · next ds hds =>
          cases e
          have q := rdl_dp (K := K) (H := H) (fun x v d r e => rd_dp hG hh n x v d r e) r hds
          rcases hk with ⟨rfl, hl⟩ | ⟨rfl, hl⟩
          · exact .lst (.of hl) q
          · exact .tup hl q
        · cases e
      · cases e
    cases rv with
    | non => cases e; exact .non
    | bl b => cases e; exact .bl b
    | int b => cases e; exact .int b
    | str b => cases e; exact .str b
    | rep b => cases e; exact .str _
    | scr => exact sq .scr e
    | r hr => exact sq (.r hr) e
    | k v => exact sq (.k v) e

/-! ### operations by values -/
abbrev Op2 := AV → AV → AH → T (AV × AH)
def OpC (R : R2) (f : Op2) : Prop := ∀ ρ x y h vx vy H Q, RH ρ h H → RV ρ x vx → RV ρ y vy → (f x y h).sat (PQ ρ Q) → R vx vy H Q
def dOp (f : Op2) (a b : DenE) : DenE := fun s h => (a s h).bind fun p => (b s p.2).bind fun q => f p.1 q.1 q.2
section
variable {X : Cx} {a b c e : Expr} {pos : Pos} {R : R2} {f : Op2} {da db : DenE}
theorem ce_op {t : TE → TE → TE} (ht : ∀ ta tb, PE X a ta → PE X b tb → PE X e (t ta tb)) (hR : ∀ ta tb σ H Q, ta σ H (fun x H1 => tb σ H1 fun y H2 => R x y H2 Q) → t ta tb σ H Q) (hf : OpC R f) (h1 : CE X a da) (h2 : CE X b db) : CE X e (dOp f da db) := fun ρ s h σ H Q he hh q => by
  refine ofE (ht _ _ (peW a) (peW b)) (hR _ _ _ _ _ (h1.then he hh q fun x h1 ρ1 v H1 x1 r1 rv q1 => ?_))
  refine h2.then (he.up x1) r1 q1 fun y h2 ρ2 u H2 x2 r2 ru q2 => ?_
  exact hf ρ2 x y h2 v u H2 Q r2 (rv.up x2) ru (T.sat_imp (fun _ k => k.up (x1.trans x2)) q2)
theorem ce_bin {op : Operator} (ho : OpR X (binaryOp op) R) (hf : OpC R f) (h1 : CE X a da) (h2 : CE X b db) : CE X (.BinOp a op b pos) (dOp f da db) :=
  ce_op (t := tOp R) (fun _ _ ha hb => pe_op ho ha hb) (fun _ _ _ _ _ h => h) hf h1 h2
theorem ce_cmp {op : CmpOp} (ho : OpR X (compareOp op) R) (hf : OpC R f) (hm : behindInMarks op b = false) (h1 : CE X a da) (h2 : CE X b db) : CE X (.Compare a [op] [b] pos) (dOp f da db) :=
  ce_op (t := tOp R) (fun _ _ ha hb => pe_cmpR ho ha hb hm) (fun _ _ _ _ _ h => h) hf h1 h2
/-- a test by a value -/
def dB (d : DenE) : DenB := fun s h => (d s h).bind fun p => match p.1 with
  | .bl t => .ok (t, p.2)
  | _ => .bad
theorem dB_then {Q : Bool → Hp → Prop} {ρ ρ1 : Ro} {x : AV} {h1 : AH} {v : V} {H1 : Hp} (x1 : Xt ρ ρ1) (r1 : RH ρ1 h1 H1) (rv : RV ρ1 x v) (q : (match x with | .bl t => T.ok (t, h1) | _ => .bad).sat (PB ρ Q)) : ∃ t, v = .bl t ∧ Q t H1 := by
  cases rv with
  | bl t => exact ⟨t, rfl, q ρ1 H1 x1 r1⟩
  | non => exact q.elim
  | int _ => exact q.elim
  | str _ => exact q.elim
  | rep _ => exact q.elim
  | scr => exact q.elim
  | r _ => exact q.elim
  | k _ => exact q.elim
theorem ct_val {d : DenE} (h1 : CE X e d) (hE : ∀ whole, isTrue e X.env whole = (do let v ← whole; standAt e.pos; holding [v] (truthy v)) := by intro _; rfl) : CT X e (dB d) := fun ρ s h σ H Q he hh q =>
  ofT (pt_val (peW e) hE) (h1.then he hh q fun x h1 ρ1 v H1 x1 r1 rv q1 => dB_then x1 r1 rv q1)
theorem ct_cmp {op : CmpOp} (ho : OpR X (compareOp op) R) (hf : OpC R f) (hm : behindInMarks op b = false) (h1 : CE X a da) (h2 : CE X b db) : CT X (.Compare a [op] [b] pos) (dB (dOp f da db)) := fun ρ s h σ H Q he hh q => by
  refine ofT (pt_cmpR ho (peW a) (peW b) hm) ?_
  have q := T.sat_bind q
  unfold dOp at q
  refine h1.then he hh q fun x h1 ρ1 v H1 x1 r1 rv q1 => ?_
  refine h2.then (he.up x1) r1 q1 fun y h2 ρ2 u H2 x2 r2 ru q2 => ?_
  refine hf ρ2 x y h2 v u H2 _ r2 (rv.up x2) ru (T.sat_imp (fun p k ρ3 v3 H3 x3 r3 rv3 => ?_) q2)
  exact dB_then ((x1.trans x2).trans x3) r3 rv3 k
theorem cw_t {d : DenB} (h : CW X e d) : CT X e d := fun ρ s hh σ H Q he r q => ofT (pwW e).pt (h ρ s hh σ H Q he r q)
/-! ### and, or, not, if -/
def dAnd (a r : DenE) : DenE := fun s h => (a s h).bind fun p => match p.1 with
  | .bl true => r s p.2
  | .bl false => .ok (.bl false, p.2)
  | _ => .bad
def dOr (a r : DenE) : DenE := fun s h => (a s h).bind fun p => match p.1 with
  | .bl true => .ok (.bl true, p.2)
  | .bl false => r s p.2
  | _ => .bad
def dNot (a : DenE) : DenE := fun s h => (a s h).bind fun p => match p.1 with
  | .bl t => .ok (.bl (!t), p.2)
  | _ => .bad
def dIf (c : DenB) (a b : DenE) : DenE := fun s h => (c s h).bind fun p => bif p.1 then a s p.2 else b s p.2
theorem ce_one {op} {d : DenE} (h1 : CE X a d) : CE X (.BoolOp op [a] pos) d := fun ρ s h σ H Q he hh q => ofE (pe_one (peW a)) (h1 ρ s h σ H Q he hh q)
theorem ce_and {rest : List Expr} (h1 : CE X a da) (h2 : CE X (.BoolOp .And (b :: rest) pos) db) : CE X (.BoolOp .And (a :: b :: rest) pos) (dAnd da db) := fun ρ s h σ H Q he hh q => by
  refine ofE (pe_and (peW a) (peW _)) (h1.then he hh q fun x h1 ρ1 v H1 x1 r1 rv q1 => ?_)
  cases rv with
  | bl t =>
    refine ⟨t, rfl, ?_⟩
    cases t with
    | true => rw [if_pos rfl]; exact h2 ρ1 s h1 σ H1 Q (he.up x1) r1 (T.sat_imp (fun _ k => k.up x1) q1)
    | false => rw [if_neg Bool.false_ne_true]; exact q1 ρ1 _ H1 x1 r1 (.bl _)
  | non => exact q1.elim
  | int _ => exact q1.elim
  | str _ => exact q1.elim
  | rep _ => exact q1.elim
  | scr => exact q1.elim
  | r _ => exact q1.elim
  | k _ => exact q1.elim
theorem ce_or {rest : List Expr} (h1 : CE X a da) (h2 : CE X (.BoolOp .Or (b :: rest) pos) db) : CE X (.BoolOp .Or (a :: b :: rest) pos) (dOr da db) := fun ρ s h σ H Q he hh q => by
  refine ofE (pe_or (peW a) (peW _)) (h1.then he hh q fun x h1 ρ1 v H1 x1 r1 rv q1 => ?_)
  cases rv with
  | bl t =>
    refine ⟨t, rfl, ?_⟩
    cases t with
    | false => rw [if_neg Bool.false_ne_true]; exact h2 ρ1 s h1 σ H1 Q (he.up x1) r1 (T.sat_imp (fun _ k => k.up x1) q1)
    | true => rw [if_pos rfl]; exact q1 ρ1 _ H1 x1 r1 (.bl _)
  | non => exact q1.elim
  | int _ => exact q1.elim
  | str _ => exact q1.elim
  | rep _ => exact q1.elim
  | scr => exact q1.elim
  | r _ => exact q1.elim
  | k _ => exact q1.elim
theorem ce_not (h1 : CE X a da) : CE X (.UnaryOp .Not a pos) (dNot da) := fun ρ s h σ H Q he hh q => by
  refine ofE (pe_not (peW a)) (h1.then he hh q fun x h1 ρ1 v H1 x1 r1 rv q1 => ?_)
  cases rv with
  | bl t => exact ⟨t, rfl, q1 ρ1 _ H1 x1 r1 (.bl _)⟩
  | non => exact q1.elim
  | int _ => exact q1.elim
  | str _ => exact q1.elim
  | rep _ => exact q1.elim
  | scr => exact q1.elim
  | r _ => exact q1.elim
  | k _ => exact q1.elim
theorem ce_if {dc : DenB} (h0 : CT X c dc) (h1 : CE X a da) (h2 : CE X b db) : CE X (.IfExp c a b pos) (dIf dc da db) := fun ρ s h σ H Q he hh q => by
  refine ofE (pe_ifExp (ptW c) (peW a) (peW b)) (h0.then he hh q fun t h0 ρ1 H1 x1 r1 q1 => ?_)
  cases t with
  | true => rw [if_pos rfl]; exact h1 ρ1 s h0 σ H1 Q (he.up x1) r1 (T.sat_imp (fun _ k => k.up x1) q1)
  | false => rw [if_neg Bool.false_ne_true]; exact h2 ρ1 s h0 σ H1 Q (he.up x1) r1 (T.sat_imp (fun _ k => k.up x1) q1)
def dAndB (a r : DenB) : DenB := fun s h => (a s h).bind fun p => bif p.1 then r s p.2 else .ok (false, p.2)
def dOrB (a r : DenB) : DenB := fun s h => (a s h).bind fun p => bif p.1 then .ok (true, p.2) else r s p.2
def dNotB (a : DenB) : DenB := fun s h => (a s h).bind fun p => .ok (!p.1, p.2)
variable {ba bb : DenB}
theorem cw_and1 (h : CT X a ba) : CW X (.BoolOp .And [a] pos) ba := fun ρ s hh σ H Q he r q => ofW (pw_and1 (ptW a)) (h ρ s hh σ H Q he r q)
theorem cw_or1 (h : CT X a ba) : CW X (.BoolOp .Or [a] pos) ba := fun ρ s hh σ H Q he r q => ofW (pw_or1 (ptW a)) (h ρ s hh σ H Q he r q)
theorem cw_and {rest : List Expr} (h1 : CT X a ba) (h2 : CW X (.BoolOp .And (b :: rest) pos) bb) : CW X (.BoolOp .And (a :: b :: rest) pos) (dAndB ba bb) := fun ρ s h σ H Q he hh q => by
  refine ofW (pw_and (ptW a) (pwW _)) (h1.then he hh q fun t h1 ρ1 H1 x1 r1 q1 => ?_)
  cases t with
  | true => rw [if_pos rfl]; exact h2 ρ1 s h1 σ H1 Q (he.up x1) r1 (T.sat_imp (fun _ k => k.up x1) q1)
  | false => rw [if_neg Bool.false_ne_true]; exact q1 ρ1 H1 x1 r1
theorem cw_or {rest : List Expr} (h1 : CT X a ba) (h2 : CW X (.BoolOp .Or (b :: rest) pos) bb) : CW X (.BoolOp .Or (a :: b :: rest) pos) (dOrB ba bb) := fun ρ s h σ H Q he hh q => by
  refine ofW (pw_or (ptW a) (pwW _)) (h1.then he hh q fun t h1 ρ1 H1 x1 r1 q1 => ?_)
  cases t with
  | false => rw [if_neg Bool.false_ne_true]; exact h2 ρ1 s h1 σ H1 Q (he.up x1) r1 (T.sat_imp (fun _ k => k.up x1) q1)
  | true => rw [if_pos rfl]; exact q1 ρ1 H1 x1 r1
theorem ct_not (h1 : CT X a ba) : CT X (.UnaryOp .Not a pos) (dNotB ba) := fun ρ s h σ H Q he hh q =>
  ofT (pt_not (ptW a)) (h1.then he hh q fun t h1 ρ1 H1 x1 r1 q1 => q1 ρ1 H1 x1 r1)
end

/-! ### whole numbers -/
def iOp (g : Int → Int → AV) : Op2 := fun x y h => match x, y with
  | .int i, .int j => .ok (g i j, h)
  | _, _ => .bad
def iOpC (C : Int → Int → Bool) (g : Int → Int → Int) : Op2 := fun x y h => match x, y with
  | .int i, .int j => bif C i j then .ok (.int (g i j), h) else .bad
  | _, _ => .bad
theorem iOp_inv {g : Int → Int → AV} {x y : AV} {h : AH} {P : AV × AH → Prop} (q : (iOp g x y h).sat P) : ∃ i j, x = .int i ∧ y = .int j ∧ P (g i j, h) := by
  unfold iOp at q
  split at q
  · exact ⟨_, _, rfl, rfl, q⟩
  · exact q.elim
theorem iOpC_inv {C : Int → Int → Bool} {g : Int → Int → Int} {x y : AV} {h : AH} {P : AV × AH → Prop} (q : (iOpC C g x y h).sat P) : ∃ i j, x = .int i ∧ y = .int j ∧ C i j = true ∧ P (.int (g i j), h) := by
  unfold iOpC at q
  split at q
  · next i j =>
    cases hc : C i j with
    | true => rw [hc] at q; exact ⟨_, _, rfl, rfl, hc, q⟩
    | false => rw [hc] at q; exact q.elim
  · exact q.elim
theorem oc_iI {g : Int → Int → Int} : OpC (rI0 fun i j => .int (g i j)) (iOp fun i j => .int (g i j)) := fun ρ x y h vx vy H Q hh rx ry q => by
  obtain ⟨i, j, rfl, rfl, q⟩ := iOp_inv q
  cases rx
  cases ry
  exact ⟨i, j, rfl, rfl, q ρ _ H (.refl ρ) hh (.int _)⟩
theorem oc_iB {g : Int → Int → Bool} : OpC (rI0 fun i j => .bl (g i j)) (iOp fun i j => .bl (g i j)) := fun ρ x y h vx vy H Q hh rx ry q => by
  obtain ⟨i, j, rfl, rfl, q⟩ := iOp_inv q
  cases rx
  cases ry
  exact ⟨i, j, rfl, rfl, q ρ _ H (.refl ρ) hh (.bl _)⟩
theorem oc_iC {C : Int → Int → Prop} {B : Int → Int → Bool} {g : Int → Int → Int} (hB : ∀ i j, B i j = true → C i j) : OpC (rI C fun i j => .int (g i j)) (iOpC B g) := fun ρ x y h vx vy H Q hh rx ry q => by
  obtain ⟨i, j, rfl, rfl, hc, q⟩ := iOpC_inv q
  cases rx
  cases ry
  exact ⟨i, j, rfl, rfl, hB _ _ hc, q ρ _ H (.refl ρ) hh (.int _)⟩
def bMul (i j : Int) : Bool := (decide (-(2 ^ 64) < i) && decide (i < 2 ^ 64)) || (decide (-(2 ^ 64) < j) && decide (j < 2 ^ 64))
theorem bMul_ok (i j : Int) (h : bMul i j = true) : CMul i j := by simpa [bMul, CMul] using h
def bDiv (i j : Int) : Bool := decide (0 < j) && decide (j < 1073741824)
theorem bDiv_ok (i j : Int) (h : bDiv i j = true) : CDiv i j := by simpa [bDiv, CDiv] using h
def bPos (i j : Int) : Bool := decide (0 < j)
/-! ### + -/
def aCat (xs ys : List AV) (mk : List AV → AO) (h : AH) : T (AV × AH) := bif big (xs.length + ys.length) then .bad else .ok (.r h.sz, h.new (mk (xs ++ ys)))
def aAdd (G : ST) : Op2 := fun x y h => match x with
  | .int i => match y with
    | .int j => .ok (.int (i + j), h)
    | _ => .bad
  | x => match seqs G h x with
    | some (true, xs) => match seqs G h y with
      | some (true, ys) => aCat xs ys .lst h
      | _ => .bad
    | some (false, x0 :: xs) => match seqs G h y with
      | some (false, y0 :: ys) => aCat (x0 :: xs) (y0 :: ys) .tup h
      | some (false, []) => bif big (xs.length + 1) then .bad else .ok (x, h)
      | _ => .bad
    | some (false, []) => match seqs G h y with
      | some (false, ys) => bif big ys.length then .bad else .ok (y, h)
      | _ => .bad
    | _ => .bad
def rAddA (K : PySem.W.Frag) : R2 := fun x y H Q => rI0 (fun i j => .int (i + j)) x y H Q ∨ rCat x y H Q ∨ rCatA K x y H Q
theorem op_addA {X : Cx} : OpR X (binaryOp .Add) (rAddA X.K) := opr_or op_add (opr_or op_cat op_catA)
theorem paired_append {α β : Type} {R : α → β → Prop} : ∀ {xs ys : List α} {us ws : List β}, Paired R xs us → Paired R ys ws → Paired R (xs ++ ys) (us ++ ws)
  | _, _, _, _, .nil, s => s
  | _, _, _, _, .cons r t, s => .cons r (paired_append t s)
theorem aCat_inv {xs ys : List AV} {mk : List AV → AO} {h : AH} {P : AV × AH → Prop} (q : (aCat xs ys mk h).sat P) : xs.length + ys.length < 1000000 ∧ P (.r h.sz, h.new (mk (xs ++ ys))) := by
  unfold aCat at q
  cases hb : big (xs.length + ys.length) with
  | true => rw [hb] at q; exact q.elim
  | false => rw [hb] at q; exact ⟨big_le hb, q⟩
theorem bif_inv {n : Nat} {α : Type} {r : T α} {P : α → Prop} (q : (bif big n then T.bad else r).sat P) : n < 1000000 ∧ r.sat P := by
  cases hb : big n with
  | true => rw [hb] at q; exact q.elim
  | false => rw [hb] at q; exact ⟨big_le hb, q⟩
theorem oc_add {K : PySem.W.Frag} {G : ST} (hG : GOk K G) : OpC (rAddA K) (aAdd G) := fun ρ x y h vx vy H Q hh rx ry q => by
  unfold aAdd at q
  split at q
  · split at q
    · cases rx
      cases ry
      exact .inl ⟨_, _, rfl, rfl, q ρ _ H (.refl ρ) hh (.int _)⟩
    · exact q.elim
  · split at q
    · next xs hx =>
      obtain ⟨a, vs, rfl, r, hk⟩ := seqs_ok hG hh rx hx
      split at q
      · next ys hy =>
        obtain ⟨b, us, rfl, r2, hk2⟩ := seqs_ok hG hh ry hy
        obtain ⟨hl, q⟩ := aCat_inv q
        rcases hk with ⟨_, hk⟩ | ⟨z, _⟩
        · rcases hk2 with ⟨_, hk2⟩ | ⟨z, _⟩
          · refine .inr (.inl ⟨_, _, _, _, rfl, rfl, hk, hk2, by rw [← r.length, ← r2.length, sizeLine_eq]; omega, fun p hp => ?_⟩)
            exact q.new hh hp fun ρ' x' => .lst (paired_append (RVs.up x' r) (RVs.up x' r2)) upd_same
          · cases z
        · cases z
      · exact q.elim
    · next x0 xs hx =>
      obtain ⟨a, vs, rfl, r, hk⟩ := seqs_ok hG hh rx hx
      rcases hk with ⟨z, _⟩ | ⟨_, hk⟩
      · cases z
      · split at q
        · next y0 ys hy =>
          obtain ⟨b, us, rfl, r2, hk2⟩ := seqs_ok hG hh ry hy
          obtain ⟨hl, q⟩ := aCat_inv q
          rcases hk2 with ⟨z, _⟩ | ⟨_, hk2⟩
          · cases z
          · refine .inr (.inr ⟨_, _, _, _, rfl, rfl, hk, hk2, by rw [← r.length, ← r2.length, sizeLine_eq]; omega, fun z => ?_, fun _ z => ?_, fun _ _ p hp => ?_⟩)
            · subst z; cases r
            · subst z; cases r2
            · exact q.new hh hp fun ρ' x' => .tup (paired_append (RVs.up x' r) (RVs.up x' r2)) upd_same
        · next hy =>
          obtain ⟨b, us, rfl, r2, hk2⟩ := seqs_ok hG hh ry hy
          cases r2
          rcases hk2 with ⟨z, _⟩ | ⟨_, hk2⟩
          · cases z
          · obtain ⟨hl, q⟩ := bif_inv q
            have q : PQ ρ Q (_, h) := q
            refine .inr (.inr ⟨_, _, _, _, rfl, rfl, hk, hk2, ?_, fun z => ?_, fun _ z => ?_, fun _ z p hp => (z rfl).elim⟩)
            · rw [← r.length, sizeLine_eq]; simp only [List.length_cons, List.length_nil]; omega
            · subst z; cases r
            · exact q ρ _ H (.refl ρ) hh rx
        · exact q.elim
    · next hx =>
      obtain ⟨a, vs, rfl, r, hk⟩ := seqs_ok hG hh rx hx
      cases r
      rcases hk with ⟨z, _⟩ | ⟨_, hk⟩
      · cases z
      · split at q
        · next ys hy =>
          obtain ⟨b, us, rfl, r2, hk2⟩ := seqs_ok hG hh ry hy
          rcases hk2 with ⟨z, _⟩ | ⟨_, hk2⟩
          · cases z
          · obtain ⟨hl, q⟩ := bif_inv q
            have q : PQ ρ Q (_, h) := q
            refine .inr (.inr ⟨_, _, _, _, rfl, rfl, hk, hk2, ?_, fun _ => ?_, fun z => (z rfl).elim, fun z => (z rfl).elim⟩)
            · rw [← r2.length, sizeLine_eq]; simp only [List.length_nil]; omega
            · exact q ρ _ H (.refl ρ) hh ry
        · exact q.elim
    · exact q.elim
end Z
end

section
set_option linter.all false
set_option maxRecDepth 100000
set_option maxHeartbeats 2000000
namespace Z
open PySem L2 PyProof.Rows
variable [Scr]
section
variable {X : Cx} {G : ST} {a b c e : Expr} {pos : Pos} {R R' : R2} {f : Op2} {da db dc : DenE}
/-! ### equality of data, in -/
def aEqD (G : ST) (neg : Bool) : Op2 := fun x y h => match rd G h 40 x with
  | some d => match rd G h 40 y with
    | some d' => bif SeqAt.shaped d && SeqAt.shaped d' then .ok (.bl (bif neg then !(PyData.eqv d d') else PyData.eqv d d'), h) else .bad
    | none => .bad
  | none => .bad
theorem aEqD_inv {neg : Bool} {x y : AV} {h : AH} {P : AV × AH → Prop} (q : (aEqD G neg x y h).sat P) : ∃ d d', rd G h 40 x = some d ∧ rd G h 40 y = some d' ∧ SeqAt.shaped d = true ∧ SeqAt.shaped d' = true ∧ P (.bl (bif neg then !(PyData.eqv d d') else PyData.eqv d d'), h) := by
  unfold aEqD at q
  split at q
  · next d hd =>
    split at q
    · next d' hd' =>
      cases h1 : SeqAt.shaped d && SeqAt.shaped d' with
      | true =>
        rw [h1] at q
        obtain ⟨s1, s2⟩ := Bool.and_eq_true_iff.mp h1
        exact ⟨d, d', hd, hd', s1, s2, q⟩
      | false => rw [h1] at q; exact q.elim
    · exact q.elim
  · exact q.elim
theorem oc_eqD {K : PySem.W.Frag} (hG : GOk K G) : OpC (rEqD K) (aEqD G false) := fun ρ x y h vx vy H Q hh rx ry q => by
  obtain ⟨d, d', e1, e2, s1, s2, q⟩ := aEqD_inv q
  exact ⟨d, d', rd_dp hG hh _ _ _ _ rx e1, rd_dp hG hh _ _ _ _ ry e2, s1, s2, q ρ _ H (.refl ρ) hh (.bl _)⟩
theorem oc_neD {K : PySem.W.Frag} (hG : GOk K G) : OpC (rNeD K) (aEqD G true) := fun ρ x y h vx vy H Q hh rx ry q => by
  obtain ⟨d, d', e1, e2, s1, s2, q⟩ := aEqD_inv q
  exact ⟨d, d', rd_dp hG hh _ _ _ _ rx e1, rd_dp hG hh _ _ _ _ ry e2, s1, s2, q ρ _ H (.refl ρ) hh (.bl _)⟩
def aInD (G : ST) (neg : Bool) : Op2 := fun x y h => match rd G h 40 x with
  | some d => match rd G h 40 y with
    | some c => match itemsOf c with
      | some ds => bif SeqAt.shaped d && SeqAt.shaped c then .ok (.bl (if neg then !(ds.any fun z => PyData.eqv z d) else ds.any fun z => PyData.eqv z d), h) else .bad
      | none => .bad
    | none => .bad
  | none => .bad
theorem oc_inD {K : PySem.W.Frag} {neg : Bool} (hG : GOk K G) : OpC (rInS K neg) (aInD G neg) := fun ρ x y h vx vy H Q hh rx ry q => by
  unfold aInD at q
  split at q
  · next d hd =>
    split at q
    · next c hc =>
      split at q
      · next ds hds =>
        cases h1 : SeqAt.shaped d && SeqAt.shaped c with
        | true =>
          rw [h1] at q
          obtain ⟨s1, s2⟩ := Bool.and_eq_true_iff.mp h1
          have q : PQ ρ Q (_, h) := q
          exact ⟨d, c, ds, rd_dp hG hh _ _ _ _ rx hd, rd_dp hG hh _ _ _ _ ry hc, hds, s1, s2, q ρ _ H (.refl ρ) hh (.bl _)⟩
        | false => rw [h1] at q; exact q.elim
      · exact q.elim
    · exact q.elim
  · exact q.elim
/-- one of two ways, the first where it goes -/
def orOp (p : AV → AV → AH → Bool) (f g : Op2) : Op2 := fun x y h => bif p x y h then f x y h else g x y h
theorem oc_or {p : AV → AV → AH → Bool} {g : Op2} (h1 : OpC R f) (h2 : OpC R' g) : OpC (fun x y H Q => R x y H Q ∨ R' x y H Q) (orOp p f g) := fun ρ x y h vx vy H Q hh rx ry q => by
  unfold orOp at q
  cases hp : p x y h with
  | true => rw [hp] at q; exact .inl (h1 ρ x y h vx vy H Q hh rx ry q)
  | false => rw [hp] at q; exact .inr (h2 ρ x y h vx vy H Q hh rx ry q)
def isNon : AV → Option Bool
  | .non => some true
  | .k _ => none
  | _ => some false
def aIsN (neg : Bool) : Op2 := fun x y h => match y with
  | .non => match isNon x with
    | some t => .ok (.bl (bif neg then !t else t), h)
    | none => .bad
  | _ => .bad
theorem isNon_ok {ρ : Ro} {x : AV} {v : V} {t : Bool} (rx : RV ρ x v) (e : isNon x = some t) : decide (v = .non) = t := by
  cases rx <;> cases e <;> rfl
theorem oc_isN : OpC (fun x y H Q => y = .non ∧ Q (.bl (decide (x = .non))) H) (aIsN false) := fun ρ x y h vx vy H Q hh rx ry q => by
  unfold aIsN at q
  split at q
  · cases ry
    split at q
    · next t ht =>
      refine ⟨rfl, ?_⟩
      rw [isNon_ok rx ht]
      exact q ρ _ H (.refl ρ) hh (.bl _)
    · exact q.elim
  · exact q.elim
theorem oc_notN : OpC (fun x y H Q => y = .non ∧ Q (.bl (!decide (x = .non))) H) (aIsN true) := fun ρ x y h vx vy H Q hh rx ry q => by
  unfold aIsN at q
  split at q
  · cases ry
    split at q
    · next t ht =>
      refine ⟨rfl, ?_⟩
      rw [isNon_ok rx ht]
      exact q ρ _ H (.refl ρ) hh (.bl _)
    · exact q.elim
  · exact q.elim
/-- lo <= x < hi -/
def dChain (g g' : Int → Int → Bool) (a b c : DenE) : DenE := fun s h => (a s h).bind fun p => (b s p.2).bind fun q => match p.1, q.1 with
  | .int i, .int j => bif g i j then (c s q.2).bind fun r => (match r.1 with
    | .int k => .ok (.bl (g' j k), r.2)
    | _ => .bad) else .ok (.bl false, q.2)
  | _, _ => .bad
theorem ce_chain {op op' : CmpOp} {g g' : Int → Int → Bool} (hm : lastMarks [op, op'] [b, c] = false) (ho : OpR X (compareOp op) (rI0 fun i j => .bl (g i j))) (ho' : OpR X (compareOp op') (rI0 fun i j => .bl (g' i j)))
    (h1 : CE X a da) (h2 : CE X b db) (h3 : CE X c dc) : CE X (.Compare a [op, op'] [b, c] pos) (dChain g g' da db dc) := fun ρ s h σ H Q he hh q => by
  refine ofE (pe_chain ho ho' (peW a) (peW b) (peW c) (hm := hm)) (h1.then he hh q fun x h1 ρ1 v H1 x1 r1 rv q1 => ?_)
  refine h2.then (he.up x1) r1 q1 fun y h2 ρ2 u H2 x2 r2 ru q2 => ?_
  split at q2
  · next i j e1 e2 =>
    have e1 : x = .int i := e1
    have e2 : y = .int j := e2
    subst e1 e2
    cases rv
    cases ru
    refine ⟨i, j, rfl, rfl, _, rfl, ?_⟩
    cases hg : g i j with
    | true =>
      rw [hg] at q2
      rw [if_pos rfl]
      refine h3.then ((he.up x1).up x2) r2 q2 fun z h3 ρ3 w H3 x3 r3 rw' q3 => ?_
      split at q3
      · next k e3 =>
        have e3 : z = .int k := e3
        subst e3
        cases rw'
        exact ⟨j, k, rfl, rfl, q3 ρ3 _ H3 ((x1.trans x2).trans x3) r3 (.bl _)⟩
      · exact q3.elim
    | false =>
      rw [hg] at q2
      rw [if_neg Bool.false_ne_true]
      have q2 : PQ ρ Q (_, h2) := q2
      exact q2 ρ2 _ H2 (x1.trans x2) r2 (.bl _)
  · exact q2.elim
theorem pt_of_peB {t : TE} (hE : ∀ whole, isTrue e X.env whole = (do let v ← whole; standAt e.pos; holding [v] (truthy v))) (h : CE X e da) : CT X e (dB da) := ct_val h hE
theorem ct_chain {op op' : CmpOp} {g g' : Int → Int → Bool} (hm : lastMarks [op, op'] [b, c] = false) (ho : OpR X (compareOp op) (rI0 fun i j => .bl (g i j))) (ho' : OpR X (compareOp op') (rI0 fun i j => .bl (g' i j)))
    (h1 : CE X a da) (h2 : CE X b db) (h3 : CE X c dc) : CT X (.Compare a [op, op'] [b, c] pos) (dB (dChain g g' da db dc)) := fun ρ s h σ H Q he hh q => by
  have q := T.sat_bind q
  refine ofT (pt_chain ho ho' (peW a) (peW b) (peW c) (hm := hm)) (h1.then he hh q fun x h1 ρ1 v H1 x1 r1 rv q1 => ?_)
  refine h2.then (he.up x1) r1 q1 fun y h2 ρ2 u H2 x2 r2 ru q2 => ?_
  split at q2
  · next i j e1 e2 =>
    have e1 : x = .int i := e1
    have e2 : y = .int j := e2
    subst e1 e2
    cases rv
    cases ru
    refine ⟨i, j, rfl, rfl, _, rfl, ?_⟩
    cases hg : g i j with
    | true =>
      rw [hg] at q2
      rw [if_pos rfl]
      refine h3.then ((he.up x1).up x2) r2 q2 fun z h3 ρ3 w H3 x3 r3 rw' q3 => ?_
      split at q3
      · next k e3 =>
        have e3 : z = .int k := e3
        subst e3
        cases rw'
        exact ⟨j, k, rfl, rfl, _, rfl, q3 ρ3 H3 ((x1.trans x2).trans x3) r3⟩
      · exact q3.elim
    | false =>
      rw [hg] at q2
      rw [if_neg Bool.false_ne_true]
      have q2 : PB ρ Q (_, h2) := q2
      exact ⟨_, rfl, q2 ρ2 H2 (x1.trans x2) r2⟩
  · exact q2.elim

/-! ### subscripts -/
theorem paired_get {α β : Type} {R : α → β → Prop} : ∀ {xs : List α} {us : List β} {i : Nat} {x : α}, Paired R xs us → xs[i]? = some x → ∃ u, us[i]? = some u ∧ R x u
  | _, _, i, x, .nil, e => by simp at e
  | _, _, 0, x, .cons r _, e => by simp at e; subst e; exact ⟨_, rfl, r⟩
  | _, _, i + 1, x, .cons _ t, e => by
    obtain ⟨u, h1, h2⟩ := paired_get (i := i) t (by simpa using e)
    exact ⟨u, by simpa using h1, h2⟩
/-- an item of a list or a tuple, of a dict -/
def kA : AV → Option Key
  | .int i => some (.inl i)
  | .str x => some (.inr x)
  | _ => none
def valA (kvs : List (Key × AV)) (k : Key) : Option AV := match kvs with
  | [] => none
  | p :: ps => if p.1 = k then some p.2 else valA ps k
def aIx (G : ST) : Op2 := fun x y h => match seqs G h x with
  | some (_, xs) => match y with
    | .int i => match atI xs i with
      | some z => .ok (z, h)
      | none => .bad
    | _ => .bad
  | none => .bad
theorem oc_ix {K : PySem.W.Frag} (hG : GOk K G) : OpC (rIx K) (aIx G) := fun ρ x y h vx vy H Q hh rx ry q => by
  unfold aIx at q
  split at q
  · next t xs hx =>
    obtain ⟨a, vs, rfl, r, hk⟩ := seqs_ok hG hh rx hx
    split at q
    · next i =>
      cases ry
      split at q
      · next z hz =>
        obtain ⟨j, hj, k⟩ := atI_len r.length.symm hz
        obtain ⟨v, hv, rv⟩ := paired_get r hj
        have q := q ρ _ H (.refl ρ) hh rv
        rcases hk with ⟨_, hk⟩ | ⟨_, hk⟩
        · exact .inl ⟨_, _, _, _, rfl, rfl, .of hk, k v hv, q⟩
        · exact .inr (.inl ⟨_, _, _, _, rfl, rfl, hk, k v hv, q⟩)
      · exact q.elim
    · exact q.elim
  · exact q.elim
theorem ce_ix (hG : GOk X.K G) (hp : PlainIx b) (h1 : CE X a da) (h2 : CE X b db) : CE X (.Subscript a b pos) (dOp (aIx G) da db) :=
  ce_op (t := tOp (rIx X.K)) (fun _ _ ha hb => pe_ix ix_seq ha hb hp) (fun _ _ _ _ _ h => h) (oc_ix hG) h1 h2
/-- a dict with numbers or texts as keys -/
def dicts (h : AH) : AV → Option (List (Key × AV))
  | .r i => match h.get i with
    | some (.dK kvs) => some kvs
    | _ => none
  | _ => none
theorem dicts_ok {ρ : Ro} {h : AH} {H : Hp} {x : AV} {v : V} {kvs : List (Key × AV)} (hh : RH ρ h H) (rv : RV ρ x v) (e : dicts h x = some kvs) : ∃ i a vs, x = .r i ∧ v = .ref a ∧ ρ i = some a ∧ RF ρ kvs vs ∧ H a = some (.dK vs) := by
  cases rv with
  | r hr =>
    unfold dicts at e
    dsimp only at e
    split at e
    · next ys hy =>
      cases e
      cases hh.get hy hr with
      | dK r hl => exact ⟨_, _, _, rfl, rfl, hr, r, hl⟩
    · cases e
  | k v => cases e
  | non => cases e
  | bl _ => cases e
  | int _ => cases e
  | str _ => cases e
  | rep _ => cases e
  | scr => cases e
theorem kA_ok {ρ : Ro} {y : AV} {v : V} {k : Key} (rv : RV ρ y v) (e : kA y = some k) : v = kV k := by
  cases rv <;> cases e <;> rfl
end
end Z
end

section
set_option linter.all false
set_option maxRecDepth 100000
set_option maxHeartbeats 2000000
namespace Z
open PySem L2 PyProof.Rows
variable [Scr]
section
variable {X : Cx} {G : ST} {a b c e : Expr} {pos : Pos} {st : Stmt} {rest body orelse : List Stmt}
/-! ### statements -/
def dSk : DenS := fun s h => .ok (.nx s, h)
def dSeq (a r : DenS) : DenS := fun s h => (a s h).bind fun p => match p.1 with
  | .nx s' => r s' p.2
  | o => .ok (o, p.2)
def dDrop (d : DenE) : DenS := fun s h => (d s h).bind fun p => .ok (.nx s, p.2)
def dRet (d : DenE) : DenS := fun s h => (d s h).bind fun p => .ok (.rt p.1, p.2)
def dIfS (c : DenB) (a b : DenS) : DenS := fun s h => (c s h).bind fun p => bif p.1 then a s p.2 else b s p.2
theorem css_nil : CSs X [] dSk := fun ρ s h σ H D he hh q => ofSs pss_nil (q ρ H (.refl ρ) hh σ he)
theorem css_cons {ds dr : DenS} (h1 : CS X st ds) (h2 : CSs X rest dr) : CSs X (st :: rest) (dSeq ds dr) := fun ρ s h σ H D he hh q => by
  refine ofSs (pss_cons (psW st) (pssW rest)) (h1 ρ s h σ H { D with nx := wpSs X rest D } he hh (T.sat_imp (fun r q1 ρ1 H1 x1 r1 => ?_) (T.sat_bind q)))
  obtain ⟨o, h1⟩ := r
  cases o with
  | nx s1 => exact fun σ1 he1 => h2 ρ1 s1 h1 σ1 H1 D he1 r1 (T.sat_imp (fun _ k => k.up x1) q1)
  | rt x => exact fun v rv => q1 ρ1 H1 x1 r1 v rv
  | bk s1 => exact fun σ1 he1 => q1 ρ1 H1 x1 r1 σ1 he1
  | ct s1 => exact fun σ1 he1 => q1 ρ1 H1 x1 r1 σ1 he1
theorem cs_pass : CS X (.Pass pos) dSk := fun ρ s h σ H D he hh q => ofS ps_pass (q ρ H (.refl ρ) hh σ he)
theorem cs_break : CS X (.Break pos) (fun s h => .ok (.bk s, h)) := fun ρ s h σ H D he hh q => ofS ps_break (q ρ H (.refl ρ) hh σ he)
theorem cs_cont : CS X (.Continue pos) (fun s h => .ok (.ct s, h)) := fun ρ s h σ H D he hh q => ofS ps_continue (q ρ H (.refl ρ) hh σ he)
theorem cs_doc {x j pos'} : CS X (.Expr (.Constant (.str x) j pos) pos') dSk := fun ρ s h σ H D he hh q => ofS ps_doc (q ρ H (.refl ρ) hh σ he)
theorem cs_expr {d : DenE} (h1 : CE X e d) (hw : swapsWith e none pos.line X.env = pure false := by rfl) : CS X (.Expr e pos) (dDrop d) := fun ρ s h σ H D he hh q =>
  ofS (ps_expr (peW e) hw) (h1.then he hh q fun x h1 ρ1 v H1 x1 r1 rv q1 => q1 ρ1 H1 x1 r1 σ (he.up x1))
theorem cs_ret {d : DenE} (h1 : CE X e d) : CS X (.Return (some e) pos) (dRet d) := fun ρ s h σ H D he hh q =>
  ofS (ps_ret (peW e)) (h1.then he hh q fun x h1 ρ1 v H1 x1 r1 rv q1 => q1 ρ1 H1 x1 r1 v rv)
theorem cs_retN : CS X (.Return none pos) (fun s h => .ok (.rt .non, h)) := fun ρ s h σ H D he hh q => ofS ps_retN (q ρ H (.refl ρ) hh .non .non)
theorem cs_if {dc : DenB} {da db : DenS} (h0 : CT X c dc) (h1 : CSs X body da) (h2 : CSs X orelse db) : CS X (.If c body orelse pos) (dIfS dc da db) := fun ρ s h σ H D he hh q => by
  refine ofS (ps_if (ptW c) (pssW body) (pssW orelse)) (h0.then he hh q fun t h0 ρ1 H1 x1 r1 q1 => ?_)
  cases t with
  | true => rw [if_pos rfl]; exact h1 ρ1 s h0 σ H1 D (he.up x1) r1 (T.sat_imp (fun _ k => k.up x1) q1)
  | false => rw [if_neg Bool.false_ne_true]; exact h2 ρ1 s h0 σ H1 D (he.up x1) r1 (T.sat_imp (fun _ k => k.up x1) q1)

/-! ### targets -/
abbrev DenG := AV → AE → AH → T AE
abbrev DenGs := List AV → AE → AH → T AE
/-- only the slots is are changed -/
def Only1 (is : List Nat) (σ σ' : L2.St) : Prop := ∀ vs : List Nat, (∀ i, i ∈ is → i ∈ vs) → L2.wipe σ' vs = L2.wipe σ vs
theorem Only1.trans {is js : List Nat} {a b c : L2.St} (x : Only1 is a b) (y : Only1 js b c) : Only1 (is ++ js) a c := fun vs h => (y vs fun i hi => h i (List.mem_append_right _ hi)).trans (x vs fun i hi => h i (List.mem_append_left _ hi))
theorem wipe_set {i : Nat} {v : Option V} : ∀ {vs : List Nat} {σ : L2.St}, i ∈ vs → L2.wipe (σ.set i v) vs = L2.wipe σ vs
  | [], _, h => nomatch h
  | k :: vs, σ, h => by
    show (L2.wipe (σ.set i v) vs).set k none = (L2.wipe σ vs).set k none
    by_cases hi : i ∈ vs
    · rw [wipe_set hi]
    · have hk : i = k := by simpa [hi] using h
      subst hk
      have key : ∀ (vs : List Nat) (σ : L2.St), i ∉ vs → L2.wipe (σ.set i v) vs = (L2.wipe σ vs).set i v := by
        intro vs
        induction vs with
        | nil => intro σ _; rfl
        | cons k vs ih =>
          intro σ hn
          show (L2.wipe (σ.set i v) vs).set k none = ((L2.wipe σ vs).set k none).set i v
          rw [ih σ (fun z => hn (List.mem_cons_of_mem _ z)), List.set_comm]
          exact fun z => hn (by rw [z]; exact List.mem_cons_self)
      rw [key vs σ hi, List.set_set]
def GK (t : TG) (is : List Nat) (dg : DenG) : Prop := ∀ ρ x v s h σ H Q, RE ρ s σ → RH ρ h H → RV ρ x v → (dg x s h).sat (fun s' => ∀ σ', RE ρ s' σ' → Only1 is σ σ' → Q σ' H) → t v σ H Q
def GKs (t : TGs) (is : List Nat) (dg : DenGs) : Prop := ∀ ρ xs vs s h σ H Q, RE ρ s σ → RH ρ h H → RVs ρ xs vs → (dg xs s h).sat (fun s' => ∀ σ', RE ρ s' σ' → Only1 is σ σ' → Q σ' H) → t vs σ H Q
def CG (X : Cx) (tg : Expr) (t : TG) (is : List Nat) (dg : DenG) : Prop := PG X tg t ∧ GK t is dg
def dgN (i : Nat) : DenG := fun x s _ => .ok (s.set i (some x))
def dgNil : DenGs := fun xs s _ => match xs with
  | [] => .ok s
  | _ => .bad
def dgCons (a : DenG) (r : DenGs) : DenGs := fun xs s h => match xs with
  | x :: xs => (a x s h).bind fun s1 => r xs s1 h
  | [] => .bad
def dgTup (G : ST) (n : Nat) (r : DenGs) : DenG := fun x s h => match seqs G h x with
  | some (false, xs) => bif Nat.beq xs.length n then r xs s h else .bad
  | _ => .bad
theorem gk_name {i : Nat} : GK (gName i) [i] (dgN i) := fun ρ x v s h σ H Q he hh rv q => q _ (he.set rv i) fun vs hv => wipe_set (hv i (List.mem_singleton.mpr rfl))
theorem gks_nil : GKs gNil [] dgNil := fun ρ xs vs s h σ H Q he hh rv q => by
  cases rv with
  | nil => exact ⟨rfl, q σ he fun _ _ => rfl⟩
  | cons _ _ => exact q.elim
theorem gks_cons {t : TG} {u : TGs} {is js : List Nat} {da : DenG} {dr : DenGs} (k1 : GK t is da) (k2 : GKs u js dr) : GKs (gCons t u) (is ++ js) (dgCons da dr) := fun ρ xs vs s h σ H Q he hh rv q => by
  cases rv with
  | nil => exact q.elim
  | cons r1 r2 => exact ⟨_, _, rfl, k1 ρ _ _ s h σ H _ he hh r1 (T.sat_imp (fun s1 q1 σ1 he1 o1 => k2 ρ _ _ s1 h σ1 H Q he1 hh r2 (T.sat_imp (fun s2 q2 σ2 he2 o2 => q2 σ2 he2 (o1.trans o2)) q1)) (T.sat_bind q))⟩
theorem gk_tup {K : PySem.W.Frag} {n : Nat} {t : TGs} {is : List Nat} {dr : DenGs} (hG : GOk K G) (k1 : GKs t is dr) : GK (gTup K n t) is (dgTup G n dr) := fun ρ x v s h σ H Q he hh rv q => by
  unfold dgTup at q
  split at q
  · next xs hx =>
    obtain ⟨a, vs, rfl, r, hk⟩ := seqs_ok hG hh rv hx
    rcases hk with ⟨z, _⟩ | ⟨_, hk⟩
    · cases z
    · cases hb : Nat.beq xs.length n with
      | true =>
        rw [hb] at q
        exact ⟨a, vs, rfl, hk, by rw [← r.length]; exact Nat.eq_of_beq_eq_true hb, k1 ρ xs vs s h σ H Q he hh r q⟩
      | false => rw [hb] at q; exact q.elim
  · exact q.elim
def dAsg (d : DenE) (g : DenG) : DenS := fun s h => (d s h).bind fun p => (g p.1 s p.2).bind fun s1 => .ok (.nx s1, p.2)
theorem cs_asg {tg : Expr} {t : TG} {is : List Nat} {d : DenE} {g : DenG} (h1 : CE X e d) (hg : CG X tg t is g) (hs : swapsWithSole [tg] e pos.line X.env = pure false := by rfl) (hw : swappedStores [tg] e X.env = pure none := by rfl)
    (ha : (assignEach [tg] X.env).map (·.2) = [assign tg X.env] := by rfl) : CS X (.Assign [tg] e pos) (dAsg d g) := fun ρ s h σ H D he hh q => by
  obtain ⟨p1, k1⟩ := hg
  refine ofS (ps_asg (peW e) p1 hs hw ha) (h1.then he hh q fun x h1 ρ1 v H1 x1 r1 rv q1 => ?_)
  exact k1 ρ1 x v s h1 σ H1 _ (he.up x1) r1 rv (T.sat_imp (fun s2 q2 σ2 he2 _ => q2 ρ1 H1 x1 r1 σ2 he2) (T.sat_bind q1))
theorem cs_set {i : Nat} {x : Str} {pos' : Pos} {d : DenE} (hN : X.N.Nodup) (hi : X.N[i]? = some x) (hx : Loc X.env.scope x) (h1 : CE X e d) (hs : swapsWith e (some (.Name x pos')) pos.line X.env = pure false := by rfl)
    (hf : X.fn x = true ∨ X.env.scope.names.lookup x = some .local := by first | exact .inl rfl | exact .inr rfl | assumption) : CS X (.Assign [.Name x pos'] e pos) (dAsg d (dgN i)) := fun ρ s h σ H D he hh q =>
  ofS (ps_set hN hi hx (peW e) hs hf) (h1.then he hh q fun x h1 ρ1 v H1 x1 r1 rv q1 => q1 ρ1 H1 x1 r1 _ ((he.up x1).set rv i))
/-- a, b = x, y with plain names -/
def dPar (i j : Nat) (d : DenA) : DenS := fun s h => (d s h).bind fun p => match p.1 with
  | [x, y] => .ok (.nx ((s.set i (some x)).set j (some y)), p.2)
  | _ => .bad
theorem cs_par {i j : Nat} {x y : Str} {px py pt : Pos} {kt k2 pt2} {d : DenA} (hc : X.calm = true) (hN : X.N.Nodup) (hi : X.N[i]? = some x) (hj : X.N[j]? = some y) (hij : i ≠ j)
    (hx : X.env.scope.names.lookup x = some .local) (hy : X.env.scope.names.lookup y = some .local) (ha : CA X [a, b] d)
    (hw : swappedStores [.Tuple [.Name x px, .Name y py] kt pt] (.Tuple [a, b] k2 pt2) X.env = pure (some [x, y]))
    (hs : swapsWithSole [.Tuple [.Name x px, .Name y py] kt pt] (.Tuple [a, b] k2 pt2) pos.line X.env = pure false := by rfl) : CS X (.Assign [.Tuple [.Name x px, .Name y py] kt pt] (.Tuple [a, b] k2 pt2) pos) (dPar i j d) := fun ρ s h σ H D he hh q => by
  refine ofS (ps_par hc hN hi hj hij hx hy (paW [a, b]) hw hs) (ha.then he hh q fun xs h1 ρ1 vs H1 x1 r1 rv q1 => ?_)
  split at q1
  · next x y e1 =>
    have e1 : xs = [x, y] := e1
    subst e1
    cases rv with
    | cons ra rr =>
      cases rr with
      | cons rb rr =>
        cases rr
        exact ⟨_, _, rfl, q1 ρ1 H1 x1 r1 _ (((he.up x1).set ra i).set rb j)⟩
  · exact q1.elim

/-! ### what is walked -/
inductive Item where
  | v (x : AV) | p (x y : AV)
def itemAt : Item → AH → AV × AH
  | .v x, h => (x, h)
  | .p x y, h => (.r h.sz, h.new (.tup [x, y]))
structure Walked where
  items : List Item
  keep : List (Bool × Nat × List AV)
def sameV : AV → AV → Bool
  | .r i, .r j => Nat.beq i j
  | .int i, .int j => decide (i = j)
  | .str x, .str y => decide (x = y)
  | .bl x, .bl y => decide (x = y)
  | .non, .non => true
  | .k x, .k y => decide (x = y)
  | _, _ => false
theorem sameV_eq : ∀ {x y : AV}, sameV x y = true → x = y := by
  intro x y h
  cases x <;> cases y <;> simp [sameV] at h
  · rfl
  · rw [h]
  · rw [h]
  · rw [h]
  · rw [h]
  · rw [h]
def sameL : List AV → List AV → Bool
  | [], [] => true
  | x :: xs, y :: ys => sameV x y && sameL xs ys
  | _, _ => false
theorem sameL_eq : ∀ {xs ys : List AV}, sameL xs ys = true → xs = ys
  | [], [], _ => rfl
  | x :: xs, y :: ys, h => by
    obtain ⟨h1, h2⟩ := Bool.and_eq_true_iff.mp (show (sameV x y && sameL xs ys) = true from h)
    rw [sameV_eq h1, sameL_eq h2]
  | [], _ :: _, h => (Bool.false_ne_true h).elim
  | _ :: _, [], h => (Bool.false_ne_true h).elim
def okKeep (h : AH) : List (Bool × Nat × List AV) → Bool
  | [] => true
  | (t, i, xs) :: ks => match h.get i with
    | some (.lst ys) => t && (sameL xs ys && okKeep h ks)
    | some (.tup ys) => !t && (sameL xs ys && okKeep h ks)
    | _ => false
theorem RV.det {ρ : Ro} {x : AV} {u v : V} (a : RV ρ x u) (b : RV ρ x v) : u = v := by
  cases a <;> cases b <;> first | rfl | skip
  next h1 _ h2 => rw [h1] at h2; cases h2; rfl
theorem RVs.det {ρ : Ro} : ∀ {xs : List AV} {us vs : List V}, RVs ρ xs us → RVs ρ xs vs → us = vs
  | _, _, _, .nil, .nil => rfl
  | _, _, _, .cons a s, .cons b t => by rw [a.det b, RVs.det s t]
theorem keep_sq {K : PySem.W.Frag} {ρ ρ2 : Ro} {i : Nat} {a : Addr} {t : Bool} {xs : List AV} {vs : List V} {h2 : AH} {H2 : Hp} (hi : ρ i = some a) (rv : RVs ρ xs vs) (x : Xt ρ ρ2) (r : RH ρ2 h2 H2) {ks : List (Bool × Nat × List AV)} (hk : okKeep h2 ((t, i, xs) :: ks) = true) :
    ((t = true ∧ SqL K H2 a vs) ∨ (t = false ∧ SqT K H2 a vs)) ∧ okKeep h2 ks = true := by
  unfold okKeep at hk
  split at hk
  · next ys hy =>
    obtain ⟨k0, k12⟩ := Bool.and_eq_true_iff.mp hk
    obtain ⟨k1, k2⟩ := Bool.and_eq_true_iff.mp k12
    have e := sameL_eq k1
    subst e
    cases r.get hy (x _ _ hi) with
    | lst rv2 hl =>
      rw [RVs.det (RVs.up x rv) rv2]
      exact ⟨.inl ⟨k0, .of hl⟩, k2⟩
  · next ys hy =>
    obtain ⟨k0, k12⟩ := Bool.and_eq_true_iff.mp hk
    obtain ⟨k1, k2⟩ := Bool.and_eq_true_iff.mp k12
    have e := sameL_eq k1
    subst e
    cases r.get hy (x _ _ hi) with
    | tup rv2 hl =>
      rw [RVs.det (RVs.up x rv) rv2]
      exact ⟨.inr ⟨by simpa using k0, .of hl⟩, k2⟩
  · cases hk
def CI (X : Cx) (tg it : Expr) (di : AE → AH → T (Walked × AH)) : Prop := ∃ wi : TI, PI X tg it wi ∧ ∀ ρ s h σ H R, RE ρ s σ → RH ρ h H → (di s h).sat (fun r => ∀ ρ1 H1, Xt ρ ρ1 → RH ρ1 r.2 H1 → ∀ (J : It) (n : Nat) (Gd : Hp → Prop) (Y : Nat → Hp → V → Hp → Prop), Walk J n Gd Y →
    n = r.1.items.length → (∀ ρ2 h2 H2, Xt ρ1 ρ2 → RH ρ2 h2 H2 → okKeep h2 r.1.keep = true → Gd H2) →
    (∀ i m ρ2 h2 H2 v H2', r.1.items[i]? = some m → Xt ρ1 ρ2 → RH ρ2 h2 H2 → Y i H2 v H2' → ∃ ρ3, Xt ρ2 ρ3 ∧ RH ρ3 (itemAt m h2).2 H2' ∧ RV ρ3 (itemAt m h2).1 v) → R J H1) → wi σ H R
/-- a list or a tuple -/
def iSeq (K : PySem.W.Frag) (tl : TE) : TI := fun σ H R => tl σ H fun x H1 => ∃ a, x = .ref a ∧ (((∃ xs, SqL K H1 a xs) ∧ R (Itl K a) H1) ∨ ((∃ xs, SqT K H1 a xs) ∧ R (Itt K a) H1))
theorem pi_seq {tg l : Expr} {tl : TE} (hl : PE X l tl) : PI X tg l (iSeq X.K tl) := by
  refine ⟨fun pins s σ H R I h => ?_⟩
  refine thn (hl.run pins s σ H _ I h) fun v s1 ⟨x, H1, I1, r1, q1⟩ => ?_
  obtain ⟨a, e, q⟩ := q1
  subst e
  cases r1
  have fin : ∀ b, b ∈ [s1.heap.objs.size] → FpOk X pins H1 b := fun b hb => by
    have e : b = s1.heap.objs.size := by simpa using hb
    subst e
    exact I1.fpOk (Nat.le_refl _) (I1.hok.fresh (Nat.le_refl _))
  rcases q with ⟨⟨xs, hq⟩, q⟩ | ⟨⟨xs, hq⟩, q⟩
  · obtain ⟨its, rv, p, hz⟩ := I1.list hq
    refine wpAny_pyIter_list p.isList ?_
    exact ⟨s1.heap.objs.size, [s1.heap.objs.size], _, _, H1, rfl, I1.kept (t' := s1.toks) fun b o e => Heap.get?_push_of_some _ e, turn_list a _, ⟨_, Heap.get?_push_size _ rfl, rfl, rfl⟩, fin, q⟩
  · obtain ⟨its, rv, p, hz⟩ := I1.tuple hq
    refine wpAny_pyIter_tuple (show s1.heap.IsTuple a its.toArray from p) ?_
    exact ⟨s1.heap.objs.size, [s1.heap.objs.size], _, _, H1, rfl, I1.kept (t' := s1.toks) fun b o e => Heap.get?_push_of_some _ e, turn_tuple a _, ⟨_, Heap.get?_push_size _ rfl, rfl, rfl⟩, fin, q⟩
def walkOf (x : AV) (t : Bool) (xs : List AV) : Walked := ⟨xs.map .v, match x with | .r i => [(t, i, xs)] | _ => []⟩
def dSeqI (G : ST) (d : DenE) : AE → AH → T (Walked × AH) := fun s h => (d s h).bind fun p => match seqs G p.2 p.1 with
  | some (t, xs) => .ok (walkOf p.1 t xs, p.2)
  | none => .bad
theorem items_v {xs : List AV} {i : Nat} {m : Item} (e : (xs.map Item.v)[i]? = some m) : ∃ x, xs[i]? = some x ∧ m = .v x := by
  rw [List.getElem?_map] at e
  cases q : xs[i]? with
  | none => rw [q] at e; cases e
  | some x => rw [q] at e; cases e; exact ⟨x, rfl, rfl⟩
theorem ci_seq {tg l : Expr} {d : DenE} (hG : GOk X.K G) (h1 : CE X l d) : CI X tg l (dSeqI G d) := by
  refine ⟨iSeq X.K (wpE X l), pi_seq (peW l), fun ρ s h σ H R he hh q => ?_⟩
  refine h1.then he hh q fun x h1 ρ1 v H1 x1 r1 rv q1 => ?_
  split at q1
  · next t xs hx =>
    have hx : seqs G h1 x = some (t, xs) := hx
    obtain ⟨a, vs, rfl, r, hk⟩ := seqs_ok hG r1 rv hx
    have yld : ∀ i m ρ2 h2 H2 v H2', (walkOf x t xs).items[i]? = some m → Xt ρ1 ρ2 → RH ρ2 h2 H2 → YAt vs i H2 v H2' → ∃ ρ3, Xt ρ2 ρ3 ∧ RH ρ3 (itemAt m h2).2 H2' ∧ RV ρ3 (itemAt m h2).1 v := fun i m ρ2 h2 H2 v H2' e x2 r2 y => by
      obtain ⟨z, hz, rfl⟩ := items_v e
      obtain ⟨u, hu, ru⟩ := paired_get r hz
      obtain ⟨rfl, hv⟩ := y
      rw [hu] at hv
      cases hv
      exact ⟨ρ2, .refl _, r2, ru.up x2⟩
    have len : vs.length = (walkOf x t xs).items.length := by rw [← r.length]; exact (List.length_map _).symm
    refine ⟨a, rfl, ?_⟩
    rcases hk with ⟨rfl, hk⟩ | ⟨rfl, hk⟩
    · refine .inl ⟨⟨vs, .of hk⟩, q1 ρ1 H1 x1 r1 _ _ _ _ (walk_list (xs := vs)) len (fun ρ2 h2 H2 x2 r2 k => ?_) yld⟩
      cases rv with
      | r hr =>
        rcases (keep_sq (K := X.K) (ks := []) hr r x2 r2 k).1 with ⟨_, z⟩ | ⟨z, _⟩
        · exact z
        · cases z
      | k _ =>
        exfalso
        unfold seqs at hx
        dsimp only at hx
        split at hx <;> cases hx
      | scr => cases hx
    · refine .inr ⟨⟨vs, hk⟩, q1 ρ1 H1 x1 r1 _ _ _ _ (walk_tup (xs := vs)) len (fun ρ2 h2 H2 x2 r2 k => ?_) yld⟩
      cases rv with
      | r hr =>
        rcases (keep_sq (K := X.K) (ks := []) hr r x2 r2 k).1 with ⟨z, _⟩ | ⟨_, z⟩
        · cases z
        · exact z
      | k w =>
        unfold seqs at hx
        dsimp only at hx
        split at hx
        · next ys hy =>
          cases hx
          obtain ⟨vs', rr, s⟩ := hG _ _ hy
          rw [RVs.det r (rr ρ1)]
          exact s H2
        · cases hx
      | scr => cases hx
  · exact q1.elim
/-- range(n), range(lo, n) -/
def upTo (lo : Int) : Nat → List Item
  | 0 => []
  | n + 1 => .v (.int lo) :: upTo (lo + 1) n
theorem upTo_get : ∀ (n : Nat) (lo : Int) (i : Nat) (m : Item), (upTo lo n)[i]? = some m → m = .v (.int (lo + (i : Nat)))
  | 0, _, i, m, e => by simp [upTo] at e
  | n + 1, lo, 0, m, e => by simp [upTo] at e; rw [← e]; simp
  | n + 1, lo, i + 1, m, e => by
    have := upTo_get n (lo + 1) i m (by simpa [upTo] using e)
    rw [this]
    congr 2
    push_cast
    omega
theorem upTo_len : ∀ (n : Nat) (lo : Int), (upTo lo n).length = n
  | 0, _ => rfl
  | n + 1, lo => by simp [upTo, upTo_len n]
def dRng (lo hi : Int) (h : AH) : T (Walked × AH) := bif decide (-1000000 ≤ lo) && (decide (lo ≤ 1000000) && (decide (-1000000 ≤ hi) && decide (hi ≤ 1000000))) then .ok (⟨upTo lo (hi - lo).toNat, []⟩, h) else .bad
theorem dRng_inv {lo hi : Int} {h : AH} {P : Walked × AH → Prop} (q : (dRng lo hi h).sat P) : (-(2 ^ 62) ≤ lo ∧ lo < 2 ^ 62 ∧ -(2 ^ 62) ≤ hi ∧ hi < 2 ^ 62) ∧ P (⟨upTo lo (hi - lo).toNat, []⟩, h) := by
  unfold dRng at q
  cases hb : decide (-1000000 ≤ lo) && (decide (lo ≤ 1000000) && (decide (-1000000 ≤ hi) && decide (hi ≤ 1000000))) with
  | true =>
    rw [hb] at q
    simp only [Bool.and_eq_true, decide_eq_true_eq] at hb
    exact ⟨by omega, q⟩
  | false => rw [hb] at q; exact q.elim
theorem yld_rng {lo : Int} {n : Nat} {ρ1 : Ro} : ∀ i m ρ2 h2 H2 v H2', (Walked.mk (upTo lo n) []).items[i]? = some m → Xt ρ1 ρ2 → RH ρ2 h2 H2 → YFn (fun i => .int (lo + (i : Nat))) i H2 v H2' → ∃ ρ3, Xt ρ2 ρ3 ∧ RH ρ3 (itemAt m h2).2 H2' ∧ RV ρ3 (itemAt m h2).1 v := fun i m ρ2 h2 H2 v H2' e x2 r2 y => by
  have := upTo_get n lo i m e
  subst this
  obtain ⟨rfl, rfl⟩ := y
  exact ⟨ρ2, .refl _, r2, .int _⟩
def dR1 (d : DenA) : AE → AH → T (Walked × AH) := fun s h => (d s h).bind fun p => match p.1 with
  | [.int n] => dRng 0 n p.2
  | _ => .bad
theorem ci_r1 {tg : Expr} {q : Pos} {d : DenA} (hg : Gl X "range") (hm : X.mg "range" = none) (h1 : CA X [a] d) (hs : starEach [a] X.env = [(false, eval a X.env)] := by rfl) : CI X tg (.Call (.Name "range" q) [a] [] pos) (dR1 d) := by
  refine ⟨iRng1 (wpA X [a]), pi_range1 hg hm (paW [a]) hs, fun ρ s h σ H R he hh q => ?_⟩
  refine h1.then he hh q fun xs h1 ρ1 vs H1 x1 r1 rv q1 => ?_
  split at q1
  · next n e1 =>
    have e1 : xs = [.int n] := e1
    subst e1
    cases rv with
    | cons ra rr =>
      cases rr
      cases ra
      obtain ⟨⟨_, _, b1, b2⟩, q1⟩ := dRng_inv q1
      refine ⟨n, rfl, b1, b2, q1 ρ1 H1 x1 r1 _ _ _ _ (walk_range (lo := 0) (n := n.toNat)) ?_ (fun _ _ _ _ _ _ => trivial) (by rw [Int.sub_zero]; exact yld_rng)⟩
      show n.toNat = (upTo 0 (n - 0).toNat).length
      rw [upTo_len, Int.sub_zero]
  · exact q1.elim
def dR2 (d : DenA) : AE → AH → T (Walked × AH) := fun s h => (d s h).bind fun p => match p.1 with
  | [.int lo, .int n] => dRng lo n p.2
  | _ => .bad
theorem ci_r2 {tg : Expr} {q : Pos} {d : DenA} (hg : Gl X "range") (hm : X.mg "range" = none) (h1 : CA X [a, b] d) (hs : starEach [a, b] X.env = [(false, eval a X.env), (false, eval b X.env)] := by rfl) (hs2 : starEach [b] X.env = [(false, eval b X.env)] := by rfl) : CI X tg (.Call (.Name "range" q) [a, b] [] pos) (dR2 d) := by
  refine ⟨iRng2 (wpA X [a, b]), pi_range2 hg hm (paW [a, b]) hs hs2, fun ρ s h σ H R he hh q => ?_⟩
  refine h1.then he hh q fun xs h1 ρ1 vs H1 x1 r1 rv q1 => ?_
  split at q1
  · next lo n e1 =>
    have e1 : xs = [.int lo, .int n] := e1
    subst e1
    cases rv with
    | cons ra rr =>
      cases rr with
      | cons rb rr =>
        cases rr
        cases ra
        cases rb
        obtain ⟨bb, q1⟩ := dRng_inv q1
        exact ⟨lo, n, rfl, bb, q1 ρ1 H1 x1 r1 _ _ _ _ (walk_range (lo := lo) (n := (n - lo).toNat)) (upTo_len _ _).symm (fun _ _ _ _ _ _ => trivial) yld_rng⟩
  · exact q1.elim
/-! ### for -/
def loopF (keep : List (Bool × Nat × List AV)) (dg : DenG) (body : DenS) : List Item → AE → AH → T (AR × AH)
  | [], s, h => bif okKeep h keep then .ok (.nx s, h) else .bad
  | it :: its, s, h => bif okKeep h keep then (dg (itemAt it h).1 s (itemAt it h).2).bind fun s1 => (body s1 (itemAt it h).2).bind fun r => match r.1 with
    | .nx s2 => loopF keep dg body its s2 r.2
    | .ct s2 => loopF keep dg body its s2 r.2
    | .bk s2 => .ok (.nx s2, r.2)
    | .rt x => .ok (.rt x, r.2) else .bad
def dFor (di : AE → AH → T (Walked × AH)) (dg : DenG) (body : DenS) : DenS := fun s h => (di s h).bind fun p => loopF p.1.keep dg body p.1.items s p.2
theorem bif_ok {t : Bool} {α : Type} {r : T α} {P : α → Prop} (q : (bif t then r else T.bad).sat P) : t = true ∧ r.sat P := by
  cases t with
  | true => exact ⟨rfl, q⟩
  | false => exact q.elim
theorem cs_for {tg it : Expr} {t : TG} {is : List Nat} {di : AE → AH → T (Walked × AH)} {dg : DenG} {db : DenS} (hp : PassesOwn (model X.prog X.w) X.A X.env X.xe) (hc : X.calm = true) (h1 : CI X tg it di) (h2 : CG X tg t is dg) (h3 : CSs X body db) (hs : ∀ x, foldedSetIterable it X.env x = pure x := by intro _; rfl) :
    CS X (.For tg it body [] pos) (dFor di dg db) := fun ρ s h σ H D he hh q => by
  obtain ⟨wi, p1, k1⟩ := h1
  obtain ⟨p2, k2⟩ := h2
  refine ofS (ps_for hp hc p1 p2 (pssW body) hs) ?_
  refine k1 ρ s h σ H _ he hh (T.sat_imp (fun r q1 ρ1 H1 x1 r1 J n Gd Y W hn hGd hY => ?_) (T.sat_bind q))
  subst hn
  refine for_it W (fun i σ' H' => ∃ ρ' s' h', Xt ρ1 ρ' ∧ RE ρ' s' σ' ∧ RH ρ' h' H' ∧ (loopF r.1.keep dg db (r.1.items.drop i) s' h').sat (PD ρ D)) ⟨ρ1, s, r.2, .refl _, he.up x1, r1, q1⟩ ?_ ?_ ?_
  · rintro i σ' H' hi ⟨ρ', s', h', x', e', r', q'⟩
    refine hGd ρ' h' H' x' r' ?_
    cases hd : r.1.items.drop i with
    | nil => rw [hd] at q'; unfold loopF at q'; exact (bif_ok q').1
    | cons m ms => rw [hd] at q'; unfold loopF at q'; exact (bif_ok q').1
  · rintro i v σ' H' H2' hi ⟨ρ', s', h', x', e', r', q'⟩ y
    have hd : r.1.items.drop i = r.1.items[i] :: r.1.items.drop (i + 1) := List.drop_eq_getElem_cons hi
    rw [hd] at q'
    unfold loopF at q'
    obtain ⟨_, q'⟩ := bif_ok q'
    obtain ⟨ρ3, x3, r3, rv3⟩ := hY i _ ρ' h' H' v H2' (List.getElem?_eq_getElem hi) x' r' y
    refine k2 ρ3 _ v s' _ σ' H2' _ (e'.up x3) r3 rv3 (T.sat_imp (fun s1 q2 σ1 he1 _ => ?_) (T.sat_bind q'))
    refine h3 ρ3 s1 _ σ1 H2' _ he1 r3 (T.sat_imp (fun r5 q3 ρ4 H4 x4 r4 => ?_) (T.sat_bind q2))
    have x14 : Xt ρ1 ρ4 := (x'.trans x3).trans x4
    obtain ⟨o, h5⟩ := r5
    cases o with
    | nx s5 => exact fun σ5 he5 => ⟨ρ4, s5, h5, x14, he5, r4, q3⟩
    | ct s5 => exact fun σ5 he5 => ⟨ρ4, s5, h5, x14, he5, r4, q3⟩
    | bk s5 => exact fun σ5 he5 => q3 ρ4 H4 (x1.trans x14) r4 σ5 he5
    | rt x => exact fun v5 rv5 => q3 ρ4 H4 (x1.trans x14) r4 v5 rv5
  · rintro σ' H' ⟨ρ', s', h', x', e', r', q'⟩
    rw [List.drop_eq_nil_of_le (Nat.le_refl _)] at q'
    unfold loopF at q'
    obtain ⟨_, q'⟩ := bif_ok q'
    have q' : PD ρ D (.nx s', h') := q'
    exact q' ρ' H' (x1.trans x') r' σ' e'
end
end Z
end

section
set_option linter.all false
set_option maxRecDepth 100000
set_option maxHeartbeats 2000000
namespace Z
open PySem L2 PyProof.Rows
variable [Scr]
def wipeA (s : AE) : List Nat → AE
  | [] => s
  | v :: vs => (wipeA s vs).set v none
theorem RE.wipe {ρ : Ro} {s : AE} {σ : L2.St} (h : RE ρ s σ) : ∀ vs : List Nat, RE ρ (wipeA s vs) (L2.wipe σ vs)
  | [] => h
  | v :: vs => (RE.wipe h vs).del v
section
variable {X : Cx} {G : ST} {a b c e elt : Expr} {pos : Pos} {ifs : List Expr} {scope : Scope}
def CTs (X : Cx) (ifs : List Expr) (d : DenB) : Prop := ∀ ρ s h σ H Q, RE ρ s σ → RH ρ h H → (d s h).sat (PB ρ Q) → wpTs X ifs σ H Q
def dTrue : DenB := fun _ h => .ok (true, h)
theorem cts_nil : CTs X [] dTrue := fun ρ s h σ H Q he hh q pins s' I => (pts_nil (X := X)).run pins s' σ H Q I (q ρ H (.refl ρ) hh)
theorem cts_one {d : DenB} (h1 : CT X c d) : CTs X [c] d := fun ρ s h σ H Q he hh q pins s' I => (pts_one (ptW c)).run pins s' σ H Q I (h1 ρ s h σ H Q he hh q)
/-- within the block, whatever its frame -/
abbrev Blk (X : Cx) (scope : Scope) (F : Cx → Prop) : Prop := ∀ (s : Shared) (H0 : Hp) (C : Addr) (cl : List (Str × Addr)) (fp : List Addr), F (X.blk s H0 scope (compEnvC scope cl C X.env) fp)
def loopC (keep : List (Bool × Nat × List AV)) (dg : DenG) (tt : DenB) (te : DenE) (sw : AE) (k : Nat) : List Item → AH → T (AV × AH)
  | [], h => bif okKeep h keep then .ok (.r k, h) else .bad
  | it :: its, h => bif okKeep h keep then (dg (itemAt it h).1 sw (itemAt it h).2).bind fun s2 => (tt s2 (itemAt it h).2).bind fun b => bif b.1 then (te s2 b.2).bind fun y => (match y.2.get k with
      | some (.lst acc) => bif big acc.length then .bad else loopC keep dg tt te sw k its (y.2.set k (.lst (acc ++ [y.1])))
      | _ => .bad) else loopC keep dg tt te sw k its b.2 else .bad
def dLc (di : AE → AH → T (Walked × AH)) (dg : DenG) (vs : List Nat) (tt : DenB) (te : DenE) : DenE := fun s h => (di s h).bind fun p => loopC p.1.keep dg tt te (wipeA s vs) p.2.sz p.1.items (p.2.new (.lst []))
theorem loopC_keep {keep : List (Bool × Nat × List AV)} {dg : DenG} {tt : DenB} {te : DenE} {sw : AE} {k : Nat} {its : List Item} {h : AH} {P : AV × AH → Prop} (q : (loopC keep dg tt te sw k its h).sat P) : okKeep h keep = true := by
  cases its with
  | nil => unfold loopC at q; exact (bif_ok q).1
  | cons m ms => unfold loopC at q; exact (bif_ok q).1
/-- the reading of a comprehension -/
theorem lc_ok {wi : TI} {t : TG} {is : List Nat} {di : AE → AH → T (Walked × AH)} {dg : DenG} {dt : DenB} {de : DenE} {vs : List Nat} {ρ : Ro} {s : AE} {h : AH} {σ : L2.St} {H : Hp} {Q : VK} (his : ∀ i, i ∈ is → i ∈ vs)
    (k1 : ∀ ρ s h σ H R, RE ρ s σ → RH ρ h H → (di s h).sat (fun r => ∀ ρ1 H1, Xt ρ ρ1 → RH ρ1 r.2 H1 → ∀ (J : It) (n : Nat) (Gd : Hp → Prop) (Y : Nat → Hp → V → Hp → Prop), Walk J n Gd Y →
      n = r.1.items.length → (∀ ρ2 h2 H2, Xt ρ1 ρ2 → RH ρ2 h2 H2 → okKeep h2 r.1.keep = true → Gd H2) →
      (∀ i m ρ2 h2 H2 v H2', r.1.items[i]? = some m → Xt ρ1 ρ2 → RH ρ2 h2 H2 → Y i H2 v H2' → ∃ ρ3, Xt ρ2 ρ3 ∧ RH ρ3 (itemAt m h2).2 H2' ∧ RV ρ3 (itemAt m h2).1 v) → R J H1) → wi σ H R)
    (k2 : GK t is dg)
    (k3 : Blk X scope fun Y => CTs Y ifs dt) (k4 : Blk X scope fun Y => CE Y elt de) (he : RE ρ s σ) (hh : RH ρ h H) (q : (dLc di dg vs dt de s h).sat (PQ ρ Q)) : tLc wi t (wpTsB X scope ifs) (wpEB X scope elt) vs σ H Q := by
  refine k1 ρ s h σ H _ he hh (T.sat_imp (fun r q1 ρ1 H1 x1 r1 J n Gd Y W hn hGd hY => ?_) (T.sat_bind q))
  subst hn
  intro D hD
  have xD : Xt ρ1 (ext ρ1 r.2.sz D) := r1.xt D
  have rD : RH (ext ρ1 r.2.sz D) (r.2.new (.lst [])) (upd H1 D (.lst [])) := r1.new hD fun ρ' _ => .lst .nil upd_same
  have kD : (ext ρ1 r.2.sz D) r.2.sz = some D := by unfold ext; rw [if_pos rfl]
  refine lc_it (Qd := fun H => Q (.ref D) H) W (fun i H' => ∃ ρ' h', Xt (ext ρ1 r.2.sz D) ρ' ∧ RH ρ' h' H' ∧ (loopC r.1.keep dg dt de (wipeA s vs) r.2.sz (r.1.items.drop i) h').sat (PQ ρ Q)) ⟨_, _, .refl _, rD, q1⟩ ?_ ?_ ?_
  · rintro i H' hi ⟨ρ', h', x', r', q'⟩
    exact hGd ρ' h' H' (xD.trans x') r' (loopC_keep q')
  · rintro i v H' H2' hi ⟨ρ', h', x', r', q'⟩ y
    have hd : r.1.items.drop i = r.1.items[i] :: r.1.items.drop (i + 1) := List.drop_eq_getElem_cons hi
    rw [hd] at q'
    unfold loopC at q'
    obtain ⟨_, q'⟩ := bif_ok q'
    obtain ⟨ρ3, x3, r3, rv3⟩ := hY i _ ρ' h' H' v H2' (List.getElem?_eq_getElem hi) (xD.trans x') r' y
    have heW : RE ρ3 (wipeA s vs) (L2.wipe σ vs) := ((((he.up x1).up xD).up x').up x3).wipe vs
    have x03 : Xt (ext ρ1 r.2.sz D) ρ3 := x'.trans x3
    refine k2 ρ3 _ v _ _ _ H2' _ heW r3 rv3 (T.sat_imp (fun s1 q2 σ1 he1 o1 => ⟨?_, ?_⟩) (T.sat_bind q'))
    · have o2 := o1 vs his
      rw [o2]
      have key : ∀ (ws us : List Nat) (σ : L2.St), (∀ i, i ∈ ws → i ∈ us) → L2.wipe (L2.wipe σ ws) us = L2.wipe σ us := by
        intro ws
        induction ws with
        | nil => intro us σ _; rfl
        | cons k ws ih =>
          intro us σ hs
          show L2.wipe ((L2.wipe σ ws).set k none) us = _
          rw [wipe_set (hs k List.mem_cons_self)]
          exact ih us σ fun i hi => hs i (List.mem_cons_of_mem _ hi)
      exact key vs vs σ fun _ z => z
    · intro s' H0 C cl fp
      refine k3 s' H0 C cl fp ρ3 s1 _ σ1 H2' _ he1 r3 (T.sat_imp (fun b q3 ρ4 H4 x4 r4 => ?_) (T.sat_bind q2))
      obtain ⟨b, h4⟩ := b
      cases b with
      | false => exact ⟨ρ4, h4, x03.trans x4, r4, q3⟩
      | true =>
        rw [if_pos rfl]
        intro s' H0 C cl fp
        refine k4 s' H0 C cl fp ρ4 s1 h4 σ1 H4 _ (he1.up x4) r4 (T.sat_imp (fun y q4 ρ5 v5 H5 x5 r5 rv5 => ?_) (T.sat_bind q3))
        have hk : ρ5 r.2.sz = some D := x5 _ _ (x4 _ _ (x03 _ _ kD))
        split at q4
        · next acc hacc =>
          obtain ⟨hb, q4⟩ := bif_inv q4
          have ro := r5.get hacc hk
          cases ro with
          | lst ra hl =>
            exact ⟨_, hl, by rw [← ra.length, sizeLine_eq]; omega, ρ5, _, (x03.trans x4).trans x5, r5.set hk (.lst (paired_append ra (.cons rv5 .nil)) upd_same), q4⟩
        · exact q4.elim
  · rintro H' ⟨ρ', h', x', r', q'⟩
    rw [List.drop_eq_nil_of_le (Nat.le_refl _)] at q'
    unfold loopC at q'
    obtain ⟨_, q'⟩ := bif_ok q'
    have q' : PQ ρ Q (.r r.2.sz, h') := q'
    exact q' ρ' _ H' ((x1.trans xD).trans x') r' (.r (x' _ _ kD))
theorem ce_lc {tg it : Expr} {t : TG} {is : List Nat} {di : AE → AH → T (Walked × AH)} {dg : DenG} {dt : DenB} {de : DenE} {own : List (Str × Nat)} (hc : X.calm = true) (hN : X.N.Nodup) (h1 : CI X tg it di) (ok : BlkOk X.N X.env.scope scope own)
    (h2 : Blk X scope fun Y => PG Y tg t) (hk : GK t is dg) (his : ∀ i, i ∈ is → i ∈ own.map (·.2)) (h3 : Blk X scope fun Y => CTs Y ifs dt) (h4 : Blk X scope fun Y => CE Y elt de) (hs : ∀ x, foldedSetIterable it X.env x = pure x := by intro _; rfl) :
    CE X (.ListComp elt [⟨tg, it, ifs, 0⟩] scope pos) (dLc di dg (own.map (·.2)) dt de) := fun ρ s h σ H Q he hh q => by
  obtain ⟨wi, p1, k1⟩ := h1
  refine ofE (pe_lc (tt := wpTsB X scope ifs) (te := wpEB X scope elt) hc hN p1 ok h2 (fun s H C cl fp => ⟨fun pins s' σ H' Q I h => h s H C cl fp pins s' I⟩) (fun s H C cl fp => ⟨fun pins s' σ H' Q I h => h s H C cl fp pins s' I⟩) hs) ?_
  exact lc_ok his k1 hk h3 h4 he hh q
theorem cs_setLc {i : Nat} {y : Str} {py spos : Pos} {tg it : Expr} {t : TG} {is : List Nat} {di : AE → AH → T (Walked × AH)} {dg : DenG} {dt : DenB} {de : DenE} {own : List (Str × Nat)} (hc : X.calm = true) (hN : X.N.Nodup) (hy : X.N[i]? = some y) (hyl : X.env.scope.names.lookup y = some .local)
    (hsw : swapsWith (.ListComp elt [⟨tg, it, ifs, 0⟩] scope pos) (some (.Name y py)) spos.line X.env = pure true) (h1 : CI X tg it di) (ok : BlkOk X.N X.env.scope scope own)
    (h2 : Blk X scope fun Y => PG Y tg t) (hk : GK t is dg) (his : ∀ i, i ∈ is → i ∈ own.map (·.2)) (h3 : Blk X scope fun Y => CTs Y ifs dt) (h4 : Blk X scope fun Y => CE Y elt de) (hs : ∀ x, foldedSetIterable it X.env x = pure x := by intro _; rfl) :
    CS X (.Assign [.Name y py] (.ListComp elt [⟨tg, it, ifs, 0⟩] scope pos) spos) (dAsg (dLc di dg (own.map (·.2)) dt de) (dgN i)) := fun ρ s h σ H D he hh q => by
  obtain ⟨wi, p1, k1⟩ := h1
  refine ofS (ps_setLc (tt := wpTsB X scope ifs) (te := wpEB X scope elt) hc hN hy hyl hsw p1 ok h2 (fun s H C cl fp => ⟨fun pins s' σ H' Q I h => h s H C cl fp pins s' I⟩) (fun s H C cl fp => ⟨fun pins s' σ H' Q I h => h s H C cl fp pins s' I⟩) hs) ?_
  refine lc_ok his k1 hk h3 h4 he hh (T.sat_imp (fun r q1 ρ1 v H1 x1 r1 rv => ?_) (T.sat_bind q))
  exact q1 ρ1 H1 x1 r1 _ ((he.up x1).set rv i)
end
end Z
end

section
set_option linter.all false
set_option maxRecDepth 100000
set_option maxHeartbeats 2000000
namespace Z
open PySem L2 PyProof.Rows
variable [Scr]
abbrev FnF := List AV → AH → T (AV × AH)
/-- a def hands back what its mirror does -/
def spF (n : Nat) (F : FnF) : Sp := fun vs H Q _ => ∃ ρ h xs, xs.length = n ∧ RH ρ h H ∧ RVs ρ xs vs ∧ (F xs h).sat (PQ ρ Q)
def startA (n : Nat) (xs : List AV) : AE := xs.map some ++ List.replicate (n - xs.length) none
def runB (n : Nat) (d : DenS) : FnF := fun xs h => (d (startA n xs) h).bind fun p => match p.1 with
  | .nx _ => .ok (.non, p.2)
  | .rt x => .ok (x, p.2)
  | _ => .bad
theorem paired_rep {α β : Type} {R : α → β → Prop} {x : α} {y : β} (h : R x y) : ∀ n, Paired R (List.replicate n x) (List.replicate n y)
  | 0 => .nil
  | n + 1 => .cons h (paired_rep h n)
theorem start_re {ρ : Ro} {N : List Str} {xs : List AV} {vs : List V} (r : RVs ρ xs vs) : RE ρ (startA N.length xs) (L2.start N vs) := by
  unfold startA L2.start
  rw [r.length]
  refine paired_append ?_ (paired_rep (fun x hx => nomatch hx) _)
  clear N
  induction r with
  | nil => exact .nil
  | cons a b ih => exact .cons (fun x hx => by cases hx; exact ⟨_, rfl, a⟩) ih
theorem spF_body {X : Cx} {N : List Str} {st : List Stmt} {d : DenS} {n : Nat} {vs : List V} {H : Hp} {Q : VK} {E : XK} (hX : X.N = N) (c : CSs X st d) (hsp : spF n (runB N.length d) vs H Q E) : wpSs X st { nx := fun _ H' => Q .non H', rt := Q } (L2.start N vs) H := by
  obtain ⟨ρ, h, xs, _, hh, rv, q⟩ := hsp
  refine c ρ _ h _ H _ (start_re rv) hh (T.sat_imp (fun r q1 ρ1 H1 x1 r1 => ?_) (T.sat_bind q))
  obtain ⟨o, h1⟩ := r
  cases o with
  | nx s => exact fun σ1 he1 => q1 ρ1 _ H1 x1 r1 .non
  | rt x => exact fun v rv => q1 ρ1 v H1 x1 r1 rv
  | bk s => exact fun σ1 he1 => q1.elim
  | ct s => exact fun σ1 he1 => q1.elim
theorem fnMK {P : Program} {w : World} {K : PySem.W.Frag} {mg : Str → Option Value} {base : Heap} {k : Nat} {f : Addr} {x qual : Str} {st : Stmt} {fd : FuncData} {N ps : List Str} (F : Fun K x qual st f fd) (S : FnScope N ps (defScope st)) {d : DenS}
    (body : ∀ (cdv : Value) (A : Around) (outer : List Env) (s : Shared) (H : Hp) (E : XK), Room k (bx CX0 P w K mg base N qual st f cdv A outer s H E).nox.A → CSs (bx CX0 P w K mg base N qual st f cdv A outer s H E).nox (defBody st) d) :
    FnOk P w K mg base CX0 (k + 1) f fd ps (spF ps.length (runB N.length d)) :=
  F.ok S (fun vs H Q E ⟨ρ, h, xs, hl, _, rv, _⟩ => by rw [← rv.length]; exact hl) fun cdv A outer s H vs Q E hr hsp => ⟨wpSs _ _, pssW _, spF_body rfl (body cdv A outer s H E hr) hsp⟩
theorem fnMG {P : Program} {w : World} {K : PySem.W.Frag} {mg : Str → Option Value} {base : Heap} {k : Nat} {f : Addr} {x qual : Str} {st : Stmt} {fd : FuncData} {N ps : List Str} (F : Fun K x qual st f fd) (S : FnScope N ps (defScope st)) {d : DenS}
    (body : ∀ (cdv : Value) (A : Around) (outer : List Env) (s : Shared) (H : Hp) (E : XK), A.guards = some [] → Room k (bx CX0 P w K mg base N qual st f cdv A outer s H E).nox.A → CSs (bx CX0 P w K mg base N qual st f cdv A outer s H E).nox (defBody st) d) :
    FnG P w K mg base CX0 (k + 1) f fd ps (spF ps.length (runB N.length d)) := by
  refine fnG_of F S (fun vs H Q E ⟨ρ, h, xs, hl, _, rv, _⟩ => by rw [← rv.length]; exact hl) fun cdv A outer s H vs Q E hg hr hsp => ?_
  intro pins s1 I
  exact (PSs.nox (pssW _)).run pins s1 _ H _ I (spF_body rfl (body cdv A outer s H E hg hr) hsp)
section
variable {X : Cx} {G : ST} {a b c e o : Expr} {es : List Expr} {pos q p : Pos} {k : Nat} {f C : Addr} {fd : FuncData} {ps : List Str} {n : Nat} {F : FnF} {x m : Str} {da : DenA} {de : DenE}
/-! ### calls of defs -/
def dCall (n : Nat) (F : FnF) (d : DenA) : DenE := fun s h => (d s h).bind fun p => bif Nat.beq p.1.length n then F p.1 p.2 else .bad
theorem spF_of {ρ ρ1 : Ro} {xs : List AV} {h1 : AH} {vs : List V} {H1 : Hp} {Q : VK} {E : XK} (x1 : Xt ρ ρ1) (r1 : RH ρ1 h1 H1) (rv : RVs ρ1 xs vs) (q : (bif Nat.beq xs.length n then F xs h1 else .bad).sat (PQ ρ Q)) : spF n F vs H1 Q E := by
  obtain ⟨hl, q⟩ := bif_ok q
  exact ⟨ρ1, h1, xs, Nat.eq_of_beq_eq_true hl, r1, rv, T.sat_imp (fun _ k => k.up x1) q⟩
theorem ce_callG (Fn : FnG X.prog X.w X.K X.mg X.base CX0 k f fd ps (spF n F)) (hgd : X.A.guards = some []) (hr : Room k X.A) (hg : Gl X x) (hm : X.mg x = some (.ref f)) (hk : PySem.W.keepIn X.K (.ref f) = true) (hb : Binds X.K fd ps []) (h1 : CA X (e :: es) da)
    (hdb : (x == ("__debug__" : Str)) = false := by decide) (he : starEach (e :: es) X.env = (false, eval e X.env) :: starEach es X.env := by rfl) (hpl : (backTo pos (starEach es X.env)).any (·.1) = false := by rfl) : CE X (.Call (.Name x q) (e :: es) [] pos) (dCall n F da) := fun ρ s h σ H Q he' hh qq => by
  refine ofE (pe_callG (E := E0) Fn hgd hr hg hm hk hb pass0 hdb he hpl) (h1.then he' hh qq fun xs h1 ρ1 vs H1 x1 r1 rv q1 => ?_)
  exact spF_of x1 r1 rv q1
theorem ce_call (Fn : FnOk X.prog X.w X.K X.mg X.base CX0 k f fd ps (spF n F)) (hr : Room k X.A) (hg : Gl X x) (hm : X.mg x = some (.ref f)) (hk : PySem.W.keepIn X.K (.ref f) = true) (hb : Binds X.K fd ps []) (h1 : CA X (e :: es) da)
    (hdb : (x == ("__debug__" : Str)) = false := by decide) (he : starEach (e :: es) X.env = (false, eval e X.env) :: starEach es X.env := by rfl) (hpl : (backTo pos (starEach es X.env)).any (·.1) = false := by rfl) : CE X (.Call (.Name x q) (e :: es) [] pos) (dCall n F da) := fun ρ s h σ H Q he' hh qq => by
  refine ofE (pe_call (E := E0) Fn hr hg hm hk hb .nil pass0 (paW (e :: es)) hdb he hpl) ?_
  refine h1.then he' hh qq fun xs h1 ρ1 vs H1 x1 r1 rv q1 => ?_
  rw [List.append_nil]
  exact spF_of x1 r1 rv q1
def dCall0 (F : FnF) : DenE := fun _ h => F [] h
theorem ce_callG0 (Fn : FnG X.prog X.w X.K X.mg X.base CX0 k f fd ps (spF 0 F)) (hgd : X.A.guards = some []) (hr : Room k X.A) (hg : Gl X x) (hm : X.mg x = some (.ref f)) (hk : PySem.W.keepIn X.K (.ref f) = true) (hb : Binds X.K fd ps [])
    (hdb : (x == ("__debug__" : Str)) = false := by decide) : CE X (.Call (.Name x q) [] [] pos) (dCall0 F) := fun ρ s h σ H Q he' hh qq =>
  ofE (pe_callG0 (E := E0) Fn hgd hr hg hm hk hb pass0 hdb) ⟨ρ, h, [], rfl, hh, .nil, qq⟩
/-! ### an instance is made -/
def dMake (C : Addr) (n : Nat) (F : FnF) (d : DenA) : DenE := fun s h => (d s h).bind fun p => bif Nat.beq (p.1.length + 1) n then (F (.r p.2.sz :: p.1) (p.2.new (.ins C []))).bind fun r => (match r.1 with
  | .non => .ok (.r p.2.sz, r.2)
  | _ => .bad) else .bad
theorem make_sp {ρ ρ1 : Ro} {xs : List AV} {h1 : AH} {vs : List V} {H1 : Hp} {Q : VK} {E : XK} (x1 : Xt ρ ρ1) (r1 : RH ρ1 h1 H1) (rv : RVs ρ1 xs vs)
    (q : (bif Nat.beq (xs.length + 1) n then (F (.r h1.sz :: xs) (h1.new (.ins C []))).bind fun r => (match r.1 with
      | .non => .ok (.r h1.sz, r.2)
      | _ => .bad) else .bad).sat (PQ ρ Q)) : ∀ x dx, H1 x = none → H1 dx = none → dx ≠ x → spF n F (.ref x :: vs) (upd (upd H1 dx (.own x)) x (.ins C dx [])) (fun v H2 => v = .non ∧ Q (.ref x) H2) E := fun x dx hx hdx hne => by
  obtain ⟨hl, q⟩ := bif_ok q
  have r2 := r1.side (u := .own x) hdx
  have hx2 : (upd H1 dx (.own x)) x = none := by rw [upd_ne (fun z => hne z.symm)]; exact hx
  have r3 := r2.new (o := .ins C []) (u := .ins C dx []) hx2 fun ρ' _ => .ins .nil upd_same
  have k3 : (ext ρ1 h1.sz x) h1.sz = some x := by unfold ext; rw [if_pos rfl]
  refine ⟨_, _, .r h1.sz :: xs, Nat.eq_of_beq_eq_true hl, r3, .cons (.r k3) (RVs.up (r1.xt x) rv), T.sat_imp (fun r q1 ρ4 v H4 x4 r4 rv4 => ?_) (T.sat_bind q)⟩
  obtain ⟨y, h4⟩ := r
  cases rv4 with
  | non => exact ⟨rfl, q1 ρ4 _ H4 ((x1.trans (r1.xt x)).trans x4) r4 (.r (x4 _ _ k3))⟩
  | bl _ => exact q1.elim
  | int _ => exact q1.elim
  | str _ => exact q1.elim
  | rep _ => exact q1.elim
  | scr => exact q1.elim
  | r _ => exact q1.elim
  | k _ => exact q1.elim
theorem ce_make (M : Mk X.K C f) (Fn : FnOk X.prog X.w X.K X.mg X.base CX0 k f fd ps (spF n F)) (hr : Room (k + 1) X.A) (hg : Gl X x) (hm : X.mg x = some (.ref C)) (hb : Binds X.K fd ps []) (h1 : CA X (e :: es) da)
    (hdb : (x == ("__debug__" : Str)) = false := by decide) (he : starEach (e :: es) X.env = (false, eval e X.env) :: starEach es X.env := by rfl) (hpl : (backTo pos (starEach es X.env)).any (·.1) = false := by rfl) : CE X (.Call (.Name x q) (e :: es) [] pos) (dMake C n F da) := fun ρ s h σ H Q he' hh qq => by
  refine ofE (pe_make (E := E0) M Fn hr hg hm hb .nil pass0 (paW (e :: es)) hdb he hpl) ?_
  refine h1.then he' hh qq fun xs h1 ρ1 vs H1 x1 r1 rv q1 => ?_
  rw [List.append_nil]
  exact make_sp x1 r1 rv q1
/-! ### fields, properties -/
def insOf (C : Addr) (h : AH) : AV → Option (List (Str × AV))
  | .r i => match h.get i with
    | some (.ins D fs) => bif Nat.beq C D then some fs else none
    | _ => none
  | _ => none
theorem insOf_ok {ρ : Ro} {h : AH} {H : Hp} {y : AV} {v : V} {fs : List (Str × AV)} (hh : RH ρ h H) (rv : RV ρ y v) (e : insOf C h y = some fs) : ∃ i a dx vs, y = .r i ∧ v = .ref a ∧ ρ i = some a ∧ RF ρ fs vs ∧ H a = some (.ins C dx vs) := by
  cases rv with
  | r hr =>
    unfold insOf at e
    dsimp only at e
    split at e
    · next D gs hy =>
      cases hb : Nat.beq C D with
      | true =>
        rw [hb] at e
        cases e
        have := Nat.eq_of_beq_eq_true hb
        subst this
        cases hh.get hy hr with
        | ins r hl => exact ⟨_, _, _, _, rfl, rfl, hr, r, hl⟩
      | false => rw [hb] at e; cases e
    · cases e
  | k v => cases e
  | non => cases e
  | bl _ => cases e
  | int _ => cases e
  | str _ => cases e
  | rep _ => cases e
  | scr => cases e
theorem RF.lookup {ρ : Ro} {g : Str} : ∀ {fs : List (Str × AV)} {vs : List (Str × V)} {z : AV}, RF ρ fs vs → fs.lookup g = some z → ∃ v, vs.lookup g = some v ∧ RV ρ z v
  | _, _, _, .nil, e => by cases e
  | (n, y) :: fs, (n', v) :: vs, z, .cons ⟨hn, hv⟩ t, e => by
    have hn : n = n' := hn
    subst hn
    simp only [List.lookup_cons] at e ⊢
    cases hb : g == n with
    | true => rw [hb] at e; cases e; exact ⟨v, rfl, hv⟩
    | false => rw [hb] at e; exact RF.lookup t e
theorem RF.lookup_none {ρ : Ro} {g : Str} : ∀ {fs : List (Str × AV)} {vs : List (Str × V)}, RF ρ fs vs → fs.lookup g = none → vs.lookup g = none
  | _, _, .nil, e => rfl
  | (n, y) :: fs, (n', v) :: vs, .cons ⟨hn, hv⟩ t, e => by
    have hn : n = n' := hn
    subst hn
    simp only [List.lookup_cons] at e ⊢
    cases hb : g == n with
    | true => rw [hb] at e; cases e
    | false => rw [hb] at e; exact RF.lookup_none t e
def dFld (C : Addr) (g : Str) (d : DenE) : DenE := fun s h => (d s h).bind fun p => match insOf C p.2 p.1 with
  | some fs => match fs.lookup g with
    | some z => .ok (z, p.2)
    | none => .bad
  | none => .bad
theorem ce_fld (cl : Cls X.K C) (na : NoAttr X.K C m) (h1 : CE X e de) (hb : attributeBase e m X.env (eval e X.env) = eval e X.env := by rfl) : CE X (.Attribute e m pos) (dFld C m de) := fun ρ s h σ H Q he hh qq => by
  refine ofE (pe_fld (peW e) hb) (h1.then he hh qq fun y h1 ρ1 v H1 x1 r1 rv q1 => ?_)
  split at q1
  · next fs hfs =>
    obtain ⟨i, a, dx, vs, _, rfl, hi, rf, hl⟩ := insOf_ok r1 rv hfs
    split at q1
    · next z hz =>
      obtain ⟨u, hu, ru⟩ := rf.lookup hz
      exact ⟨a, C, dx, vs, u, rfl, hl, cl, na, hu, q1 ρ1 u H1 x1 r1 ru⟩
    · exact q1.elim
  · exact q1.elim
def putA (g : Str) (z : AV) : List (Str × AV) → List (Str × AV)
  | [] => [(g, z)]
  | p :: ps => bif decide (p.1 = g) then (g, z) :: ps else p :: putA g z ps
def dProp (C : Addr) (n : Nat) (F : FnF) (d : DenE) : DenE := fun s h => (d s h).bind fun p => match insOf C p.2 p.1 with
  | some _ => bif Nat.beq 1 n then F [p.1] p.2 else .bad
  | none => .bad
theorem ce_prop {pr : Addr} (cl : Cls X.K C) (hp : PropOf X.K C m pr f) (Fn : FnOk X.prog X.w X.K X.mg X.base CX0 k f fd ps (spF n F)) (hr : Room (k + 1) X.A) (hb : Binds X.K fd ps []) (h1 : CE X e de) (hba : attributeBase e m X.env (eval e X.env) = eval e X.env := by rfl) : CE X (.Attribute e m pos) (dProp C n F de) := fun ρ s h σ H Q he hh qq => by
  refine ofE (pe_prop (E := E0) (peW e) cl hp Fn hr hb .nil pass0 hba) (h1.then he hh qq fun y h1 ρ1 v H1 x1 r1 rv q1 => ?_)
  split at q1
  · next fs hfs =>
    obtain ⟨i, a, dx, vs, _, rfl, hi, rf, hl⟩ := insOf_ok r1 rv hfs
    exact ⟨a, dx, vs, rfl, hl, spF_of (xs := [y]) x1 r1 (.cons rv .nil) q1⟩
  · exact q1.elim
/-- o.m(..), a method of its own -/
def dMeth (C : Addr) (m : Str) (n : Nat) (F : FnF) (d : DenE) (da : DenA) : DenE := fun s h => (d s h).bind fun p => match insOf C p.2 p.1 with
  | some fs => (match fs.lookup m with
    | none => (da s p.2).bind fun r => bif Nat.beq (r.1.length + 1) n then F (p.1 :: r.1) r.2 else .bad
    | some _ => .bad)
  | none => .bad
theorem ce_meth (cl : Cls X.K C) (hm : Meth X.K C m f) (Fn : FnOk X.prog X.w X.K X.mg X.base CX0 k f fd ps (spF n F)) (hr : Room k X.A) (hb : Binds X.K fd ps []) (h1 : CE X o de) (h2 : CA X (e :: es) da)
    (ht : PE X (.Call (.Attribute o m p) (e :: es) [] pos) (tMeth C m (spF n F) [] E0 (wpE X o) (wpA X (e :: es)))) : CE X (.Call (.Attribute o m p) (e :: es) [] pos) (dMeth C m n F de da) := fun ρ s h σ H Q he hh qq => by
  refine ofE ht (h1.then he hh qq fun y h1 ρ1 v H1 x1 r1 rv q1 => ?_)
  split at q1
  · next fs hfs =>
    obtain ⟨i, a, dx, vs, _, rfl, hi, rf, hl⟩ := insOf_ok r1 rv hfs
    split at q1
    · next hn =>
      refine ⟨a, dx, vs, rfl, hl, rf.lookup_none hn, h2.then (he.up x1) r1 q1 fun ys h2 ρ2 us H2 x2 r2 ru q2 => ?_⟩
      rw [List.append_nil]
      exact spF_of (xs := y :: ys) (x1.trans x2) r2 (.cons (rv.up x2) ru) q2
    · exact q1.elim
  · exact q1.elim
/-! ### fields that are set -/
theorem putF_ok {ρ : Ro} {g : Str} {z : AV} {u : V} (rz : RV ρ z u) : ∀ {fs : List (Str × AV)} {vs : List (Str × V)}, RF ρ fs vs → fs.lookup g = none → RF ρ (fs ++ [(g, z)]) (vs ++ [(g, u)]) := fun r _ => paired_append r (.cons ⟨rfl, rz⟩ .nil)
end
end Z
end

section
set_option linter.all false
set_option maxRecDepth 100000
set_option maxHeartbeats 2000000
namespace Z
open PySem L2 PyProof.Rows
variable [Scr]
section
variable {X : Cx} {G : ST} {a b c e o value : Expr} {es : List Expr} {pos pos' q p apos : Pos} {k : Nat} {f C : Addr} {fd : FuncData} {ps : List Str} {n : Nat} {F : FnF} {x m : Str} {da : DenA} {de dv : DenE}
/-! ### a field is set -/
theorem RF.put {ρ : Ro} {g : Str} {z : AV} {u : V} (rz : RV ρ z u) : ∀ {fs : List (Str × AV)} {vs : List (Str × V)}, RF ρ fs vs → RF ρ (putA g z fs) (putF g u vs)
  | _, _, .nil => .cons ⟨rfl, rz⟩ .nil
  | (n, y) :: fs, (n', v) :: vs, .cons ⟨hn, hv⟩ t => by
    have hn : n = n' := hn
    subst hn
    unfold putA putF
    dsimp only
    by_cases h : n = g
    · rw [if_pos h, decide_eq_true h]
      exact .cons ⟨h.symm, rz⟩ t
    · rw [if_neg h, decide_eq_false h]
      exact .cons ⟨rfl, hv⟩ (RF.put rz t)
def dFldS (C : Addr) (g : Str) (dv d : DenE) : DenS := fun s h => (dv s h).bind fun r => (d s r.2).bind fun p => match p.1 with
  | .r i => match insOf C p.2 p.1 with
    | some fs => bif Nat.ble 1000 fs.length then .bad else .ok (.nx s, p.2.set i (.ins C (putA g r.1 fs)))
    | none => .bad
  | _ => .bad
theorem cs_fld (cl : Cls X.K C) (na : NoAttr X.K C m) (h1 : CE X value dv) (h2 : CE X o de) (hs : swapsWith value (some (.Attribute o m pos')) pos.line X.env = pure false := by rfl) : CS X (.Assign [.Attribute o m pos'] value pos) (dFldS C m dv de) := fun ρ s h σ H D he hh qq => by
  refine ofS (ps_fld (peW o) (peW value) hs) (h1.then he hh qq fun y h1 ρ1 v H1 x1 r1 rv q1 => ?_)
  refine h2.then (he.up x1) r1 q1 fun z h2 ρ2 u H2 x2 r2 ru q2 => ?_
  split at q2
  · next i e1 =>
    have e1 : z = .r i := e1
    subst e1
    split at q2
    · next fs hfs =>
      obtain ⟨j, a, dx, vs, ej, rfl, hi, rf, hl⟩ := insOf_ok r2 ru hfs
      cases ej
      cases hb : Nat.ble 1000 fs.length with
      | true => rw [hb] at q2; exact q2.elim
      | false =>
        rw [hb] at q2
        have q2 : PD ρ D (.nx s, h2.set i (.ins C (putA m y fs))) := q2
        refine ⟨a, C, dx, vs, rfl, hl, cl, na, ?_, ?_⟩
        · rw [← rf.length]
          exact Nat.lt_of_not_le fun z => by rw [Nat.ble_eq_true_of_le z] at hb; cases hb
        · exact q2 ρ2 _ (x1.trans x2) (r2.set hi (.ins (rf.put (rv.up x2)) upd_same)) σ ((he.up x1).up x2)
    · exact q2.elim
  · exact q2.elim
/-! ### built-in functions by their values -/
def CbC (R : List V → Hp → VK → Prop) (F : FnF) : Prop := ∀ ρ xs h vs H Q, RH ρ h H → RVs ρ xs vs → (F xs h).sat (PQ ρ Q) → R vs H Q
def dCb (F : FnF) (d : DenA) : DenE := fun s h => (d s h).bind fun p => F p.1 p.2
theorem ce_callB {id : String} {R : List V → Hp → VK → Prop} (hc : CallR X (.builtin id) R) (cb : CbC R F) (hg : Gl X x) (hm : X.mg x = none) (hv : bootBuiltins x = some (.builtin id)) (h1 : CA X (e :: es) da)
    (hn : x ≠ "__name__" := by decide) (hdb : (x == ("__debug__" : Str)) = false := by decide) (he : starEach (e :: es) X.env = (false, eval e X.env) :: starEach es X.env := by rfl) (hpl : (backTo pos (starEach es X.env)).any (·.1) = false := by rfl) :
    CE X (.Call (.Name x q) (e :: es) [] pos) (dCb F da) := fun ρ s h σ H Q he' hh qq =>
  ofE (pe_callB hc hg hm hv (paW _) hn hdb he hpl) (h1.then he' hh qq fun xs h1 ρ1 vs H1 x1 r1 rv q1 => cb ρ1 xs h1 vs H1 Q r1 rv (T.sat_imp (fun _ k => k.up x1) q1))
theorem ce_callTy {Ty : String} {R : List V → Hp → VK → Prop} (hc : CallR X (.type Ty) R) (cb : CbC R F) (hg : Gl X x) (hm : X.mg x = none) (hv : bootBuiltins x = some (.type Ty)) (h1 : CA X (e :: es) da)
    (hn : x ≠ "__name__" := by decide) (hdb : (x == ("__debug__" : Str)) = false := by decide) (he : starEach (e :: es) X.env = (false, eval e X.env) :: starEach es X.env := by rfl) (hpl : (backTo pos (starEach es X.env)).any (·.1) = false := by rfl) :
    CE X (.Call (.Name x q) (e :: es) [] pos) (dCb F da) := fun ρ s h σ H Q he' hh qq =>
  ofE (pe_callTy hc hg hm hv (paW _) hn hdb he hpl) (h1.then he' hh qq fun xs h1 ρ1 vs H1 x1 r1 rv q1 => cb ρ1 xs h1 vs H1 Q r1 rv (T.sat_imp (fun _ k => k.up x1) q1))
theorem callr_or {g : Value} {r1 r2 : List V → Hp → VK → Prop} (h1 : CallR X g r1) (h2 : CallR X g r2) : CallR X g (fun xs H Q => r1 xs H Q ∨ r2 xs H Q) := fun pins s σ H xs us Q I r h => h.elim (h1 pins s σ H xs us Q I r) (h2 pins s σ H xs us Q I r)
/-- len -/
def aLen (G : ST) (C : Addr) (n : Nat) (F : FnF) : FnF := fun xs h => match xs with
  | [.str y] => bif big y.length then .bad else .ok (.int (y.length : Nat), h)
  | [x] => match seqs G h x with
    | some (_, ys) => .ok (.int (ys.length : Nat), h)
    | none => match insOf C h x with
      | some _ => bif Nat.beq 1 n then (F [x] h).bind fun r => (match r.1 with
        | .int i => bif decide (0 ≤ i) && decide (i < 1000000) then .ok (.int i, r.2) else .bad
        | _ => .bad) else .bad
      | none => .bad
  | _ => .bad
def rLenA (K : PySem.W.Frag) (C : Addr) (n : Nat) (F : FnF) : List V → Hp → VK → Prop := fun xs H Q => (∃ v m, xs = [v] ∧ ((∃ y, v = .str y ∧ y.length ≤ sizeLine ∧ m = y.length) ∨ (∃ a vs, v = .ref a ∧ vs.length = m ∧ ((H a = some (.lst vs)) ∨ SqT K H a vs))) ∧ Q (.int (m : Nat)) H) ∨ rLenO C (spF n F) xs H Q
theorem cb_len {K : PySem.W.Frag} (hG : GOk K G) : CbC (rLenA K C n F) (aLen G C n F) := fun ρ xs h vs H Q hh rv qq => by
  unfold aLen at qq
  split at qq
  · next y =>
    cases rv with
    | cons r1 r2 =>
      cases r2
      cases r1
      obtain ⟨hl, qq⟩ := bif_inv qq
      have qq : PQ ρ Q (_, h) := qq
      exact .inl ⟨_, _, rfl, .inl ⟨y, rfl, by rw [sizeLine_eq]; omega, rfl⟩, qq ρ _ H (.refl ρ) hh (.int _)⟩
  · next x _ =>
    cases rv with
    | cons r1 r2 =>
      cases r2
      split at qq
      · next t ys hy =>
        obtain ⟨a, vs, rfl, r, hk⟩ := seqs_ok hG hh r1 hy
        refine .inl ⟨_, _, rfl, .inr ⟨a, vs, rfl, r.length.symm, ?_⟩, qq ρ _ H (.refl ρ) hh (.int _)⟩
        rcases hk with ⟨_, hk⟩ | ⟨_, hk⟩
        · exact .inl hk
        · exact .inr hk
      · split at qq
        · next fs hfs =>
          obtain ⟨i, a, dx, vs, _, rfl, hi, rf, hl⟩ := insOf_ok hh r1 hfs
          obtain ⟨hn, qq⟩ := bif_ok qq
          refine .inr ⟨a, dx, vs, rfl, hl, ρ, h, [x], Nat.eq_of_beq_eq_true hn, hh, .cons r1 .nil, T.sat_imp (fun r q1 ρ1 v H1 x1 r1 rv => ?_) (T.sat_bind qq)⟩
          obtain ⟨z, h1⟩ := r
          cases rv with
          | int j =>
            obtain ⟨hb, q1⟩ := bif_ok q1
            simp only [Bool.and_eq_true, decide_eq_true_eq] at hb
            have q1 : PQ ρ Q (_, h1) := q1
            exact ⟨j, rfl, hb.1, by omega, q1 ρ1 _ H1 x1 r1 (.int _)⟩
          | non => exact q1.elim
          | bl _ => exact q1.elim
          | str _ => exact q1.elim
          | rep _ => exact q1.elim
          | scr => exact q1.elim
          | r _ => exact q1.elim
          | k _ => exact q1.elim
        · exact qq.elim
  · exact qq.elim
/-- list(xs), tuple(xs), all(xs) -/
def aList (G : ST) : FnF := fun xs h => match xs with
  | [x] => match seqs G h x with
    | some (_, ys) => .ok (.r h.sz, h.new (.lst ys))
    | none => .bad
  | _ => .bad
theorem cb_list {K : PySem.W.Frag} (hG : GOk K G) : CbC (fun xs H Q => ∃ p ys, xs = [.ref p] ∧ (SqL K H p ys ∨ SqT K H p ys) ∧ ∀ l, H l = none → Q (.ref l) (upd H l (.lst ys))) (aList G) := fun ρ xs h vs H Q hh rv qq => by
  unfold aList at qq
  split at qq
  · next x =>
    cases rv with
    | cons r1 r2 =>
      cases r2
      split at qq
      · next t ys hy =>
        obtain ⟨a, vs, rfl, r, hk⟩ := seqs_ok hG hh r1 hy
        refine ⟨a, vs, rfl, ?_, fun l hn => PQ.new qq hh hn fun ρ' x' => .lst (RVs.up x' r) upd_same⟩
        rcases hk with ⟨_, hk⟩ | ⟨_, hk⟩
        · exact .inl (.of hk)
        · exact .inr hk
      · exact qq.elim
  · exact qq.elim
def dTuple (G : ST) (d : DenE) : DenE := fun s h => (d s h).bind fun p => match seqs G p.2 p.1 with
  | some (true, ys) => .ok (.r p.2.sz, p.2.new (.tup ys))
  | some (false, _) => .ok (p.1, p.2)
  | none => .bad
theorem ce_tuple (hG : GOk X.K G) (h1 : CE X a de) (hp : PE X (.Call (.Name "tuple" p) [a] [] pos) (tThen (wpE X a) (kTup X.K))) : CE X (.Call (.Name "tuple" p) [a] [] pos) (dTuple G de) := fun ρ s h σ H Q he hh qq => by
  refine ofE hp (h1.then he hh qq fun x h1 ρ1 v H1 x1 r1 rv q1 => ?_)
  split at q1
  · next ys hy =>
    obtain ⟨a, vs, rfl, r, hk⟩ := seqs_ok hG r1 rv hy
    rcases hk with ⟨_, hk⟩ | ⟨z, _⟩
    · exact .inl ⟨a, vs, rfl, .of hk, fun l hn => (PQ.up x1 q1).new r1 hn fun ρ' x' => .tup (RVs.up x' r) upd_same⟩
    · cases z
  · next ys hy =>
    obtain ⟨a, vs, rfl, r, hk⟩ := seqs_ok hG r1 rv hy
    rcases hk with ⟨z, _⟩ | ⟨_, hk⟩
    · cases z
    · exact .inr ⟨a, vs, rfl, hk, q1 ρ1 _ H1 x1 r1 rv⟩
  · exact q1.elim
def boolsA : List AV → Option (List Bool)
  | [] => some []
  | .bl b :: xs => match boolsA xs with
    | some bs => some (b :: bs)
    | none => none
  | _ => none
theorem boolsA_ok {ρ : Ro} : ∀ {xs : List AV} {vs : List V} {bs : List Bool}, RVs ρ xs vs → boolsA xs = some bs → vs = bs.map V.bl
  | _, _, _, .nil, e => by cases e; rfl
  | x :: xs, v :: vs, bs, .cons a t, e => by
    cases a with
    | bl b =>
      unfold boolsA at e
      split at e
      · next cs hcs => cases e; rw [boolsA_ok t hcs]; rfl
      · cases e
    | non => cases e
    | int _ => cases e
    | str _ => cases e
    | rep _ => cases e
    | scr => cases e
    | r _ => cases e
    | k _ => cases e
def aAll (G : ST) (all : Bool) : FnF := fun xs h => match xs with
  | [x] => match seqs G h x with
    | some (true, ys) => match boolsA ys with
      | some bs => .ok (.bl (bif all then bs.all id else bs.any id), h)
      | none => .bad
    | _ => .bad
  | _ => .bad
theorem aAll_inv {K : PySem.W.Frag} (hG : GOk K G) {t : Bool} {ρ : Ro} {xs : List AV} {h : AH} {vs : List V} {H : Hp} {Q : VK} (hh : RH ρ h H) (rv : RVs ρ xs vs) (qq : (aAll G t xs h).sat (PQ ρ Q)) : ∃ (a : Addr) (bs : List Bool), vs = [V.ref a] ∧ SqL K H a (bs.map V.bl) ∧ Q (.bl (bif t then bs.all id else bs.any id)) H := by
  unfold aAll at qq
  split at qq
  · next x =>
    cases rv with
    | cons r1 r2 =>
      cases r2
      split at qq
      · next ys hy =>
        obtain ⟨a, vs, rfl, r, hk⟩ := seqs_ok hG hh r1 hy
        split at qq
        · next bs hbs =>
          have e := boolsA_ok r hbs
          subst e
          rcases hk with ⟨_, hk⟩ | ⟨z, _⟩
          · exact ⟨a, bs, rfl, .of hk, qq ρ _ H (.refl ρ) hh (.bl _)⟩
          · cases z
        · exact qq.elim
      · exact qq.elim
  · exact qq.elim
theorem cb_all {K : PySem.W.Frag} (hG : GOk K G) : CbC (rAll K) (aAll G true) := fun ρ xs h vs H Q hh rv qq => aAll_inv hG hh rv qq
theorem cb_any {K : PySem.W.Frag} (hG : GOk K G) : CbC (rAny K) (aAll G false) := fun ρ xs h vs H Q hh rv qq => aAll_inv hG hh rv qq
/-- repr of data, held back -/
def aRepr (G : ST) : FnF := fun xs h => match xs with
  | [x] => match rd G h 40 x with
    | some d => bif d.canLay0 && (Nat.ble d.depth 60 && (d.showable && Nat.ble d.shown.length 1000000)) then .ok (.rep d, h) else .bad
    | none => .bad
  | _ => .bad
theorem cb_repr {K : PySem.W.Frag} (hG : GOk K G) : CbC (rReprD K) (aRepr G) := fun ρ xs h vs H Q hh rv qq => by
  unfold aRepr at qq
  split at qq
  · next x =>
    cases rv with
    | cons r1 r2 =>
      cases r2
      split at qq
      · next d hd =>
        obtain ⟨hb, qq⟩ := bif_ok qq
        simp only [Bool.and_eq_true] at hb
        obtain ⟨h1, h2, h3, h4⟩ := hb
        have qq : PQ ρ Q (_, h) := qq
        exact ⟨_, d, rfl, rd_dp hG hh _ _ _ _ r1 hd, h1, Nat.le_of_ble_eq_true h2, h3, by have := Nat.le_of_ble_eq_true h4; rw [sizeLine_eq]; omega, qq ρ _ H (.refl ρ) hh (.rep _)⟩
      · exact qq.elim
  · exact qq.elim
/-- int, abs, max, min of whole numbers -/
def aInt : FnF := fun xs h => match xs with
  | [.int i] => .ok (.int i, h)
  | [.bl b] => .ok (.int (if b then 1 else 0), h)
  | _ => .bad
end
end Z
end

section
set_option linter.all false
set_option maxRecDepth 100000
set_option maxHeartbeats 2000000
namespace PySem.W
open PySem
section
variable {prog : Program} {w : World} {A : Around} {E : Value → Shared → Prop} {s : Shared} {K : Frag} {x y C f L : Addr} {h₀ : Heap} {m : Str → Option Value} {ox : Obj} {od : Option Obj}
theorem zIfBoundB {M : Model} {args : List Value} {name : Str} {id : String} {Q : Option Value → Shared → Prop} (X : K.In s.heap) (I : InstAt s.heap x ox C od) (hs : findIn K (.ref C) name = some (some (.builtin id))) (S : Slot "object" name id)
    (h : wpAny M A (call (.builtin id) (.ref x :: args)) (fun v => Q (some v)) E s) : wpAny M A (callSpecialIfBound? (.ref x) name args) Q E s := by
  simp only [callSpecialIfBound?, bindSpecialIfBound?]
  refine wpAny_holding (wpAny_bind (wpAny_bind (wpAny_bind (I.type.here ((looks_findIn X hs).here ?_)))))
  simp only [S.bind]
  refine wpAny_bind (wpAny_askSetting (wpAny_ite ?_))
  have fin : wpAny M A (call (.builtin id) ([.ref x] ++ args) >>= fun v => pure (some v)) Q E s := wpAny_bind (wpAny_mono h (fun v s' h' => wpAny_pure h') fun _ _ h' => h')
  split
  · exact wpAny_bind (wpAny_pure (wpAny_pure fin))
  · exact wpAny_tryCatch (wpAny_bind (wpAny_pure (wpAny_pure fin)))
theorem zNeEntry (X : K.In s.heap) (I : InstAt s.heap x ox C od) (he : findIn K (.ref C) "__eq__" = some (some (.ref f))) (hf : isFn K (.ref f) = true) (hu : A.units < cLine) {Q : Fin → Shared → Prop}
    (hcall : wpAny (model prog w) A (call (.ref f) [.ref x, .ref y]) (fun v s' => ∃ b, v = .bool b ∧ Q (.done (.ret (.bool (!b)))) s') E s) :
    wpAny (model prog w) A (Builtin.«object.__ne__» ⟨[.ref x, .ref y], []⟩) Q E s := by
  unfold Builtin.«object.__ne__»
  repeat (first
    | with_reducible refine wpAny_cRoomFor hu ?_
    | (refine wpAny_bind (m := callSpecialIfBound? (.ref x) (Str.ofString "__eq__") [.ref y])
        (ifBound_K X I he hf (wpAny_mono hcall (fun r s' hr => by
          obtain ⟨b, rfl, hq⟩ := hr
          repeat (first | exact hq | exact wpAny_pure hq | exact wpAny_truthy_bool hq | (refine wpAny_bind (m := truthy (.bool _)) (wpAny_truthy_bool ?_)) | wp_step)) fun _ _ e => e)))
    | wp_step)
theorem zNe (X : K.In s.heap) (I : InstAt s.heap x ox C od) {oy : Obj} {od2 : Option Obj} (J : InstAt s.heap y oy C od2) (hn : findIn K (.ref C) "__ne__" = some (some (.builtin "object.__ne__"))) (he : findIn K (.ref C) "__eq__" = some (some (.ref f))) (hf : isFn K (.ref f) = true)
    (hm : mroIn K C (.type "object") = some true) (hu : A.units + 1 < cLine) {Q : Value → Shared → Prop}
    (hcall : wpAny (model prog w) A.in1 (call (.ref f) [.ref x, .ref y]) (fun v s' => ∃ b, v = .bool b ∧ Q (.bool (!b)) s') E s) : wpAny (model prog w) A (richCompare .NotEq (.ref x) (.ref y)) Q E s := by
  have one : wpAny (model prog w) A (tryCompare (.ref x) (cmpInfo .NotEq).2.1 (.ref y)) (fun r s' => ∃ v, r = some (.bool v) ∧ Q (.bool v) s') E s := by
    unfold tryCompare
    refine wpAny_bind (zIfBoundB X I hn F.cmp_object.ne ?_)
    refine wpAny_call (codeAny_call_builtin F.cmp_object.ne.plain F.cmpEntry_ne (check_slot F.cmpKind_ne F.cmpSplit_ne (I.type.andThen (looks_mroIn X hm)) (F.cmpArgs_ne _ _) ?_))
    refine zNeEntry (A := A.in1) X I he hf hu (wpAny_mono hcall (fun v s' hv => ?_) fun _ _ e => e)
    obtain ⟨b, rfl, hq⟩ := hv
    refine ⟨_, rfl, ?_⟩
    first | exact wpAny_pure ⟨_, rfl, hq⟩ | exact wpAny_pure (wpAny_pure ⟨_, rfl, hq⟩)
  unfold richCompare
  simp only [oneThing_ref]
  refine wpAny_holding (wpAny_bind (wpAny_cRoomFor (Nat.lt_of_succ_lt hu) ?_))
  refine wpAny_bind (I.type.here (wpAny_bind (J.type.here ?_)))
  rw [show (Value.ref C != Value.ref C) = false from by simp]
  simp only [Bool.false_eq_true, if_false]
  refine wpAny_bind (wpAny_pure ?_)
  simp only [Bool.false_eq_true, if_false]
  refine wpAny_bind (wpAny_mono one (fun r s' z => ?_) fun _ _ e => e)
  obtain ⟨v, rfl, hq⟩ := z
  exact wpAny_pure hq
end
end PySem.W
end

section
set_option linter.all false
set_option maxRecDepth 100000
set_option maxHeartbeats 2000000
namespace Z
open PySem L2 PyProof.Rows
variable [Scr]
section
variable {X : Cx} {G : ST} {a b c e o value : Expr} {es : List Expr} {pos pos' q p apos cpos : Pos} {k : Nat} {f C : Addr} {fd : FuncData} {ps : List Str} {n : Nat} {F : FnF} {x m : Str} {da : DenA} {de dv db : DenE}
/-! ### own == and != -/
def aEqO (C : Addr) (n : Nat) (F : FnF) (neg : Bool) : Op2 := fun x y h => match insOf C h x, insOf C h y with
  | some _, some _ => bif Nat.beq 2 n then (F [x, y] h).bind fun r => (match r.1 with
    | .bl t => .ok (.bl (bif neg then !t else t), r.2)
    | _ => .bad) else .bad
  | _, _ => .bad
theorem aEqO_inv {neg : Bool} {ρ : Ro} {x y : AV} {h : AH} {vx vy : V} {H : Hp} {Q : VK} (hh : RH ρ h H) (rx : RV ρ x vx) (ry : RV ρ y vy) (qq : (aEqO C n F neg x y h).sat (PQ ρ Q)) :
    ∃ a dx fs b dy gs, vx = .ref a ∧ H a = some (.ins C dx fs) ∧ vy = .ref b ∧ H b = some (.ins C dy gs) ∧ spF n F [.ref a, .ref b] H (fun v H' => ∃ t, v = .bl t ∧ Q (.bl (bif neg then !t else t)) H') E0 := by
  unfold aEqO at qq
  split at qq
  · next fs gs hfs hgs =>
    obtain ⟨i, a, dx, vs, _, rfl, hi, rf, hl⟩ := insOf_ok hh rx hfs
    obtain ⟨j, b, dy, us, _, rfl, hj, rg, hl2⟩ := insOf_ok hh ry hgs
    obtain ⟨hn, qq⟩ := bif_ok qq
    refine ⟨a, dx, vs, b, dy, us, rfl, hl, rfl, hl2, ρ, h, [x, y], Nat.eq_of_beq_eq_true hn, hh, .cons rx (.cons ry .nil), T.sat_imp (fun r q1 ρ1 v H1 x1 r1 rv => ?_) (T.sat_bind qq)⟩
    obtain ⟨z, h1⟩ := r
    cases rv with
    | bl t => exact ⟨t, rfl, q1 ρ1 _ H1 x1 r1 (.bl _)⟩
    | non => exact q1.elim
    | int _ => exact q1.elim
    | str _ => exact q1.elim
    | rep _ => exact q1.elim
    | scr => exact q1.elim
    | r _ => exact q1.elim
    | k _ => exact q1.elim
  · exact qq.elim
theorem oc_eqO : OpC (rEqO C (spF n F)) (aEqO C n F false) := fun ρ x y h vx vy H Q hh rx ry qq => aEqO_inv hh rx ry qq
def rNeO (C : Addr) (sp : Sp) : R2 := fun x y H Q => ∃ a dx fs b dy gs, x = .ref a ∧ H a = some (.ins C dx fs) ∧ y = .ref b ∧ H b = some (.ins C dy gs) ∧ sp [.ref a, .ref b] H (fun v H' => ∃ t, v = .bl t ∧ Q (.bl (!t)) H') E0
theorem oc_neO : OpC (rNeO C (spF n F)) (aEqO C n F true) := fun ρ x y h vx vy H Q hh rx ry qq => aEqO_inv hh rx ry qq
theorem op_neO {sp : Sp} (Fn : FnOk X.prog X.w X.K X.mg X.base CX0 k f fd ps sp) (hr : Room (k + 1) X.A) (hb : Binds X.K fd ps []) (hne : PySem.W.findIn X.K (.ref C) "__ne__" = some (some (.builtin "object.__ne__"))) (hs : PySem.W.findIn X.K (.ref C) "__eq__" = some (some (.ref f))) (hf : PySem.W.isFn X.K (.ref f) = true)
    (hm : PySem.W.mroIn X.K C (.type "object") = some true) : OpR X (compareOp .NotEq) (rNeO C sp) := by
  intro pins s σ H x y v u Q I rx ry h
  obtain ⟨a, dx, fs, b, dy, gs, rfl, ea, rfl, eb, hsp⟩ := h
  obtain rfl : v = Value.ref a := rx
  obtain rfl : u = Value.ref b := ry
  obtain ⟨ox, od, J⟩ := inst_at I ea
  obtain ⟨oy, oe, J2⟩ := inst_at I eb
  refine PySem.W.cmp_ofNotEq (PySem.W.zNe I.kIn J J2 hne hs hf hm (by have := hr.un; omega) (thn (run1 (E' := X.xe) Fn hr hb I (.cons (show RelV (.ref a) (.ref a) from rfl) (.cons (show RelV (.ref b) (.ref b) from rfl) .nil)) hsp) fun v s' hv => ?_))
  obtain ⟨x, H', I', rx, t, ex, q⟩ := hv
  subst ex
  obtain rfl : v = Value.bool t := rx
  exact ⟨t, rfl, .bl (!t), H', I', rfl, q⟩
def notIns (C : Addr) : AV → AV → AH → Bool := fun x _ h => match insOf C h x with
  | some _ => false
  | none => true
/-! ### isinstance -/
inductive TyA where
  | b (n : String) | c (C : Addr)
  deriving DecidableEq
def tyA (G : ST) (h : AH) : AV → Option TyA
  | .non => some (.b "NoneType")
  | .bl _ => some (.b "bool")
  | .int _ => some (.b "int")
  | .str _ => some (.b "str")
  | .rep _ => some (.b "str")
  | .r i => match h.get i with
    | some (.lst _) => some (.b "list")
    | some (.tup _) => some (.b "tuple")
    | some (.dK _) => some (.b "dict")
    | some (.ins C _) => some (.c C)
    | some .feed => some (.b "list")
    | none => none
  | .k (.ref a) => match G a with
    | some _ => some (.b "tuple")
    | none => none
  | .k _ => none
  | .scr => none
def TyA.v : TyA → Value
  | .b n => .type n
  | .c C => .ref C
/-- what isinstance tells of types -/
abbrev KT := TyA → V → Option Bool
structure KTOk (K : PySem.W.Frag) (kt : KT) : Prop where
  kit : ∀ t c r, kt t c = some r → ∃ u, ClsV c u ∧ PySem.W.kitOne K t.v u = some r
  ins : ∀ C c r, kt (.c C) c = some r → Cls K C ∧ PySem.W.findIn K (.ref C) "__class__" = some (some (.builtin "object.__class__")) ∧ PySem.W.mroIn K C (.type "object") = some true
  get : PySem.W.specialIn K (.builtin "object.__class__") "__get__" = some (some (.builtin "getset_descriptor.__get__"))
  tak : PySem.W.takesIn K (.builtin "object.__class__") = some true
def aIsi (G : ST) (kt : KT) : FnF := fun xs h => match xs with
  | [x, .k c] => match tyA G h x with
    | some t => match kt t c with
      | some r => .ok (.bl r, h)
      | none => .bad
    | none => .bad
  | _ => .bad
theorem tyA_ok {K : PySem.W.Frag} {kt : KT} (hk : KTOk K kt) (hG : GOk K G) {ρ : Ro} {h : AH} {H : Hp} {x : AV} {v c : V} {t : TyA} {r : Bool} (hh : RH ρ h H) (rv : RV ρ x v) (e : tyA G h x = some t) (e2 : kt t c = some r) : TyX K H v t.v := by
  cases rv with
  | non => cases e; exact .base .non
  | bl b => cases e; exact .base (.bl b)
  | int i => cases e; exact .base (.int i)
  | str y => cases e; exact .base (.str y)
  | rep d => cases e; exact .base (.str _)
  | scr => cases e
  | r hr =>
    unfold tyA at e
    dsimp only at e
    split at e
    · next hy => cases e; cases hh.get hy hr with | lst _ hl => exact .base (.lst hl)
    · next hy => cases e; cases hh.get hy hr with | tup _ hl => exact .base (.tup hl)
    · next hy => cases e; cases hh.get hy hr with | dK _ hl => exact .base (.dK hl)
    · next hy =>
      cases e
      obtain ⟨k1, k2, k3⟩ := hk.ins _ _ _ e2
      cases hh.get hy hr with | ins _ hl => exact .base (.ins hl k1 k2 hk.get hk.tak k3)
    · next hy => cases e; cases hh.get hy hr with | feed hl => obtain ⟨_, _, hl⟩ := hl; exact .base (.lst hl)
    · cases e
  | k _ =>
    cases v with
    | ref a =>
      unfold tyA at e
      dsimp only at e
      split at e
      · next ys hy =>
        cases e
        obtain ⟨vs, _, s⟩ := hG _ _ hy
        rcases s H with (h | ⟨o, h⟩) | ⟨o, its, n, hk, hc, _⟩
        · exact .base (.tup h)
        · exact .fTuple h
        · exact .kTuple hk hc
      · cases e
    | non => cases e
    | bl _ => cases e
    | int _ => cases e
    | str _ => cases e
    | byt _ => cases e
    | flt _ => cases e
    | ty _ => cases e
theorem cb_isi {K : PySem.W.Frag} {kt : KT} (hk : KTOk K kt) (hG : GOk K G) : CbC (rIsi K) (aIsi G kt) := fun ρ xs h vs H Q hh rv qq => by
  unfold aIsi at qq
  split at qq
  · next x c =>
    cases rv with
    | cons r1 r2 =>
      cases r2 with
      | cons r2 r3 =>
        cases r3
        cases r2
        split at qq
        · next t ht =>
          split at qq
          · next r hr =>
            obtain ⟨u, k1, k2⟩ := hk.kit _ _ _ hr
            exact ⟨_, _, t.v, u, r, rfl, k1, tyA_ok hk hG hh r1 ht hr, k2, qq ρ _ H (.refl ρ) hh (.bl _)⟩
          · exact qq.elim
        · exact qq.elim
  · exact qq.elim
/-! ### methods of lists -/
def dLM (f : List AV → List AV → AH → Nat → T (AV × AH)) (d : DenE) (da : DenA) : DenE := fun s h => (d s h).bind fun p => match p.1 with
  | .r i => (match p.2.get i with
    | some (.lst _) => (da s p.2).bind fun r => match r.2.get i with
      | some (.lst xs) => f xs r.1 r.2 i
      | _ => .bad
    | _ => .bad)
  | _ => .bad
def LmC (R : V → List V → Hp → VK → Prop) (f : List AV → List AV → AH → Nat → T (AV × AH)) : Prop := ∀ ρ xs ys h i a vs us H Q, RH ρ h H → ρ i = some a → H a = some (.lst vs) → RVs ρ xs vs → RVs ρ ys us → (f xs ys h i).sat (PQ ρ Q) → R (.ref a) us H Q
theorem ce_lm {name : Str} {id : String} {R : V → List V → Hp → VK → Prop} {g : List AV → List AV → AH → Nat → T (AV × AH)} (hR : LmC R g) (h1 : CE X o de) (h2 : CA X es da)
    (hp : PE X (.Call (.Attribute o name apos) es [] cpos) (tBM X.K "list" R (wpE X o) (wpA X es))) : CE X (.Call (.Attribute o name apos) es [] cpos) (dLM g de da) := fun ρ s h σ H Q he hh qq => by
  refine ofE hp (h1.then he hh qq fun x h1 ρ1 v H1 x1 r1 rv q1 => ?_)
  split at q1
  · next i e1 =>
    have e1 : x = .r i := e1
    subst e1
    split at q1
    · next zs hz =>
      cases rv with
      | r hi =>
        cases r1.get hz hi with
        | lst rz hl =>
          refine ⟨.inl ⟨rfl, _, .of hl⟩, h2.then (he.up x1) r1 q1 fun ys h2 ρ2 us H2 x2 r2 ru q2 => ?_⟩
          split at q2
          · next xs hx =>
            cases r2.get hx (x2 _ _ hi) with
            | lst rx hl2 => exact hR ρ2 xs ys h2 i _ _ us H2 Q r2 (x2 _ _ hi) hl2 rx ru (T.sat_imp (fun _ k => k.up (x1.trans x2)) q2)
          · exact q2.elim
    · exact q1.elim
  · exact q1.elim
def lmAppend : List AV → List AV → AH → Nat → T (AV × AH) := fun xs ys h i => match ys with
  | [y] => bif big xs.length then .bad else .ok (.non, h.set i (.lst (xs ++ [y])))
  | _ => .bad
theorem lm_append : LmC rAppend lmAppend := fun ρ xs ys h i a vs us H Q hh hi hl rx ry qq => by
  unfold lmAppend at qq
  split at qq
  · cases ry with
    | cons r1 r2 =>
      cases r2
      obtain ⟨hb, qq⟩ := bif_inv qq
      have qq : PQ ρ Q (_, _) := qq
      exact ⟨a, vs, _, rfl, rfl, hl, by rw [← rx.length, sizeLine_eq]; omega, qq ρ _ _ (.refl ρ) (hh.set hi (.lst (paired_append rx (.cons r1 .nil)) upd_same)) .non⟩
  · exact qq.elim
def lmClear : List AV → List AV → AH → Nat → T (AV × AH) := fun xs ys h i => match ys with
  | [] => .ok (.non, h.set i (.lst []))
  | _ => .bad
theorem lm_clear : LmC rClear lmClear := fun ρ xs ys h i a vs us H Q hh hi hl rx ry qq => by
  unfold lmClear at qq
  split at qq
  · cases ry
    exact ⟨a, vs, rfl, rfl, hl, qq ρ _ _ (.refl ρ) (hh.set hi (.lst .nil upd_same)) .non⟩
  · exact qq.elim
end
end Z
end

section
set_option linter.all false
set_option maxRecDepth 100000
set_option maxHeartbeats 2000000
namespace Z
open PySem L2 PyProof.Rows
variable [Scr]
section
variable {X : Cx} {G : ST} {a b c e f' o i value : Expr} {es : List Expr} {pos pos' q p apos cpos : Pos} {k : Nat} {f C : Addr} {fd : FuncData} {ps : List Str} {n : Nat} {F : FnF} {x m : Str} {da : DenA} {de dv db dx : DenE}
/-! ### dicts -/
theorem RF.val {ρ : Ro} {k : Key} : ∀ {kvs : List (Key × AV)} {vs : List (Key × V)}, RF ρ kvs vs → match valA kvs k with
    | some z => ∃ v, valV vs k = some v ∧ RV ρ z v
    | none => valV vs k = none
  | _, _, .nil => rfl
  | (n, y) :: fs, (n', v) :: vs, .cons ⟨hn, hv⟩ t => by
    have hn : n = n' := hn
    subst hn
    unfold valA
    dsimp only
    by_cases h : n = k
    · rw [if_pos h]
      exact ⟨v, valV_pos h, hv⟩
    · rw [if_neg h, valV_neg h]
      exact RF.val t
def dDGet (d : DenE) (dy : DenE) : DenE := fun s h => (d s h).bind fun p => (dy s p.2).bind fun r => match dicts r.2 p.1 with
  | some kvs => match kA r.1 with
    | some k => match valA kvs k with
      | some z => .ok (z, r.2)
      | none => .bad
    | none => .bad
  | none => .bad
theorem ce_dget (hu : X.A.units + 1 < cLine) (hs : NoSl i) (h1 : CE X o de) (h2 : CE X i dv) : CE X (.Subscript o i pos) (dDGet de dv) := fun ρ s h σ H Q he hh qq => by
  refine ofE (pe_dget hu (peW o) (peW i) hs) (h1.then he hh qq fun x h1 ρ1 v H1 x1 r1 rv q1 => ?_)
  refine h2.then (he.up x1) r1 q1 fun y h2 ρ2 u H2 x2 r2 ru q2 => ?_
  split at q2
  · next kvs hk =>
    obtain ⟨j, a, vs, _, rfl, hi, rf, hl⟩ := dicts_ok r2 (rv.up x2) hk
    split at q2
    · next k hky =>
      have := kA_ok ru hky
      subst this
      have fv := rf.val (k := k)
      split at q2
      · next z hz =>
        rw [hz] at fv
        obtain ⟨w, e1, e2⟩ := fv
        exact ⟨a, w, rfl, .inl ⟨vs, k, .of hl, rfl, e1.symm⟩, q2 ρ2 w H2 (x1.trans x2) r2 e2⟩
      · exact q2.elim
    · exact q2.elim
  · exact q2.elim
def dDGet2 (d dy dz : DenE) : DenE := fun s h => (d s h).bind fun p => match dicts p.2 p.1 with
  | some _ => (dy s p.2).bind fun r => (dz s r.2).bind fun t => (match dicts t.2 p.1 with
    | some kvs => match kA r.1 with
      | some k => match valA kvs k with
        | some z => .ok (z, t.2)
        | none => .ok (t.1, t.2)
      | none => .bad
    | none => .bad)
  | none => .bad
theorem ce_dget2 (hu : X.A.units + 1 < cLine) (h1 : CE X o de) (h2 : CE X e dv) (h3 : CE X f' dx) (m : M2 X o "get" apos e f' cpos) : CE X (.Call (.Attribute o "get" apos) [e, f'] [] cpos) (dDGet2 de dv dx) := fun ρ s h σ H Q he hh qq => by
  refine ofE (pe_dget2 hu (peW o) (peW e) (peW f') m) (h1.then he hh qq fun x h1 ρ1 v H1 x1 r1 rv q1 => ?_)
  split at q1
  · next kvs0 hk0 =>
    obtain ⟨j0, a0, vs0, ex, rfl, hi0, rf0, hl0⟩ := dicts_ok r1 rv hk0
    refine ⟨a0, rfl, .inl ⟨vs0, .of hl0⟩, h2.then (he.up x1) r1 q1 fun y h2 ρ2 u H2 x2 r2 ru q2 => ?_⟩
    refine h3.then ((he.up x1).up x2) r2 q2 fun z h3 ρ3 w H3 x3 r3 rw' q3 => ?_
    split at q3
    · next kvs hk =>
      obtain ⟨j, a, vs, _, ea, hi, rf, hl⟩ := dicts_ok r3 ((rv.up x2).up x3) hk
      cases ea
      split at q3
      · next k hky =>
        have := kA_ok ru hky
        subst this
        have fv := rf.val (k := k)
        split at q3
        · next z' hz =>
          rw [hz] at fv
          obtain ⟨w', e1, e2⟩ := fv
          exact ⟨some w', .inl ⟨vs, k, .of hl, rfl, e1.symm⟩, q3 ρ3 w' H3 ((x1.trans x2).trans x3) r3 e2⟩
        · next hz =>
          rw [hz] at fv
          exact ⟨none, .inl ⟨vs, k, .of hl, rfl, fv.symm⟩, q3 ρ3 w H3 ((x1.trans x2).trans x3) r3 rw'⟩
      · exact q3.elim
    · exact q3.elim
  · exact q1.elim
/-- {k: v, ..} -/
abbrev DenP := AE → AH → T (List (Key × AV) × AH)
def dpNil : DenP := fun _ h => .ok ([], h)
def dpCons (dk dv : DenE) (r : DenP) : DenP := fun s h => (dk s h).bind fun p => (dv s p.2).bind fun q => (r s q.2).bind fun t => match kA p.1 with
  | some k => .ok ((k, q.1) :: t.1, t.2)
  | none => .bad
def CP (X : Cx) (pos : Pos) (keys : List (Option Expr)) (values : List Expr) (d : DenP) : Prop := ∃ trs, PPs X pos keys values trs ∧ ∀ ρ s h σ H Q, RE ρ s σ → RH ρ h H → (d s h).sat (fun r => ∀ ρ' H' vs, Xt ρ ρ' → RH ρ' r.2 H' → RF ρ' r.1 vs → Q (vs.map fun kv => (kV kv.1, kv.2)) H') → tPairs trs σ H Q
theorem cp_nil : CP X pos [] [] dpNil := ⟨[], pps_nil, fun ρ s h σ H Q he hh qq => qq ρ H [] (.refl ρ) hh .nil⟩
theorem cp_cons {kk : Expr} {ks : List (Option Expr)} {vs : List Expr} {d : DenP} (h1 : CE X kk de) (h2 : CE X value dv) (h3 : CP X pos ks vs d) : CP X pos (some kk :: ks) (value :: vs) (dpCons de dv d) := by
  obtain ⟨trs, p1, k1⟩ := h3
  refine ⟨(wpE X kk, wpE X value) :: trs, pps_cons (peW kk) (peW value) p1, fun ρ s h σ H Q he hh qq => ?_⟩
  refine h1.then he hh qq fun x h1 ρ1 v H1 x1 r1 rv q1 => ?_
  refine h2.then (he.up x1) r1 q1 fun y h2 ρ2 u H2 x2 r2 ru q2 => ?_
  refine k1 ρ2 s h2 σ H2 _ ((he.up x1).up x2) r2 (T.sat_imp (fun t q3 ρ3 H3 ws x3 r3 rf => ?_) (T.sat_bind q2))
  split at q3
  · next k hk =>
    have e := kA_ok (rv.up (x2.trans x3)) hk
    subst e
    exact q3 ρ3 H3 ((k, u) :: ws) ((x1.trans x2).trans x3) r3 (.cons ⟨rfl, ru.up x3⟩ rf)
  · exact q3.elim
def putKA (kvs : List (Key × AV)) (k : Key) (v : AV) : List (Key × AV) := bif kvs.any (fun kv => decide (kv.1 = k)) then kvs.map (fun kv => if kv.1 = k then (kv.1, v) else kv) else kvs ++ [(k, v)]
theorem RF.putK {ρ : Ro} {k : Key} {z : AV} {v : V} {kvs : List (Key × AV)} {vs : List (Key × V)} (r : RF ρ kvs vs) (rz : RV ρ z v) : RF ρ (putKA kvs k z) (L2.putK vs k v) := by
  have hany : ∀ {kvs : List (Key × AV)} {vs : List (Key × V)}, RF ρ kvs vs → (kvs.any fun kv => decide (kv.1 = k)) = vs.any fun kv => decide (kv.1 = k) := by
    intro kvs vs r
    induction r with
    | nil => rfl
    | cons a b ih => rw [List.any_cons, List.any_cons, ih, a.1]
  have hmap : ∀ {kvs : List (Key × AV)} {vs : List (Key × V)}, RF ρ kvs vs → RF ρ (kvs.map fun kv => if kv.1 = k then (kv.1, z) else kv) (vs.map fun kv => if kv.1 = k then (kv.1, v) else kv) := by
    intro kvs vs r
    induction r with
    | nil => exact .nil
    | @cons x y xs ys a b ih =>
      refine .cons ?_ ih
      dsimp only
      by_cases h : x.1 = k
      · rw [if_pos h, if_pos (a.1 ▸ h)]
        exact ⟨a.1, rz⟩
      · rw [if_neg h, if_neg (a.1 ▸ h)]
        exact a
  unfold putKA L2.putK
  rw [hany r]
  cases hb : vs.any fun kv => decide (kv.1 = k) with
  | true => rw [if_pos rfl]; exact hmap r
  | false => rw [if_neg Bool.false_ne_true]; exact paired_append r (.cons ⟨rfl, rz⟩ .nil)
def mergeKA (kvs more : List (Key × AV)) : List (Key × AV) := more.foldl (fun acc kv => putKA acc kv.1 kv.2) kvs
theorem RF.merge {ρ : Ro} : ∀ {more : List (Key × AV)} {ms : List (Key × V)} {kvs : List (Key × AV)} {vs : List (Key × V)}, RF ρ more ms → RF ρ kvs vs → RF ρ (mergeKA kvs more) (mergeK vs ms)
  | _, _, _, _, .nil, r => r
  | (n, y) :: fs, (n', v) :: vs, _, _, .cons ⟨hn, hv⟩ t, r => by
    have hn : n = n' := hn
    subst hn
    show RF ρ (mergeKA (putKA _ n y) fs) (mergeK (L2.putK _ n v) vs)
    exact RF.merge t (r.putK hv)
def dDisp (d : DenP) : DenE := fun s h => (d s (h.new (.dK []))).bind fun r => match r.2.get h.sz with
  | some (.dK []) => bif Nat.ble r.1.length 15 then .ok (.r h.sz, r.2.set h.sz (.dK (mergeKA [] r.1))) else .bad
  | _ => .bad
theorem ce_disp {keys : List (Option Expr)} {values : List Expr} {d : DenP} (h1 : CP X pos keys values d) (hall : keys.all (·.isSome) = true) (hl : keys.length = values.length) (h0 : keys ≠ []) (h15 : keys.length ≤ 15) : CE X (.Dict keys values pos) (dDisp d) := fun ρ s h σ H Q he hh qq => by
  obtain ⟨trs, p1, k1⟩ := h1
  refine ofE (pe_disp p1 hall hl h0 h15) fun p hp => ?_
  have kp : (ext ρ h.sz p) h.sz = some p := by unfold ext; rw [if_pos rfl]
  refine k1 (ext ρ h.sz p) s _ σ _ _ (he.up (hh.xt p)) (hh.new hp fun ρ' _ => .dK .nil upd_same) (T.sat_imp (fun r q1 ρ1 H1 vs x1 r1 rf => ?_) (T.sat_bind qq))
  split at q1
  · next hg =>
    cases r1.get hg (x1 _ _ kp) with
    | dK rz hl =>
      cases rz
      obtain ⟨hb, q1⟩ := bif_ok q1
      have q1 : PQ ρ Q (_, _) := q1
      refine ⟨hl, vs, rfl, by rw [← rf.length]; exact Nat.le_of_ble_eq_true hb, ?_⟩
      exact q1 ρ1 _ _ ((hh.xt p).trans x1) (r1.set (x1 _ _ kp) (.dK (RF.merge rf .nil) upd_same)) (.r (x1 _ _ kp))
  · exact q1.elim
/-! ### o[i] of an own class -/
def dSubO (C : Addr) (n : Nat) (F : FnF) (d dy : DenE) : DenE := fun s h => (d s h).bind fun p => (dy s p.2).bind fun r => match insOf C r.2 p.1 with
  | some _ => bif Nat.beq 2 n then F [p.1, r.1] r.2 else .bad
  | none => .bad
theorem ce_subO (Fn : FnOk X.prog X.w X.K X.mg X.base CX0 k f fd ps (spF n F)) (hr : Room (k + 1) X.A) (hb : Binds X.K fd ps []) (hs : PySem.W.findIn X.K (.ref C) "__getitem__" = some (some (.ref f))) (hfi : PySem.W.fnIn X.K f = true) (hf : PySem.W.isFn X.K (.ref f) = true)
    (hsl : ∀ (x : Addr) (i : Value), subscripted b true (.ref x) i = runValue (.builtin "lifetime.subscript" ⟨[.ref x, i], []⟩)) (h1 : CE X e de) (h2 : CE X b db) : CE X (.Subscript e b pos) (dSubO C n F de db) := fun ρ s h σ H Q he hh qq => by
  refine ofE (pe_subO (e := e) Fn hr hb hs hfi hf hsl) (h1.then he hh qq fun x h1 ρ1 v H1 x1 r1 rv q1 => ?_)
  refine h2.then (he.up x1) r1 q1 fun y h2 ρ2 u H2 x2 r2 ru q2 => ?_
  split at q2
  · next fs hfs =>
    obtain ⟨j, a, dx, vs, _, rfl, hi, rf, hl⟩ := insOf_ok r2 (rv.up x2) hfs
    exact ⟨a, dx, vs, rfl, hl, spF_of (xs := [x, y]) (x1.trans x2) r2 (.cons (rv.up x2) (.cons ru .nil)) q2⟩
  · exact q2.elim
end
end Z
end

section
set_option linter.all false
set_option maxRecDepth 100000
set_option maxHeartbeats 2000000
namespace Z
open PySem L2 PyProof.Rows ClX
variable [Scr]
section
variable {X : Cx} {G : ST} {a b c e o : Expr} {es : List Expr} {pos apos : Pos} {k : Nat} {f C p g : Addr} {mc : Value} {fd : FuncData} {ps : List Str} {n : Nat} {F : FnF} {x m : Str} {da : DenA} {de : DenE} {ta : TE} {t : TA} {sp : Sp} {pl : Sem Bool} {pins : List (Addr × Obj)} {σ : L2.St} {H : Hp} {s : Shared}
theorem runK {Q : VK} {us : List Value} {vs : List V} (Fn : FnOk X.prog X.w X.K X.mg X.base CX0 k f fd ps sp) (hr : Room k X.A) (hb : Binds X.K fd ps []) (I : Inv X pins σ H s) (r : Vals vs us) (h : sp vs H Q E0) :
    wpAny (model X.prog X.w) X.A (call (.ref f) us) (EP X pins σ Q) X.xe s := run0 (E' := X.xe) Fn hr hb I r h
theorem pe_sm0 (he : PE X o ta) (r : CRead X.K C mc) (at_ : PySem.W.findCls X.K (.ref C) mc m = some (.get (.builtin "staticmethod.__get__") (.ref p) .none (.ref C))) (rc : ∃ rest, PySem.W.recIn X.K p "staticmethod" = some (.ref f :: rest))
    (hk : PySem.W.keepIn X.K (.ref f) = true) (Fn : FnOk X.prog X.w X.K X.mg X.base CX0 k f fd ps sp) (hr : Room k X.A) (hb : Binds X.K fd ps [])
    (ht : eval (.Call (.Attribute o m apos) [] [] pos) X.env = (do
      let ov ← eval o X.env
      standAt apos.atName
      let (f, first) ← holding [ov] (getMethod ov m pl)
      callWith pos f first (backTo pos (starEach [] X.env)) (backToKw pos (keywordEach [] X.env))) := by rfl) :
    PE X (.Call (.Attribute o m apos) [] [] pos) (fun σ H Q => ta σ H fun x H1 => x = .ref C ∧ sp [] H1 Q E0) := by
  refine ⟨fun pins s σ H Q I h => ?_⟩
  refine PySem.W.methodCall_KW (pl := pl) (thn (he.run pins s σ H _ I h) fun u s1 ⟨x, H1, I1, rx, ex, q⟩ => ?_) ht
  subst ex
  obtain rfl : u = Value.ref C := rx
  obtain ⟨rest, hp⟩ := rc
  refine PySem.W.method_cls I1.kIn r.ga (PySem.W.cls_bind I1.kIn r.rd at_ (wpAny_call (PySem.W.sm_get (s := { s1 with toks := s1.toks + 1 }) I1.kIn hp (PySem.W.handed_on rfl ?_))))
  exact PySem.W.callWith_K0 I1.kIn hk (runK (us := []) Fn hr hb (I1.tok _) .nil q)
theorem pe_sm1 (he : PE X o ta) (pg : PySem.W.plainGet X.K C m = true) (ic : PySem.W.isClsIn X.K C = true) (at_ : PySem.W.findIn X.K (.ref C) m = some (some (.ref p))) (ty : PySem.W.typeIn X.K (.ref p) = some (.type "staticmethod"))
    (get : PySem.W.specialIn X.K (.ref p) "__get__" = some (some (.builtin "staticmethod.__get__"))) (tk : PySem.W.takesIn X.K (.ref p) = some false) (cp : PySem.W.copiedNames.contains m = false) (rc : ∃ rest, PySem.W.recIn X.K p "staticmethod" = some (.ref f :: rest))
    (hk : PySem.W.keepIn X.K (.ref f) = true) (Fn : FnOk X.prog X.w X.K X.mg X.base CX0 k f fd ps sp) (hr : Room k X.A) (hb : Binds X.K fd ps [])
    (ht : eval (.Call (.Attribute o m apos) [] [] pos) X.env = (do
      let ov ← eval o X.env
      standAt apos.atName
      let (f, first) ← holding [ov] (getMethod ov m pl)
      callWith pos f first (backTo pos (starEach [] X.env)) (backToKw pos (keywordEach [] X.env))) := by rfl) :
    PE X (.Call (.Attribute o m apos) [] [] pos) (fun σ H Q => ta σ H fun x H1 => ∃ a dx fs, x = .ref a ∧ H1 a = some (.ins C dx fs) ∧ fs.lookup m = none ∧ sp [] H1 Q E0) := by
  refine ⟨fun pins s σ H Q I h => ?_⟩
  refine PySem.W.methodCall_KW (pl := pl) (thn (he.run pins s σ H _ I h) fun u s1 ⟨x, H1, I1, rx, a, dx, fs, ex, ea, l, q⟩ => ?_) ht
  subst ex
  obtain rfl : u = Value.ref a := rx
  obtain ⟨mA, O, rr, _, _, _⟩ := ins_get I1.hok ea
  have hn : mA m = none := RelO.none_of (by rw [← l]; exact rr m)
  obtain ⟨od, J, hl⟩ := O.look
  obtain ⟨rest, hp⟩ := rc
  refine PySem.W.method_usual (r := some (.ref p)) I1.kIn J (PySem.W.plainGet_of pg).1 (PySem.W.plainGet_of pg).2 at_ ?_ ?_
  · show ((PySem.W.typeIn X.K (.ref p)).any fun t => t != .type "function" && t != .type "method_descriptor" && t != .type "wrapper_descriptor") = true
    rw [ty]
    first
    | rfl
    | decide +kernel
  · refine PySem.W.get_bind I1.kIn J (PySem.W.plainGet_of pg).1 (find_cm ic at_ get tk cp (by rw [hl m, hn])) (PySem.W.plainGet_of pg).2 ?_
    refine wpAny_call (PySem.W.sm_get (s := { s1 with toks := s1.toks + 1 }) I1.kIn hp (PySem.W.handed_on rfl ?_))
    exact PySem.W.callWith_K0 I1.kIn hk (runK (us := []) Fn hr hb (I1.tok _) .nil q)
def dSm0 (C : Addr) (F : FnF) (d : DenE) : DenE := fun s h => (d s h).bind fun p => match p.1 with
  | .k (.ref D) => bif Nat.beq C D then F [] p.2 else .bad
  | _ => .bad
theorem ce_sm0 (h1 : CE X o de) (hp : PE X (.Call (.Attribute o m apos) [] [] pos) (fun σ H Q => wpE X o σ H fun x H1 => x = .ref C ∧ spF 0 F [] H1 Q E0)) : CE X (.Call (.Attribute o m apos) [] [] pos) (dSm0 C F de) := fun ρ s h σ H Q he hh qq => by
  refine ofE hp (h1.then he hh qq fun x h1 ρ1 v H1 x1 r1 rv q1 => ?_)
  split at q1
  · next D e1 =>
    have e1 : x = .k (.ref D) := e1
    subst e1
    obtain ⟨hb, q1⟩ := bif_ok q1
    cases rv
    rw [Nat.eq_of_beq_eq_true hb]
    exact ⟨rfl, ρ1, h1, [], rfl, r1, .nil, T.sat_imp (fun _ k => k.up x1) q1⟩
  · exact q1.elim
def dSm1 (C : Addr) (m : Str) (F : FnF) (d : DenE) : DenE := fun s h => (d s h).bind fun p => match insOf C p.2 p.1 with
  | some fs => (match fs.lookup m with
    | none => F [] p.2
    | some _ => .bad)
  | none => .bad
theorem ce_sm1 (h1 : CE X o de) (hp : PE X (.Call (.Attribute o m apos) [] [] pos) (fun σ H Q => wpE X o σ H fun x H1 => ∃ a dx fs, x = .ref a ∧ H1 a = some (.ins C dx fs) ∧ fs.lookup m = none ∧ spF 0 F [] H1 Q E0)) : CE X (.Call (.Attribute o m apos) [] [] pos) (dSm1 C m F de) := fun ρ s h σ H Q he hh qq => by
  refine ofE hp (h1.then he hh qq fun x h1 ρ1 v H1 x1 r1 rv q1 => ?_)
  split at q1
  · next fs hfs =>
    obtain ⟨i, a, dx, vs, _, rfl, hi, rf, hl⟩ := insOf_ok r1 rv hfs
    split at q1
    · next hn => exact ⟨a, dx, vs, rfl, hl, rf.lookup_none hn, ρ1, h1, [], rfl, r1, .nil, T.sat_imp (fun _ k => k.up x1) q1⟩
    · exact q1.elim
  · exact q1.elim
end
end Z
end

section
set_option linter.all false
set_option maxRecDepth 100000
set_option maxHeartbeats 2000000
namespace Z
open PySem L2 PyProof.Rows ClX
variable [Scr]
/-- a def that is called by its name, with its mirror -/
structure CalF (P : Program) (w : World) (K : PySem.W.Frag) (mg : Str → Option Value) (base : Heap) (x : Str) (k n : Nat) (F : FnF) : Prop where
  ex : ∃ f fd ps, mg x = some (.ref f) ∧ PySem.W.keepIn K (.ref f) = true ∧ Binds K fd ps [] ∧ FnOk P w K mg base CX0 k f fd ps (spF n F)
structure CalG (P : Program) (w : World) (K : PySem.W.Frag) (mg : Str → Option Value) (base : Heap) (x : Str) (k n : Nat) (F : FnF) : Prop where
  ex : ∃ f fd ps, mg x = some (.ref f) ∧ PySem.W.keepIn K (.ref f) = true ∧ Binds K fd ps [] ∧ FnG P w K mg base CX0 k f fd ps (spF n F)
theorem CalF.g {P : Program} {w : World} {K : PySem.W.Frag} {mg : Str → Option Value} {base : Heap} {x : Str} {k n : Nat} {F : FnF} (c : CalF P w K mg base x k n F) : CalG P w K mg base x k n F := by
  obtain ⟨f, fd, ps, a, b, c, d⟩ := c.ex
  exact ⟨f, fd, ps, a, b, c, .of d⟩
structure DefK (K : PySem.W.Frag) (x qual : Str) (st : Stmt) (f : Addr) : Prop where
  lk : ∃ (oc : Value) (od : Option Addr) (kV doc pm : Value) (an : Option Addr) (cdv ct : Value) (osl : Array (Option Value)), K.lookup f = some ⟨oc, od, .func (PySem.W.fnOf x qual (defArgs st) (defBody st) (defScope st) .none kV doc pm an cdv ct), osl⟩ ∧ PySem.W.codeIn K cdv qual = true
  kp : PySem.W.keepIn K (.ref f) = true
theorem DefK.fd {K : PySem.W.Frag} {x qual : Str} {st : Stmt} {f : Addr} (d : DefK K x qual st f) : ∃ fd, Fun K x qual st f fd := by
  obtain ⟨⟨oc, od, kV, doc, pm, an, cdv, ct, osl, lk, hcd⟩, kp⟩ := d
  exact ⟨_, ⟨⟨oc, od, kV, doc, pm, an, cdv, ct, osl, rfl, lk, hcd⟩, kp⟩⟩
section
variable {X : Cx} {a b c e o : Expr} {es : List Expr} {pos q apos : Pos} {j k n : Nat} {F : FnF} {x m : Str} {da : DenA} {de : DenE}
theorem ce_cC (c : CalF X.prog X.w X.K X.mg X.base x k n F) (hr : Room j X.A) (hk : k ≤ j) (hg : Gl X x) (h1 : CA X (e :: es) da)
    (hdb : (x == ("__debug__" : Str)) = false := by decide) (he : starEach (e :: es) X.env = (false, eval e X.env) :: starEach es X.env := by rfl) (hpl : (backTo pos (starEach es X.env)).any (·.1) = false := by rfl) : CE X (.Call (.Name x q) (e :: es) [] pos) (dCall n F da) := by
  obtain ⟨f, fd, ps, c1, c2, c3, c4⟩ := c.ex
  exact ce_call c4 (hr.mono hk) hg c1 c2 c3 h1 hdb he hpl
theorem ce_cG (c : CalG X.prog X.w X.K X.mg X.base x k n F) (hgd : X.A.guards = some []) (hr : Room j X.A) (hk : k ≤ j) (hg : Gl X x) (h1 : CA X (e :: es) da)
    (hdb : (x == ("__debug__" : Str)) = false := by decide) (he : starEach (e :: es) X.env = (false, eval e X.env) :: starEach es X.env := by rfl) (hpl : (backTo pos (starEach es X.env)).any (·.1) = false := by rfl) : CE X (.Call (.Name x q) (e :: es) [] pos) (dCall n F da) := by
  obtain ⟨f, fd, ps, c1, c2, c3, c4⟩ := c.ex
  exact ce_callG c4 hgd (hr.mono hk) hg c1 c2 c3 h1 hdb he hpl
theorem ce_cG0 (c : CalG X.prog X.w X.K X.mg X.base x k 0 F) (hgd : X.A.guards = some []) (hr : Room j X.A) (hk : k ≤ j) (hg : Gl X x) (hdb : (x == ("__debug__" : Str)) = false := by decide) : CE X (.Call (.Name x q) [] [] pos) (dCall0 F) := by
  obtain ⟨f, fd, ps, c1, c2, c3, c4⟩ := c.ex
  exact ce_callG0 c4 hgd (hr.mono hk) hg c1 c2 c3 hdb
/-- len without own classes -/
def rLenS (K : PySem.W.Frag) : List V → Hp → VK → Prop := fun xs H Q => ∃ v m, xs = [v] ∧ ((∃ y, v = .str y ∧ y.length ≤ sizeLine ∧ m = y.length) ∨ (∃ a vs, v = .ref a ∧ vs.length = m ∧ ((H a = some (.lst vs)) ∨ SqT K H a vs))) ∧ Q (.int (m : Nat)) H
theorem call_lenS : CallR X (.builtin "len") (rLenS X.K) := by
  intro pins s σ H xs us Q I r h
  obtain ⟨v, m, rfl, hv, q⟩ := h
  refine call_len pins s σ H _ us Q I r ⟨v, m, rfl, ?_, q⟩
  rcases hv with ⟨y, rfl, h1, rfl⟩ | ⟨a, vs, rfl, rfl, h1 | h1⟩
  · exact ⟨h1, rfl⟩
  · exact .inl ⟨_, .of h1, rfl⟩
  · exact .inr ⟨_, h1, rfl⟩
theorem call_lenA {C f : Addr} {fd : FuncData} {ps : List Str} (Fn : FnOk X.prog X.w X.K X.mg X.base CX0 k f fd ps (spF n F)) (hr : Room (k + 1) X.A) (hb : Binds X.K fd ps []) (hs : PySem.W.findIn X.K (.ref C) "__len__" = some (some (.ref f))) (hf : PySem.W.isFn X.K (.ref f) = true) : CallR X (.builtin "len") (rLenA X.K C n F) :=
  callr_or call_lenS (call_lenO Fn hr hb hs hf)
def aLenS (G : ST) : FnF := fun xs h => match xs with
  | [.str y] => bif big y.length then .bad else .ok (.int (y.length : Nat), h)
  | [x] => match seqs G h x with
    | some (_, ys) => .ok (.int (ys.length : Nat), h)
    | none => .bad
  | _ => .bad
theorem cb_lenS {K : PySem.W.Frag} {G : ST} (hG : GOk K G) : CbC (rLenS K) (aLenS G) := fun ρ xs h vs H Q hh rv qq => by
  unfold aLenS at qq
  split at qq
  · next y =>
    cases rv with
    | cons r1 r2 =>
      cases r2
      cases r1
      obtain ⟨hl, qq⟩ := bif_inv qq
      have qq : PQ ρ Q (_, h) := qq
      exact ⟨_, _, rfl, .inl ⟨y, rfl, by rw [sizeLine_eq]; omega, rfl⟩, qq ρ _ H (.refl ρ) hh (.int _)⟩
  · next x _ =>
    cases rv with
    | cons r1 r2 =>
      cases r2
      split at qq
      · next t ys hy =>
        obtain ⟨a, vs, rfl, r, hk⟩ := seqs_ok hG hh r1 hy
        refine ⟨_, _, rfl, .inr ⟨a, vs, rfl, r.length.symm, ?_⟩, qq ρ _ H (.refl ρ) hh (.int _)⟩
        rcases hk with ⟨_, hk⟩ | ⟨_, hk⟩
        · exact .inl hk
        · exact .inr hk
      · exact qq.elim
  · exact qq.elim
/-! ### a written dict -/
abbrev SD := Addr → Option (List (Str × AV))
def DOk (K : PySem.W.Frag) (w : World) (D : SD) : Prop := ∀ a kvs, D a = some kvs → ∀ x z, kvs.lookup x = some z → ∃ v, (∀ ρ, RV ρ z v) ∧ KDct K w a x v
def aIxK (D : SD) : Op2 := fun x y h => match x with
  | .k (.ref a) => match D a with
    | some kvs => match y with
      | .str z => match kvs.lookup z with
        | some r => .ok (r, h)
        | none => .bad
      | _ => .bad
    | none => .bad
  | _ => .bad
theorem oc_ixK {K : PySem.W.Frag} {w : World} {D : SD} (hD : DOk K w D) : OpC (rIxD K w) (aIxK D) := fun ρ x y h vx vy H Q hh rx ry q => by
  unfold aIxK at q
  split at q
  · split at q
    · next kvs hk =>
      split at q
      · split at q
        · next r hr =>
          obtain ⟨v, rv, kd⟩ := hD _ _ hk _ _ hr
          cases rx
          cases ry
          exact ⟨_, _, v, rfl, rfl, kd, q ρ v H (.refl ρ) hh (rv ρ)⟩
        · exact q.elim
      · exact q.elim
    · exact q.elim
  · exact q.elim
theorem ce_ixK {D : SD} (hD : DOk X.K X.w D) (hp : PlainIx b) (h1 : CE X a de) {db : DenE} (h2 : CE X b db) : CE X (.Subscript a b pos) (dOp (aIxK D) de db) :=
  ce_op (t := tOp (rIxD X.K X.w)) (fun _ _ ha hb => pe_ix ix_kdict ha hb hp) (fun _ _ _ _ _ h => h) (oc_ixK hD) h1 h2
end
end Z
end

section
set_option linter.all false
set_option maxRecDepth 100000
set_option maxHeartbeats 2000000
namespace Z
open PySem L2 PyProof.Rows ClX
variable [Scr]
section
variable {X : Cx} {G : ST} {a b c e o : Expr} {es : List Expr} {st : Stmt} {pos q apos : Pos} {da : DenA} {de : DenE}
/-! ### what the mirror doesn't follow -/
theorem ce_bad : CE X e (fun _ _ => .bad) := fun ρ s h σ H Q he hh q => q.elim
theorem cs_bad : CS X st (fun _ _ => .bad) := fun ρ s h σ H Q he hh q => q.elim
/-! ### enumerate, zip -/
def pairI : Nat → List AV → List Item
  | _, [] => []
  | i, x :: xs => .p (.int (i : Nat)) x :: pairI (i + 1) xs
theorem pairI_get : ∀ (xs : List AV) (k i : Nat) (m : Item), (pairI k xs)[i]? = some m → ∃ x, xs[i]? = some x ∧ m = .p (.int ((k + i : Nat) : Int)) x
  | [], _, i, m, e => by simp [pairI] at e
  | x :: xs, k, 0, m, e => by simp [pairI] at e; exact ⟨x, rfl, by rw [← e]; simp⟩
  | x :: xs, k, i + 1, m, e => by
    obtain ⟨y, hy, hm⟩ := pairI_get xs (k + 1) i m (by simpa [pairI] using e)
    exact ⟨y, by simpa using hy, by rw [hm]; congr 2; push_cast; omega⟩
theorem pairI_len : ∀ (xs : List AV) (k : Nat), (pairI k xs).length = xs.length
  | [], _ => rfl
  | x :: xs, k => by simp [pairI, pairI_len xs]
def keepOf (t : Bool) (x : AV) (xs : List AV) : List (Bool × Nat × List AV) := match x with
  | .r i => [(t, i, xs)]
  | _ => []
theorem seq_keep {K : PySem.W.Frag} {ρ1 : Ro} {h1 : AH} {x : AV} {a : Addr} {t : Bool} {xs : List AV} {vs : List V} (hG : GOk K G) (rv : RV ρ1 x (.ref a)) (hx : seqs G h1 x = some (t, xs)) (r : RVs ρ1 xs vs) {ks : List (Bool × Nat × List AV)} :
    ∀ ρ2 h2 H2, Xt ρ1 ρ2 → RH ρ2 h2 H2 → okKeep h2 (keepOf t x xs ++ ks) = true → ((t = true ∧ SqL K H2 a vs) ∨ (t = false ∧ SqT K H2 a vs)) ∧ okKeep h2 ks = true := fun ρ2 h2 H2 x2 r2 k => by
  cases rv with
  | r hr => exact keep_sq (K := K) (ks := ks) hr r x2 r2 k
  | k w =>
    unfold seqs at hx
    dsimp only at hx
    split at hx
    · next ys hy =>
      cases hx
      obtain ⟨vs', rr, s⟩ := hG _ _ hy
      rw [RVs.det r (rr ρ1)]
      exact ⟨.inr ⟨rfl, s H2⟩, k⟩
    · cases hx
  | scr => cases hx
theorem yld_pair {ρ1 : Ro} {items : List Item} {f g : Nat → Option V} (hp : ∀ (i : Nat) m u w, items[i]? = some m → f i = some u → g i = some w → ∃ x y, m = .p x y ∧ RV ρ1 x u ∧ RV ρ1 y w) :
    ∀ i m ρ2 h2 H2 v H2', items[i]? = some m → Xt ρ1 ρ2 → RH ρ2 h2 H2 → YPair f g i H2 v H2' → ∃ ρ3, Xt ρ2 ρ3 ∧ RH ρ3 (itemAt m h2).2 H2' ∧ RV ρ3 (itemAt m h2).1 v := fun i m ρ2 h2 H2 v H2' e x2 r2 y => by
  obtain ⟨p, u, w, rfl, hp', rfl, hu, hw⟩ := y
  obtain ⟨x, y, rfl, rx, ry⟩ := hp i m u w e hu hw
  exact ⟨ext ρ2 h2.sz p, r2.xt p, r2.new hp' fun ρ' x' => .tup (.cons (rx.up (x2.trans x')) (.cons (ry.up (x2.trans x')) .nil)) upd_same, .r (by unfold ext; rw [if_pos rfl])⟩
def dEnum (G : ST) (d : DenA) : AE → AH → T (Walked × AH) := fun s h => (d s h).bind fun p => match p.1 with
  | [x] => (match seqs G p.2 x with
    | some (true, xs) => .ok (⟨pairI 0 xs, keepOf true x xs ++ []⟩, p.2)
    | _ => .bad)
  | _ => .bad
theorem ci_enum {elts : List Expr} {kk : Nat} {tpos : Pos} {d : DenA} (hG : GOk X.K G) (hg : Gl X "enumerate") (hm : X.mg "enumerate" = none) (h1 : CA X [e] d) (hs : starEach [e] X.env = [(false, eval e X.env)] := by rfl) : CI X (.Tuple elts kk tpos) (.Call (.Name "enumerate" q) [e] [] pos) (dEnum G d) := by
  refine ⟨iEnum X.K (wpA X [e]), pi_enum hg hm (paW [e]) hs, fun ρ s h σ H R he hh q => ?_⟩
  refine h1.then he hh q fun zs h1 ρ1 us H1 x1 r1 rv q1 => ?_
  split at q1
  · next x e1 =>
    have e1 : zs = [x] := e1
    subst e1
    cases rv with
    | cons ra rr =>
      cases rr
      split at q1
      · next xs hx =>
        obtain ⟨a, vs, rfl, r, hk⟩ := seqs_ok hG r1 ra hx
        rcases hk with ⟨_, hk⟩ | ⟨z, _⟩
        · refine ⟨a, vs, rfl, .of hk, q1 ρ1 H1 x1 r1 _ _ _ _ (walk_enum (xs := vs)) (by show vs.length = (pairI 0 xs).length; rw [pairI_len, r.length]) (fun ρ2 h2 H2 x2 r2 k => ?_) (yld_pair fun i m u w e hu hw => ?_)⟩
          · rcases (seq_keep hG ra hx r ρ2 h2 H2 x2 r2 k).1 with ⟨_, z⟩ | ⟨z, _⟩
            · exact z
            · cases z
          · obtain ⟨y, hy, hm⟩ := pairI_get xs 0 i m e
            obtain ⟨w', hw', rw'⟩ := paired_get r hy
            cases hu
            rw [hw'] at hw
            cases hw
            refine ⟨_, _, hm, ?_, rw'⟩
            rw [Nat.zero_add]
            exact .int _
        · cases z
      · exact q1.elim
  · exact q1.elim
def zipA : List AV → List AV → List Item
  | x :: xs, y :: ys => .p x y :: zipA xs ys
  | _, _ => []
theorem zipA_get : ∀ (xs ys : List AV) (i : Nat) (m : Item), (zipA xs ys)[i]? = some m → ∃ x y, xs[i]? = some x ∧ ys[i]? = some y ∧ m = .p x y
  | [], ys, i, m, e => by simp [zipA] at e
  | x :: xs, [], i, m, e => by simp [zipA] at e
  | x :: xs, y :: ys, 0, m, e => by simp [zipA] at e; exact ⟨x, y, rfl, rfl, e.symm⟩
  | x :: xs, y :: ys, i + 1, m, e => by
    obtain ⟨a, b, h1, h2, h3⟩ := zipA_get xs ys i m (by simpa [zipA] using e)
    exact ⟨a, b, by simpa using h1, by simpa using h2, h3⟩
theorem zipA_len : ∀ (xs ys : List AV), (zipA xs ys).length = min xs.length ys.length
  | [], ys => by simp [zipA]
  | x :: xs, [] => by simp [zipA]
  | x :: xs, y :: ys => by simp [zipA, zipA_len xs ys]
theorem walk_zipTL {K : PySem.W.Frag} {a b : Addr} {xs ys : List V} {n : Nat} (hn : n = min xs.length ys.length) : Walk (ItzTL K a b) n (fun H => SqT K H a xs ∧ SqL K H b ys) (YPair (fun i => xs[i]?) (fun i => ys[i]?)) := by
  subst hn
  refine ⟨fun i _ hi q => ?_, fun _ q => ⟨xs, ys, q.1, q.2, by omega⟩, fun i H v H' _ q y => ?_⟩
  · have h1 : i < xs.length := by omega
    have h2 : i < ys.length := by omega
    exact ⟨xs, ys, xs[i], ys[i], q.1, q.2, by simp [h1], by simp [h2]⟩
  · obtain ⟨T, x, z, h1, h2, h3, h4, h5⟩ := y
    exact ⟨T, x, z, h1, h2, h3, h4 xs q.1, h5 ys q.2⟩
def dZipTL (G : ST) (d : DenA) : AE → AH → T (Walked × AH) := fun s h => (d s h).bind fun p => match p.1 with
  | [x, y] => (match seqs G p.2 x, seqs G p.2 y with
    | some (false, xs), some (true, ys) => .ok (⟨zipA xs ys, keepOf false x xs ++ (keepOf true y ys ++ [])⟩, p.2)
    | _, _ => .bad)
  | _ => .bad
theorem ci_zipTL {elts : List Expr} {kk : Nat} {tpos : Pos} {d : DenA} (hG : GOk X.K G) (hg : Gl X "zip") (hm : X.mg "zip" = none) (h1 : CA X [a, b] d) (hp : PI X (.Tuple elts kk tpos) (.Call (.Name "zip" q) [a, b] [] pos) (iZipTL X.K (wpA X [a, b]))) : CI X (.Tuple elts kk tpos) (.Call (.Name "zip" q) [a, b] [] pos) (dZipTL G d) := by
  refine ⟨iZipTL X.K (wpA X [a, b]), hp, fun ρ s h σ H R he hh q => ?_⟩
  refine h1.then he hh q fun zs h1 ρ1 us H1 x1 r1 rv q1 => ?_
  split at q1
  · next x y e1 =>
    have e1 : zs = [x, y] := e1
    subst e1
    cases rv with
    | cons ra rr =>
      cases rr with
      | cons rb rr =>
        cases rr
        split at q1
        · next xs ys hx hy =>
          obtain ⟨a, vs, rfl, r, hk⟩ := seqs_ok hG r1 ra hx
          obtain ⟨b, ws, rfl, r', hk'⟩ := seqs_ok hG r1 rb hy
          rcases hk with ⟨z, _⟩ | ⟨_, hk⟩
          · cases z
          · rcases hk' with ⟨_, hk'⟩ | ⟨z, _⟩
            · refine ⟨a, b, vs, ws, rfl, hk, .of hk', q1 ρ1 H1 x1 r1 _ _ _ _ (walk_zipTL (xs := vs) (ys := ws) rfl) (by show min vs.length ws.length = (zipA xs ys).length; rw [zipA_len, r.length, r'.length]) (fun ρ2 h2 H2 x2 r2 k => ?_) (yld_pair fun i m u w e hu hw => ?_)⟩
              · obtain ⟨k1, k2⟩ := seq_keep hG ra hx r ρ2 h2 H2 x2 r2 k
                obtain ⟨k3, _⟩ := seq_keep hG rb hy r' ρ2 h2 H2 x2 r2 k2
                rcases k1 with ⟨z, _⟩ | ⟨_, k1⟩
                · cases z
                · rcases k3 with ⟨_, k3⟩ | ⟨z, _⟩
                  · exact ⟨k1, k3⟩
                  · cases z
              · obtain ⟨x', y', e2, e3, rfl⟩ := zipA_get xs ys i m e
                obtain ⟨u', hu', ru'⟩ := paired_get r e2
                obtain ⟨w', hw', rw'⟩ := paired_get r' e3
                rw [hu'] at hu
                rw [hw'] at hw
                cases hu
                cases hw
                exact ⟨_, _, rfl, ru', rw'⟩
            · cases z
        · exact q1.elim
  · exact q1.elim
end
/-! ### a method of a class, with its mirror -/
structure MetF (P : Program) (w : World) (K : PySem.W.Frag) (mg : Str → Option Value) (base : Heap) (C : Addr) (x : Str) (k n : Nat) (F : FnF) : Prop where
  ex : ∃ f fd ps, PySem.W.findIn K (.ref C) x = some (some (.ref f)) ∧ PySem.W.isFn K (.ref f) = true ∧ PySem.W.fnIn K f = true ∧ PySem.W.keepIn K (.ref f) = true ∧ Binds K fd ps [] ∧ FnOk P w K mg base CX0 k f fd ps (spF n F)
structure PropF (P : Program) (w : World) (K : PySem.W.Frag) (mg : Str → Option Value) (base : Heap) (C : Addr) (x : Str) (k n : Nat) (F : FnF) : Prop where
  ex : ∃ p f fd ps, PropOf K C x p f ∧ Binds K fd ps [] ∧ FnOk P w K mg base CX0 k f fd ps (spF n F)
structure SmF (P : Program) (w : World) (K : PySem.W.Frag) (mg : Str → Option Value) (base : Heap) (C : Addr) (x : Str) (k : Nat) (F : FnF) : Prop where
  ex : ∃ p f fd ps mc, CRead K C mc ∧ PySem.W.findCls K (.ref C) mc x = some (.get (.builtin "staticmethod.__get__") (.ref p) .none (.ref C)) ∧ (∃ rest, PySem.W.recIn K p "staticmethod" = some (.ref f :: rest)) ∧ PySem.W.plainGet K C x = true ∧ PySem.W.isClsIn K C = true ∧
    PySem.W.findIn K (.ref C) x = some (some (.ref p)) ∧ PySem.W.typeIn K (.ref p) = some (.type "staticmethod") ∧ PySem.W.specialIn K (.ref p) "__get__" = some (some (.builtin "staticmethod.__get__")) ∧ PySem.W.takesIn K (.ref p) = some false ∧ PySem.W.copiedNames.contains x = false ∧
    PySem.W.keepIn K (.ref f) = true ∧ Binds K fd ps [] ∧ FnOk P w K mg base CX0 k f fd ps (spF 0 F)
def blkB (N : List Str) (sc scope : Scope) (own : List (Str × Nat)) : Bool :=
  decide (scope.kind = .function) && (scope.names.all (fun y => decide (scope.names.lookup y.1 = some y.2)) && (own.all (fun p => decide (N[p.2]? = some p.1)) &&
  (scope.names.all (fun y => !decide (y.2 = .free) || (decide (sc.names.lookup y.1 = some .cell) || decide (sc.names.lookup y.1 = some .free))) &&
  scope.names.all (fun y => !(decide (y.2 = .local) || decide (y.2 = .cell)) || (decide (y.1 ∈ own.map (·.1)) || decide (y.1 ∉ N))))))
theorem blkOk {N : List Str} {sc scope : Scope} {own : List (Str × Nat)} (h : blkB N sc scope own = true) : BlkOk N sc scope own := by
  unfold blkB at h
  simp only [Bool.and_eq_true, decide_eq_true_eq] at h
  obtain ⟨h1, h2, h3, h4, h5⟩ := h
  refine ⟨h1, fun y hy => by simpa using List.all_eq_true.mp h2 y hy, fun p hp => by simpa using List.all_eq_true.mp h3 p hp, fun y hy hf => ?_, fun y hy hl => ?_⟩
  · have := List.all_eq_true.mp h4 y hy
    simp only [Bool.or_eq_true, Bool.not_eq_true', decide_eq_false_iff_not, decide_eq_true_eq] at this
    rcases this with z | z
    · exact (z hf).elim
    · exact z
  · have := List.all_eq_true.mp h5 y hy
    simp only [Bool.or_eq_true, Bool.not_eq_true', Bool.or_eq_false_iff, decide_eq_false_iff_not, decide_eq_true_eq] at this
    rcases this with z | z
    · rcases hl with k | k
      · exact (z.1 k).elim
      · exact (z.2 k).elim
    · exact z
end Z
end

section
set_option linter.all false
set_option maxRecDepth 100000
set_option maxHeartbeats 2000000
namespace Z
open PySem L2 PyProof.Rows ClX
variable [Scr]
/-! ### a comprehension with two fors -/
def loopC1 (keep : List (Bool × Nat × List AV)) (dg : DenG) (tt : DenB) (te : DenE) (sw : AE) (k : Nat) : List Item → AH → T (Unit × AH)
  | [], h => bif okKeep h keep then .ok ((), h) else .bad
  | it :: its, h => bif okKeep h keep then (dg (itemAt it h).1 sw (itemAt it h).2).bind fun s2 => (tt s2 (itemAt it h).2).bind fun b => bif b.1 then (te s2 b.2).bind fun y => (match y.2.get k with
      | some (.lst acc) => bif big acc.length then .bad else loopC1 keep dg tt te sw k its (y.2.set k (.lst (acc ++ [y.1])))
      | _ => .bad) else loopC1 keep dg tt te sw k its b.2 else .bad
def loopC2 (keep : List (Bool × Nat × List AV)) (dg : DenG) (tt : DenB) (di1 : AE → AH → T (Walked × AH)) (dg1 : DenG) (vs1 : List Nat) (tt1 : DenB) (te : DenE) (sw : AE) (k : Nat) : List Item → AH → T (AV × AH)
  | [], h => bif okKeep h keep then .ok (.r k, h) else .bad
  | it :: its, h => bif okKeep h keep then (dg (itemAt it h).1 sw (itemAt it h).2).bind fun s2 => (tt s2 (itemAt it h).2).bind fun b => bif b.1 then (di1 s2 b.2).bind fun p => (loopC1 p.1.keep dg1 tt1 te (wipeA s2 vs1) k p.1.items p.2).bind fun r => loopC2 keep dg tt di1 dg1 vs1 tt1 te sw k its r.2
      else loopC2 keep dg tt di1 dg1 vs1 tt1 te sw k its b.2 else .bad
theorem loopC1_keep {keep : List (Bool × Nat × List AV)} {dg : DenG} {tt : DenB} {te : DenE} {sw : AE} {k : Nat} {its : List Item} {h : AH} {P : Unit × AH → Prop} (q : (loopC1 keep dg tt te sw k its h).sat P) : okKeep h keep = true := by
  cases its with
  | nil => unfold loopC1 at q; exact (bif_ok q).1
  | cons m ms => unfold loopC1 at q; exact (bif_ok q).1
theorem loopC2_keep {keep : List (Bool × Nat × List AV)} {dg : DenG} {tt : DenB} {di1 : AE → AH → T (Walked × AH)} {dg1 : DenG} {vs1 : List Nat} {tt1 : DenB} {te : DenE} {sw : AE} {k : Nat} {its : List Item} {h : AH} {P : AV × AH → Prop} (q : (loopC2 keep dg tt di1 dg1 vs1 tt1 te sw k its h).sat P) : okKeep h keep = true := by
  cases its with
  | nil => unfold loopC2 at q; exact (bif_ok q).1
  | cons m ms => unfold loopC2 at q; exact (bif_ok q).1
theorem wipe_wipe : ∀ (ws us : List Nat) (σ : L2.St), (∀ i, i ∈ ws → i ∈ us) → L2.wipe (L2.wipe σ ws) us = L2.wipe σ us
  | [], us, σ, _ => rfl
  | k :: ws, us, σ, hs => by
    show L2.wipe ((L2.wipe σ ws).set k none) us = _
    rw [wipe_set (hs k List.mem_cons_self)]
    exact wipe_wipe ws us σ fun i hi => hs i (List.mem_cons_of_mem _ hi)
section
variable {X : Cx} {G : ST} {elt : Expr} {pos : Pos} {ifs ifs1 : List Expr} {scope : Scope}
def dLc2 (di : AE → AH → T (Walked × AH)) (dg : DenG) (vs : List Nat) (tt : DenB) (di1 : AE → AH → T (Walked × AH)) (dg1 : DenG) (vs1 : List Nat) (tt1 : DenB) (te : DenE) : DenE := fun s h => (di s h).bind fun p => loopC2 p.1.keep dg tt di1 dg1 vs1 tt1 te (wipeA s vs) p.2.sz p.1.items (p.2.new (.lst []))
/-- what a walked thing promises -/
def CIk (wi : TI) (di : AE → AH → T (Walked × AH)) : Prop := ∀ ρ s h σ H R, RE ρ s σ → RH ρ h H → (di s h).sat (fun r => ∀ ρ1 H1, Xt ρ ρ1 → RH ρ1 r.2 H1 → ∀ (J : It) (n : Nat) (Gd : Hp → Prop) (Y : Nat → Hp → V → Hp → Prop), Walk J n Gd Y →
    n = r.1.items.length → (∀ ρ2 h2 H2, Xt ρ1 ρ2 → RH ρ2 h2 H2 → okKeep h2 r.1.keep = true → Gd H2) →
    (∀ i m ρ2 h2 H2 v H2', r.1.items[i]? = some m → Xt ρ1 ρ2 → RH ρ2 h2 H2 → Y i H2 v H2' → ∃ ρ3, Xt ρ2 ρ3 ∧ RH ρ3 (itemAt m h2).2 H2' ∧ RV ρ3 (itemAt m h2).1 v) → R J H1) → wi σ H R
/-- within the block, whatever its frame -/
def wiB (X : Cx) (scope : Scope) (tg it : Expr) : TI := fun σ H R => ∀ (s : Shared) (H0 : Hp) (C : Addr) (cl : List (Str × Addr)) (fp : List Addr), ∃ wi : TI, PI (X.blk s H0 scope (compEnvC scope cl C X.env) fp) tg it wi ∧ wi σ H R
theorem pi_wiB {tg it : Expr} : Blk X scope fun Y => PI Y tg it (wiB X scope tg it) := fun s H0 C cl fp => ⟨fun pins s' σ H R I h => let ⟨wi, p, k⟩ := h s H0 C cl fp; p.run pins s' σ H R I k⟩
theorem turns {J : It} {n : Nat} {Gd : Hp → Prop} {Y : Nat → Hp → V → Hp → Prop} {g : TG} {tt : TT} {te : TE} {vs : List Nat} {σ : L2.St} {H0 : Hp} {D : Addr} {Qd : Hp → Prop} (w : Walk J n Gd Y) (Pv : Nat → Hp → Prop) (h0 : Pv 0 H0) (hG : ∀ i H, i ≤ n → Pv i H → Gd H)
    (hs : ∀ i x H H', i < n → Pv i H → Y i H x H' → g x (L2.wipe σ vs) H' fun σ2 H2 => L2.wipe σ2 vs = L2.wipe σ vs ∧ tt σ2 H2 fun b H3 => if b = true then te σ2 H3 fun y H4 => ∃ acc, H4 D = some (.lst acc) ∧ acc.length < sizeLine ∧ Pv (i + 1) (upd H4 D (.lst (acc ++ [y]))) else Pv (i + 1) H3) (hd : ∀ H, Pv n H → Qd H) :
    ∃ W : Nat → Nat → Hp → Prop, (∃ m, W 0 m H0) ∧ ∀ i m H, W i m H → (J.stop i H ∧ Qd H) ∨ (J.go i H ∧ ∃ Nx : Hp → Prop, (∀ H', Nx H' → ∃ m', m' < m ∧ W (i + 1) m' H') ∧ ∀ x H', J.yld i H x H' → g x (L2.wipe σ vs) H' fun σ2 H2 => L2.wipe σ2 vs = L2.wipe σ vs ∧ tt σ2 H2 fun b H3 =>
        if b = true then te σ2 H3 fun y H4 => ∃ acc, H4 D = some (.lst acc) ∧ acc.length < sizeLine ∧ Nx (upd H4 D (.lst (acc ++ [y]))) else Nx H3) := by
  refine ⟨fun i m H => m = n - i ∧ i ≤ n ∧ Pv i H, ⟨n, rfl, Nat.zero_le _, h0⟩, ?_⟩
  rintro i m H ⟨rfl, hi, p⟩
  have q := hG i H hi p
  by_cases hlt : i < n
  · exact .inr ⟨w.goes i H hlt q, Pv (i + 1), fun H' p' => ⟨n - (i + 1), by omega, rfl, hlt, p'⟩, fun x H' y => hs i x H H' hlt p (w.yields i H x H' hlt q y)⟩
  · have e : i = n := by omega
    subst e
    exact .inl ⟨w.stops H q, hd H p⟩
theorem lc2_ok {wi : TI} {tg1 it1 : Expr} {t t1 : TG} {is is1 : List Nat} {di di1 : AE → AH → T (Walked × AH)} {dg dg1 : DenG} {dt dt1 : DenB} {de : DenE} {vs vs1 : List Nat} {ρ : Ro} {s : AE} {h : AH} {σ : L2.St} {H : Hp} {Q : VK} (his : ∀ i, i ∈ is → i ∈ vs) (his1 : ∀ i, i ∈ is1 → i ∈ vs1)
    (k1 : CIk wi di) (k2 : GK t is dg) (k2' : GK t1 is1 dg1) (k3 : Blk X scope fun Y => CTs Y ifs dt) (k5 : Blk X scope fun Y => CI Y tg1 it1 di1) (k3' : Blk X scope fun Y => CTs Y ifs1 dt1) (k4 : Blk X scope fun Y => CE Y elt de)
    (he : RE ρ s σ) (hh : RH ρ h H) (q : (dLc2 di dg vs dt di1 dg1 vs1 dt1 de s h).sat (PQ ρ Q)) : tLc2 wi t (wpTsB X scope ifs) (wiB X scope tg1 it1) t1 (wpTsB X scope ifs1) (wpEB X scope elt) vs vs1 σ H Q := by
  refine k1 ρ s h σ H _ he hh (T.sat_imp (fun r q1 ρ1 H1 x1 r1 J n Gd Y W hn hGd hY => ?_) (T.sat_bind q))
  subst hn
  intro D hD
  have xD : Xt ρ1 (ext ρ1 r.2.sz D) := r1.xt D
  have rD : RH (ext ρ1 r.2.sz D) (r.2.new (.lst [])) (upd H1 D (.lst [])) := r1.new hD fun ρ' _ => .lst .nil upd_same
  have kD : (ext ρ1 r.2.sz D) r.2.sz = some D := by unfold ext; rw [if_pos rfl]
  let Pv : Nat → Hp → Prop := fun i H' => ∃ ρ' h', Xt (ext ρ1 r.2.sz D) ρ' ∧ RH ρ' h' H' ∧ (loopC2 r.1.keep dg dt di1 dg1 vs1 dt1 de (wipeA s vs) r.2.sz (r.1.items.drop i) h').sat (PQ ρ Q)
  refine ⟨fun i m H => m = r.1.items.length - i ∧ i ≤ r.1.items.length ∧ Pv i H, ⟨_, rfl, Nat.zero_le _, _, _, .refl _, rD, q1⟩, ?_⟩
  rintro i m H' ⟨rfl, hi, p⟩
  have gd : Gd H' := by
    obtain ⟨ρ', h', x', r', q'⟩ := p
    exact hGd ρ' h' H' (xD.trans x') r' (loopC2_keep q')
  by_cases hlt : i < r.1.items.length
  · refine .inr ⟨W.goes i H' hlt gd, Pv (i + 1), fun H2 p' => ⟨_, by omega, rfl, hlt, p'⟩, fun v H2' y => ?_⟩
    have y := W.yields i H' v H2' hlt gd y
    obtain ⟨ρ', h', x', r', q'⟩ := p
    have hd : r.1.items.drop i = r.1.items[i] :: r.1.items.drop (i + 1) := List.drop_eq_getElem_cons hlt
    rw [hd] at q'
    unfold loopC2 at q'
    obtain ⟨_, q'⟩ := bif_ok q'
    obtain ⟨ρ3, x3, r3, rv3⟩ := hY i _ ρ' h' H' v H2' (List.getElem?_eq_getElem hlt) (xD.trans x') r' y
    have heW : RE ρ3 (wipeA s vs) (L2.wipe σ vs) := ((((he.up x1).up xD).up x').up x3).wipe vs
    have x03 : Xt (ext ρ1 r.2.sz D) ρ3 := x'.trans x3
    refine k2 ρ3 _ v _ _ _ H2' _ heW r3 rv3 (T.sat_imp (fun s1 q2 σ1 he1 o1 => ⟨?_, ?_⟩) (T.sat_bind q'))
    · rw [o1 vs his]
      exact wipe_wipe vs vs σ fun _ z => z
    · intro s' H0 C cl fp
      refine k3 s' H0 C cl fp ρ3 s1 _ σ1 H2' _ he1 r3 (T.sat_imp (fun b q3 ρ4 H4 x4 r4 => ?_) (T.sat_bind q2))
      obtain ⟨b, h4⟩ := b
      cases b with
      | false => exact ⟨ρ4, h4, x03.trans x4, r4, q3⟩
      | true =>
        rw [if_pos rfl]
        intro s' H0 C cl fp
        obtain ⟨wi1, p1, k6⟩ := k5 s' H0 C cl fp
        refine ⟨wi1, p1, k6 ρ4 s1 h4 σ1 H4 _ (he1.up x4) r4 (T.sat_imp (fun u q4 ρ5 H5 x5 r5 J1 n1 Gd1 Y1 W1 hn1 hGd1 hY1 => ?_) (T.sat_bind q3))⟩
        subst hn1
        have q4 := T.sat_bind q4
        have x05 : Xt (ext ρ1 r.2.sz D) ρ5 := (x03.trans x4).trans x5
        refine turns (D := D) W1 (fun j H6 => ∃ ρ6 h6, Xt ρ5 ρ6 ∧ RH ρ6 h6 H6 ∧ (loopC1 u.1.keep dg1 dt1 de (wipeA s1 vs1) r.2.sz (u.1.items.drop j) h6).sat (fun a => (loopC2 r.1.keep dg dt di1 dg1 vs1 dt1 de (wipeA s vs) r.2.sz (r.1.items.drop (i + 1)) a.2).sat (PQ ρ Q))) ⟨ρ5, u.2, .refl _, r5, q4⟩ ?_ ?_ ?_
        · rintro j H6 hj ⟨ρ6, h6, x6, r6, q6⟩
          exact hGd1 ρ6 h6 H6 x6 r6 (loopC1_keep q6)
        · rintro j v6 H6 H7 hj ⟨ρ6, h6, x6, r6, q6⟩ y6
          have hd1 : u.1.items.drop j = u.1.items[j] :: u.1.items.drop (j + 1) := List.drop_eq_getElem_cons hj
          rw [hd1] at q6
          unfold loopC1 at q6
          obtain ⟨_, q6⟩ := bif_ok q6
          obtain ⟨ρ7, x7, r7, rv7⟩ := hY1 j _ ρ6 h6 H6 v6 H7 (List.getElem?_eq_getElem hj) x6 r6 y6
          have heW1 : RE ρ7 (wipeA s1 vs1) (L2.wipe σ1 vs1) := ((((he1.up x4).up x5).up x6).up x7).wipe vs1
          refine k2' ρ7 _ v6 _ _ _ H7 _ heW1 r7 rv7 (T.sat_imp (fun s7 q7 σ7 he7 o7 => ⟨?_, ?_⟩) (T.sat_bind q6))
          · rw [o7 vs1 his1]
            exact wipe_wipe vs1 vs1 σ1 fun _ z => z
          · intro s' H0 C cl fp
            refine k3' s' H0 C cl fp ρ7 s7 _ σ7 H7 _ he7 r7 (T.sat_imp (fun b q8 ρ8 H8 x8 r8 => ?_) (T.sat_bind q7))
            obtain ⟨b, h8⟩ := b
            cases b with
            | false => exact ⟨ρ8, h8, (x6.trans x7).trans x8, r8, q8⟩
            | true =>
              rw [if_pos rfl]
              intro s' H0 C cl fp
              refine k4 s' H0 C cl fp ρ8 s7 h8 σ7 H8 _ (he7.up x8) r8 (T.sat_imp (fun y q9 ρ9 v9 H9 x9 r9 rv9 => ?_) (T.sat_bind q8))
              have hk : ρ9 r.2.sz = some D := x9 _ _ (x8 _ _ (x7 _ _ (x6 _ _ (x05 _ _ kD))))
              split at q9
              · next acc hacc =>
                obtain ⟨hb, q9⟩ := bif_inv q9
                cases r9.get hacc hk with
                | lst ra hl => exact ⟨_, hl, by rw [← ra.length, sizeLine_eq]; omega, ρ9, _, ((x6.trans x7).trans x8).trans x9, r9.set hk (.lst (paired_append ra (.cons rv9 .nil)) upd_same), q9⟩
              · exact q9.elim
        · rintro H6 ⟨ρ6, h6, x6, r6, q6⟩
          rw [List.drop_eq_nil_of_le (Nat.le_refl _)] at q6
          unfold loopC1 at q6
          obtain ⟨_, q6⟩ := bif_ok q6
          exact ⟨ρ6, h6, x05.trans x6, r6, q6⟩
  · have e : i = r.1.items.length := by omega
    subst e
    refine .inl ⟨W.stops H' gd, ?_⟩
    obtain ⟨ρ', h', x', r', q'⟩ := p
    rw [List.drop_eq_nil_of_le (Nat.le_refl _)] at q'
    unfold loopC2 at q'
    obtain ⟨_, q'⟩ := bif_ok q'
    have q' : PQ ρ Q (.r r.2.sz, h') := q'
    exact q' ρ' _ H' ((x1.trans xD).trans x') r' (.r (x' _ _ kD))
theorem ce_lc2 {tg it tg1 it1 : Expr} {t t1 : TG} {is is1 : List Nat} {di di1 : AE → AH → T (Walked × AH)} {dg dg1 : DenG} {dt dt1 : DenB} {de : DenE} {own : List (Str × Nat)} {vs1 : List Nat} (hc : X.calm = true) (hN : X.N.Nodup) (h1 : CI X tg it di) (ok : BlkOk X.N X.env.scope scope own) (hv : ∀ i, i ∈ vs1 → i ∈ own.map (·.2))
    (h2 : Blk X scope fun Y => PG Y tg t) (hk : GK t is dg) (his : ∀ i, i ∈ is → i ∈ own.map (·.2)) (h3 : Blk X scope fun Y => CTs Y ifs dt) (h5 : Blk X scope fun Y => CI Y tg1 it1 di1) (h6 : Blk X scope fun Y => PG Y tg1 t1) (hk1 : GK t1 is1 dg1) (his1 : ∀ i, i ∈ is1 → i ∈ vs1) (h7 : Blk X scope fun Y => CTs Y ifs1 dt1) (h4 : Blk X scope fun Y => CE Y elt de)
    (hs : ∀ x, foldedSetIterable it X.env x = pure x := by intro _; rfl) (hs1 : ∀ env x, foldedSetIterable it1 env x = pure x := by intro _ _; rfl) : CE X (.ListComp elt [⟨tg, it, ifs, 0⟩, ⟨tg1, it1, ifs1, 0⟩] scope pos) (dLc2 di dg (own.map (·.2)) dt di1 dg1 vs1 dt1 de) := fun ρ s h σ H Q he hh q => by
  obtain ⟨wi, p1, k1⟩ := h1
  refine ofE (pe_lc2 (tt := wpTsB X scope ifs) (tt1 := wpTsB X scope ifs1) (te := wpEB X scope elt) (wi1 := wiB X scope tg1 it1) hc hN p1 ok hv h2 (fun s H C cl fp => ⟨fun pins s' σ H' Q I h => h s H C cl fp pins s' I⟩) pi_wiB h6 (fun s H C cl fp => ⟨fun pins s' σ H' Q I h => h s H C cl fp pins s' I⟩) (fun s H C cl fp => ⟨fun pins s' σ H' Q I h => h s H C cl fp pins s' I⟩) hs hs1) ?_
  exact lc2_ok his his1 k1 hk hk1 h3 h5 h7 h4 he hh q
/-! ### index of a written tuple of texts -/
def strsA : List AV → Option (List Str)
  | [] => some []
  | .str y :: xs => match strsA xs with
    | some ys => some (y :: ys)
    | none => none
  | _ :: _ => none
theorem strsA_ok {ρ : Ro} : ∀ {xs : List AV} {vs : List V} {ys : List Str}, RVs ρ xs vs → strsA xs = some ys → vs = ys.map V.str
  | _, _, _, .nil, e => by cases e; rfl
  | x :: xs, v :: vs, ys, .cons a t, e => by
    cases a with
    | str b =>
      unfold strsA at e
      split at e
      · next cs hcs => cases e; rw [strsA_ok t hcs]; rfl
      · cases e
    | non => cases e
    | int _ => cases e
    | bl _ => cases e
    | rep _ => cases e
    | scr => cases e
    | r _ => cases e
    | k _ => cases e
def idxS (z : Str) : List Str → Option Nat
  | [] => none
  | y :: ys => bif decide (y = z) then some 0 else (idxS z ys).map (· + 1)
theorem idxS_ok {z : Str} : ∀ {ys : List Str} {j : Nat}, idxS z ys = some j → ys[j]? = some z ∧ ∀ m, m < j → ys[m]? ≠ some z
  | [], _, e => by cases e
  | y :: ys, j, e => by
    unfold idxS at e
    by_cases h : y = z
    · rw [decide_eq_true h] at e
      cases e
      exact ⟨by rw [h]; rfl, fun m hm => absurd hm (Nat.not_lt_zero m)⟩
    · rw [decide_eq_false h] at e
      dsimp only [cond_false] at e
      cases q : idxS z ys with
      | none => rw [q] at e; cases e
      | some i =>
        rw [q] at e
        cases e
        obtain ⟨h1, h2⟩ := idxS_ok q
        refine ⟨h1, fun m hm => ?_⟩
        cases m with
        | zero => intro z'; exact h (Option.some.inj z')
        | succ m => exact h2 m (Nat.lt_of_succ_lt_succ hm)
def dTIdx (G : ST) (ev : Addr) (d : DenE) (da : DenA) : DenE := fun s h => (d s h).bind fun p => match p.1 with
  | .k (.ref a) => bif Nat.beq ev a then (match G a with
    | some xs => match strsA xs with
      | some ys => (da s p.2).bind fun r => match r.1 with
        | [.str z] => (match idxS z ys with
          | some j => .ok (.int (j : Nat), r.2)
          | none => .bad)
        | _ => .bad
      | none => .bad
    | none => .bad) else .bad
  | _ => .bad
theorem ce_tidx {o e : Expr} {es : List Expr} {apos cpos : Pos} {ev : Addr} {de : DenE} {da : DenA} (hG : GOk X.K G) (hk : ∃ ob : Obj, X.K.lookup ev = some ob ∧ ob.cls = .type "tuple" ∧ ob.dict = none) (h1 : CE X o de) (h2 : CA X (e :: es) da)
    (hp : ∀ {R : V → List V → Hp → VK → Prop}, MtR X "tuple.index" R → PE X (.Call (.Attribute o "index" apos) (e :: es) [] cpos) (tBM X.K "tuple" R (wpE X o) (wpA X (e :: es)))) : CE X (.Call (.Attribute o "index" apos) (e :: es) [] cpos) (dTIdx G ev de da) := fun ρ s h σ H Q he hh qq => by
  refine ofE (hp mt_tup_index) (h1.then he hh qq fun x h1 ρ1 v H1 x1 r1 rv q1 => ?_)
  split at q1
  · next a e1 =>
    have e1 : x = .k (.ref a) := e1
    subst e1
    obtain ⟨hb, q1⟩ := bif_ok q1
    have := Nat.eq_of_beq_eq_true hb
    subst this
    cases rv
    split at q1
    · next xs hxs =>
      split at q1
      · next ys hys =>
        obtain ⟨vs, rr, sq⟩ := hG _ _ hxs
        have ev' := strsA_ok (rr ρ1) hys
        subst ev'
        refine ⟨.inr (.inl ⟨rfl, hk⟩), h2.then (he.up x1) r1 q1 fun zs h2 ρ2 us H2 x2 r2 ru q2 => ?_⟩
        split at q2
        · next z e2 =>
          have e2 : zs = [.str z] := e2
          subst e2
          split at q2
          · next j hj =>
            cases ru with
            | cons ra rb =>
              cases rb
              cases ra
              obtain ⟨i1, i2⟩ := idxS_ok hj
              exact ⟨ev, ys, z, j, rfl, rfl, sq H2, i1, i2, q2 ρ2 _ H2 (x1.trans x2) r2 (.int _)⟩
          · exact q2.elim
        · exact q2.elim
      · exact q1.elim
    · exact q1.elim
  · exact q1.elim
end
theorem room_lt {k m : Nat} {A : Around} (r : Room k A) (h : m ≤ 200) : A.units + m < cLine := by have := r.un; omega
end Z
end

section
set_option linter.all false
set_option maxRecDepth 100000
set_option maxHeartbeats 2000000
namespace Z
open PySem L2 PyProof.Rows ClX
variable [Scr]
section
variable {X : Cx} {a b c e o : Expr} {es : List Expr} {pos q apos cpos : Pos} {j k : Nat} {F : FnF} {x : Str} {de : DenE}
/-- a, b, c = x, y, z with plain names -/
def dPar3 (i j l : Nat) (d : DenA) : DenS := fun s h => (d s h).bind fun p => match p.1 with
  | [x, y, z] => .ok (.nx (((s.set i (some x)).set j (some y)).set l (some z)), p.2)
  | _ => .bad
theorem cs_par3 {i j l : Nat} {x y z : Str} {px py pz pt : Pos} {kt k2 pt2} {d : DenA} (hc : X.calm = true) (hN : X.N.Nodup) (hi : X.N[i]? = some x) (hj : X.N[j]? = some y) (hl : X.N[l]? = some z) (hij : i ≠ j) (hil : i ≠ l) (hjl : j ≠ l)
    (hx : X.env.scope.names.lookup x = some .local) (hy : X.env.scope.names.lookup y = some .local) (hz : X.env.scope.names.lookup z = some .local) (ha : CA X [a, b, c] d)
    (hw : swappedStores [.Tuple [.Name x px, .Name y py, .Name z pz] kt pt] (.Tuple [a, b, c] k2 pt2) X.env = pure (some [x, y, z]))
    (hs : swapsWithSole [.Tuple [.Name x px, .Name y py, .Name z pz] kt pt] (.Tuple [a, b, c] k2 pt2) pos.line X.env = pure false := by rfl) : CS X (.Assign [.Tuple [.Name x px, .Name y py, .Name z pz] kt pt] (.Tuple [a, b, c] k2 pt2) pos) (dPar3 i j l d) := fun ρ s h σ H D he hh q => by
  refine ofS (ps_par3 hc hN hi hj hl hij hil hjl hx hy hz (paW [a, b, c]) hw hs) (ha.then he hh q fun xs h1 ρ1 vs H1 x1 r1 rv q1 => ?_)
  split at q1
  · next x y z e1 =>
    have e1 : xs = [x, y, z] := e1
    subst e1
    cases rv with
    | cons ra rr =>
      cases rr with
      | cons rb rr =>
        cases rr with
        | cons rc rr =>
          cases rr
          exact ⟨_, _, _, rfl, q1 ρ1 H1 x1 r1 _ ((((he.up x1).set ra i).set rb j).set rc l)⟩
  · exact q1.elim
theorem ce_cG0' (c : CalG X.prog X.w X.K X.mg X.base x k 0 F) (hgd : X.A.guards = some []) (hr : Room j X.A) (hk : k ≤ j) (hg : Gl X x) (hdb : (x == ("__debug__" : Str)) = false := by decide) : CE X (.Call (.Name x q) [] [] pos) (dCall0 F) := ce_cG0 c hgd hr hk hg hdb
theorem ce_cC0 (c : CalF X.prog X.w X.K X.mg X.base x k 0 F) (hgd : X.A.guards = some []) (hr : Room j X.A) (hk : k ≤ j) (hg : Gl X x) (hdb : (x == ("__debug__" : Str)) = false := by decide) : CE X (.Call (.Name x q) [] [] pos) (dCall0 F) := ce_cG0 c.g hgd hr hk hg hdb
theorem ce_lm0 {name : Str} {R : V → List V → Hp → VK → Prop} {g : List AV → List AV → AH → Nat → T (AV × AH)} (hR : LmC R g) (h1 : CE X o de) (hp : PE X (.Call (.Attribute o name apos) [] [] cpos) (tBM0 X.K "list" R (wpE X o))) : CE X (.Call (.Attribute o name apos) [] [] cpos) (dLM g de dNil) := fun ρ s h σ H Q he hh qq => by
  refine ofE hp (h1.then he hh qq fun x h1 ρ1 v H1 x1 r1 rv q1 => ?_)
  split at q1
  · next i e1 =>
    have e1 : x = .r i := e1
    subst e1
    split at q1
    · next zs hz =>
      cases rv with
      | r hi =>
        cases r1.get hz hi with
        | lst rz hl =>
          refine ⟨.inl ⟨rfl, _, .of hl⟩, ?_⟩
          have q1 : (match h1.get i with
            | some (.lst xs) => g xs [] h1 i
            | _ => .bad).sat (PQ ρ Q) := q1
          rw [hz] at q1
          exact hR ρ1 zs [] h1 i _ _ [] H1 Q r1 hi hl rz .nil (T.sat_imp (fun _ k => k.up x1) q1)
    · exact q1.elim
  · exact q1.elim
theorem ce_clear (h1 : CE X o de) (hp : PE X (.Call (.Attribute o "clear" apos) [] [] cpos) (tBM0 X.K "list" rClear (wpE X o))) : CE X (.Call (.Attribute o "clear" apos) [] [] cpos) (dLM lmClear de dNil) := ce_lm0 lm_clear h1 hp
end
end Z
end

section
set_option linter.all false
set_option maxRecDepth 100000
set_option maxHeartbeats 2000000
namespace Z
open PySem L2 PyProof.Rows ClX
theorem FnG.imp {P : Program} {w : World} {K : PySem.W.Frag} {mg : Str → Option Value} {base : Heap} {CX : CXT} {k : Nat} {f : Addr} {fd : FuncData} {ps : List Str} {sp sp' : Sp} (F : FnG P w K mg base CX k f fd ps sp) (h : ∀ vs H Q E, sp' vs H Q E → sp vs H Q E) : FnG P w K mg base CX k f fd ps sp' :=
  ⟨fun vs H Q E q => F.len vs H Q E (h _ _ _ _ q), fun A outer s H args us vs Q E g hr e b v q => F.run A outer s H args us vs Q E g hr e b v (h _ _ _ _ q)⟩
variable [Scr]
/-- all but the feed stands as it was -/
theorem RH.move {ρ : Ro} {h : AH} {H H2 : Hp} {i : Nat} {a : Addr} (r : RH ρ h H) (hi : ρ i = some a) (hf : h.get i = some .feed) (kp : ∀ b o, b ≠ a → H b = some o → H2 b = some o) (h2 : FeedAt H2 a) : RH ρ h H2 := by
  have fa : FeedAt H a := by cases r.get hf hi with | feed q => exact q
  refine ⟨?_, r.dom, r.inj, fun j o e => ?_, r.all⟩
  · rcases r.scr with ⟨ob, q⟩ | q
    · refine .inl ⟨ob, kp _ _ (fun z => ?_) q⟩
      obtain ⟨_, _, q2⟩ := fa
      rw [z, q2] at q
      cases q
    · exact .inr q
  · by_cases hj : j = i
    · subst hj
      rw [hf] at e
      cases e
      exact ⟨a, hi, .feed h2⟩
    · obtain ⟨b, hb, ho⟩ := r.at_ j o e
      obtain ⟨u, hu⟩ := ho.some
      refine ⟨b, hb, ho.up (.refl _) ?_⟩
      rw [hu]
      exact kp b u (fun z => hj (r.inj j i b hb (z ▸ hi))) hu
theorem RH.keep {ρ : Ro} {h : AH} {H H2 : Hp} (r : RH ρ h H) (kp : ∀ b o, H b = some o → H2 b = some o) : RH ρ h H2 := by
  refine ⟨?_, r.dom, r.inj, fun j o e => ?_, r.all⟩
  · rcases r.scr with ⟨ob, q⟩ | q
    · exact .inl ⟨ob, kp _ _ q⟩
    · exact .inr q
  · obtain ⟨b, hb, ho⟩ := r.at_ j o e
    obtain ⟨u, hu⟩ := ho.some
    exact ⟨b, hb, ho.up (.refl _) (by rw [hu]; exact kp b u hu)⟩
theorem RH.grow {ρ : Ro} {h : AH} {H H2 : Hp} {a : Addr} {o : AO} (r : RH ρ h H) (hn : H a = none) (kp : ∀ b o, H b = some o → H2 b = some o) (ho : ∀ ρ', Xt ρ ρ' → OO ρ' H2 a o) : RH (ext ρ h.sz a) (h.new o) H2 := by
  obtain ⟨u, hu⟩ := (ho ρ (.refl _)).some
  have e : upd (fun b => if b = a then none else H2 b) a u = H2 := by
    funext b
    unfold upd
    by_cases hb : b = a
    · rw [if_pos hb, hb, hu]
    · rw [if_neg hb]
      exact if_neg hb
  have r2 : RH ρ h (fun b => if b = a then none else H2 b) := r.keep fun b o q => by
    have hb : b ≠ a := ne_of_none q hn
    show (if b = a then none else H2 b) = some o
    rw [if_neg hb]
    exact kp b o q
  have r3 := r2.new (a := a) (o := o) (u := u) (if_pos rfl) (fun ρ' x => by rw [e]; exact ho ρ' x)
  rw [e] at r3
  exact r3
def aTake : FnF := fun xs h => match xs with
  | [.r i, .int n] => match h.get i with
    | some .feed => bif decide (1 ≤ n) && decide (n < 1000000) then .draw n.toNat fun d => .ok (.int (d : Nat), h) else .bad
    | _ => .bad
  | _ => .bad
def fTakeD : DSp := fun p ds Kp => ∃ a n, p = some a ∧ ds = [.v (.ref a), .d (.int n)] ∧ 1 ≤ n ∧ n < 1000000 ∧ ∀ r : Int, 0 ≤ r → r < n → Kp (.d (.int r))
theorem take_spF {K : PySem.W.Frag} (vs : List V) (H : Hp) (Q : VK) (E : XK) (hq : spF 2 aTake vs H Q E) : spD K fTakeD vs H Q E := by
  obtain ⟨ρ, h, xs, hl, hh, rv, q⟩ := hq
  unfold aTake at q
  split at q
  · next i n =>
    cases rv with
    | cons r1 r2 =>
      cases r2 with
      | cons r2 r3 =>
        cases r3
        cases r2
        cases r1 with
        | r hi =>
          split at q
          · next hf =>
            obtain ⟨hb, q⟩ := bif_ok q
            simp only [Bool.and_eq_true, decide_eq_true_eq] at hb
            have fa := hh.get hf hi
            cases fa with
            | feed fa =>
              refine ⟨some _, fun _ => none, _, fun r => ∃ z : Int, 0 ≤ z ∧ z < n ∧ r = .d (.int z), ⟨(fun _ _ z => by cases z), (fun b e => by cases e; exact ⟨rfl, fa⟩)⟩, .cons (r := .v _) rfl (.cons (r := .d (.int n)) (Rp.int n) .nil), ⟨_, n, rfl, rfl, hb.1, hb.2, fun r h0 h1 => ⟨r, h0, h1, rfl⟩⟩, ?_⟩
              rintro v r G2 H2 ⟨z, z0, z1, rfl⟩ g rr
              cases rr
              have q := q z.toNat (by omega)
              have q : PQ ρ Q (.int (z.toNat : Int), h) := q
              rw [Int.toNat_of_nonneg z0] at q
              exact q ρ _ H2 (.refl ρ) (hh.move hi hf (fun b o hb e => g.kp b o (fun z => hb (by cases z; rfl)) e) (g.sat.fd _ rfl).2) (.int z)
          · exact q.elim
  · exact q.elim
/-- the law's feed: a new drawing list -/
def aFeed : FnF := fun xs h => match xs with
  | [.scr, .int k] => bif decide (0 ≤ k) && decide (k < 1000000) then .ok (.r h.sz, h.new .feed) else .bad
  | _ => .bad
/-- the script as it is known -/
def scrK (a : Addr) (ns : List Int) : Kind := ⟨fun K G v => v = .ref a ∧ SqL K G a (ns.map V.int), fun K G G' v e h => ⟨h.1, e.sl h.2⟩⟩
def fFeedD : DSp := fun p ds Kp => p = none ∧ ∃ (a : Addr) (ns : List Int) (k : Int), ds = [.o (scrK a ns), .d (.int k)] ∧ ns.length ≤ 63 ∧ 0 ≤ k ∧ k < 1000000 ∧ ∀ x y : Int, Kp (.d (.list [.int x, .int y]))
theorem feed_spF (hlen : (Scr.ns).length ≤ 63) (vs : List V) (H : Hp) (Q : VK) (E : XK) (hq : spF 2 aFeed vs H Q E) : spD Scr.K fFeedD vs H Q E := by
  obtain ⟨ρ, h, xs, hl, hh, rv, q⟩ := hq
  unfold aFeed at q
  split at q
  · next k =>
    cases rv with
    | cons r1 r2 =>
      cases r2 with
      | cons r2 r3 =>
        cases r3
        cases r2
        cases r1
        obtain ⟨hb, q⟩ := bif_ok q
        simp only [Bool.and_eq_true, decide_eq_true_eq] at hb
        have q : PQ ρ Q (.r h.sz, h.new .feed) := q
        let G : Hp := fun b => if b = Scr.a then (match H b with
          | some (.frz o u) => some (.frz o u)
          | _ => none) else none
        have hG : Ex G H := fun b o e => by
          by_cases hb : b = Scr.a
          · have e : (match H b with
              | some (.frz o u) => some (HO.frz o u)
              | _ => none) = some o := by rw [← e]; exact (if_pos hb).symm
            split at e
            · next he => rw [he]; exact e
            · cases e
          · have e2 : G b = none := if_neg hb
            rw [e2] at e
            cases e
        have sG : SqL Scr.K G Scr.a ((Scr.ns).map V.int) := by
          rcases hh.scr with ⟨o, e⟩ | e
          · refine .inl (.inr ⟨o, ?_⟩)
            show (if Scr.a = Scr.a then _ else none) = _
            rw [if_pos rfl]
            have e' : H Scr.a = some (.frz o (.lst ((Scr.ns).map V.int))) := e
            rw [e']
          · exact e G
        refine ⟨none, G, _, fun r => ∃ x y : Int, r = .d (.list [.int x, .int y]), ⟨hG, (fun b e => by cases e)⟩, .cons (r := .o (scrK Scr.a Scr.ns)) ⟨rfl, sG⟩ (.cons (r := .d (.int k)) (Rp.int k) .nil), ⟨rfl, _, _, k, rfl, hlen, hb.1, hb.2, fun x y => ⟨x, y, rfl⟩⟩, ?_⟩
        rintro v r G2 H2 ⟨x, y, rfl⟩ g rr
        cases rr with
        | @lst a' zs _ hl' ha =>
          cases ha with
          | cons a1 a2 =>
            cases a2 with
            | cons a2 a3 =>
              cases a3
              cases a1
              cases a2
              have h2 := g.sat.ex _ _ hl'
              have hn : H a' = none := by
                rcases g.nw _ _ hl' with z | z
                · exfalso
                  have z : (if a' = Scr.a then (match H a' with
                    | some (.frz o u) => some (HO.frz o u)
                    | _ => none) else none) = some (HO.lst [V.int x, V.int y]) := z
                  split at z
                  · split at z <;> cases z
                  · cases z
                · exact z
              exact q (ext ρ h.sz a') _ H2 (hh.xt a') (hh.grow hn (fun b o e => g.kp b o (fun z => nomatch z) e) fun ρ' _ => .feed ⟨x, y, h2⟩) (.r (by unfold ext; rw [if_pos rfl]))
  · exact q.elim
section
variable {X : Cx} {p : Option Addr} {δ : En} {Kp : DV → Prop} {b : Expr} {pos q px : Pos} {a : Addr} {ns : List Int}
omit [Scr] in
theorem de_lenS {i : Nat} {x : Str} (hN : X.N[i]? = some x) (hv : Vis X.env.scope x) (hr : δ[i]? = some (some (.o (scrK a ns)))) (hg : Gl X "len") (hm : X.mg "len" = none) (k : Kp (.d (.int (ns.length : Nat)))) (hd : (x == ("__debug__" : Str)) = false := by decide) (hcd : (x == ("__classdict__" : Str)) = false := by decide)
    (he : starEach [Expr.Name x px] X.env = (false, eval (.Name x px) X.env) :: starEach [] X.env := by rfl) : DE X p δ (.Call (.Name "len" q) [.Name x px] [] pos) Kp :=
  de_callB call_len hg hm PySem.boot_len (da_cons (de_var hN hv hr (da_nil fun G H vs s rv Q hq => by
    cases rv with
    | cons r1 r2 =>
      cases r2
      obtain ⟨rfl, hs⟩ := r1
      exact ⟨_, ns.length, rfl, .inl ⟨_, s.ex.sl hs, by rw [List.length_map]⟩, hq _ _ G H k (.refl s) (Rp.int _)⟩) hd hcd) he) (he := he)
omit [Scr] in
theorem de_ixS {i : Nat} {x : Str} (hN : X.N[i]? = some x) (hv : Vis X.env.scope x) (hr : δ[i]? = some (some (.o (scrK a ns)))) (hp : PlainIx b) (h : DE X p δ b fun y => ∃ j : Int, y = .d (.int j) ∧ 0 ≤ j ∧ j < ns.length ∧ ∀ m : Int, Kp (.d (.int m)))
    (hd : (x == ("__debug__" : Str)) = false := by decide) (hcd : (x == ("__classdict__" : Str)) = false := by decide) : DE X p δ (.Subscript (.Name x px) b pos) Kp :=
  de_op2 (t := tOp (rIxL X.K)) (fun _ _ ha hb => pe_ix ix_list ha hb hp) (fun _ _ _ _ _ h => h) (de_var hN hv hr (h.imp fun y ⟨j, hy, j0, j1, k⟩ G H vx vy s rx ry Q hq => by
    subst hy
    cases ry
    obtain ⟨rfl, hs⟩ := rx
    have hj : j.toNat < ns.length := by omega
    refine ⟨a, _, j, V.int (ns[j.toNat]), rfl, rfl, s.ex.sl hs, ?_, hq _ _ G H (k (ns[j.toNat])) (.refl s) (Rp.int _)⟩
    unfold atI ixN
    rw [List.length_map, if_pos j0, if_pos j1]
    simp [hj]) hd hcd)
end
end Z
end

section
set_option linter.all false
set_option maxRecDepth 100000
set_option maxHeartbeats 2000000
namespace PySem
open Sem (wp)
section
variable {prog : Program} {w : World} {K : Type} [DecidableEq K] {knd : KeyKind prog w K} {A : Around} {E : Value → Shared → Prop} {s : Shared}
theorem zDictPut {d : Addr} {kvs : List (K × Value)} {k : K} {key v : Value} {Q : Unit → Shared → Prop} (hkey : knd.is k key = true) (hm : s.heap.DictOf knd d kvs)
    (hQ : ∀ h', h'.DictOf knd d (stored kvs k v) → Heap.SameBut d s.heap h' → Q () { s with heap := h' })
    (hsz : kvs.length ≤ sizeLine) :
    wpAny (model prog w) A (dictPut d (knd.hash k) key v) Q E s := by
  obtain ⟨o, es, ep, ho, hc, hd, hk, hp, hn⟩ := hm
  have hes : es.size ≤ sizeLine := by have e1 := hp.length; have e2 : es.toList.length = es.size := by simp
                                      omega
  unfold dictPut
  refine wpAny_bind (wpAny_dictFind_of hkey ho hd hk ?_)
  have hidx : (es.findIdx? fun e => knd.is k e.key) = kvs.findIdx? fun kv => decide (kv.1 = k) := by
    rw [← hp.findIdx k]; obtain ⟨l⟩ := es; simp
  cases hi : es.findIdx? fun e => knd.is k e.key with
  | some i =>
    refine wpAny_updateDict ho hd (hQ _ ⟨_, _, ep, Heap.get?_update_self _ ho (Obj.isFreed_of_dict (Obj.data_mapDict hd _)),
      hc.mapDict _, Obj.data_mapDict hd _, hk.modify _ _, ?_, ?_⟩ (Heap.SameBut.update ..))
    · rw [stored, if_pos (any_of_findIdx_some (hidx ▸ hi))]
      have hl : (es.toList.findIdx? fun e => knd.is k e.key) = some i := by rw [← hi]; obtain ⟨l⟩ := es; simp
      have := hp.modify hn hl v
      obtain ⟨l⟩ := es
      simpa using this
    · rw [stored, if_pos (any_of_findIdx_some (hidx ▸ hi)), keys_map_store]; exact hn
  | none =>
    have hnot : k ∉ kvs.map (·.1) := not_mem_of_findIdx_none (hidx ▸ hi)
    have hany : ¬ (kvs.any fun kv => decide (kv.1 = k)) = true := by
      rw [List.any_eq_true]; rintro ⟨kv, hkv, he⟩
      exact hnot (List.mem_map.mpr ⟨kv, hkv, of_decide_eq_true he⟩)
    refine wpAny_updateDictKeys (hz := hes) ho hd (hQ _ ⟨_, _, ep + 1, Heap.get?_update_self _ ho (Obj.isFreed_of_dict (Obj.data_mapDictKeys hd _)),
      hc.mapDictKeys _, Obj.data_mapDictKeys hd _, hk.push hkey _, ?_, ?_⟩ (Heap.SameBut.update ..))
    · rw [stored, if_neg hany]
      have := hp.append hkey (knd.hash k) v
      obtain ⟨l⟩ := es
      simpa using this
    · rw [stored, if_neg hany, List.map_append, List.nodup_append]
      refine ⟨hn, by simp, ?_⟩
      intro a ha b hb
      simp only [List.map_cons, List.map_nil, List.mem_singleton] at hb
      subst hb
      exact fun e => hnot (e ▸ ha)
theorem zMerge {d o : Addr} {kvs more : List (K × Value)} {Q : Unit → Shared → Prop} (hdo : d ≠ o) (hoS : (o == sysModules) = false) (hnr : ∀ k a, knd.is k (.ref a) = false)
    (hd : s.heap.DictOf knd d kvs) (ho : s.heap.DictOf knd o more)
    (hQ : ∀ h', h'.DictOf knd d (merged kvs more) → Heap.SameBut d s.heap h' → Q () { s with heap := h' })
    (hsz : kvs.length + more.length ≤ sizeLine) :
    wpAny (model prog w) A (mergeMapping d (.ref o) false) Q E s := by
  obtain ⟨od, esd, epd, hod, hcd, hdd, hkd, hpd, hnd⟩ := id hd
  obtain ⟨oo, eso, epo, hoo, hco, hdo', hko, hpo, hno⟩ := id ho
  have hlen : more.length = eso.size := by rw [← hpo.length]; simp
  unfold mergeMapping
  refine wpAny_bind (wpAny_isInstance ho.typeIs isSubtype_dict_dict ?_)
  simp only [if_true]
  refine wpAny_bind (wpAny_specialOf ho.typeIs F.slot_dict_iter.lookup (wpAny_bind (wpAny_pure ?_)))
  simp only [beq_self_eq_true]
  rw [if_neg (by rw [hoS]; exact Bool.false_ne_true)]
  refine wpAny_bind (wpAny_dictEntries hod hdd ?_)
  have main : wpAny (model prog w) A (do
      let l ← dictEntries o
      let epoch ← dictEpoch o
      forIn (List.range l.size) PUnit.unit fun i (_ : PUnit) => (do
          let l' ← dictEntries o
          match l'[i]? with
            | some e => do
              holding [e.key, e.val] (dictPut d e.hash e.key e.val)
              let ep' ← dictEpoch o
              if (ep' != epoch) = true then do
                  (unsupported "dict.changed-during-merge" : Sem PUnit)
                  pure (ForInStep.yield PUnit.unit)
                else pure (ForInStep.yield PUnit.unit)
            | _ => do
              (unsupported "dict.changed-during-merge" : Sem PUnit)
              pure (ForInStep.yield PUnit.unit) : Sem (ForInStep PUnit))
      pure ()) Q E s := by
    refine wpAny_bind (wpAny_dictEntries hoo hdo' ?_)
    refine wpAny_bind (wpAny_dictEpoch hoo hdo' ?_)
    refine wpAny_bind ?_
    rw [List.range_eq_range']
    refine wpAny_forIn_list _
      (fun rest _ s' => ∃ h' i, s' = { s with heap := h' } ∧ rest = List.range' i (eso.size - i) ∧ i ≤ eso.size ∧ h'.DictOf knd d (merged kvs (more.take i)) ∧ h'.get? o = some oo ∧ Heap.SameBut d s.heap h')
      _ ?_ ?_ _ _ ⟨s.heap, 0, rfl, by simp, Nat.zero_le _, by simpa [merged] using hd, hoo, Heap.SameBut.refl _ _⟩
    · rintro x rest b s' ⟨h', i, rfl, hr, hi, hd', hoo', hs'⟩
      have hlt : i < eso.size := by
        rcases Nat.lt_or_ge i eso.size with h | h
        · exact h
        · rw [Nat.sub_eq_zero_of_le h] at hr; simp at hr
      obtain ⟨rfl, hrest⟩ : x = i ∧ rest = List.range' (i + 1) (eso.size - (i + 1)) := by
        have e : eso.size - i = (eso.size - (i + 1)) + 1 := by omega
        rw [e, List.range'_succ] at hr
        injection hr with h1 h2
        exact ⟨h1, h2⟩
      refine wpAny_bind (wpAny_dictEntries hoo' hdo' ?_)
      rw [Array.getElem?_eq_getElem hlt]
      obtain ⟨kv, hkv⟩ : ∃ kv, more[x]? = some kv := ⟨more[x]'(by rw [hlen]; exact hlt), List.getElem?_eq_getElem _⟩
      obtain ⟨k, v⟩ := kv
      obtain ⟨hkey, hval⟩ := hpo.get? (e := eso[x]) (by simp [hlt]) hkv
      obtain ⟨k', hkey', hhash⟩ := hko eso[x] (Array.getElem_mem hlt)
      obtain rfl : k' = k := knd.inj _ _ _ hkey' hkey
      show wpAny _ _ (holding [eso[x].key, eso[x].val] (dictPut d eso[x].hash eso[x].key eso[x].val) >>= _) _ _ _
      rw [hhash, hval]
      have hmx : (merged kvs (more.take x)).length ≤ sizeLine := by
        have e1 := merged_length_le kvs (more.take x)
        have e2 : (more.take x).length ≤ more.length := by rw [List.length_take]; omega
        omega
      refine wpAny_bind (wpAny_holding (zDictPut (hsz := hmx) hkey hd' fun h'' hd'' hs'' => ?_))
      have hoo'' : h''.get? o = some oo := (hs''.2 o (Ne.symm hdo)).trans hoo'
      refine wpAny_bind (wpAny_dictEpoch hoo'' hdo' ?_)
      rw [if_neg (by simp)]
      exact wpAny_pure ⟨h'', x + 1, rfl, hrest, hlt, by rw [merged_take_succ kvs more x (k', v) hkv]; exact hd'', hoo'', hs'.trans hs''⟩
    · rintro b s' ⟨h', i, rfl, hr, hi, hd', hoo', hs'⟩
      have hin : i = eso.size := by
        rcases Nat.lt_or_ge i eso.size with h | h
        · have e : eso.size - i = (eso.size - (i + 1)) + 1 := by omega
          rw [e, List.range'_succ] at hr; exact nomatch hr
        · exact Nat.le_antisymm hi h
      rw [hin, ← hlen, List.take_length] at hd'
      exact wpAny_pure (hQ h' hd' hs')
  simp only [Bool.false_eq_true, if_false]
  split
  · refine wpAny_bind (wpAny_dictEntries hoo hdo' ?_)
    refine ?_
    have hid : ∀ (f : DictEntry → PUnit → Sem (ForInStep PUnit)), (∀ e, e ∈ eso.toList → ∀ c, f e c = pure (ForInStep.yield c)) → (forIn eso PUnit.unit f : Sem PUnit) = pure PUnit.unit := fun f hf => by
      rw [← Array.forIn_toList]
      exact forIn_yield_id _ fun e he c => hf e he c
    rw [hid _ fun e he c => by
      obtain ⟨k, hkey, _⟩ := hko e (Array.mem_toList_iff.mp he)
      cases hk : e.key with
      | ref a => rw [hk, hnr] at hkey; cases hkey
      | _ => rfl]
    exact wpAny_bind (wpAny_pure main)
  · exact main
theorem zMg {d : Addr} {m : Value} {Q : Unit → Shared → Prop} {s : Shared} {l : List Value} {k1 k3 : Value → Sem Unit} {k2 : Value → Sem Unit} (h : wpAny (model prog w) A (mergeMapping d m false) Q (fun _ _ => False) s) :
    wpAny (model prog w) A ((((holding l (mergeMapping d m false)).onRaise k1).tryCatch k2).onRaise k3) Q E s :=
  wpAny_onRaise (wpAny_tryCatch (wpAny_onRaise (wpAny_holding (wpAny_mono h (fun _ _ q => q) fun _ _ f => f.elim))))
theorem zDict2 {env : Env} {a b : Expr} {pos : Pos} {Q : Value → Shared → Prop} {s : Shared}
    (h : wpAny (model prog w) A (eval a env) (fun x s1 => wpAny (model prog w) A (mergeMapping s.heap.objs.size x false) (fun _ s2 => wpAny (model prog w) A (eval b env) (fun y s3 => wpAny (model prog w) A (mergeMapping s.heap.objs.size y false) (fun _ s4 => Q (.ref s.heap.objs.size) s4) (fun _ _ => False) s3) E s2) (fun _ _ => False) s1) E { s with heap := s.heap.push { cls := .type "dict", data := .dict #[] } }) :
    wpAny (model prog w) A (eval (.Dict [none, none] [a, b] pos) env) Q E s := by
  show wpAny _ _ (do
    standAt pos
    dictDisplay ((evalEachOpt [none, none] env).zip ((evalEach [a, b] env).map fun v => do let x ← v; standAt pos; pure x))) _ _ _
  refine wpAny_bind (wpAny_standAt ?_)
  simp only [evalEachOpt, evalEach, evalOpt, List.map_cons, List.map_nil, List.zip_cons_cons, List.zip_nil_right]
  unfold dictDisplay
  simp only [List.forIn_cons, List.forIn_nil, List.isEmpty_nil, if_true, pure_bind]
  refine wpAny_bind (wpAny_bind (wpAny_bind (wpAny_alloc ?_)))
  refine wpAny_bind (wpAny_holding (wpAny_bind (wpAny_mono h (fun x s1 h1 => wpAny_bind (wpAny_standAt (wpAny_pure ?_))) fun _ _ e => e)))
  refine wpAny_bind (zMg (wpAny_mono h1 (fun _ s2 h2 => ?_) fun _ _ f => f.elim))
  refine wpAny_pure ?_
  simp only [List.isEmpty_nil, if_true, pure_bind, bind_assoc]
  refine wpAny_bind (wpAny_holding (wpAny_bind (wpAny_mono h2 (fun y s3 h3 => wpAny_bind (wpAny_standAt (wpAny_pure ?_))) fun _ _ e => e)))
  refine wpAny_bind (zMg (wpAny_mono h3 (fun _ s4 h4 => ?_) fun _ _ f => f.elim))
  refine wpAny_pure ?_
  exact wpAny_bind (wpAny_pure (wpAny_pure h4))
end
end PySem
namespace Z
open PySem L2 PyProof.Rows ClX
theorem and2 {a b : Bool} (h : (a && b) = true) : a = true ∧ b = true := Bool.and_eq_true_iff.mp h
theorem not1 {a : Bool} (h : (!a) = true) : a = false := by cases a <;> first | rfl | cases h
theorem ble1 {a b : Nat} (h : Nat.ble a b = true) : a ≤ b := Nat.le_of_ble_eq_true h
variable [Scr]
section
variable {X : Cx} {a b : Expr} {pos : Pos} {da db : DenE}
theorem mixNr {P : Program} {w : World} (k : Key) (a : Addr) : (mixKind P w).is k (.ref a) = false := by
  cases k <;> rfl
/-- what stands at an address as a dict, and more is put in -/
theorem merge_ok {pins : List (Addr × Obj)} {σ : L2.St} {H : Hp} {s : Shared} {A : Around} {p o : Addr} {kvs more : List (Key × V)} {Q : Unit → Shared → Prop} (I : Inv X pins σ H s) (hp : H p = some (.dK kvs)) (ho : H o = some (.dK more)) (hne : p ≠ o) (hsz : kvs.length + more.length ≤ sizeLine)
    (h : ∀ s', Inv X pins σ (upd H p (.dK (mergeK kvs more))) s' → Q () s') : wpAny (model X.prog X.w) A (mergeMapping p (.ref o) false) Q (fun _ _ => False) s := by
  obtain ⟨z1, d1, vs, r1, dd1⟩ := dk_of I.hok hp
  obtain ⟨z2, d2, us, r2, dd2⟩ := dk_of I.hok ho
  have l1 : kvs.length = vs.length := r1.length
  have l2 : more.length = us.length := r2.length
  refine zMerge hne d2 mixNr dd1 dd2 (fun h' dd' hs => h _ ?_) (by omega)
  have he : ∃ q, h'.get? p = some q := let ⟨q, _, _, hq, _⟩ := dd'; ⟨q, hq⟩
  have hl : (mergeK kvs more).length ≤ sizeLine := by have := length_mergeK more kvs; omega
  exact d_write I (by rw [hp]; exact True.intro) hs he (dk_new hl d1 (r2.merge r1) dd')
/-- {**a, **b} of two tracked dicts -/
def tDict2 (ta tb : TE) : TE := fun σ H Q => ∀ p, H p = none → ta σ (upd H p (.dK [])) fun x H1 => ∃ o more, x = .ref o ∧ H1 p = some (.dK []) ∧ H1 o = some (.dK more) ∧ o ≠ p ∧ more.length ≤ 1000 ∧ tb σ (upd H1 p (.dK (mergeK [] more))) fun y H2 => ∃ o2 more2 kvs,
  y = .ref o2 ∧ H2 p = some (.dK kvs) ∧ H2 o2 = some (.dK more2) ∧ o2 ≠ p ∧ more2.length ≤ 1000 ∧ kvs.length ≤ 1000 ∧ Q (.ref p) (upd H2 p (.dK (mergeK kvs more2)))
theorem pe_dict2 {ta tb : TE} (ha : PE X a ta) (hb : PE X b tb) : PE X (.Dict [none, none] [a, b] pos) (tDict2 ta tb) := by
  refine ⟨fun pins s σ H Q I q => ?_⟩
  have hn := I.hok.fresh (Nat.le_refl s.heap.objs.size)
  have I1 := I.laid (a := s.heap.objs.size) (o := .dK []) (h' := s.heap.push { cls := .type "dict", data := .dict #[] }) (t' := s.toks) (fun _ _ q => Heap.get?_push_of_some _ q) (Nat.le_refl _) (dk_empty s.heap I.big)
  refine zDict2 (thn (ha.run pins _ σ _ _ I1 (q _ hn)) fun u s1 ⟨x, H1, I1, rx, o, more, ex, hp, ho, hne, hl, q1⟩ => ?_)
  subst ex
  obtain rfl : u = Value.ref o := rx
  refine merge_ok I1 hp ho (Ne.symm hne) (by rw [sizeLine_eq]; simp only [List.length_nil]; omega) fun s2 I2 => ?_
  refine thn (hb.run pins _ σ _ _ I2 q1) fun u2 s3 ⟨y, H2, I3, ry, o2, more2, kvs, ey, hp2, ho2, hne2, hl2, hl3, q2⟩ => ?_
  subst ey
  obtain rfl : u2 = Value.ref o2 := ry
  exact merge_ok I3 hp2 ho2 (Ne.symm hne2) (by rw [sizeLine_eq]; omega) fun s4 I4 => ⟨.ref s.heap.objs.size, _, I4, rfl, q2⟩
def dDict2 (da db : DenE) : DenE := fun s h => (da s (h.new (.dK []))).bind fun p => match p.1 with
  | .r i => (match p.2.get h.sz, p.2.get i with
    | some (.dK []), some (.dK more) => bif Nat.ble more.length 1000 && !(Nat.beq i h.sz) then (db s (p.2.set h.sz (.dK (mergeKA [] more)))).bind fun q => (match q.1 with
      | .r j => (match q.2.get h.sz, q.2.get j with
        | some (.dK kvs), some (.dK more2) => bif Nat.ble more2.length 1000 && (Nat.ble kvs.length 1000 && !(Nat.beq j h.sz)) then .ok (.r h.sz, q.2.set h.sz (.dK (mergeKA kvs more2))) else .bad
        | _, _ => .bad)
      | _ => .bad) else .bad
    | _, _ => .bad)
  | _ => .bad
theorem ce_dict2 (h1 : CE X a da) (h2 : CE X b db) : CE X (.Dict [none, none] [a, b] pos) (dDict2 da db) := fun ρ s h σ H Q he hh qq => by
  refine ofE (pe_dict2 (peW a) (peW b)) fun p hp => ?_
  have kp : (ext ρ h.sz p) h.sz = some p := by unfold ext; rw [if_pos rfl]
  refine h1.then (he.up (hh.xt p)) (hh.new hp fun ρ' _ => .dK .nil upd_same) qq fun x h1 ρ1 v H1 x1 r1 rv q1 => ?_
  split at q1
  · next i e1 =>
    have e1 : x = .r i := e1
    subst e1
    split at q1
    · next more hg hi =>
      obtain ⟨hb, q1⟩ := bif_ok q1
      obtain ⟨hb1, hb2⟩ := and2 hb
      have hne : i ≠ h.sz := fun z => by rw [z, Nat.beq_refl] at hb2; cases hb2
      cases rv with
      | @r _ o ho =>
        cases r1.get hg (x1 _ _ kp) with
        | dK rz hl =>
          cases rz
          cases r1.get hi ho with
          | dK rm hlm =>
            refine ⟨o, _, rfl, hl, hlm, fun z => hne (r1.inj _ _ _ ho (z ▸ x1 _ _ kp)), by rw [← rm.length]; exact ble1 hb1, ?_⟩
            refine h2.then ((he.up (hh.xt p)).up x1) (r1.set (x1 _ _ kp) (.dK (RF.merge rm .nil) upd_same)) q1 fun y h2 ρ2 u H2 x2 r2 ru q2 => ?_
            split at q2
            · next j e2 =>
              have e2 : y = .r j := e2
              subst e2
              split at q2
              · next kvs more2 hg2 hj =>
                obtain ⟨hc, q2⟩ := bif_ok q2
                obtain ⟨hc1, hc⟩ := and2 hc
                obtain ⟨hc2, hc3⟩ := and2 hc
                have hne2 : j ≠ h.sz := fun z => by rw [z, Nat.beq_refl] at hc3; cases hc3
                have q2 : PQ ρ Q (_, _) := q2
                cases ru with
                | @r _ o2 ho2 =>
                  cases r2.get hg2 (x2 _ _ (x1 _ _ kp)) with
                  | dK rk hk =>
                    cases r2.get hj ho2 with
                    | dK rm2 hlm2 =>
                      exact ⟨o2, _, _, rfl, hk, hlm2, fun z => hne2 (r2.inj _ _ _ ho2 (z ▸ x2 _ _ (x1 _ _ kp))), by rw [← rm2.length]; exact ble1 hc1, by rw [← rk.length]; exact ble1 hc2,
                        q2 ρ2 _ _ (((hh.xt p).trans x1).trans x2) (r2.set (x2 _ _ (x1 _ _ kp)) (.dK (RF.merge rm2 rk) upd_same)) (.r (x2 _ _ (x1 _ _ kp)))⟩
              · exact q2.elim
            · exact q2.elim
    · exact q1.elim
  · exact q1.elim
end
end Z
end

section
set_option linter.all false
set_option maxRecDepth 100000
set_option maxHeartbeats 2000000
namespace Z
open PySem L2 PyProof.Rows ClX
/-! ### names -/
def nsq : List Nat → List Nat → Bool
  | [], [] => true
  | a :: as, b :: bs => Nat.beq a b && nsq as bs
  | _, _ => false
theorem nsq_eq : ∀ {a b : List Nat}, nsq a b = true → a = b
  | [], [], _ => rfl
  | a :: as, b :: bs, h => by
    obtain ⟨h1, h2⟩ := Bool.and_eq_true_iff.mp (show (Nat.beq a b && nsq as bs) = true from h)
    rw [Nat.eq_of_beq_eq_true h1, nsq_eq h2]
  | [], _ :: _, h => (Bool.false_ne_true h).elim
  | _ :: _, [], h => (Bool.false_ne_true h).elim
theorem nsq_refl : ∀ a : List Nat, nsq a a = true
  | [] => rfl
  | a :: as => by show (Nat.beq a a && nsq as as) = true; rw [nsq_refl as, Nat.beq_refl]; rfl
def seq (a b : Str) : Bool := nsq a.cps.toList b.cps.toList
theorem seq_eq {a b : Str} (h : seq a b = true) : a = b := by
  cases a with
  | mk a =>
    cases b with
    | mk b =>
      have e : a.toList = b.toList := nsq_eq h
      congr 1
      exact Array.toList_inj.mp e
theorem seq_ne {a b : Str} (h : seq a b = false) : a ≠ b := fun e => by subst e; rw [seq, nsq_refl] at h; cases h
theorem seq_beq (a b : Str) : (a == b) = seq a b := by
  cases h : seq a b with
  | true => rw [seq_eq h]; exact beq_self_eq_true b
  | false => exact beq_eq_false_iff_ne.mpr (seq_ne h)
/-! ### data that are alike to the letter -/
def dEqL (f : PyData → PyData → Bool) : List PyData → List PyData → Bool
  | [], [] => true
  | x :: xs, y :: ys => f x y && dEqL f xs ys
  | _, _ => false
def dEqN : Nat → PyData → PyData → Bool
  | 0, _, _ => false
  | n + 1, x, y => match x, y with
    | .none, .none => true
    | .bool a, .bool b => a == b
    | .int a, .int b => decide (a = b)
    | .str a, .str b => seq a b
    | .list a, .list b => dEqL (dEqN n) a b
    | .tuple a, .tuple b => dEqL (dEqN n) a b
    | _, _ => false
theorem dEqL_eq {f : PyData → PyData → Bool} (hf : ∀ x y, f x y = true → x = y) : ∀ {xs ys : List PyData}, dEqL f xs ys = true → xs = ys
  | [], [], _ => rfl
  | x :: xs, y :: ys, h => by
    obtain ⟨h1, h2⟩ := and2 (show (f x y && dEqL f xs ys) = true from h)
    rw [hf _ _ h1, dEqL_eq hf h2]
  | [], _ :: _, h => (Bool.false_ne_true h).elim
  | _ :: _, [], h => (Bool.false_ne_true h).elim
theorem dEqN_eq : ∀ (n : Nat) (x y : PyData), dEqN n x y = true → x = y
  | 0, _, _, h => (Bool.false_ne_true h).elim
  | n + 1, x, y, h => by
    unfold dEqN at h
    split at h
    · rfl
    · rw [eq_of_beq h]
    · rw [of_decide_eq_true h]
    · rw [seq_eq h]
    · rw [dEqL_eq (dEqN_eq n) h]
    · rw [dEqL_eq (dEqN_eq n) h]
    · cases h
/-! ### equality of what is no list, tuple, dict -/
def eqA : AV → AV → Option Bool
  | .non, .non => some true
  | .int i, .int j => some (decide (i = j))
  | .bl i, .bl j => some (i == j)
  | .str i, .str j => some (seq i j)
  | .rep d, .rep e => bif dEqN 40 d e then some true else none
  | .non, .int _ => some false
  | .int _, .non => some false
  | .non, .bl _ => some false
  | .bl _, .non => some false
  | .non, .str _ => some false
  | .str _, .non => some false
  | .int _, .str _ => some false
  | .str _, .int _ => some false
  | .bl _, .str _ => some false
  | .str _, .bl _ => some false
  | _, _ => none
def aEqA (neg : Bool) : Op2 := fun x y h => match eqA x y with
  | some t => .ok (.bl (bif neg then !t else t), h)
  | none => .bad
def isA (x y : AV) (_ : AH) : Bool := match eqA x y with
  | some _ => true
  | none => false
variable [Scr]
theorem eqA_ok {ρ : Ro} {x y : AV} {v u : V} {t : Bool} (rx : RV ρ x v) (ry : RV ρ y u) (e : eqA x y = some t) : scal v u = true ∧ decide (v = u) = t := by
  unfold eqA at e
  split at e <;> first | (cases e) | skip
  all_goals first
    | (cases rx; cases ry; refine ⟨rfl, ?_⟩; first
      | (rw [dec_int]; rw [Bool.eq_iff_iff]; simp; done)
      | (rw [dec_bl]; done)
      | (rw [dec_str, seq_beq]; done)
      | (simp; done)
      | rfl)
    | skip
  next d e' =>
    cases hb : dEqN 40 d e' with
    | true =>
      rw [hb] at e
      cases e
      have := dEqN_eq _ _ _ hb
      subst this
      cases rx
      cases ry
      exact ⟨rfl, by simp⟩
    | false => rw [hb] at e; cases e
theorem oc_eqA {neg : Bool} : OpC (fun x y H Q => scal x y = true ∧ Q (.bl (bif neg then !decide (x = y) else decide (x = y))) H) (aEqA neg) := fun ρ x y h vx vy H Q hh rx ry q => by
  unfold aEqA at q
  split at q
  · next t ht =>
    obtain ⟨h1, h2⟩ := eqA_ok rx ry ht
    refine ⟨h1, ?_⟩
    rw [h2]
    exact q ρ _ H (.refl ρ) hh (.bl _)
  · exact q.elim
omit [Scr] in
theorem op_eqA {X : Cx} : OpR X (compareOp .Eq) (fun x y H Q => scal x y = true ∧ Q (.bl (bif false then !decide (x = y) else decide (x = y))) H) := op_eq
omit [Scr] in
theorem op_neA {X : Cx} : OpR X (compareOp .NotEq) (fun x y H Q => scal x y = true ∧ Q (.bl (bif true then !decide (x = y) else decide (x = y))) H) := op_ne
/-! ### repr of data that are small -/
def rOkL (f : PyData → Option Nat) : List PyData → Option Nat
  | [] => some 0
  | x :: xs => match f x with
    | some a => match rOkL f xs with
      | some b => some (a + 1 + b)
      | none => none
    | none => none
def rOk : Nat → PyData → Option Nat
  | 0, _ => none
  | n + 1, d => match d with
    | .none => some 0
    | .bool _ => some 0
    | .int i => bif Nat.ble (i.natAbs + 1) 1000000000000 then some 0 else none
    | .str x => bif x.cps.toList.all (fun c => Nat.ble (c + 1) 0x110000) then some x.cps.size else none
    | .list xs => rOkL (rOk n) xs
    | .tuple xs => rOkL (rOk n) xs
    | .dict _ => none
theorem rOkL_ok {f : PyData → Option Nat} {n : Nat} (hf : ∀ d b, f d = some b → d.canLay0 = true ∧ d.depth ≤ n ∧ d.showable = true ∧ d.leavesShort 13 = true ∧ d.bulk = b) : ∀ (xs : List PyData) (b : Nat), rOkL f xs = some b → PyData.canLayAll0 xs = true ∧ PyData.depthAll xs ≤ n ∧ PyData.showableAll xs = true ∧ PyData.leavesShortAll 13 xs = true ∧ PyData.bulkAll xs = b
  | [], b, h => by cases h; exact ⟨rfl, Nat.zero_le _, rfl, rfl, rfl⟩
  | x :: xs, b, h => by
    unfold rOkL at h
    split at h
    · next a ha =>
      split at h
      · next b' hb =>
        cases h
        obtain ⟨a1, a2, a3, a4, a5⟩ := hf _ _ ha
        obtain ⟨b1, b2, b3, b4, b5⟩ := rOkL_ok hf xs b' hb
        refine ⟨?_, ?_, ?_, ?_, ?_⟩
        · simp only [PyData.canLayAll0, a1, b1, Bool.and_self]
        · simp only [PyData.depthAll]; omega
        · simp only [PyData.showableAll, a3, b3, Bool.and_self]
        · simp only [PyData.leavesShortAll, a4, b4, Bool.and_self]
        · simp only [PyData.bulkAll, a5, b5]
      · cases h
    · cases h
theorem rOk_ok : ∀ (n : Nat) (d : PyData) (b : Nat), rOk n d = some b → d.canLay0 = true ∧ d.depth ≤ n ∧ d.showable = true ∧ d.leavesShort 13 = true ∧ d.bulk = b
  | 0, _, _, h => by cases h
  | n + 1, d, b, h => by
    unfold rOk at h
    split at h
    · cases h; exact ⟨rfl, by simp [PyData.depth], rfl, rfl, rfl⟩
    · cases h; exact ⟨rfl, by simp [PyData.depth], rfl, rfl, rfl⟩
    · next i =>
      cases hb : Nat.ble (i.natAbs + 1) 1000000000000 with
      | true =>
        rw [hb] at h
        cases h
        have hi : i.natAbs < 10 ^ 12 := by have := ble1 hb; omega
        refine ⟨rfl, by simp [PyData.depth], ?_, ?_, rfl⟩
        · simp only [PyData.showable, decide_eq_true_eq]
          by_cases h0 : i.natAbs = 0
          · rw [h0]; decide
          · exact Nat.lt_of_lt_of_le ((Nat.log2_lt h0).mpr (Nat.lt_trans hi (by decide : 10 ^ 12 < 2 ^ 40))) (by decide)
        · simp only [PyData.leavesShort, decide_eq_true_eq]
          exact PyData.shown_int_le hi
      | false => rw [hb] at h; cases h
    · next x =>
      cases hb : x.cps.toList.all (fun c => Nat.ble (c + 1) 0x110000) with
      | true =>
        rw [hb] at h
        cases h
        have hx : ∀ c ∈ x.cps.toList, c < 0x110000 := fun c hc => by have := ble1 (List.all_eq_true.mp hb c hc); omega
        refine ⟨?_, by simp [PyData.depth], rfl, ?_, rfl⟩
        · simp only [PyData.canLay0, PyData.strOk]
          rw [← Array.all_toList]
          exact List.all_eq_true.mpr fun c hc => decide_eq_true (hx c hc)
        · simp only [PyData.leavesShort]
          exact List.all_eq_true.mpr fun c hc => decide_eq_true (Nat.lt_trans (hx c hc) (by decide))
      | false => rw [hb] at h; cases h
    · next xs =>
      obtain ⟨h1, h2, h3, h4, h5⟩ := rOkL_ok (rOk_ok n) xs b h
      exact ⟨by simpa only [PyData.canLay0] using h1, by simp only [PyData.depth]; omega, by simpa only [PyData.showable] using h3, by simpa only [PyData.leavesShort] using h4, by simpa only [PyData.bulk] using h5⟩
    · next xs =>
      obtain ⟨h1, h2, h3, h4, h5⟩ := rOkL_ok (rOk_ok n) xs b h
      exact ⟨by simpa only [PyData.canLay0] using h1, by simp only [PyData.depth]; omega, by simpa only [PyData.showable] using h3, by simpa only [PyData.leavesShort] using h4, by simpa only [PyData.bulk] using h5⟩
    · cases h
def aRepr2 (G : ST) : FnF := fun xs h => match xs with
  | [x] => match rd G h 40 x with
    | some d => (match rOk 41 d with
      | some b => bif Nat.ble b 1000000 then .ok (.rep d, h) else .bad
      | none => .bad)
    | none => .bad
  | _ => .bad
theorem cb_repr2 {K : PySem.W.Frag} {G : ST} (hG : GOk K G) : CbC (rReprD K) (aRepr2 G) := fun ρ xs h vs H Q hh rv qq => by
  unfold aRepr2 at qq
  split at qq
  · next x =>
    cases rv with
    | cons r1 r2 =>
      cases r2
      split at qq
      · next d hd =>
        split at qq
        · next b hb =>
          obtain ⟨hn, qq⟩ := bif_ok qq
          obtain ⟨h1, h2, h3, h4, h5⟩ := rOk_ok _ _ _ hb
          have qq : PQ ρ Q (_, h) := qq
          exact ⟨_, d, rfl, rd_dp hG hh _ _ _ _ r1 hd, h1, by omega, h3, PyData.shown_fits_bulk (B := 13) (by decide) (by decide) h4 (by rw [h5]; have := ble1 hn; omega), qq ρ _ H (.refl ρ) hh (.rep _)⟩
        · exact qq.elim
      · exact qq.elim
  · exact qq.elim
end Z
end

section
set_option linter.all false
set_option maxRecDepth 100000
set_option maxHeartbeats 2000000
namespace Z
open PySem L2 PyProof.Rows ClX

/-! ### names -/
def asc {α : Type} : List (Str × α) → Str → Option α
  | [], _ => none
  | p :: r, x => bif seq x p.1 then some p.2 else asc r x
theorem asc_lookup {α : Type} : ∀ (l : List (Str × α)) (x : Str), asc l x = l.lookup x
  | [], _ => rfl
  | (y, v) :: r, x => by
    unfold asc
    rw [List.lookup_cons, seq_beq, asc_lookup r x]
    cases seq x y <;> rfl
def idx : List Str → Str → Option Nat
  | [], _ => none
  | y :: r, x => bif seq x y then some 0 else match idx r x with
    | some i => some (i + 1)
    | none => none
theorem idx_at : ∀ {N : List Str} {x : Str} {i : Nat}, idx N x = some i → N[i]? = some x
  | [], _, _, h => by cases h
  | y :: r, x, i, h => by
    unfold idx at h
    cases hs : seq x y with
    | true => rw [hs] at h; cases h; rw [seq_eq hs]; rfl
    | false =>
      rw [hs] at h
      dsimp only [cond_false] at h
      split at h
      · next j hj => cases h; exact (List.getElem?_cons_succ).trans (idx_at hj)
      · cases h
def memS (l : List Str) (x : Str) : Bool := l.any fun y => seq x y
def memN (l : List Nat) (x : Nat) : Bool := l.any fun y => Nat.beq x y
theorem memN_iff {l : List Nat} {x : Nat} (h : memN l x = true) : x ∈ l := by
  unfold memN at h
  obtain ⟨y, hy, e⟩ := List.any_eq_true.mp h
  rw [Nat.eq_of_beq_eq_true e]
  exact hy

/-! ### what is known of the program -/
/-- a def as it is called: its level, its number of parameters, whether repr is used in it, what it does -/
structure FI where
  k : Nat
  n : Nat
  g : Bool
  F : FnF
structure Pg where
  G : ST
  D : SD
  kt : KT
  gl : List (Str × AV)
  bt : List (Str × String)
  un : List Str
  fn : List (Str × FI)
  mkc : List (Str × Addr × FI)
  prop : List (Str × Addr × FI)
  meth : List (Str × Addr × FI)
  sm : List (Str × Addr × FI)
  eqs : List (Addr × FI)
  lens : List (Addr × FI)
  items : List (Addr × FI)
  fld : List (Str × List Addr)
  tl : List Addr
structure Cfg where
  g : Pg
  N : List Str
  sc : Scope
  gd : Bool
  fc : Bool
  j : Nat
variable [Scr]
structure PgOk (P : Program) (w : World) (K : PySem.W.Frag) (mg : Str → Option Value) (base : Heap) (g : Pg) : Prop where
  G : GOk K g.G
  D : DOk K w g.D
  kt : KTOk K g.kt
  gl : ∀ x v, asc g.gl x = some v → ∃ u v', mg x = some u ∧ RelV v' u ∧ ∀ ρ, RV ρ v v'
  bt : ∀ x n, asc g.bt x = some n → mg x = none ∧ bootBuiltins x = some (.type n)
  un : ∀ x, memS g.un x = true → mg x = none
  fn : ∀ x fi, asc g.fn x = some fi → CalG P w K mg base x fi.k fi.n fi.F ∧ (fi.g = false → CalF P w K mg base x fi.k fi.n fi.F)
  mkc : ∀ x p, asc g.mkc x = some p → mg x = some (.ref p.1) ∧ PySem.W.makesIn K p.1 = true ∧ PySem.W.keepIn K (.ref p.1) = true ∧ MetF P w K mg base p.1 "__init__" p.2.k p.2.n p.2.F
  prop : ∀ x p, asc g.prop x = some p → Cls K p.1 ∧ PropF P w K mg base p.1 x p.2.k p.2.n p.2.F
  meth : ∀ x p, asc g.meth x = some p → Cls K p.1 ∧ MetF P w K mg base p.1 x p.2.k p.2.n p.2.F
  sm : ∀ x p, asc g.sm x = some p → SmF P w K mg base p.1 x p.2.k p.2.F
  eqs : ∀ p, p ∈ g.eqs → MetF P w K mg base p.1 "__eq__" p.2.k p.2.n p.2.F ∧ PySem.W.findIn K (.ref p.1) "__ne__" = some (some (.builtin "object.__ne__")) ∧ PySem.W.mroIn K p.1 (.type "object") = some true
  lens : ∀ p, p ∈ g.lens → MetF P w K mg base p.1 "__len__" p.2.k p.2.n p.2.F
  items : ∀ p, p ∈ g.items → MetF P w K mg base p.1 "__getitem__" p.2.k p.2.n p.2.F
  fld : ∀ x cs, asc g.fld x = some cs → ∀ C, C ∈ cs → Cls K C ∧ NoAttr K C x
  tl : ∀ a, a ∈ g.tl → ∃ ob : Obj, K.lookup a = some ob ∧ ob.cls = .type "tuple" ∧ ob.dict = none
structure Mat (c : Cfg) (X : Cx) : Prop where
  N : X.N = c.N
  sc : X.env.scope = c.sc
  nd : c.N.Nodup
  fun_ : c.sc.kind = .function
  calm : X.calm = true
  room : Room c.j X.A
  gd : c.gd = true → X.A.guards = some []
  fc : c.fc = true → ∀ x, X.fn x = true
  xe : X.xe = fun _ _ => False
  pg : PgOk X.prog X.w X.K X.mg X.base c.g
def kd (c : Cfg) (x : Str) : Option NameKind := asc c.sc.names x
section
variable {c : Cfg} {X : Cx}
theorem Mat.kd (M : Mat c X) (x : Str) : X.env.scope.names.lookup x = Z.kd c x := by rw [M.sc, Z.kd, asc_lookup]
theorem Mat.vis (M : Mat c X) {x : Str} (h : Z.kd c x = some .local ∨ Z.kd c x = some .cell ∨ Z.kd c x = some .free) : Vis X.env.scope x := by
  unfold Vis
  rw [M.kd]
  exact h
theorem Mat.glob (M : Mat c X) {x : Str} (h : Z.kd c x = some .globalImplicit) : Gl X x := by
  show X.env.scope.names.lookup x = _
  rw [M.kd]
  exact h
theorem Mat.at_ (M : Mat c X) {x : Str} {i : Nat} (h : idx c.N x = some i) : X.N[i]? = some x := by rw [M.N]; exact idx_at h
theorem Mat.ndX (M : Mat c X) : X.N.Nodup := by rw [M.N]; exact M.nd
theorem Mat.pass (M : Mat c X) : PassesOwn (model X.prog X.w) X.A X.env X.xe := by rw [M.xe]; exact PassesOwn.never
theorem Mat.un {m : Nat} (M : Mat c X) (h : m ≤ 200) : X.A.units + m < cLine := room_lt M.room h
/-- within a comprehension -/
def relC (sc scope : Scope) : Scope := { scope with names := scope.names.map fun p => (p.1, bif decide (p.2 = .free) && (decide (sc.kind = .function) && decide (asc sc.names p.1 = some .cell)) then .cell else p.2) }
theorem relC_eq (scope : Scope) (env : Env) : relabel scope env = relC env.scope scope := by
  unfold relabel relC
  congr 1
  refine List.map_congr_left fun p _ => ?_
  obtain ⟨n, k⟩ := p
  dsimp only [Env.kindOf]
  rw [asc_lookup]
  by_cases h1 : k = .free
  · by_cases h2 : env.scope.kind = .function
    · by_cases h3 : env.scope.names.lookup n = some .cell
      · simp [h1, h2, h3]
      · simp [h1, h2, h3]
    · simp [h1, h2]
  · simp [h1]
def Cfg.blk (c : Cfg) (scope : Scope) : Cfg := { c with sc := relC c.sc scope, fc := false }
theorem Mat.blk (M : Mat c X) {scope : Scope} (hk : scope.kind = .function) (s : Shared) (H : Hp) (C : Addr) (cl : List (Str × Addr)) (fp : List Addr) : Mat (c.blk scope) (X.blk s H scope (compEnvC scope cl C X.env) fp) :=
  ⟨M.N, by show relabel scope X.env = relC c.sc scope; rw [relC_eq, M.sc], M.nd, hk, M.calm, M.room, M.gd, (fun z => nomatch z), rfl, M.pg⟩
end

/-! ### stars -/
def isStar : Expr → Bool
  | .Starred _ _ => true
  | _ => false
theorem star1 {e : Expr} (h : isStar e = false) (es : List Expr) (env : Env) : starEach (e :: es) env = (false, eval e env) :: starEach es env := by
  cases e <;> first | rfl | cases h
theorem asg1 {e : Expr} (h : isStar e = false) (es : List Expr) (env : Env) : assignEach (e :: es) env = (false, assign e env) :: assignEach es env := by
  cases e <;> first | rfl | cases h
theorem noStars {pos : Pos} {env : Env} : ∀ {es : List Expr}, es.any isStar = false → (backTo pos (starEach es env)).any (·.1) = false
  | [], _ => rfl
  | e :: es, h => by
    rw [List.any_cons, Bool.or_eq_false_iff] at h
    rw [star1 h.1]
    show (false || (backTo pos (starEach es env)).any (·.1)) = false
    rw [noStars h.2]
    rfl

/-! ### targets -/
mutual
inductive Tg where
  | nm (i : Nat) | tp (l : Tl)
inductive Tl where
  | nil | cons (t : Tg) (l : Tl)
end
def Tl.len : Tl → Nat
  | .nil => 0
  | .cons _ l => l.len + 1
mutual
def Tg.tg (K : PySem.W.Frag) : Tg → TG
  | .nm i => gName i
  | .tp l => gTup K l.len (l.tgs K)
def Tl.tgs (K : PySem.W.Frag) : Tl → TGs
  | .nil => gNil
  | .cons t l => gCons (t.tg K) (l.tgs K)
end
mutual
def Tg.is : Tg → List Nat
  | .nm i => [i]
  | .tp l => l.iss
def Tl.iss : Tl → List Nat
  | .nil => []
  | .cons t l => t.is ++ l.iss
end
mutual
def Tg.dg (G : ST) : Tg → DenG
  | .nm i => dgN i
  | .tp l => dgTup G l.len (l.dgs G)
def Tl.dgs (G : ST) : Tl → DenGs
  | .nil => dgNil
  | .cons t l => dgCons (t.dg G) (l.dgs G)
end
mutual
theorem Tg.gk {K : PySem.W.Frag} {G : ST} (hG : GOk K G) : ∀ t : Tg, GK (t.tg K) t.is (t.dg G)
  | .nm i => gk_name
  | .tp l => gk_tup hG (Tl.gks hG l)
theorem Tl.gks {K : PySem.W.Frag} {G : ST} (hG : GOk K G) : ∀ l : Tl, GKs (l.tgs K) l.iss (l.dgs G)
  | .nil => gks_nil
  | .cons t l => gks_cons (Tg.gk hG t) (Tl.gks hG l)
end
def nameT (c : Cfg) (x : Str) : Option Nat := match kd c x with
  | some .local => idx c.N x
  | some .cell => bif c.fc then idx c.N x else none
  | _ => none
def nameL (c : Cfg) (x : Str) : Option Nat := match kd c x with
  | some .local => idx c.N x
  | _ => none
mutual
def tgE (c : Cfg) : Nat → Expr → Option Tg
  | 0, _ => none
  | n + 1, e => match e with
    | .Name x _ => match nameT c x with
      | some i => some (.nm i)
      | none => none
    | .Tuple es _ _ => match tgL c n es with
      | some l => some (.tp l)
      | none => none
    | _ => none
def tgL (c : Cfg) : Nat → List Expr → Option Tl
  | 0, _ => none
  | n + 1, es => match es with
    | [] => some .nil
    | e :: es => bif isStar e then none else match tgE c n e with
      | some t => match tgL c n es with
        | some l => some (.cons t l)
        | none => none
      | none => none
end
section
variable {c : Cfg} {X : Cx}
theorem nameL_ok (M : Mat c X) {x : Str} {i : Nat} (h : nameL c x = some i) : X.N[i]? = some x ∧ X.env.scope.names.lookup x = some .local := by
  unfold nameL at h
  split at h
  · next hk => exact ⟨M.at_ h, by rw [M.kd]; exact hk⟩
  · cases h
theorem nameT_ok (M : Mat c X) {x : Str} {i : Nat} (h : nameT c x = some i) : X.N[i]? = some x ∧ Loc X.env.scope x ∧ (X.fn x = true ∨ X.env.scope.names.lookup x = some .local) := by
  unfold nameT at h
  split at h
  · next hk =>
    have e : X.env.scope.names.lookup x = some .local := by rw [M.kd]; exact hk
    exact ⟨M.at_ h, .inl e, .inr e⟩
  · next hk =>
    cases hf : c.fc with
    | true =>
      rw [hf] at h
      exact ⟨M.at_ h, .inr (by rw [M.kd]; exact hk), .inl (M.fc hf x)⟩
    | false => rw [hf] at h; cases h
  · cases h
mutual
theorem tgE_ok (M : Mat c X) : ∀ (n : Nat) (e : Expr) (t : Tg), tgE c n e = some t → PG X e (t.tg X.K)
  | 0, _, _, h => by cases h
  | n + 1, e, t, h => by
    unfold tgE at h
    split at h
    · split at h
      · next i hi =>
        cases h
        obtain ⟨h1, h2, h3⟩ := nameT_ok M hi
        exact pg_name M.ndX h1 h2 h3
      · cases h
    · split at h
      · next l hl =>
        cases h
        obtain ⟨h1, h2, h3⟩ := tgL_ok M n _ l hl
        exact pg_tup M.calm h1 h2 h3
      · cases h
    · cases h
theorem tgL_ok (M : Mat c X) : ∀ (n : Nat) (es : List Expr) (l : Tl), tgL c n es = some l → PGs X es (l.tgs X.K) ∧ (assignEach es X.env).length = l.len ∧ (assignEach es X.env).findIdx? (·.1) = none
  | 0, _, _, h => by cases h
  | n + 1, es, l, h => by
    unfold tgL at h
    split at h
    · cases h; exact ⟨pgs_nil, rfl, rfl⟩
    · next e es =>
      cases hs : isStar e with
      | true => rw [hs] at h; cases h
      | false =>
        rw [hs] at h
        dsimp only [cond_false] at h
        split at h
        · next t ht =>
          split at h
          · next l hl =>
            cases h
            obtain ⟨h1, h2, h3⟩ := tgL_ok M n _ l hl
            refine ⟨pgs_cons (tgE_ok M n _ t ht) h1 (by rw [asg1 hs]; rfl), by rw [asg1 hs]; show _ + 1 = _ + 1; rw [h2], ?_⟩
            rw [asg1 hs, List.findIdx?_cons, h3]
            rfl
          · cases h
        · cases h
end
end
end Z
end

section
set_option linter.all false
set_option maxRecDepth 100000
set_option maxHeartbeats 2000000
namespace Z
open PySem L2 PyProof.Rows ClX
variable [Scr]
def bad {α : Type} : AE → AH → T α := fun _ _ => .bad
section
variable {c : Cfg} {X : Cx} {e a b o : Expr} {es : List Expr} {pos apos q : Pos} {x m : Str} {de da db : DenE}
theorem ce_b : CE X e bad := ce_bad
theorem ct_b : CT X e bad := fun ρ s h σ H Q he hh q => q.elim
theorem ca_b : CA X es bad := fun ρ s h σ H Q he hh q => q.elim
theorem ci_b {tg it : Expr} {R : Prop} : R ∨ ¬ R := Classical.em R
/-! ### bools as tests of the way -/
theorem bif_if {α : Type} {P : α → Prop} {t : Bool} {x y : α} (h1 : t = true → P x) (h2 : t = false → P y) : P (bif t then x else y) := by
  cases t with
  | true => exact h1 rfl
  | false => exact h2 rfl

/-! ### names, constants -/
def dbg (x : Str) : Bool := seq x "__debug__" || (seq x "__classdict__" || seq x "__name__")
theorem dbg_no (h : dbg x = false) : (x == ("__debug__" : Str)) = false ∧ (x == ("__classdict__" : Str)) = false ∧ x ≠ "__name__" := by
  unfold dbg at h
  rw [Bool.or_eq_false_iff, Bool.or_eq_false_iff] at h
  exact ⟨by rw [seq_beq]; exact h.1, by rw [seq_beq]; exact h.2.1, seq_ne h.2.2⟩
def isGl (c : Cfg) (x : Str) : Bool := match kd c x with
  | some .globalImplicit => true
  | _ => false
theorem isGl_ok (h : isGl c x = true) : kd c x = some .globalImplicit := by
  unfold isGl at h
  split at h
  · assumption
  · cases h
def isOwn (c : Cfg) (x : Str) : Bool := match kd c x with
  | some .local => true
  | some .cell => true
  | some .free => true
  | _ => false
theorem isOwn_ok (h : isOwn c x = true) : kd c x = some .local ∨ kd c x = some .cell ∨ kd c x = some .free := by
  unfold isOwn at h
  split at h
  · exact .inl ‹_›
  · exact .inr (.inl ‹_›)
  · exact .inr (.inr ‹_›)
  · cases h
def nameE (c : Cfg) (x : Str) : DenE :=
  bif dbg x then bad else
  bif isGl c x then (match asc c.g.gl x with
    | some v => dC v
    | none => match asc c.g.bt x with
      | some n => dC (.k (.ty n))
      | none => bad)
  else bif isOwn c x then (match idx c.N x with
    | some i => dVar i
    | none => bad)
  else bad
theorem nameE_ok (M : Mat c X) : CE X (.Name x pos) (nameE c x) := by
  unfold nameE
  refine bif_if (fun _ => ce_b) fun hd => ?_
  obtain ⟨h1, h2, h3⟩ := dbg_no hd
  refine bif_if (fun hg => ?_) fun _ => bif_if (fun ho => ?_) fun _ => ce_b
  · have hg := M.glob (isGl_ok hg)
    split
    · next v hv =>
      obtain ⟨u, v', a1, a2, a3⟩ := M.pg.gl _ _ hv
      exact fun ρ s h σ H Q he hh q => ofE (pe_glob hg a1 a2 h1) (q ρ v' H (.refl ρ) hh (a3 ρ))
    · split
      · next n hn => exact ce_bty hg (M.pg.bt _ _ hn).1 (M.pg.bt _ _ hn).2 h3 h1
      · exact ce_b
  · split
    · next i hi => exact ce_var (M.at_ hi) (M.vis (isOwn_ok ho)) h1 h2
    · exact ce_b
def constE : Const → DenE
  | .int i => dC (.int i)
  | .bool b => dC (.bl b)
  | .none => dC .non
  | .str s => dC (.str s)
  | _ => bad
theorem constE_ok {k : Const} {j : Nat} : CE X (.Constant k j pos) (constE k) := by
  cases k <;> first | exact ce_int | exact ce_bl | exact ce_non | exact ce_str | exact ce_b

/-! ### operators -/
def fEq (G : ST) (neg : Bool) (j : Nat) : List (Addr × FI) → Op2
  | [] => orOp isA (aEqA neg) (aEqD G neg)
  | p :: r => bif Nat.ble (p.2.k + 1) j then orOp (notIns p.1) (fEq G neg j r) (aEqO p.1 p.2.n p.2.F neg) else fEq G neg j r
def eqOp (neg : Bool) : CmpOp := match neg with
  | true => .NotEq
  | false => .Eq
theorem fEq_ok (M : Mat c X) (neg : Bool) : ∀ l : List (Addr × FI), (∀ p, p ∈ l → p ∈ c.g.eqs) → ∃ R, OpR X (compareOp (eqOp neg)) R ∧ OpC R (fEq c.g.G neg c.j l)
  | [], _ => by
    cases neg with
    | true => exact ⟨_, opr_or op_neA (op_neD (M.un (by decide))), oc_or oc_eqA (oc_neD M.pg.G)⟩
    | false => exact ⟨_, opr_or op_eqA (op_eqD (M.un (by decide))), oc_or oc_eqA (oc_eqD M.pg.G)⟩
  | p :: r, h => by
    obtain ⟨R, h1, h2⟩ := fEq_ok M neg r fun q hq => h q (List.mem_cons_of_mem _ hq)
    unfold fEq
    refine bif_if (P := fun f => ∃ R, OpR X (compareOp (eqOp neg)) R ∧ OpC R f) (fun hb => ?_) fun _ => ⟨R, h1, h2⟩
    obtain ⟨mf, ne, mro⟩ := M.pg.eqs p (h p List.mem_cons_self)
    obtain ⟨f, fd, ps, c1, c2, c3, c4, c5, c6⟩ := mf.ex
    have hk : p.2.k + 1 ≤ c.j := ble1 hb
    cases neg with
    | true => exact ⟨_, opr_or h1 (op_neO c6 (M.room.mono hk) c5 ne c1 c2 mro), oc_or h2 oc_neO⟩
    | false => exact ⟨_, opr_or h1 (op_eqO c6 (M.room.mono (by omega)) c5 c1 c2), oc_or h2 oc_eqO⟩
def cmpO (c : Cfg) : CmpOp → Option Op2
  | .Eq => some (fEq c.g.G false c.j c.g.eqs)
  | .NotEq => some (fEq c.g.G true c.j c.g.eqs)
  | .Lt => some (iOp fun i j => .bl (decide (i < j)))
  | .LtE => some (iOp fun i j => .bl (decide (i ≤ j)))
  | .Gt => some (iOp fun i j => .bl (decide (i > j)))
  | .GtE => some (iOp fun i j => .bl (decide (i ≥ j)))
  | .In => some (aInD c.g.G false)
  | .NotIn => some (aInD c.g.G true)
  | .Is => some (aIsN false)
  | _ => none
theorem cmpO_ok (M : Mat c X) {op : CmpOp} {f : Op2} (h : cmpO c op = some f) : ∃ R, OpR X (compareOp op) R ∧ OpC R f := by
  cases op <;> cases h
  · exact fEq_ok M false c.g.eqs fun _ z => z
  · exact fEq_ok M true c.g.eqs fun _ z => z
  · exact ⟨_, op_lt, oc_iB⟩
  · exact ⟨_, op_le, oc_iB⟩
  · exact ⟨_, op_gt, oc_iB⟩
  · exact ⟨_, op_ge, oc_iB⟩
  · exact ⟨_, op_isN, oc_isN⟩
  · exact ⟨_, op_inS (M.un (by decide)), oc_inD M.pg.G⟩
  · exact ⟨_, op_notInS (M.un (by decide)), oc_inD M.pg.G⟩
def binO (c : Cfg) : Operator → Option Op2
  | .Add => some (aAdd c.g.G)
  | .Sub => some (iOp fun i j => .int (i - j))
  | _ => none
theorem binO_ok (M : Mat c X) {op : Operator} {f : Op2} (h : binO c op = some f) : ∃ R, OpR X (binaryOp op) R ∧ OpC R f := by
  cases op <;> cases h
  · exact ⟨_, op_addA, oc_add M.pg.G⟩
  · exact ⟨_, op_sub, oc_iI⟩

/-! ### subscripts by values -/
def isSlice : Expr → Bool
  | .Slice _ _ _ _ => true
  | _ => false
theorem plainIx (h : isSlice b = false) : PlainIx b := by
  cases b <;> first | (intro _ _; rfl) | cases h
theorem subPy (h : isSlice b = false) (x : Addr) (i : Value) : subscripted b true (.ref x) i = runValue (.builtin "lifetime.subscript" ⟨[.ref x, i], []⟩) := by
  cases b <;> first | rfl | cases h
def SubR (X : Cx) (R : R2) : Prop := ∀ (e b : Expr) (pins : List (Addr × Obj)) (s : Shared) (σ : L2.St) (H : Hp) (x y : V) (v u : Value) (Q : VK), isSlice b = false → Inv X pins σ H s → RelV x v → RelV y u → R x y H Q → wpAny (model X.prog X.w) X.A (subscriptTail e b v u) (EP X pins σ Q) X.xe s
theorem SubR.of {R : R2} (h : IxR X R) : SubR X R := fun e b pins s σ H x y v u Q hb I rx ry q => h e b pins s σ H x y v u Q I rx ry q (plainIx hb v u)
theorem SubR.or {R R' : R2} (h : SubR X R) (h' : SubR X R') : SubR X (fun x y H Q => R x y H Q ∨ R' x y H Q) := fun e b pins s σ H x y v u Q hb I rx ry q => q.elim (h e b pins s σ H x y v u Q hb I rx ry) (h' e b pins s σ H x y v u Q hb I rx ry)
theorem pe_sub {R : R2} (h : SubR X R) (hb : isSlice b = false) {ta tb : TE} (ha : PE X a ta) (hb' : PE X b tb) : PE X (.Subscript a b pos) (tOp R ta tb) :=
  ⟨fun pins s σ H Q I q => Subscript_ (binT ha hb' I q fun v u s2 x y H2 I2 rx ry q => h a b pins s2 σ H2 x y v u Q hb I2 rx ry q)⟩
def rDGt : R2 := fun x y H Q => ∃ a v, x = .ref a ∧ DGet H a y (some v) ∧ Q v H
theorem sub_dict (hu : X.A.units + 1 < cLine) : SubR X rDGt := fun e b pins s σ H x y v u Q hb I rx ry q => by
  obtain ⟨a, w, rfl, g, q⟩ := q
  obtain rfl : v = Value.ref a := rx
  exact tail_any (dict_typeIs I g) PySem.F.slot_dict_getitem.lookup (d_getItem hu I g ry fun w' s3 I3 rw' => ⟨w, H, I3, rw', q⟩) (plainIx hb _ _)
def rSubO (C : Addr) (sp : Sp) : R2 := fun x y H Q => ∃ a dx fs, x = .ref a ∧ H a = some (.ins C dx fs) ∧ sp [.ref a, y] H Q E0
theorem sub_own {k : Nat} {C f : Addr} {fd : FuncData} {ps : List Str} {sp : Sp} (F : FnOk X.prog X.w X.K X.mg X.base CX0 k f fd ps sp) (hr : Room (k + 1) X.A) (hb : Binds X.K fd ps []) (hs : PySem.W.findIn X.K (.ref C) "__getitem__" = some (some (.ref f))) (hfi : PySem.W.fnIn X.K f = true) (hf : PySem.W.isFn X.K (.ref f) = true) : SubR X (rSubO C sp) := fun e b pins s σ H x y v u Q hb' I rx ry q => by
  obtain ⟨a, dx, fs, rfl, ea, hsp⟩ := q
  obtain rfl : v = Value.ref a := rx
  obtain ⟨m, fr⟩ := I.fr
  obtain ⟨ox, od, J⟩ := inst_at I ea
  exact PySem.W.sub_K fr I.ok.mod.kin J hs hfi hf (run1 F hr hb I (.cons (show RelV (.ref a) (.ref a) from rfl) (.cons ry .nil)) hsp) (subPy hb' a u)
def aDGt : Op2 := fun x y h => match dicts h x with
  | some kvs => match kA y with
    | some k => match valA kvs k with
      | some z => .ok (z, h)
      | none => .bad
    | none => .bad
  | none => .bad
theorem oc_dgt : OpC rDGt aDGt := fun ρ x y h vx vy H Q hh rx ry q => by
  unfold aDGt at q
  split at q
  · next kvs hk =>
    obtain ⟨j, a, vs, _, rfl, hi, rf, hl⟩ := dicts_ok hh rx hk
    split at q
    · next k hky =>
      have := kA_ok ry hky
      subst this
      have fv := rf.val (k := k)
      split at q
      · next z hz =>
        rw [hz] at fv
        obtain ⟨w, e1, e2⟩ := fv
        exact ⟨a, w, rfl, .inl ⟨vs, k, .of hl, rfl, e1.symm⟩, q ρ w H (.refl ρ) hh e2⟩
      · exact q.elim
    · exact q.elim
  · exact q.elim
def aSubO (C : Addr) (n : Nat) (F : FnF) : Op2 := fun x y h => match insOf C h x with
  | some _ => bif Nat.beq 2 n then F [x, y] h else .bad
  | none => .bad
theorem oc_subO {C : Addr} {n : Nat} {F : FnF} : OpC (rSubO C (spF n F)) (aSubO C n F) := fun ρ x y h vx vy H Q hh rx ry q => by
  unfold aSubO at q
  split at q
  · next fs hfs =>
    obtain ⟨j, a, dx, vs, _, rfl, hi, rf, hl⟩ := insOf_ok hh rx hfs
    exact ⟨a, dx, vs, rfl, hl, spF_of (xs := [x, y]) (.refl ρ) hh (.cons rx (.cons ry .nil)) q⟩
  · exact q.elim
def isDct (h : AH) (x : AV) : Bool := match dicts h x with
  | some _ => true
  | none => false
def isWD (D : SD) : AV → Bool
  | .k (.ref a) => match D a with
    | some _ => true
    | none => false
  | _ => false
def fSub (g : Pg) (j : Nat) : List (Addr × FI) → Op2
  | [] => orOp (fun x _ _ => isWD g.D x) (aIxK g.D) (orOp (fun x _ h => isDct h x) aDGt (aIx g.G))
  | p :: r => bif Nat.ble (p.2.k + 1) j then orOp (notIns p.1) (fSub g j r) (aSubO p.1 p.2.n p.2.F) else fSub g j r
theorem fSub_ok (M : Mat c X) : ∀ l : List (Addr × FI), (∀ p, p ∈ l → p ∈ c.g.items) → ∃ R, SubR X R ∧ OpC R (fSub c.g c.j l)
  | [], _ => ⟨_, (SubR.of ix_kdict).or ((sub_dict (M.un (by decide))).or (SubR.of ix_seq)), oc_or (oc_ixK M.pg.D) (oc_or oc_dgt (oc_ix M.pg.G))⟩
  | p :: r, h => by
    obtain ⟨R, h1, h2⟩ := fSub_ok M r fun q hq => h q (List.mem_cons_of_mem _ hq)
    unfold fSub
    refine bif_if (P := fun f => ∃ R, SubR X R ∧ OpC R f) (fun hb => ?_) fun _ => ⟨R, h1, h2⟩
    obtain ⟨f, fd, ps, c1, c2, c3, c4, c5, c6⟩ := (M.pg.items p (h p List.mem_cons_self)).ex
    exact ⟨_, h1.or (sub_own c6 (M.room.mono (ble1 hb)) c5 c1 c3 c2), oc_or h2 oc_subO⟩

/-! ### built-in functions by values -/
def orF (p : List AV → AH → Bool) (f g : FnF) : FnF := fun xs h => bif p xs h then f xs h else g xs h
theorem cb_or {R R' : List V → Hp → VK → Prop} {p : List AV → AH → Bool} {f g : FnF} (h1 : CbC R f) (h2 : CbC R' g) : CbC (fun xs H Q => R xs H Q ∨ R' xs H Q) (orF p f g) := fun ρ xs h vs H Q hh rv q => by
  unfold orF at q
  cases hp : p xs h with
  | true => rw [hp] at q; exact .inl (h1 ρ xs h vs H Q hh rv q)
  | false => rw [hp] at q; exact .inr (h2 ρ xs h vs H Q hh rv q)
def aLenO (C : Addr) (n : Nat) (F : FnF) : FnF := fun xs h => match xs with
  | [x] => (match insOf C h x with
    | some _ => bif Nat.beq 1 n then (F [x] h).bind fun r => (match r.1 with
      | .int i => bif decide (0 ≤ i) && decide (i < 1000000) then .ok (.int i, r.2) else .bad
      | _ => .bad) else .bad
    | none => .bad)
  | _ => .bad
theorem cb_lenO {C : Addr} {n : Nat} {F : FnF} : CbC (rLenO C (spF n F)) (aLenO C n F) := fun ρ xs h vs H Q hh rv qq => by
  unfold aLenO at qq
  split at qq
  · next x =>
    cases rv with
    | cons r1 r2 =>
      cases r2
      split at qq
      · next fs hfs =>
        obtain ⟨i, a, dx, vs, _, rfl, hi, rf, hl⟩ := insOf_ok hh r1 hfs
        obtain ⟨hn, qq⟩ := bif_ok qq
        refine ⟨a, dx, vs, rfl, hl, ρ, h, [x], Nat.eq_of_beq_eq_true hn, hh, .cons r1 .nil, T.sat_imp (fun r q1 ρ1 v H1 x1 r1 rv => ?_) (T.sat_bind qq)⟩
        obtain ⟨z, h1⟩ := r
        cases rv with
        | int j =>
          obtain ⟨hb, q1⟩ := bif_ok q1
          simp only [Bool.and_eq_true, decide_eq_true_eq] at hb
          have q1 : PQ ρ Q (_, h1) := q1
          exact ⟨j, rfl, hb.1, by omega, q1 ρ1 _ H1 x1 r1 (.int _)⟩
        | non => exact q1.elim
        | bl _ => exact q1.elim
        | str _ => exact q1.elim
        | rep _ => exact q1.elim
        | scr => exact q1.elim
        | r _ => exact q1.elim
        | k _ => exact q1.elim
      · exact qq.elim
  · exact qq.elim
def notIns1 (C : Addr) : List AV → AH → Bool := fun xs h => match xs with
  | [x] => notIns C x x h
  | _ => true
def fLen (G : ST) (j : Nat) : List (Addr × FI) → FnF
  | [] => aLenS G
  | p :: r => bif Nat.ble (p.2.k + 1) j then orF (notIns1 p.1) (fLen G j r) (aLenO p.1 p.2.n p.2.F) else fLen G j r
theorem fLen_ok (M : Mat c X) : ∀ l : List (Addr × FI), (∀ p, p ∈ l → p ∈ c.g.lens) → ∃ R, CallR X (.builtin "len") R ∧ CbC R (fLen c.g.G c.j l)
  | [], _ => ⟨_, call_lenS, cb_lenS M.pg.G⟩
  | p :: r, h => by
    obtain ⟨R, h1, h2⟩ := fLen_ok M r fun q hq => h q (List.mem_cons_of_mem _ hq)
    unfold fLen
    refine bif_if (P := fun f => ∃ R, CallR X (.builtin "len") R ∧ CbC R f) (fun hb => ?_) fun _ => ⟨R, h1, h2⟩
    obtain ⟨f, fd, ps, c1, c2, c3, c4, c5, c6⟩ := (M.pg.lens p (h p List.mem_cons_self)).ex
    exact ⟨_, callr_or h1 (call_lenO c6 (M.room.mono (ble1 hb)) c5 c1 c2), cb_or h2 cb_lenO⟩
end
end Z
end

section
set_option linter.all false
set_option maxRecDepth 100000
set_option maxHeartbeats 2000000
namespace Z
open PySem L2 PyProof.Rows ClX
variable [Scr]
abbrev DenI := AE → AH → T (Walked × AH)
structure Den where
  e : Cfg → Expr → DenE
  t : Cfg → Expr → DenB
  a : Cfg → List Expr → DenA
  s : Cfg → Stmt → DenS
  ss : Cfg → List Stmt → DenS
structure Den.Ok (D : Den) : Prop where
  e : ∀ {c X}, Mat c X → ∀ e, CE X e (D.e c e)
  t : ∀ {c X}, Mat c X → ∀ e, CT X e (D.t c e)
  a : ∀ {c X}, Mat c X → ∀ e, CA X e (D.a c e)
  s : ∀ {c X}, Mat c X → ∀ e, CS X e (D.s c e)
  ss : ∀ {c X}, Mat c X → ∀ e, CSs X e (D.ss c e)
section
variable {D : Den} {c : Cfg} {X : Cx} {e a b o f' : Expr} {es : List Expr} {pos apos q : Pos} {x m : Str} {de da db : DenE}
theorem ci_bad {tg it : Expr} : CI X tg it bad := ⟨_, pi_seq (peW it), fun ρ s h σ H R he hh q => q.elim⟩
/-! ### arguments -/
def argsA (D : Den) (c : Cfg) : List Expr → DenA
  | [] => dNil
  | e :: es => bif isStar e then bad else dCons (D.e c e) (D.a c es)
theorem argsA_ok (ok : D.Ok) (M : Mat c X) : ∀ es : List Expr, CA X es (argsA D c es)
  | [] => ca_nil
  | e :: es => by
    unfold argsA
    exact bif_if (fun _ => ca_b) fun h => ca_cons (ok.e M e) (ok.a M es) (star1 h es X.env)
/-! ### calls by a name -/
def blt (c : Cfg) (x : Str) : Option FnF :=
  bif seq x "len" then some (fLen c.g.G c.j c.g.lens) else
  bif seq x "isinstance" then some (aIsi c.g.G c.g.kt) else
  bif seq x "all" then some (aAll c.g.G true) else
  bif seq x "any" then some (aAll c.g.G false) else
  bif seq x "repr" then (bif c.gd then some (aRepr2 c.g.G) else none) else none
theorem blt_ok (M : Mat c X) {F : FnF} (h : blt c x = some F) : ∃ id R, CallR X (.builtin id) R ∧ CbC R F ∧ bootBuiltins x = some (.builtin id) := by
  unfold blt at h
  cases h1 : seq x "len" with
  | true =>
    rw [h1] at h; cases h
    obtain ⟨R, a1, a2⟩ := fLen_ok M c.g.lens fun _ z => z
    exact ⟨_, R, a1, a2, by rw [seq_eq h1]; exact PySem.boot_len⟩
  | false =>
    rw [h1] at h; dsimp only [cond_false] at h
    cases h2 : seq x "isinstance" with
    | true => rw [h2] at h; cases h; exact ⟨_, _, call_isi, cb_isi M.pg.kt M.pg.G, by rw [seq_eq h2]; decide +kernel⟩
    | false =>
      rw [h2] at h; dsimp only [cond_false] at h
      cases h3 : seq x "all" with
      | true => rw [h3] at h; cases h; exact ⟨_, _, cr_all M.calm, cb_all M.pg.G, by rw [seq_eq h3]; decide +kernel⟩
      | false =>
        rw [h3] at h; dsimp only [cond_false] at h
        cases h4 : seq x "any" with
        | true => rw [h4] at h; cases h; exact ⟨_, _, cr_any M.calm, cb_any M.pg.G, by rw [seq_eq h4]; decide +kernel⟩
        | false =>
          rw [h4] at h; dsimp only [cond_false] at h
          cases h5 : seq x "repr" with
          | true =>
            rw [h5] at h; dsimp only [cond_true] at h
            cases h6 : c.gd with
            | true => rw [h6] at h; cases h; exact ⟨_, _, call_reprD (M.gd h6) (M.un (by decide)), cb_repr2 M.pg.G, by rw [seq_eq h5]; decide +kernel⟩
            | false => rw [h6] at h; cases h
          | false => rw [h5] at h; cases h
theorem ce_c0 {k : Nat} {F : FnF} (cf : CalF X.prog X.w X.K X.mg X.base x k 0 F) (hr : Room k X.A) (hg : Gl X x) (hdb : (x == ("__debug__" : Str)) = false) : CE X (.Call (.Name x q) [] [] pos) (dCall0 F) := fun ρ s h σ H Q he' hh qq => by
  obtain ⟨f, fd, ps, c1, c2, c3, c4⟩ := cf.ex
  have p : PE X (.Call (.Name x q) [] [] pos) (fun σ H Q => spF 0 F [] H Q E0) := ⟨fun pins s σ H Q I h => wpAny_Call_Name_kw (ld_glob I hg c1 (PySem.W.callWith_K0 I.kIn c2 (runK (us := []) c4 hr c3 I .nil h)) hdb)⟩
  exact ofE p ⟨ρ, h, [], rfl, hh, .nil, qq⟩
def callN (D : Den) (c : Cfg) (x : Str) (args : List Expr) : DenE :=
  bif dbg x || (!isGl c x || args.any isStar) then bad else
  match asc c.g.fn x with
  | some fi => bif Nat.ble fi.k c.j && (c.gd || !fi.g) then (match args with
    | [] => bif Nat.beq fi.n 0 then dCall0 fi.F else bad
    | e :: es => dCall fi.n fi.F (D.a c (e :: es))) else bad
  | none => match asc c.g.mkc x with
    | some p => bif Nat.ble (p.2.k + 1) c.j then (match args with
      | [] => bad
      | e :: es => dMake p.1 p.2.n p.2.F (D.a c (e :: es))) else bad
    | none => bif memS c.g.un x then (match args with
      | [] => bad
      | e :: es => match blt c x with
        | some F => dCb F (D.a c (e :: es))
        | none => bif seq x "list" then dCb (aList c.g.G) (D.a c (e :: es)) else
          bif seq x "tuple" then (match es with
            | [] => dTuple c.g.G (D.e c e)
            | _ => bad) else bad) else bad
theorem callN_ok (ok : D.Ok) (M : Mat c X) (x : Str) (args : List Expr) : CE X (.Call (.Name x q) args [] pos) (callN D c x args) := by
  unfold callN
  refine bif_if (fun _ => ce_b) fun h0 => ?_
  rw [Bool.or_eq_false_iff, Bool.or_eq_false_iff] at h0
  obtain ⟨hd, hg, hst⟩ := h0
  have hg := M.glob (isGl_ok (by simpa using hg))
  obtain ⟨d1, d2, d3⟩ := dbg_no hd
  split
  · next fi hfi =>
    obtain ⟨cg, cf⟩ := M.pg.fn _ _ hfi
    refine bif_if (fun hb => ?_) fun _ => ce_b
    obtain ⟨hk, hgd⟩ := and2 hb
    split
    · refine bif_if (fun hn => ?_) fun _ => ce_b
      have hn := Nat.eq_of_beq_eq_true hn
      cases hfg : fi.g with
      | false => exact ce_c0 (hn ▸ cf hfg) (M.room.mono (ble1 hk)) hg d1
      | true =>
        rw [hfg] at hgd
        exact ce_cG0 (hn ▸ cg) (M.gd (by simpa using hgd)) M.room (ble1 hk) hg d1
    · next e es =>
      rw [List.any_cons, Bool.or_eq_false_iff] at hst
      cases hfg : fi.g with
      | false => exact ce_cC (cf hfg) M.room (ble1 hk) hg (ok.a M _) d1 (star1 hst.1 _ _) (noStars hst.2)
      | true =>
        rw [hfg] at hgd
        exact ce_cG cg (M.gd (by simpa using hgd)) M.room (ble1 hk) hg (ok.a M _) d1 (star1 hst.1 _ _) (noStars hst.2)
  · split
    · next p hp =>
      obtain ⟨m1, m2, m3, mf⟩ := M.pg.mkc _ _ hp
      refine bif_if (fun hb => ?_) fun _ => ce_b
      split
      · exact ce_b
      · next e es =>
        rw [List.any_cons, Bool.or_eq_false_iff] at hst
        obtain ⟨f, fd, ps, c1, c2, c3, c4, c5, c6⟩ := mf.ex
        exact ce_make ⟨m2, c1, c2, m3⟩ c6 (M.room.mono (ble1 hb)) hg m1 c5 (ok.a M _) d1 (star1 hst.1 _ _) (noStars hst.2)
    · refine bif_if (fun hu => ?_) fun _ => ce_b
      have hu := M.pg.un _ hu
      split
      · exact ce_b
      · next e es =>
        rw [List.any_cons, Bool.or_eq_false_iff] at hst
        split
        · next F hF =>
          obtain ⟨id, R, b1, b2, b3⟩ := blt_ok M hF
          exact ce_callB b1 b2 hg hu b3 (ok.a M _) d3 d1 (star1 hst.1 _ _) (noStars hst.2)
        · refine bif_if (fun hl => ?_) fun _ => bif_if (fun ht => ?_) fun _ => ce_b
          · exact ce_callTy call_list_of (cb_list M.pg.G) hg hu (by rw [seq_eq hl]; decide +kernel) (ok.a M _) d3 d1 (star1 hst.1 _ _) (noStars hst.2)
          · split
            · have := seq_eq ht
              subst this
              exact ce_tuple M.pg.G (ok.e M e) (pe_tupleOf hg hu (peW e) (star1 hst.1 _ _))
            · exact ce_b
/-! ### attributes -/
def okBase : Expr → Bool
  | .Call _ [] [] _ => false
  | _ => true
theorem base_ok (h : okBase o = true) (m : Str) : attributeBase o m X.env (eval o X.env) = eval o X.env := by
  unfold attributeBase
  split
  · exact absurd h (by simp [okBase])
  · rfl
def insL (cs : List Addr) (h : AH) : AV → Option (Addr × List (Str × AV))
  | .r i => match h.get i with
    | some (.ins D fs) => bif memN cs D then some (D, fs) else none
    | _ => none
  | _ => none
theorem insL_ok {cs : List Addr} {ρ : Ro} {h : AH} {H : Hp} {y : AV} {v : V} {p : Addr × List (Str × AV)} (hh : RH ρ h H) (rv : RV ρ y v) (e : insL cs h y = some p) : p.1 ∈ cs ∧ ∃ i a dx vs, y = .r i ∧ v = .ref a ∧ ρ i = some a ∧ RF ρ p.2 vs ∧ H a = some (.ins p.1 dx vs) := by
  cases rv with
  | r hr =>
    unfold insL at e
    dsimp only at e
    split at e
    · next D gs hy =>
      cases hb : memN cs D with
      | true =>
        rw [hb] at e
        cases e
        cases hh.get hy hr with
        | ins r hl => exact ⟨memN_iff hb, _, _, _, _, rfl, rfl, hr, r, hl⟩
      | false => rw [hb] at e; cases e
    · cases e
  | k v => cases e
  | non => cases e
  | bl _ => cases e
  | int _ => cases e
  | str _ => cases e
  | rep _ => cases e
  | scr => cases e
def lookA (fs : List (Str × AV)) (g : Str) : Option AV := asc fs g
def dFldL (cs : List Addr) (g : Str) (d : DenE) : DenE := fun s h => (d s h).bind fun p => match insL cs p.2 p.1 with
  | some q => match asc q.2 g with
    | some z => .ok (z, p.2)
    | none => .bad
  | none => .bad
theorem ce_fldL {cs : List Addr} (hc : ∀ C, C ∈ cs → Cls X.K C ∧ NoAttr X.K C m) (h1 : CE X e de) (hb : attributeBase e m X.env (eval e X.env) = eval e X.env) : CE X (.Attribute e m pos) (dFldL cs m de) := fun ρ s h σ H Q he hh qq => by
  refine ofE (pe_fld (peW e) hb) (h1.then he hh qq fun y h1 ρ1 v H1 x1 r1 rv q1 => ?_)
  split at q1
  · next fs hfs =>
    obtain ⟨hm, i, a, dx, vs, _, rfl, hi, rf, hl⟩ := insL_ok r1 rv hfs
    split at q1
    · next z hz =>
      rw [asc_lookup] at hz
      obtain ⟨u, hu, ru⟩ := rf.lookup hz
      exact ⟨a, _, dx, vs, u, rfl, hl, (hc _ hm).1, (hc _ hm).2, hu, q1 ρ1 u H1 x1 r1 ru⟩
    · exact q1.elim
  · exact q1.elim
def attrE (D : Den) (c : Cfg) (o : Expr) (m : Str) : DenE :=
  bif okBase o then (match asc c.g.prop m with
    | some p => bif Nat.ble (p.2.k + 1) c.j then dProp p.1 p.2.n p.2.F (D.e c o) else bad
    | none => match asc c.g.fld m with
      | some cs => dFldL cs m (D.e c o)
      | none => bad) else bad
theorem attrE_ok (ok : D.Ok) (M : Mat c X) (o : Expr) (m : Str) : CE X (.Attribute o m pos) (attrE D c o m) := by
  unfold attrE
  refine bif_if (fun hb => ?_) fun _ => ce_b
  split
  · next p hp =>
    obtain ⟨cl, pf⟩ := M.pg.prop _ _ hp
    refine bif_if (fun hk => ?_) fun _ => ce_b
    obtain ⟨p', f, fd, ps, c1, c2, c3⟩ := pf.ex
    exact ce_prop cl c1 c3 (M.room.mono (ble1 hk)) c2 (ok.e M o) (base_ok hb m)
  · split
    · next cs hcs => exact ce_fldL (M.pg.fld _ _ hcs) (ok.e M o) (base_ok hb m)
    · exact ce_b
/-! ### methods -/
def dTIdxL (G : ST) (tl : List Addr) (d : DenE) (da : DenA) : DenE := fun s h => (d s h).bind fun p => match p.1 with
  | .k (.ref a) => bif memN tl a then (match G a with
    | some xs => match strsA xs with
      | some ys => (da s p.2).bind fun r => match r.1 with
        | [.str z] => (match idx ys z with
          | some j => .ok (.int (j : Nat), r.2)
          | none => .bad)
        | _ => .bad
      | none => .bad
    | none => .bad) else .bad
  | _ => .bad
theorem idx_min {z : Str} : ∀ {ys : List Str} {j : Nat}, idx ys z = some j → ∀ m, m < j → ys[m]? ≠ some z
  | [], _, h => by cases h
  | y :: r, j, h => by
    unfold idx at h
    cases hs : seq z y with
    | true => rw [hs] at h; cases h; exact fun m hm => absurd hm (Nat.not_lt_zero m)
    | false =>
      rw [hs] at h
      dsimp only [cond_false] at h
      split at h
      · next i hi =>
        cases h
        intro m hm
        cases m with
        | zero => intro e; exact seq_ne hs (Option.some.inj e).symm
        | succ m => exact idx_min hi m (Nat.lt_of_succ_lt_succ hm)
      · cases h
theorem ce_tidxL {cpos : Pos} {tl : List Addr} {da : DenA} (M : Mat c X) (hk : ∀ a, a ∈ tl → ∃ ob : Obj, X.K.lookup a = some ob ∧ ob.cls = .type "tuple" ∧ ob.dict = none) (h1 : CE X o de) (h2 : CA X (e :: es) da)
    (hp : ∀ {R : V → List V → Hp → VK → Prop}, MtR X "tuple.index" R → PE X (.Call (.Attribute o "index" apos) (e :: es) [] cpos) (tBM X.K "tuple" R (wpE X o) (wpA X (e :: es)))) : CE X (.Call (.Attribute o "index" apos) (e :: es) [] cpos) (dTIdxL c.g.G tl de da) := fun ρ s h σ H Q he hh qq => by
  refine ofE (hp mt_tup_index) (h1.then he hh qq fun x h1 ρ1 v H1 x1 r1 rv q1 => ?_)
  split at q1
  · next a e1 =>
    have e1 : x = .k (.ref a) := e1
    subst e1
    obtain ⟨hb, q1⟩ := bif_ok q1
    cases rv
    split at q1
    · next xs hxs =>
      split at q1
      · next ys hys =>
        obtain ⟨vs, rr, sq⟩ := M.pg.G _ _ hxs
        have ev' := strsA_ok (rr ρ1) hys
        subst ev'
        refine ⟨.inr (.inl ⟨rfl, hk a (memN_iff hb)⟩), h2.then (he.up x1) r1 q1 fun zs h2 ρ2 us H2 x2 r2 ru q2 => ?_⟩
        split at q2
        · next z e2 =>
          have e2 : zs = [.str z] := e2
          subst e2
          split at q2
          · next j hj =>
            cases ru with
            | cons ra rb =>
              cases rb
              cases ra
              exact ⟨a, ys, z, j, rfl, rfl, sq H2, idx_at hj, idx_min hj, q2 ρ2 _ H2 (x1.trans x2) r2 (.int _)⟩
          · exact q2.elim
        · exact q2.elim
      · exact q1.elim
    · exact q1.elim
  · exact q1.elim
theorem ce_meth0 {k n : Nat} {C f : Addr} {fd : FuncData} {ps : List Str} {F : FnF} (cl : Cls X.K C) (hm : Meth X.K C m f) (Fn : FnOk X.prog X.w X.K X.mg X.base CX0 k f fd ps (spF n F)) (hr : Room k X.A) (hb : Binds X.K fd ps []) (h1 : CE X o de)
    (ht : PE X (.Call (.Attribute o m apos) [] [] pos) (tMeth C m (spF n F) [] E0 (wpE X o) tNil)) : CE X (.Call (.Attribute o m apos) [] [] pos) (dMeth C m n F de dNil) := fun ρ s h σ H Q he hh qq => by
  refine ofE ht (h1.then he hh qq fun y h1 ρ1 v H1 x1 r1 rv q1 => ?_)
  split at q1
  · next fs hfs =>
    obtain ⟨i, a, dx, vs, _, rfl, hi, rf, hl⟩ := insOf_ok r1 rv hfs
    split at q1
    · next hn => exact ⟨a, dx, vs, rfl, hl, rf.lookup_none hn, spF_of (E := E0) (xs := [y]) x1 r1 (.cons rv .nil) q1⟩
    · exact q1.elim
  · exact q1.elim
theorem form_ok {cpos : Pos} {args : List Expr} (hst : args.any isStar = false) (hl : args.length < 30) : methodCallForm (args.length + ([] : List Keyword).length) (backTo cpos (starEach args X.env)) (backToKw cpos (keywordEach [] X.env)) = true := by
  have h1 : (backTo cpos (starEach args X.env)).all (fun x => !x.1) = true := by
    have := noStars (pos := cpos) (env := X.env) hst
    rw [List.all_eq_not_any_not]
    simpa using this
  unfold methodCallForm
  rw [h1]
  simpa [keywordEach, backToKw] using hl
theorem meth_eval {cpos : Pos} {args : List Expr} (hb : okBase o = true) (hst : args.any isStar = false) (hl : args.length < 30) (hline : (apos.endLine == cpos.line) = true) : ∃ pl : Sem Bool, eval (.Call (.Attribute o m apos) args [] cpos) X.env = (do
      let ov ← eval o X.env
      standAt apos.atName
      let (f, first) ← holding [ov] (getMethod ov m pl)
      callWith cpos f first (backTo cpos (starEach args X.env)) (backToKw cpos (keywordEach [] X.env))) := by
  refine ⟨(do return (← importBound o X.env).getD true), ?_⟩
  show (do
    let ov ← attributeBase o m X.env (eval o X.env)
    standAt apos.atName
    methodCall o m apos cpos X.env ov (args.length + ([] : List Keyword).length) (backTo cpos (starEach args X.env)) (backToKw cpos (keywordEach [] X.env))) = _
  rw [base_ok hb m]
  unfold methodCall
  rw [form_ok hst hl]
  unfold methodCallPos
  rw [hline]
  rfl
end
end Z
end

section
set_option linter.all false
set_option maxRecDepth 100000
set_option maxHeartbeats 2000000
namespace Z
open PySem L2 PyProof.Rows ClX
variable [Scr]
section
variable {D : Den} {c : Cfg} {X : Cx} {e a b o f' : Expr} {es : List Expr} {pos apos cpos q : Pos} {x m : Str} {de da db : DenE}
/-! ### method calls -/
def isGN (c : Cfg) : Expr → Bool
  | .Name x _ => isGl c x
  | _ => false
def bmE (D : Den) (c : Cfg) (o : Expr) (m : Str) (args : List Expr) : DenE := match args with
  | [] => bif seq m "clear" then dLM lmClear (D.e c o) dNil else bad
  | [e] => bif seq m "append" then dLM lmAppend (D.e c o) (D.a c [e]) else
    bif seq m "index" then dTIdxL c.g.G c.g.tl (D.e c o) (D.a c [e]) else bad
  | [e, f] => bif seq m "get" then dDGet2 (D.e c o) (D.e c e) (D.e c f) else bad
  | _ => bad
def mthE (D : Den) (c : Cfg) (o : Expr) (m : Str) (args : List Expr) (line : Bool) : DenE :=
  bif okBase o && (!args.any isStar && (Nat.ble args.length 29 && line)) then
    (match asc c.g.sm m with
    | some p => bif Nat.ble p.2.k c.j then (match args with
      | [] => bif isGN c o then dSm0 p.1 p.2.F (D.e c o) else dSm1 p.1 m p.2.F (D.e c o)
      | _ => bad) else bad
    | none => match asc c.g.meth m with
      | some p => bif Nat.ble p.2.k c.j then (match args with
        | [] => dMeth p.1 m p.2.n p.2.F (D.e c o) dNil
        | e :: es => dMeth p.1 m p.2.n p.2.F (D.e c o) (D.a c (e :: es))) else bad
      | none => bmE D c o m args) else bad
theorem bmE_ok (ok : D.Ok) (M : Mat c X) {args : List Expr} (hb : okBase o = true) (hst : args.any isStar = false) (hl : args.length < 30) (hline : (apos.endLine == cpos.line) = true) : CE X (.Call (.Attribute o m apos) args [] cpos) (bmE D c o m args) := by
  unfold bmE
  split
  · refine bif_if (fun h => ?_) fun _ => ce_b
    have := seq_eq h; subst this
    exact ce_clear (ok.e M o) (pe_bm0 PySem.F.plainAttrs_list PySem.F.slot_list_clear PySem.F.type_list_clear mt_clear (peW _) (base_ok hb _) hline)
  · next e =>
    have hs : isStar e = false := by simpa using hst
    refine bif_if (fun h => ?_) fun _ => bif_if (fun h => ?_) fun _ => ce_b
    · have := seq_eq h; subst this
      exact ce_lm (id := "list.append") lm_append (ok.e M o) (ok.a M _) (pe_bm PySem.F.plainAttrs_list PySem.F.slot_list_append PySem.F.type_list_append mt_append (peW _) (paW _) (base_ok hb _) (form_ok hst hl) hline (star1 hs _ _) rfl)
    · have := seq_eq h; subst this
      exact ce_tidxL M M.pg.tl (ok.e M o) (ok.a M _) fun hR => pe_bm PySem.F.plainAttrs_tuple PySem.F.slot_tuple_index PySem.F.type_tuple_index hR (peW _) (paW _) (base_ok hb _) (form_ok hst hl) hline (star1 hs _ _) rfl
  · next e f =>
    have hs : isStar e = false ∧ isStar f = false := by simpa using hst
    refine bif_if (fun h => ?_) fun _ => ce_b
    have := seq_eq h; subst this
    exact ce_dget2 (M.un (by decide)) (ok.e M o) (ok.e M e) (ok.e M f) ⟨base_ok hb _, form_ok hst hl, hline, by rw [star1 hs.1, star1 hs.2]; rfl⟩
  · exact ce_b
theorem mthE_ok (ok : D.Ok) (M : Mat c X) (o : Expr) (m : Str) (args : List Expr) : CE X (.Call (.Attribute o m apos) args [] cpos) (mthE D c o m args (apos.endLine == cpos.line)) := by
  unfold mthE
  refine bif_if (fun h => ?_) fun _ => ce_b
  obtain ⟨hb, h⟩ := and2 h
  obtain ⟨hst, h⟩ := and2 h
  obtain ⟨hl, hline⟩ := and2 h
  have hst := not1 hst
  have hl : args.length < 30 := by have := ble1 hl; omega
  split
  · next p hp =>
    obtain ⟨p', f, fd, ps, mc, c1, c2, c3, c4, c5, c6, c7, c8, c9, c10, c11, c12, c13⟩ := (M.pg.sm _ _ hp).ex
    refine bif_if (fun hk => ?_) fun _ => ce_b
    split
    · obtain ⟨pl, ht⟩ := meth_eval (X := X) (m := m) hb hst hl hline
      refine bif_if (fun _ => ?_) fun _ => ?_
      · exact ce_sm0 (ok.e M o) (pe_sm0 (peW o) c1 c2 c3 c11 c13 (M.room.mono (ble1 hk)) c12 ht)
      · exact ce_sm1 (ok.e M o) (pe_sm1 (peW o) c4 c5 c6 c7 c8 c9 c10 c3 c11 c13 (M.room.mono (ble1 hk)) c12 ht)
    · exact ce_b
  · split
    · next p hp =>
      obtain ⟨cl, mf⟩ := M.pg.meth _ _ hp
      obtain ⟨f, fd, ps, c1, c2, c3, c4, c5, c6⟩ := mf.ex
      refine bif_if (fun hk => ?_) fun _ => ce_b
      obtain ⟨pl, ht⟩ := meth_eval (X := X) (m := m) hb hst hl hline
      split
      · exact ce_meth0 cl ⟨c1, c2, c4⟩ c6 (M.room.mono (ble1 hk)) c5 (ok.e M o) (pe_meth0 (E := E0) (peW o) cl ⟨c1, c2, c4⟩ c6 (M.room.mono (ble1 hk)) c5 .nil pass0 ht)
      · next e es =>
        rw [List.any_cons, Bool.or_eq_false_iff] at hst
        exact ce_meth cl ⟨c1, c2, c4⟩ c6 (M.room.mono (ble1 hk)) c5 (ok.e M o) (ok.a M _) (pe_meth (E := E0) (peW o) cl ⟨c1, c2, c4⟩ c6 (M.room.mono (ble1 hk)) c5 .nil pass0 (paW _) (star1 hst.1 _ _) (noStars hst.2) ht)
    · exact bmE_ok ok M hb hst hl hline
/-! ### and, or; comparisons -/
def boolE (D : Den) (c : Cfg) (op : BoolOp) : List Expr → DenE
  | [] => bad
  | [a] => D.e c a
  | a :: b :: r => match op with
    | .And => dAnd (D.e c a) (boolE D c op (b :: r))
    | .Or => dOr (D.e c a) (boolE D c op (b :: r))
theorem boolE_ok (ok : D.Ok) (M : Mat c X) (op : BoolOp) : ∀ es : List Expr, CE X (.BoolOp op es pos) (boolE D c op es)
  | [] => ce_b
  | [a] => ce_one (ok.e M a)
  | a :: b :: r => by
    cases op with
    | And => exact ce_and (ok.e M a) (boolE_ok ok M _ (b :: r))
    | Or => exact ce_or (ok.e M a) (boolE_ok ok M _ (b :: r))
def boolW (D : Den) (c : Cfg) (op : BoolOp) : List Expr → DenB
  | [] => bad
  | [a] => D.t c a
  | a :: b :: r => match op with
    | .And => dAndB (D.t c a) (boolW D c op (b :: r))
    | .Or => dOrB (D.t c a) (boolW D c op (b :: r))
theorem boolW_ok (ok : D.Ok) (M : Mat c X) (op : BoolOp) : ∀ es : List Expr, CW X (.BoolOp op es pos) (boolW D c op es)
  | [] => fun ρ s h σ H Q he hh q => q.elim
  | [a] => by
    cases op with
    | And => exact cw_and1 (ok.t M a)
    | Or => exact cw_or1 (ok.t M a)
  | a :: b :: r => by
    cases op with
    | And => exact cw_and (ok.t M a) (boolW_ok ok M _ (b :: r))
    | Or => exact cw_or (ok.t M a) (boolW_ok ok M _ (b :: r))
def intO : CmpOp → Option (Int → Int → Bool)
  | .Lt => some fun i j => decide (i < j)
  | .LtE => some fun i j => decide (i ≤ j)
  | .Gt => some fun i j => decide (i > j)
  | .GtE => some fun i j => decide (i ≥ j)
  | _ => none
theorem intO_ok {op : CmpOp} {g : Int → Int → Bool} (h : intO op = some g) : OpR X (compareOp op) (rI0 fun i j => .bl (g i j)) := by
  cases op <;> cases h
  · exact op_lt
  · exact op_le
  · exact op_gt
  · exact op_ge
def cmpE (D : Den) (c : Cfg) (a : Expr) : List CmpOp → List Expr → DenE
  | [op], [b] => bif behindInMarks op b then bad else (match cmpO c op with
    | some f => dOp f (D.e c a) (D.e c b)
    | none => bad)
  | [op, op'], [b, d] => bif lastMarks [op, op'] [b, d] then bad else (match intO op, intO op' with
    | some g, some g' => dChain g g' (D.e c a) (D.e c b) (D.e c d)
    | _, _ => bad)
  | _, _ => bad
theorem cmpE_ok (ok : D.Ok) (M : Mat c X) (a : Expr) (ops : List CmpOp) (bs : List Expr) : CE X (.Compare a ops bs pos) (cmpE D c a ops bs) := by
  unfold cmpE
  split
  · refine bif_if (fun _ => ce_b) fun hm => ?_
    split
    · next f hf =>
      obtain ⟨R, h1, h2⟩ := cmpO_ok M hf
      exact ce_cmp h1 h2 hm (ok.e M _) (ok.e M _)
    · exact ce_b
  · refine bif_if (fun _ => ce_b) fun hm => ?_
    split
    · next g g' h1 h2 => exact ce_chain hm (intO_ok h1) (intO_ok h2) (ok.e M _) (ok.e M _) (ok.e M _)
    · exact ce_b
  · exact ce_b
theorem cmpT_ok (ok : D.Ok) (M : Mat c X) (a : Expr) (ops : List CmpOp) (bs : List Expr) : CT X (.Compare a ops bs pos) (dB (cmpE D c a ops bs)) := by
  unfold cmpE
  split
  · refine bif_if (P := fun d => CT X _ (dB d)) (fun _ => fun ρ s h σ H Q he hh q => q.elim) fun hm => ?_
    split
    · next f hf =>
      obtain ⟨R, h1, h2⟩ := cmpO_ok M hf
      exact ct_cmp h1 h2 hm (ok.e M _) (ok.e M _)
    · exact fun ρ s h σ H Q he hh q => q.elim
  · refine bif_if (P := fun d => CT X _ (dB d)) (fun _ => fun ρ s h σ H Q he hh q => q.elim) fun hm => ?_
    split
    · next g g' h1 h2 => exact ct_chain hm (intO_ok h1) (intO_ok h2) (ok.e M _) (ok.e M _) (ok.e M _)
    · exact fun ρ s h σ H Q he hh q => q.elim
  · exact fun ρ s h σ H Q he hh q => q.elim
/-! ### dict displays -/
def pairP (D : Den) (c : Cfg) : List (Option Expr) → List Expr → DenP
  | some k :: ks, v :: vs => dpCons (D.e c k) (D.e c v) (pairP D c ks vs)
  | _, _ => dpNil
theorem pairP_ok (ok : D.Ok) (M : Mat c X) : ∀ (ks : List (Option Expr)) (vs : List Expr), ks.all (·.isSome) = true → ks.length = vs.length → CP X pos ks vs (pairP D c ks vs)
  | [], [], _, _ => cp_nil
  | [], _ :: _, _, h => by cases h
  | _ :: _, [], _, h => by cases h
  | none :: ks, _, h, _ => by cases (and2 (List.all_cons ▸ h)).1
  | some k :: ks, v :: vs, h, hl => cp_cons (ok.e M k) (ok.e M v) (pairP_ok ok M ks vs (and2 (List.all_cons ▸ h)).2 (Nat.succ.inj hl))
def dictE (D : Den) (c : Cfg) (ks : List (Option Expr)) (vs : List Expr) : DenE := match ks, vs with
  | [none, none], [a, b] => dDict2 (D.e c a) (D.e c b)
  | ks, vs => bif ks.all (·.isSome) && (Nat.beq ks.length vs.length && (Nat.ble 1 ks.length && Nat.ble ks.length 15)) then dDisp (pairP D c ks vs) else bad
theorem dictE_ok (ok : D.Ok) (M : Mat c X) (ks : List (Option Expr)) (vs : List Expr) : CE X (.Dict ks vs pos) (dictE D c ks vs) := by
  unfold dictE
  split
  · exact ce_dict2 (ok.e M _) (ok.e M _)
  refine bif_if (fun h => ?_) fun _ => ce_b
  obtain ⟨h1, h⟩ := and2 h
  obtain ⟨h2, h⟩ := and2 h
  obtain ⟨h3, h4⟩ := and2 h
  exact ce_disp (pairP_ok ok M ks vs h1 (Nat.eq_of_beq_eq_true h2)) h1 (Nat.eq_of_beq_eq_true h2) (fun z => by rw [z] at h3; cases h3) (ble1 h4)
/-! ### what is walked -/
def isTupE : Expr → Bool
  | .Tuple _ _ _ => true
  | _ => false
def callI (D : Den) (c : Cfg) (tg : Expr) (x : Str) (args : List Expr) : Option DenI :=
  bif dbg x || (!isGl c x || (!memS c.g.un x || args.any isStar)) then none else
  bif seq x "range" then (match args with
    | [a] => some (dR1 (D.a c [a]))
    | [a, b] => some (dR2 (D.a c [a, b]))
    | _ => some bad)
  else bif seq x "enumerate" then (match args with
    | [a] => bif isTupE tg then some (dEnum c.g.G (D.a c [a])) else some bad
    | _ => some bad)
  else bif seq x "zip" then (match args with
    | [a, b] => bif isTupE tg then some (dZipTL c.g.G (D.a c [a, b])) else some bad
    | _ => some bad)
  else none
theorem callI_ok (ok : D.Ok) (M : Mat c X) {tg : Expr} {x : Str} {args : List Expr} {di : DenI} (h : callI D c tg x args = some di) : CI X tg (.Call (.Name x q) args [] pos) di := by
  unfold callI at h
  cases h0 : dbg x || (!isGl c x || (!memS c.g.un x || args.any isStar)) with
  | true => rw [h0] at h; cases h
  | false =>
    rw [h0] at h
    dsimp only [cond_false] at h
    rw [Bool.or_eq_false_iff, Bool.or_eq_false_iff, Bool.or_eq_false_iff] at h0
    obtain ⟨hd, hg, hu, hst⟩ := h0
    have hg := M.glob (isGl_ok (by simpa using hg))
    have hu := M.pg.un _ (by simpa using hu)
    cases h1 : seq x "range" with
    | true =>
      rw [h1] at h
      dsimp only [cond_true] at h
      have := seq_eq h1; subst this
      split at h
      · next a =>
        cases h
        have hs : isStar a = false := by simpa using hst
        exact ci_r1 hg hu (ok.a M _) (star1 hs _ _)
      · next a b =>
        cases h
        have hs : isStar a = false ∧ isStar b = false := by simpa using hst
        exact ci_r2 hg hu (ok.a M _) (by rw [star1 hs.1, star1 hs.2]; rfl) (star1 hs.2 _ _)
      · cases h; exact ci_bad
    | false =>
      rw [h1] at h
      dsimp only [cond_false] at h
      cases h2 : seq x "enumerate" with
      | true =>
        rw [h2] at h
        dsimp only [cond_true] at h
        have := seq_eq h2; subst this
        split at h
        · next a =>
          have hs : isStar a = false := by simpa using hst
          cases ht : isTupE tg with
          | true =>
            rw [ht] at h
            cases h
            cases tg <;> first | cases ht | skip
            exact ci_enum M.pg.G hg hu (ok.a M _) (star1 hs _ _)
          | false => rw [ht] at h; cases h; exact ci_bad
        · cases h; exact ci_bad
      | false =>
        rw [h2] at h
        dsimp only [cond_false] at h
        cases h3 : seq x "zip" with
        | true =>
          rw [h3] at h
          dsimp only [cond_true] at h
          have := seq_eq h3; subst this
          split at h
          · next a b =>
            have hs : isStar a = false ∧ isStar b = false := by simpa using hst
            cases ht : isTupE tg with
            | true =>
              rw [ht] at h
              cases h
              cases tg <;> first | cases ht | skip
              exact ci_zipTL M.pg.G hg hu (ok.a M _) (pi_zipTL hg hu (paW _) (star1 hs.1 _ _) (noStars (by simpa using hs.2)))
            | false => rw [ht] at h; cases h; exact ci_bad
          · cases h; exact ci_bad
        | false => rw [h3] at h; cases h
def iterE (D : Den) (c : Cfg) (tg it : Expr) : DenI := match it with
  | .Call (.Name x _) args [] _ => (match callI D c tg x args with
    | some d => d
    | none => dSeqI c.g.G (D.e c it))
  | _ => dSeqI c.g.G (D.e c it)
theorem iterE_ok (ok : D.Ok) (M : Mat c X) (tg it : Expr) : CI X tg it (iterE D c tg it) := by
  unfold iterE
  split
  · split
    · next d hd => exact callI_ok ok M hd
    · exact ci_seq M.pg.G (ok.e M _)
  · exact ci_seq M.pg.G (ok.e M _)
def isSetE : Expr → Bool
  | .Set _ _ _ => true
  | _ => false
theorem fold_ok {it : Expr} (h : isSetE it = false) (env : Env) (x : Value) : foldedSetIterable it env x = pure x := by
  cases it <;> first | rfl | cases h
/-! ### comprehensions -/
def ifsT (D : Den) (c : Cfg) : List Expr → DenB
  | [] => dTrue
  | [t] => D.t c t
  | _ => bad
theorem ifsT_ok (ok : D.Ok) (M : Mat c X) : ∀ ifs : List Expr, CTs X ifs (ifsT D c ifs)
  | [] => cts_nil
  | [t] => cts_one (ok.t M t)
  | _ :: _ :: _ => fun ρ s h σ H Q he hh q => q.elim
def ownOf (c : Cfg) : List (Str × NameKind) → List (Str × Nat)
  | [] => []
  | p :: r => match p.2 with
    | .local => (match idx c.N p.1 with
      | some i => (p.1, i) :: ownOf c r
      | none => ownOf c r)
    | .cell => (match idx c.N p.1 with
      | some i => (p.1, i) :: ownOf c r
      | none => ownOf c r)
    | _ => ownOf c r
def kindF : ScopeKind → Bool
  | .function => true
  | _ => false
theorem kindF_ok {k : ScopeKind} (h : kindF k = true) : k = .function := by cases k <;> first | rfl | cases h
def subN (is vs : List Nat) : Bool := is.all (memN vs)
theorem subN_ok {is vs : List Nat} (h : subN is vs = true) : ∀ i, i ∈ is → i ∈ vs := fun i hi => memN_iff (List.all_eq_true.mp h i hi)
def lc1 (D : Den) (c : Cfg) (elt tg it : Expr) (ifs : List Expr) (scope : Scope) : DenE :=
  match tgE (c.blk scope) 8 tg with
  | some t => bif kindF scope.kind && (!isSetE it && (blkB c.N c.sc scope (ownOf c scope.names) && subN t.is ((ownOf c scope.names).map (·.2)))) then
      dLc (iterE D c tg it) (t.dg c.g.G) ((ownOf c scope.names).map (·.2)) (ifsT D (c.blk scope) ifs) (D.e (c.blk scope) elt) else bad
  | none => bad
theorem lc1_ok (ok : D.Ok) (M : Mat c X) (elt tg it : Expr) (ifs : List Expr) (scope : Scope) : CE X (.ListComp elt [⟨tg, it, ifs, 0⟩] scope pos) (lc1 D c elt tg it ifs scope) := by
  unfold lc1
  split
  · next t ht =>
    refine bif_if (fun h => ?_) fun _ => ce_b
    obtain ⟨h1, h⟩ := and2 h
    obtain ⟨h2, h⟩ := and2 h
    obtain ⟨h3, h4⟩ := and2 h
    have hk := kindF_ok h1
    refine ce_lc M.calm M.ndX (iterE_ok ok M tg it) (by rw [M.N, M.sc]; exact blkOk h3) (t := t.tg X.K) (is := t.is) (fun s H C cl fp => tgE_ok (M.blk hk s H C cl fp) 8 tg t ht) (Tg.gk M.pg.G t) (subN_ok h4) (fun s H C cl fp => ifsT_ok ok (M.blk hk s H C cl fp) ifs) (fun s H C cl fp => ok.e (M.blk hk s H C cl fp) elt) fun x => fold_ok (not1 h2) X.env x
  · exact ce_b
theorem lc1S_ok (ok : D.Ok) (M : Mat c X) {i : Nat} {y : Str} {py spos : Pos} (elt tg it : Expr) (ifs : List Expr) (scope : Scope) (hy : nameL c y = some i) (hsw : swapsWith (.ListComp elt [⟨tg, it, ifs, 0⟩] scope pos) (some (.Name y py)) spos.line X.env = pure true) :
    CS X (.Assign [.Name y py] (.ListComp elt [⟨tg, it, ifs, 0⟩] scope pos) spos) (dAsg (lc1 D c elt tg it ifs scope) (dgN i)) := by
  unfold lc1
  split
  · next t ht =>
    refine bif_if (P := fun d => CS X _ (dAsg d (dgN i))) (fun h => ?_) fun _ => fun ρ s h σ H D he hh q => q.elim
    obtain ⟨h1, h⟩ := and2 h
    obtain ⟨h2, h⟩ := and2 h
    obtain ⟨h3, h4⟩ := and2 h
    have hk := kindF_ok h1
    obtain ⟨n1, n2⟩ := nameL_ok M hy
    refine cs_setLc M.calm M.ndX n1 n2 hsw (iterE_ok ok M tg it) (by rw [M.N, M.sc]; exact blkOk h3) (t := t.tg X.K) (is := t.is) (fun s H C cl fp => tgE_ok (M.blk hk s H C cl fp) 8 tg t ht) (Tg.gk M.pg.G t) (subN_ok h4) (fun s H C cl fp => ifsT_ok ok (M.blk hk s H C cl fp) ifs) (fun s H C cl fp => ok.e (M.blk hk s H C cl fp) elt) fun x => fold_ok (not1 h2) X.env x
  · exact fun ρ s h σ H D he hh q => q.elim
def lc2 (D : Den) (c : Cfg) (elt tg it : Expr) (ifs : List Expr) (tg1 it1 : Expr) (ifs1 : List Expr) (scope : Scope) : DenE :=
  match tgE (c.blk scope) 8 tg, tgE (c.blk scope) 8 tg1 with
  | some t, some t1 => bif kindF scope.kind && (!isSetE it && (!isSetE it1 && (blkB c.N c.sc scope (ownOf c scope.names) && (subN t.is ((ownOf c scope.names).map (·.2)) && subN t1.is ((ownOf c scope.names).map (·.2)))))) then
      dLc2 (iterE D c tg it) (t.dg c.g.G) ((ownOf c scope.names).map (·.2)) (ifsT D (c.blk scope) ifs) (iterE D (c.blk scope) tg1 it1) (t1.dg c.g.G) t1.is (ifsT D (c.blk scope) ifs1) (D.e (c.blk scope) elt) else bad
  | _, _ => bad
theorem lc2_ok' (ok : D.Ok) (M : Mat c X) (elt tg it : Expr) (ifs : List Expr) (tg1 it1 : Expr) (ifs1 : List Expr) (scope : Scope) : CE X (.ListComp elt [⟨tg, it, ifs, 0⟩, ⟨tg1, it1, ifs1, 0⟩] scope pos) (lc2 D c elt tg it ifs tg1 it1 ifs1 scope) := by
  unfold lc2
  split
  · next t t1 ht ht1 =>
    refine bif_if (fun h => ?_) fun _ => ce_b
    obtain ⟨h1, h⟩ := and2 h
    obtain ⟨h2, h⟩ := and2 h
    obtain ⟨h3, h⟩ := and2 h
    obtain ⟨h4, h⟩ := and2 h
    obtain ⟨h5, h6⟩ := and2 h
    have hk := kindF_ok h1
    refine ce_lc2 M.calm M.ndX (iterE_ok ok M tg it) (by rw [M.N, M.sc]; exact blkOk h4) (vs1 := t1.is) (subN_ok h6) (t := t.tg X.K) (is := t.is) (t1 := t1.tg X.K) (is1 := t1.is) (fun s H C cl fp => tgE_ok (M.blk hk s H C cl fp) 8 tg t ht) (Tg.gk M.pg.G t) (subN_ok h5) (fun s H C cl fp => ifsT_ok ok (M.blk hk s H C cl fp) ifs) (fun s H C cl fp => iterE_ok ok (M.blk hk s H C cl fp) tg1 it1)
      (fun s H C cl fp => tgE_ok (M.blk hk s H C cl fp) 8 tg1 t1 ht1) (Tg.gk M.pg.G t1) (fun _ z => z) (fun s H C cl fp => ifsT_ok ok (M.blk hk s H C cl fp) ifs1) (fun s H C cl fp => ok.e (M.blk hk s H C cl fp) elt) (fun x => fold_ok (not1 h2) X.env x) fun env x => fold_ok (not1 h3) env x
  · exact ce_b
def lcE (D : Den) (c : Cfg) (elt : Expr) (gens : List Comprehension) (scope : Scope) : DenE := match gens with
  | [⟨tg, it, ifs, 0⟩] => lc1 D c elt tg it ifs scope
  | [⟨tg, it, ifs, 0⟩, ⟨tg1, it1, ifs1, 0⟩] => lc2 D c elt tg it ifs tg1 it1 ifs1 scope
  | _ => bad
theorem lcE_ok (ok : D.Ok) (M : Mat c X) (elt : Expr) (gens : List Comprehension) (scope : Scope) : CE X (.ListComp elt gens scope pos) (lcE D c elt gens scope) := by
  unfold lcE
  split
  · exact lc1_ok ok M elt _ _ _ scope
  · exact lc2_ok' ok M elt _ _ _ _ _ _ scope
  · exact ce_b
/-! ### expressions, tests -/
def exprE (D : Den) (c : Cfg) : Expr → DenE
  | .Name x _ => nameE c x
  | .Constant k _ _ => constE k
  | .Call f args kws pos => (match kws with
    | [] => (match f with
      | .Name x _ => callN D c x args
      | .Attribute o m apos => mthE D c o m args (apos.endLine == pos.line)
      | _ => bad)
    | _ => bad)
  | .Attribute o m _ => attrE D c o m
  | .BoolOp op es _ => boolE D c op es
  | .UnaryOp op e _ => (match op with
    | .Not => dNot (D.e c e)
    | _ => bad)
  | .IfExp t a b _ => dIf (D.t c t) (D.e c a) (D.e c b)
  | .BinOp a op b _ => (match binO c op with
    | some f => dOp f (D.e c a) (D.e c b)
    | none => bad)
  | .Compare a ops bs _ => cmpE D c a ops bs
  | .Subscript a b _ => bif isSlice b then bad else dOp (fSub c.g c.j c.g.items) (D.e c a) (D.e c b)
  | .List es _ => dNew .lst (D.a c es)
  | .Tuple es _ _ => dNew .tup (D.a c es)
  | .Dict ks vs _ => dictE D c ks vs
  | .ListComp elt gens scope _ => lcE D c elt gens scope
  | _ => bad
theorem exprE_ok (ok : D.Ok) (M : Mat c X) (e : Expr) : CE X e (exprE D c e) := by
  unfold exprE
  split
  · exact nameE_ok M
  · exact constE_ok
  · split
    · split
      · exact callN_ok ok M _ _
      · exact mthE_ok ok M _ _ _
      · exact ce_b
    · exact ce_b
  · exact attrE_ok ok M _ _
  · exact boolE_ok ok M _ _
  · split
    · exact ce_not (ok.e M _)
    · exact ce_b
  · exact ce_if (ok.t M _) (ok.e M _) (ok.e M _)
  · split
    · next f hf =>
      obtain ⟨R, h1, h2⟩ := binO_ok M hf
      exact ce_bin h1 h2 (ok.e M _) (ok.e M _)
    · exact ce_b
  · exact cmpE_ok ok M _ _ _
  · refine bif_if (fun _ => ce_b) fun hs => ?_
    obtain ⟨R, h1, h2⟩ := fSub_ok M c.g.items fun _ z => z
    exact ce_op (t := tOp R) (fun _ _ ha hb => pe_sub h1 hs ha hb) (fun _ _ _ _ _ h => h) h2 (ok.e M _) (ok.e M _)
  · exact ce_lst (ok.a M _)
  · exact ce_tup (ok.a M _)
  · exact dictE_ok ok M _ _
  · exact lcE_ok ok M _ _ _
  · exact ce_b
def testT (D : Den) (c : Cfg) : Expr → DenB
  | .BoolOp op es _ => boolW D c op es
  | .UnaryOp op e _ => (match op with
    | .Not => dNotB (D.t c e)
    | _ => bad)
  | .Compare a ops bs _ => dB (cmpE D c a ops bs)
  | .IfExp _ _ _ _ => bad
  | e => dB (D.e c e)
theorem testT_ok (ok : D.Ok) (M : Mat c X) (e : Expr) : CT X e (testT D c e) := by
  unfold testT
  split
  · exact cw_t (boolW_ok ok M _ _)
  · split
    · exact ct_not (ok.t M _)
    · exact ct_b
  · exact cmpT_ok ok M _ _ _
  · exact ct_b
  · next h1 h2 h3 h4 =>
    refine ct_val (ok.e M _) ?_
    intro whole
    cases e <;> first | rfl | exact (h1 _ _ _ rfl).elim | exact (h2 _ _ _ rfl).elim | exact (h3 _ _ _ _ rfl).elim | exact (h4 _ _ _ _ rfl).elim
end
end Z
end

section
set_option linter.all false
set_option maxRecDepth 100000
set_option maxHeartbeats 2000000
namespace Z
open PySem L2 PyProof.Rows ClX
variable [Scr]
section
variable {D : Den} {c : Cfg} {X : Cx} {e a b o f' value : Expr} {es : List Expr} {pos apos cpos q : Pos} {x m : Str} {de dv db : DenE}
theorem cs_b {st : Stmt} : CS X st bad := cs_bad
/-! ### assignments -/
def isComp : Expr → Bool
  | .ListComp _ _ _ _ => true
  | .SetComp _ _ _ _ => true
  | .DictComp _ _ _ _ _ => true
  | _ => false
theorem sw_no {v : Expr} {t : Option Expr} {l : Nat} {env : Env} (h : isComp v = false) : swapsWith v t l env = pure false := by
  cases v <;> first | rfl | cases h
theorem sw_attr {v : Expr} {l : Nat} {env : Env} : swapsWith v (some (.Attribute o m apos)) l env = pure false := by
  cases v <;> rfl
def swB (c : Cfg) (y : Str) (py vpos : Pos) (scope : Scope) : Bool :=
  (kd c y == some .local) && ((py.line == vpos.line) && !(scope.names.any fun p => p.1 == y && (p.2 == .local || p.2 == .cell)))
theorem sw_lc (M : Mat c X) {elt : Expr} {gens : List Comprehension} {scope : Scope} {vpos py : Pos} {y : Str} {l : Nat} : swapsWith (.ListComp elt gens scope vpos) (some (.Name y py)) l X.env = pure (swB c y py vpos scope) := by
  have hb : X.env.blockKind = .function := by
    unfold Env.blockKind
    rw [M.sc, M.fun_]
    rfl
  have hk : X.env.kindOf y = kd c y := M.kd y
  show (pure (X.env.blockKind == .function && X.env.kindOf y == some .local && py.line == vpos.line && !(scope.names.any fun (n, k) => n == y && (k == .local || k == .cell))) : Sem Bool) = _
  rw [hb, hk]
  unfold swB
  congr 1
  have h1 : (ScopeKind.function == ScopeKind.function) = true := rfl
  rw [h1, Bool.true_and, Bool.and_assoc]
def dFldSL (cs : List Addr) (g : Str) (dv d : DenE) : DenS := fun s h => (dv s h).bind fun r => (d s r.2).bind fun p => match p.1 with
  | .r i => match insL cs p.2 p.1 with
    | some q => bif Nat.ble 1000 q.2.length then .bad else .ok (.nx s, p.2.set i (.ins q.1 (putA g r.1 q.2)))
    | none => .bad
  | _ => .bad
theorem cs_fldL {cs : List Addr} (hc : ∀ C, C ∈ cs → Cls X.K C ∧ NoAttr X.K C m) (h1 : CE X value dv) (h2 : CE X o de) : CS X (.Assign [.Attribute o m apos] value pos) (dFldSL cs m dv de) := fun ρ s h σ H D he hh qq => by
  refine ofS (ps_fld (peW o) (peW value) sw_attr) (h1.then he hh qq fun y h1 ρ1 v H1 x1 r1 rv q1 => ?_)
  refine h2.then (he.up x1) r1 q1 fun z h2 ρ2 u H2 x2 r2 ru q2 => ?_
  split at q2
  · next i e1 =>
    have e1 : z = .r i := e1
    subst e1
    split at q2
    · next fs hfs =>
      obtain ⟨hm, j, a, dx, vs, ej, rfl, hi, rf, hl⟩ := insL_ok r2 ru hfs
      cases ej
      cases hb : Nat.ble 1000 fs.2.length with
      | true => rw [hb] at q2; exact q2.elim
      | false =>
        rw [hb] at q2
        have q2 : PD ρ D (.nx s, h2.set i (.ins fs.1 (putA m y fs.2))) := q2
        refine ⟨a, fs.1, dx, vs, rfl, hl, (hc _ hm).1, (hc _ hm).2, ?_, ?_⟩
        · rw [← rf.length]
          exact Nat.lt_of_not_le fun z => by rw [Nat.ble_eq_true_of_le z] at hb; cases hb
        · exact q2 ρ2 _ (x1.trans x2) (r2.set hi (.ins (rf.put (rv.up x2)) upd_same)) σ ((he.up x1).up x2)
    · exact q2.elim
  · exact q2.elim
theorem sws_no {t v : Expr} {env : Env} (h : isTupE v = false) : swappedStores [t] v env = pure none := by
  cases t <;> cases v <;> first | rfl | cases h
def notFold (a b : Expr) : Bool := !(foldedForSure 8 a && foldedForSure 8 b) && !(constantsAlone 8 a && constantsAlone 8 b)
def swap2 (c : Cfg) (x y : Str) (px py : Pos) (a b : Expr) : Bool :=
  !(seq x y) && ((py.line == px.line) && (!isStar a && (!isStar b && notFold a b)))
theorem swap2_ok (M : Mat c X) {y : Str} {px py pt : Pos} {kt k2 pt2} {i j : Nat} (hx : nameL c x = some i) (hy : nameL c y = some j) (h : swap2 c x y px py a b = true) : swappedStores [.Tuple [.Name x px, .Name y py] kt pt] (.Tuple [a, b] k2 pt2) X.env = pure (some [x, y]) := by
  obtain ⟨_, kx⟩ := nameL_ok M hx
  obtain ⟨_, ky⟩ := nameL_ok M hy
  have kx : X.env.kindOf x = some .local := kx
  have ky : X.env.kindOf y = some .local := ky
  have hb : X.env.blockKind = .function := by
    unfold Env.blockKind
    rw [M.sc, M.fun_]
    rfl
  unfold swap2 notFold at h
  simp only [Bool.and_eq_true, Bool.not_eq_true', beq_iff_eq] at h
  obtain ⟨h1, h2, h3, h4, h5, h6⟩ := h
  have h1 : x ≠ y := seq_ne h1
  have s3 : (match a with | .Starred .. => true | _ => false) = false := by cases a <;> first | rfl | cases h3
  have s4 : (match b with | .Starred .. => true | _ => false) = false := by cases b <;> first | rfl | cases h4
  have hbeq : (y == x) = false := beq_eq_false_iff_ne.mpr (Ne.symm h1)
  have hp1 : (Expr.Name x px).pos.line = px.line := rfl
  simp [swappedStores, hb, kx, ky, h2, h5, h6, List.eraseDups, List.eraseDupsBy, List.eraseDupsBy.loop, hbeq, hp1]
  intro hq
  exfalso
  rcases hq with hq | hq
  · cases a <;> first | exact (Bool.false_ne_true hq).elim | exact (Bool.false_ne_true h3.symm).elim
  · cases b <;> first | exact (Bool.false_ne_true hq).elim | exact (Bool.false_ne_true h4.symm).elim
def swap3 (c : Cfg) (x y z : Str) (px py pz : Pos) (a b d : Expr) : Bool :=
  !(seq x y) && (!(seq x z) && (!(seq y z) && ((py.line == px.line) && ((pz.line == px.line) && (!isStar a && (!isStar b && (!isStar d && (!(foldedForSure 8 a && (foldedForSure 8 b && foldedForSure 8 d)) && !(constantsAlone 8 a && (constantsAlone 8 b && constantsAlone 8 d))))))))))
theorem swap3_ok (M : Mat c X) {d : Expr} {y z : Str} {px py pz pt : Pos} {kt k2 pt2} {i j l : Nat} (hx : nameL c x = some i) (hy : nameL c y = some j) (hz : nameL c z = some l) (h : swap3 c x y z px py pz a b d = true) : swappedStores [.Tuple [.Name x px, .Name y py, .Name z pz] kt pt] (.Tuple [a, b, d] k2 pt2) X.env = pure (some [x, y, z]) := by
  obtain ⟨_, kx⟩ := nameL_ok M hx
  obtain ⟨_, ky⟩ := nameL_ok M hy
  obtain ⟨_, kz⟩ := nameL_ok M hz
  have kx : X.env.kindOf x = some .local := kx
  have ky : X.env.kindOf y = some .local := ky
  have kz : X.env.kindOf z = some .local := kz
  have hb : X.env.blockKind = .function := by
    unfold Env.blockKind
    rw [M.sc, M.fun_]
    rfl
  unfold swap3 at h
  simp only [Bool.and_eq_true, Bool.not_eq_true', beq_iff_eq] at h
  obtain ⟨h1, h1', h1'', h2, h2', h3, h4, h4', h5, h6⟩ := h
  have h1 : x ≠ y := seq_ne h1
  have h1' : x ≠ z := seq_ne h1'
  have h1'' : y ≠ z := seq_ne h1''
  have hbeq : (y == x) = false := beq_eq_false_iff_ne.mpr (Ne.symm h1)
  have hbeq2 : (z == x) = false := beq_eq_false_iff_ne.mpr (Ne.symm h1')
  have hbeq3 : (z == y) = false := beq_eq_false_iff_ne.mpr (Ne.symm h1'')
  have hp1 : (Expr.Name x px).pos.line = px.line := rfl
  simp [swappedStores, hb, kx, ky, kz, h2, h2', h5, h6, List.eraseDups, List.eraseDupsBy, List.eraseDupsBy.loop, hbeq, hbeq2, hbeq3, hp1]
  intro hq
  exfalso
  rcases hq with hq | hq | hq
  · cases a <;> first | exact (Bool.false_ne_true hq).elim | exact (Bool.false_ne_true h3.symm).elim
  · cases b <;> first | exact (Bool.false_ne_true hq).elim | exact (Bool.false_ne_true h4.symm).elim
  · cases d <;> first | exact (Bool.false_ne_true hq).elim | exact (Bool.false_ne_true h4'.symm).elim
def isL (c : Cfg) (x : Str) : Bool := match kd c x with
  | some .local => true
  | _ => false
theorem isL_eq (M : Mat c X) (x : Str) : (X.env.kindOf x == some .local) = isL c x := by
  have hk : X.env.kindOf x = kd c x := M.kd x
  rw [hk]
  unfold isL
  split
  · next h => rw [h]; rfl
  · next h => exact beq_eq_false_iff_ne.mpr fun z => h z
/-- a tuple of values that no order of stores asks for -/
theorem swapNo2 (M : Mat c X) {y : Str} {px py pt : Pos} {kt k2 pt2} (h : (!(isL c x && isL c y) || (foldedForSure 8 a && foldedForSure 8 b)) = true) : swappedStores [.Tuple [.Name x px, .Name y py] kt pt] (.Tuple [a, b] k2 pt2) X.env = pure none := by
  have e1 := isL_eq M x
  have e2 := isL_eq M y
  by_cases hf : (foldedForSure 8 a && foldedForSure 8 b) = true
  · simp only [swappedStores]
    simp [hf]
    repeat' split
    all_goals first | rfl | simp_all
  · have h : (isL c x && isL c y) = false := by
      rw [eq_false_of_ne_true hf, Bool.or_false] at h
      exact not1 h
    simp only [swappedStores]
    simp only [List.filterMap_cons, List.filterMap_nil, e1, e2]
    cases h1 : isL c x <;> cases h2 : isL c y <;> simp [h1, h2] at h ⊢
    all_goals (repeat' split) <;> first | rfl | simp_all
def asgS (D : Den) (c : Cfg) (t v : Expr) : DenS := match t with
  | .Name y py => (match nameT c y with
    | some i => (match v with
      | .ListComp elt gens scope vpos => bif swB c y py vpos scope then (match gens, nameL c y with
          | [⟨tg, it, ifs, 0⟩], some i => dAsg (lc1 D c elt tg it ifs scope) (dgN i)
          | _, _ => bad)
        else dAsg (D.e c v) (dgN i)
      | .SetComp _ _ _ _ => bad
      | .DictComp _ _ _ _ _ => bad
      | _ => dAsg (D.e c v) (dgN i))
    | none => bad)
  | .Attribute o m _ => (match asc c.g.fld m with
    | some cs => dFldSL cs m (D.e c v) (D.e c o)
    | none => bad)
  | .Tuple ts _ _ => (match v with
    | .Tuple vs _ _ => (match ts, vs with
      | [.Name x px, .Name y py], [a, b] => bif !(isL c x && isL c y) || (foldedForSure 8 a && foldedForSure 8 b) then (match tgE c 8 t with
          | some tg => dAsg (D.e c v) (tg.dg c.g.G)
          | none => bad)
        else (match nameL c x, nameL c y with
        | some i, some j => bif swap2 c x y px py a b then dPar i j (D.a c [a, b]) else bad
        | _, _ => bad)
      | [.Name x px, .Name y py, .Name z pz], [a, b, d] => (match nameL c x, nameL c y, nameL c z with
        | some i, some j, some l => bif swap3 c x y z px py pz a b d && (!(Nat.beq i j) && (!(Nat.beq i l) && !(Nat.beq j l))) then dPar3 i j l (D.a c [a, b, d]) else bad
        | _, _, _ => bad)
      | _, _ => bad)
    | _ => bif isComp v then bad else (match tgE c 8 t with
      | some tg => dAsg (D.e c v) (tg.dg c.g.G)
      | none => bad))
  | _ => bad
theorem asgS_ok (ok : D.Ok) (M : Mat c X) (t v : Expr) : CS X (.Assign [t] v pos) (asgS D c t v) := by
  have name : ∀ {y : Str} {py : Pos} {i : Nat} {v : Expr}, nameT c y = some i → swapsWith v (some (.Name y py)) pos.line X.env = pure false → CS X (.Assign [.Name y py] v pos) (dAsg (D.e c v) (dgN i)) := fun hi hs => by
    obtain ⟨n1, n2, n3⟩ := nameT_ok M hi
    exact cs_set M.ndX n1 n2 (ok.e M _) hs n3
  unfold asgS
  split
  · split
    · next i hi =>
      split
      · refine bif_if (fun hs => ?_) fun hs => ?_
        · split
          · next hl => exact lc1S_ok ok M _ _ _ _ _ hl (by rw [sw_lc M, hs])
          · exact cs_b
        · exact name hi (by rw [sw_lc M, hs])
      · exact cs_b
      · exact cs_b
      · next h1 h2 h3 =>
        refine name hi (sw_no ?_)
        cases v <;> first | rfl | exact (h1 _ _ _ _ rfl).elim | exact (h2 _ _ _ _ rfl).elim | exact (h3 _ _ _ _ _ rfl).elim
    · exact cs_b
  · split
    · next cs hcs => exact cs_fldL (M.pg.fld _ _ hcs) (ok.e M _) (ok.e M _)
    · exact cs_b
  · split
    · split
      · refine bif_if (fun hn => ?_) fun _ => ?_
        · split
          · next tg htg => exact cs_asg (ok.e M _) ⟨tgE_ok M 8 _ tg htg, Tg.gk M.pg.G tg⟩ (by unfold swapsWithSole; exact sw_no rfl) (swapNo2 M hn) (by rw [asg1 rfl]; rfl)
          · exact cs_b
        split
        · next i j hi hj =>
          refine bif_if (fun h => ?_) fun _ => cs_b
          obtain ⟨n1, n2⟩ := nameL_ok M hi
          obtain ⟨m1, m2⟩ := nameL_ok M hj
          have hne : i ≠ j := fun z => by
            subst z
            rw [n1] at m1
            have e := Option.some.inj m1
            unfold swap2 at h
            exact seq_ne (not1 (and2 h).1) e
          exact cs_par M.calm M.ndX n1 m1 hne n2 m2 (ok.a M _) (swap2_ok M hi hj h)
        · exact cs_b
      · split
        · next i j l hi hj hl =>
          refine bif_if (fun h => ?_) fun _ => cs_b
          obtain ⟨h, h'⟩ := and2 h
          obtain ⟨e1, h'⟩ := and2 h'
          obtain ⟨e2, e3⟩ := and2 h'
          obtain ⟨n1, n2⟩ := nameL_ok M hi
          obtain ⟨m1, m2⟩ := nameL_ok M hj
          obtain ⟨l1, l2⟩ := nameL_ok M hl
          have ne : ∀ {i j : Nat}, (!(Nat.beq i j)) = true → i ≠ j := fun h z => by subst z; rw [Nat.beq_refl] at h; cases h
          exact cs_par3 M.calm M.ndX n1 m1 l1 (ne e1) (ne e2) (ne e3) n2 m2 l2 (ok.a M _) (swap3_ok M hi hj hl h)
        · exact cs_b
      · exact cs_b
    · next h1 =>
      refine bif_if (fun _ => cs_b) fun hc => ?_
      split
      · next tg htg => exact cs_asg (ok.e M _) ⟨tgE_ok M 8 _ tg htg, Tg.gk M.pg.G tg⟩ (by unfold swapsWithSole; exact sw_no hc) (sws_no (by cases v <;> first | rfl | exact (h1 _ _ _ rfl).elim)) (by rw [asg1 rfl]; rfl)
      · exact cs_b
  · exact cs_b
/-! ### statements -/
def exprS (D : Den) (c : Cfg) (e : Expr) : DenS := match e with
  | .Constant k _ _ => (match k with
    | .str _ => dSk
    | _ => bad)
  | _ => bif isComp e then bad else dDrop (D.e c e)
def stmtS (D : Den) (c : Cfg) : Stmt → DenS
  | .Return v _ => (match v with
    | none => fun s h => .ok (.rt .non, h)
    | some e => dRet (D.e c e))
  | .If t b o _ => dIfS (D.t c t) (D.ss c b) (D.ss c o)
  | .For tg it body orelse _ => (match orelse with
    | [] => bif isSetE it then bad else (match tgE c 8 tg with
      | some t => dFor (iterE D c tg it) (t.dg c.g.G) (D.ss c body)
      | none => bad)
    | _ => bad)
  | .Pass _ => dSk
  | .Break _ => fun s h => .ok (.bk s, h)
  | .Continue _ => fun s h => .ok (.ct s, h)
  | .Expr e _ => exprS D c e
  | .Assign ts v _ => (match ts with
    | [t] => asgS D c t v
    | _ => bad)
  | _ => bad
theorem stmtS_ok (ok : D.Ok) (M : Mat c X) (st : Stmt) : CS X st (stmtS D c st) := by
  unfold stmtS
  split
  · split
    · exact cs_retN
    · exact cs_ret (ok.e M _)
  · exact cs_if (ok.t M _) (ok.ss M _) (ok.ss M _)
  · split
    · refine bif_if (fun _ => cs_b) fun hs => ?_
      split
      · next t ht => exact cs_for M.pass M.calm (iterE_ok ok M _ _) ⟨tgE_ok M 8 _ t ht, Tg.gk M.pg.G t⟩ (ok.ss M _) fun x => fold_ok hs X.env x
      · exact cs_b
    · exact cs_b
  · exact cs_pass
  · exact cs_break
  · exact cs_cont
  · unfold exprS
    split
    · split
      · exact cs_doc
      · exact cs_b
    · exact bif_if (fun _ => cs_b) fun hc => cs_expr (ok.e M _) (sw_no hc)
  · split
    · exact asgS_ok ok M _ _
    · exact cs_b
  · exact cs_b
def blkS (D : Den) (c : Cfg) : List Stmt → DenS
  | [] => dSk
  | st :: r => dSeq (D.s c st) (D.ss c r)
theorem blkS_ok (ok : D.Ok) (M : Mat c X) : ∀ st : List Stmt, CSs X st (blkS D c st)
  | [] => css_nil
  | st :: r => css_cons (ok.s M st) (ok.ss M r)
/-! ### all of it -/
def stepD (D : Den) : Den := ⟨exprE D, testT D, argsA D, stmtS D, blkS D⟩
def den : Nat → Den
  | 0 => ⟨fun _ _ => bad, fun _ _ => bad, fun _ _ => bad, fun _ _ => bad, fun _ _ => bad⟩
  | n + 1 => stepD (den n)
theorem den_ok : ∀ n, (den n).Ok
  | 0 => ⟨fun _ _ => ce_b, fun _ _ => ct_b, fun _ _ => ca_b, fun _ _ => cs_b, fun _ _ => fun ρ s h σ H D he hh q => q.elim⟩
  | n + 1 => ⟨fun M e => exprE_ok (den_ok n) M e, fun M e => testT_ok (den_ok n) M e, fun M e => argsA_ok (den_ok n) M e, fun M e => stmtS_ok (den_ok n) M e, fun M e => blkS_ok (den_ok n) M e⟩
end
end Z
end

section
set_option linter.all false
set_option maxRecDepth 100000
set_option maxHeartbeats 2000000
namespace Z
open PySem L2 PyProof.Rows ClX
/-! ### the program as it is linked -/
structure DefI where
  N : List Str
  ps : List Str
  st : Stmt
  g : Bool
  own : Option (Nat × FnF)
structure Src where
  G : ST
  D : SD
  kt : KT
  gl : List (Str × AV)
  bt : List (Str × String)
  un : List Str
  fn : List (Str × DefI)
  mkc : List (Str × Addr × DefI)
  prop : List (Str × Addr × DefI)
  meth : List (Str × Addr × DefI)
  sm : List (Str × Addr × DefI)
  eqs : List (Addr × DefI)
  lens : List (Addr × DefI)
  items : List (Addr × DefI)
  fld : List (Str × List Addr)
  tl : List Addr
def fiOf (k : Nat) (f : DefI → FnF) (I : DefI) : FI := ⟨k, I.ps.length, I.g, f I⟩
def m1 {α β : Type} (h : α → β) : List (Str × α) → List (Str × β) := List.map fun p => (p.1, h p.2)
def m2 {α β : Type} (h : α → β) : List (Str × Addr × α) → List (Str × Addr × β) := List.map fun p => (p.1, p.2.1, h p.2.2)
def m3 {α β : Type} (h : α → β) : List (Addr × α) → List (Addr × β) := List.map fun p => (p.1, h p.2)
def Src.pg (S : Src) (k : Nat) (f : DefI → FnF) : Pg :=
  { G := S.G, D := S.D, kt := S.kt, gl := S.gl, bt := S.bt, un := S.un, fn := m1 (fiOf k f) S.fn, mkc := m2 (fiOf k f) S.mkc, prop := m2 (fiOf k f) S.prop, meth := m2 (fiOf k f) S.meth, sm := m2 (fiOf k f) S.sm,
    eqs := m3 (fiOf k f) S.eqs, lens := m3 (fiOf k f) S.lens, items := m3 (fiOf k f) S.items, fld := S.fld, tl := S.tl }
def FF (S : Src) : Nat → DefI → FnF
  | 0, _ => fun _ _ => .bad
  | n + 1, I => match I.own with
    | some p => bif Nat.ble p.1 (2 * n + 2) then p.2 else fun _ _ => .bad
    | none => runB I.N.length ((den 64).ss ⟨S.pg (2 * n) (FF S n), I.N, defScope I.st, I.g, true, 2 * n + 1⟩ (defBody I.st))
theorem asc_m1 {α β : Type} {h : α → β} : ∀ {l : List (Str × α)} {x : Str} {y : β}, asc (m1 h l) x = some y → ∃ z, asc l x = some z ∧ y = h z
  | [], _, _, e => by cases e
  | p :: r, x, y, e => by
    unfold m1 at e
    rw [List.map_cons] at e
    unfold asc at e ⊢
    cases hs : seq x p.1 with
    | true => rw [hs] at e; cases e; exact ⟨_, rfl, rfl⟩
    | false => rw [hs] at e; exact asc_m1 e
theorem asc_m2 {α β : Type} {h : α → β} : ∀ {l : List (Str × Addr × α)} {x : Str} {y : Addr × β}, asc (m2 h l) x = some y → ∃ z, asc l x = some z ∧ y = (z.1, h z.2)
  | [], _, _, e => by cases e
  | p :: r, x, y, e => by
    unfold m2 at e
    rw [List.map_cons] at e
    unfold asc at e ⊢
    cases hs : seq x p.1 with
    | true => rw [hs] at e; cases e; exact ⟨_, rfl, rfl⟩
    | false => rw [hs] at e; exact asc_m2 e
variable [Scr]
section
variable {P : Program} {w : World} {K : PySem.W.Frag} {mg : Str → Option Value} {base : Heap} {S : Src}
structure DefH (P : Program) (w : World) (K : PySem.W.Frag) (mg : Str → Option Value) (base : Heap) (I : DefI) (f : Addr) (fd : FuncData) : Prop where
  ex : Binds K fd I.ps [] ∧ (match I.own with
    | none => FnScope I.N I.ps (defScope I.st) ∧ ∃ x qual, Fun K x qual I.st f fd
    | some p => I.g = true ∧ FnG P w K mg base CX0 p.1 f fd I.ps (spF I.ps.length p.2))
def Lv (P : Program) (w : World) (K : PySem.W.Frag) (mg : Str → Option Value) (base : Heap) (S : Src) (n : Nat) (I : DefI) (f : Addr) (fd : FuncData) : Prop :=
  Binds K fd I.ps [] ∧ FnG P w K mg base CX0 (2 * n) f fd I.ps (spF I.ps.length (FF S n I)) ∧ (I.g = false → FnOk P w K mg base CX0 (2 * n) f fd I.ps (spF I.ps.length (FF S n I)))
structure FnAt (P : Program) (w : World) (K : PySem.W.Frag) (mg : Str → Option Value) (base : Heap) (x : Str) (I : DefI) : Prop where
  ex : ∃ f fd, mg x = some (.ref f) ∧ PySem.W.keepIn K (.ref f) = true ∧ DefH P w K mg base I f fd
structure MetAt (P : Program) (w : World) (K : PySem.W.Frag) (mg : Str → Option Value) (base : Heap) (C : Addr) (x : Str) (I : DefI) : Prop where
  g : I.g = false
  ex : ∃ f fd, PySem.W.findIn K (.ref C) x = some (some (.ref f)) ∧ PySem.W.isFn K (.ref f) = true ∧ PySem.W.fnIn K f = true ∧ PySem.W.keepIn K (.ref f) = true ∧ DefH P w K mg base I f fd
structure PropAt (P : Program) (w : World) (K : PySem.W.Frag) (mg : Str → Option Value) (base : Heap) (C : Addr) (x : Str) (I : DefI) : Prop where
  g : I.g = false
  ex : ∃ p f fd, PropOf K C x p f ∧ DefH P w K mg base I f fd
structure SmAt (P : Program) (w : World) (K : PySem.W.Frag) (mg : Str → Option Value) (base : Heap) (C : Addr) (x : Str) (I : DefI) : Prop where
  g : I.g = false
  ps : I.ps = []
  ex : ∃ p f fd mc, CRead K C mc ∧ PySem.W.findCls K (.ref C) mc x = some (.get (.builtin "staticmethod.__get__") (.ref p) .none (.ref C)) ∧ (∃ rest, PySem.W.recIn K p "staticmethod" = some (.ref f :: rest)) ∧ PySem.W.plainGet K C x = true ∧ PySem.W.isClsIn K C = true ∧
    PySem.W.findIn K (.ref C) x = some (some (.ref p)) ∧ PySem.W.typeIn K (.ref p) = some (.type "staticmethod") ∧ PySem.W.specialIn K (.ref p) "__get__" = some (some (.builtin "staticmethod.__get__")) ∧ PySem.W.takesIn K (.ref p) = some false ∧ PySem.W.copiedNames.contains x = false ∧
    PySem.W.keepIn K (.ref f) = true ∧ DefH P w K mg base I f fd
structure SrcOk (P : Program) (w : World) (K : PySem.W.Frag) (mg : Str → Option Value) (base : Heap) (S : Src) : Prop where
  G : GOk K S.G
  D : DOk K w S.D
  kt : KTOk K S.kt
  gl : ∀ x v, asc S.gl x = some v → ∃ u v', mg x = some u ∧ RelV v' u ∧ ∀ ρ, RV ρ v v'
  bt : ∀ x n, asc S.bt x = some n → mg x = none ∧ bootBuiltins x = some (.type n)
  un : ∀ x, memS S.un x = true → mg x = none
  fn : ∀ x I, asc S.fn x = some I → FnAt P w K mg base x I
  mkc : ∀ x p, asc S.mkc x = some p → mg x = some (.ref p.1) ∧ PySem.W.makesIn K p.1 = true ∧ PySem.W.keepIn K (.ref p.1) = true ∧ MetAt P w K mg base p.1 "__init__" p.2
  prop : ∀ x p, asc S.prop x = some p → Cls K p.1 ∧ PropAt P w K mg base p.1 x p.2
  meth : ∀ x p, asc S.meth x = some p → Cls K p.1 ∧ MetAt P w K mg base p.1 x p.2
  sm : ∀ x p, asc S.sm x = some p → SmAt P w K mg base p.1 x p.2
  eqs : ∀ p, p ∈ S.eqs → MetAt P w K mg base p.1 "__eq__" p.2 ∧ PySem.W.findIn K (.ref p.1) "__ne__" = some (some (.builtin "object.__ne__")) ∧ PySem.W.mroIn K p.1 (.type "object") = some true
  lens : ∀ p, p ∈ S.lens → MetAt P w K mg base p.1 "__len__" p.2
  items : ∀ p, p ∈ S.items → MetAt P w K mg base p.1 "__getitem__" p.2
  fld : ∀ x cs, asc S.fld x = some cs → ∀ C, C ∈ cs → Cls K C ∧ NoAttr K C x
  tl : ∀ a, a ∈ S.tl → ∃ ob : Obj, K.lookup a = some ob ∧ ob.cls = .type "tuple" ∧ ob.dict = none
theorem metF {C : Addr} {x : Str} {I : DefI} {n : Nat} (lv : ∀ I f fd, DefH P w K mg base I f fd → Lv P w K mg base S n I f fd) (m : MetAt P w K mg base C x I) : MetF P w K mg base C x (2 * n) I.ps.length (FF S n I) := by
  obtain ⟨f, fd, h1, h2, h3, h4, h5⟩ := m.ex
  obtain ⟨b, _, k⟩ := lv I f fd h5
  exact ⟨f, fd, _, h1, h2, h3, h4, b, k m.g⟩
theorem pg_of {n : Nat} (so : SrcOk P w K mg base S) (lv : ∀ I f fd, DefH P w K mg base I f fd → Lv P w K mg base S n I f fd) : PgOk P w K mg base (S.pg (2 * n) (FF S n)) := by
  refine ⟨so.G, so.D, so.kt, so.gl, so.bt, so.un, fun x fi h => ?_, fun x p h => ?_, fun x p h => ?_, fun x p h => ?_, fun x p h => ?_, fun p h => ?_, fun p h => ?_, fun p h => ?_, so.fld, so.tl⟩
  · obtain ⟨I, h', rfl⟩ := asc_m1 h
    obtain ⟨f, fd, h1, h2, h3⟩ := (so.fn x I h').ex
    obtain ⟨b, g, k⟩ := lv I f fd h3
    exact ⟨⟨f, fd, _, h1, h2, b, g⟩, fun hg => ⟨f, fd, _, h1, h2, b, k hg⟩⟩
  · obtain ⟨q, h', rfl⟩ := asc_m2 h
    obtain ⟨h1, h2, h3, h4⟩ := so.mkc x q h'
    exact ⟨h1, h2, h3, metF lv h4⟩
  · obtain ⟨q, h', rfl⟩ := asc_m2 h
    obtain ⟨h1, h2⟩ := so.prop x q h'
    obtain ⟨p, f, fd, h3, h4⟩ := h2.ex
    obtain ⟨b, _, k⟩ := lv q.2 f fd h4
    exact ⟨h1, ⟨p, f, fd, _, h3, b, k h2.g⟩⟩
  · obtain ⟨q, h', rfl⟩ := asc_m2 h
    obtain ⟨h1, h2⟩ := so.meth x q h'
    exact ⟨h1, metF lv h2⟩
  · obtain ⟨q, h', rfl⟩ := asc_m2 h
    have h1 := so.sm x q h'
    obtain ⟨p, f, fd, mc, a1, a2, a3, a4, a5, a6, a7, a8, a9, a10, a11, a12⟩ := h1.ex
    obtain ⟨b, _, k⟩ := lv q.2 f fd a12
    have k := k h1.g
    rw [show q.2.ps.length = 0 from by rw [h1.ps]; rfl] at k
    exact ⟨p, f, fd, _, mc, a1, a2, a3, a4, a5, a6, a7, a8, a9, a10, a11, b, k⟩
  · obtain ⟨q, hq, rfl⟩ := List.mem_map.mp h
    obtain ⟨h1, h2, h3⟩ := so.eqs q hq
    exact ⟨metF lv h1, h2, h3⟩
  · obtain ⟨q, hq, rfl⟩ := List.mem_map.mp h
    exact metF lv (so.lens q hq)
  · obtain ⟨q, hq, rfl⟩ := List.mem_map.mp h
    exact metF lv (so.items q hq)
theorem lv_all (so : SrcOk P w K mg base S) : ∀ (n : Nat) (I : DefI) (f : Addr) (fd : FuncData), DefH P w K mg base I f fd → Lv P w K mg base S n I f fd
  | 0, I, f, fd, h => by
    obtain ⟨b, _⟩ := h.ex
    have ok : FnOk P w K mg base CX0 0 f fd I.ps (spF I.ps.length (FF S 0 I)) := ⟨fun vs H Q E ⟨ρ, h, xs, hl, _, rv, _⟩ => by rw [← rv.length]; exact hl, fun A outer s H args us vs Q E _ _ _ _ ⟨_, _, _, _, _, _, q⟩ => q.elim⟩
    exact ⟨b, .of ok, fun _ => ok⟩
  | n + 1, I, f, fd, h => by
    obtain ⟨b, h⟩ := h.ex
    refine ⟨b, ?_⟩
    have hbad : ∀ k, FnG P w K mg base CX0 k f fd I.ps (spF I.ps.length fun _ _ => .bad) := fun k => ⟨fun vs H Q E ⟨ρ, h, xs, hl, _, rv, _⟩ => by rw [← rv.length]; exact hl, fun A outer s H args us vs Q E _ _ _ _ _ ⟨_, _, _, _, _, _, q⟩ => q.elim⟩
    have pg := pg_of so (lv_all so n)
    unfold FF
    split at h
    · next ho =>
      rw [ho]
      obtain ⟨sc, x, qual, F⟩ := h
      have M : ∀ (gd : Bool) (cdv : Value) (A : Around) (outer : List Env) (s : Shared) (H : Hp) (E : XK), (gd = true → A.guards = some []) → Room (2 * n + 1) (bx CX0 P w K mg base I.N qual I.st f cdv A outer s H E).nox.A →
          Mat ⟨S.pg (2 * n) (FF S n), I.N, defScope I.st, gd, true, 2 * n + 1⟩ (bx CX0 P w K mg base I.N qual I.st f cdv A outer s H E).nox := fun gd cdv A outer s H E hg hr => ⟨rfl, rfl, sc.nd, sc.kind, rfl, hr, hg, (fun _ _ => rfl), rfl, pg⟩
      cases hg : I.g with
      | true => exact ⟨fnMG F sc fun cdv A outer s H E hgd hr => (den_ok 64).ss (M true cdv A outer s H E (fun _ => hgd) hr) _, fun z => nomatch z⟩
      | false =>
        have ok := fnMK (k := 2 * n + 1) F sc fun cdv A outer s H E hr => (den_ok 64).ss (M false cdv A outer s H E (fun z => nomatch z) hr) (defBody I.st)
        exact ⟨.of ok, fun _ => ok⟩
    · next p ho =>
      rw [ho]
      obtain ⟨hg, F⟩ := h
      refine ⟨?_, fun z => by rw [hg] at z; cases z⟩
      dsimp only
      cases hb : Nat.ble p.1 (2 * n + 2) with
      | true => exact F.mono (Nat.le_of_ble_eq_true hb)
      | false => exact hbad _
end
omit [Scr] in
/-- the law's def gives True, if its mirror does -/
theorem law_true {P : Program} {w : World} {K : PySem.W.Frag} {mg : Str → Option Value} {base : Heap} {S : Src} {I : DefI} {f : Addr} {n : Nat} {fd : FuncData} (hp : I.ps.length = 1)
    (lv : ∀ c : Scr, c.K = K → c.ns.length ≤ 63 → @FnG P w K mg base CX0 (2 * n) f fd I.ps (@spF c I.ps.length (FF S n I)))
    (run : (FF S n I [.scr] ⟨0, .lf⟩).chk (fun r => match r.1 with | .bl true => true | _ => false) = true) : FnG P w K mg base CX0 (2 * n) f fd I.ps (spTrue K) := by
  have key : ∀ vs H Q E, spTrue K vs H Q E → ∃ c : Scr, c.K = K ∧ c.ns.length ≤ 63 ∧ @spF c I.ps.length (FF S n I) vs H Q E := fun vs H Q E ⟨a, ns, hv, hs, hl, ho, hq⟩ => by
    subst hv
    let c : Scr := ⟨K, a, ns⟩
    refine ⟨c, rfl, hl, fun _ => none, ⟨0, .lf⟩, [.scr], hp.symm, ⟨?_, fun _ _ => rfl, (fun _ _ _ z _ => by cases z), (fun _ o z => by cases (show (none : Option AO) = some o from z)), (fun _ _ z => by cases z)⟩, .cons .scr .nil, T.sat_imp (fun r hr ρ' v H' x r2 rv => ?_) (T.chk_sat run)⟩
    · rcases hs with (hs | ⟨o, hs⟩) | hs
      · rcases ho a with z | ⟨ob, xs, z⟩
        · rw [z] at hs; cases hs
        · rw [z] at hs; cases hs
      · exact .inl ⟨o, hs⟩
      · exact .inr fun H' => .inr hs
    · obtain ⟨y, h2⟩ := r
      cases y with
      | bl b =>
        cases b with
        | true => cases rv; exact hq H'
        | false => cases hr
      | _ => cases hr
  refine ⟨fun vs H Q E h => ?_, fun A outer s H args us vs Q E g hr e b v h => ?_⟩
  · obtain ⟨c, h1, h2, h3⟩ := key vs H Q E h
    exact (lv c h1 h2).len vs H Q E h3
  · obtain ⟨c, h1, h2, h3⟩ := key vs H Q E h
    exact (lv c h1 h2).run A outer s H args us vs Q E g hr e b v h3
end Z
end

section
set_option linter.all false
set_option maxRecDepth 100000
set_option maxHeartbeats 2000000
namespace Z
open PySem L2 PyProof.Rows ClX
/-! ### facts about the items of a written list -/
inductive AllL {α : Type} (P : α → Prop) : List α → Prop
  | nil : AllL P []
  | cons {x : α} {l : List α} : P x → AllL P l → AllL P (x :: l)
theorem AllL.mem {α : Type} {P : α → Prop} : ∀ {l : List α}, AllL P l → ∀ x, x ∈ l → P x
  | _, .nil, x, h => nomatch h
  | _, .cons a b, x, h => by
    rcases List.mem_cons.mp h with h | h
    · exact h ▸ a
    · exact b.mem x h
theorem asc_all {α : Type} {P : Str → α → Prop} : ∀ {l : List (Str × α)}, AllL (fun p => P p.1 p.2) l → ∀ x v, asc l x = some v → P x v
  | _, .nil, x, v, h => by cases h
  | _, .cons (x := p) a b, x, v, h => by
    unfold asc at h
    cases hs : seq x p.1 with
    | true => rw [hs] at h; cases h; rw [seq_eq hs]; exact a
    | false => rw [hs] at h; exact asc_all b x v h
theorem memS_all {P : Str → Prop} : ∀ {l : List Str}, AllL P l → ∀ x, memS l x = true → P x
  | _, .nil, x, h => by cases h
  | _, .cons (x := p) (l := l) a b, x, h => by
    have h : (seq x p || memS l x) = true := h
    cases hs : seq x p with
    | true => rw [seq_eq hs]; exact a
    | false => rw [hs] at h; exact memS_all b x h
def ascN {α : Type} : List (Nat × α) → Nat → Option α
  | [], _ => none
  | p :: r, x => bif Nat.beq x p.1 then some p.2 else ascN r x
theorem ascN_all {α : Type} {P : Nat → α → Prop} : ∀ {l : List (Nat × α)}, AllL (fun p => P p.1 p.2) l → ∀ x v, ascN l x = some v → P x v
  | _, .nil, x, v, h => by cases h
  | _, .cons (x := p) a b, x, v, h => by
    unfold ascN at h
    cases hs : Nat.beq x p.1 with
    | true => rw [hs] at h; cases h; rw [Nat.eq_of_beq_eq_true hs]; exact a
    | false => rw [hs] at h; exact ascN_all b x v h
/-! ### types -/
def tyEq : TyA → TyA → Bool
  | .b a, .b b => decide (a = b)
  | .c a, .c b => Nat.beq a b
  | _, _ => false
theorem tyEq_eq : ∀ {a b : TyA}, tyEq a b = true → a = b
  | .b a, .b b, h => by rw [of_decide_eq_true h]
  | .c a, .c b, h => by rw [Nat.eq_of_beq_eq_true h]
  | .b _, .c _, h => by cases h
  | .c _, .b _, h => by cases h
def ascT {α : Type} : List (TyA × α) → TyA → Option α
  | [], _ => none
  | p :: r, x => bif tyEq x p.1 then some p.2 else ascT r x
theorem ascT_all {α : Type} {P : TyA → α → Prop} : ∀ {l : List (TyA × α)}, AllL (fun p => P p.1 p.2) l → ∀ x v, ascT l x = some v → P x v
  | _, .nil, x, v, h => by cases h
  | _, .cons (x := p) a b, x, v, h => by
    unfold ascT at h
    cases hs : tyEq x p.1 with
    | true => rw [hs] at h; cases h; rw [tyEq_eq hs]; exact a
    | false => rw [hs] at h; exact ascT_all b x v h
/-- what isinstance tells: of built-in types by the library's table, of own classes by lists -/
def ktOf (lc : List (Nat × List (TyA × Bool))) (lt : List (Nat × List (String × Bool))) : KT := fun t c => match c with
  | .ty n => (match t with
    | .b a => kitB a n
    | .c C => match ascN lt C with
      | some l => l.lookup n
      | none => none)
  | .ref E => (match ascN lc E with
    | some l => ascT l t
    | none => none)
  | _ => none
theorem ktOk {K : PySem.W.Frag} {lc : List (Nat × List (TyA × Bool))} {lt : List (Nat × List (String × Bool))}
    (h1 : AllL (fun p => (∃ u, ClsV (.ref p.1) u ∧ AllL (fun q => PySem.W.kitOne K q.1.v u = some q.2) p.2)) lc)
    (h2 : AllL (fun p => ∀ n r, p.2.lookup n = some r → ∃ u, ClsV (.ty n) u ∧ PySem.W.kitOne K (.ref p.1) u = some r) lt)
    {cl : List Nat} (hcl : AllL (fun C => Cls K C ∧ PySem.W.findIn K (.ref C) "__class__" = some (some (.builtin "object.__class__")) ∧ PySem.W.mroIn K C (.type "object") = some true) cl)
    (hlt : AllL (fun p => memN cl p.1 = true) lt) (hlc : AllL (fun p => AllL (fun q => ∀ C, q.1 = .c C → memN cl C = true) p.2) lc)
    (get : PySem.W.specialIn K (.builtin "object.__class__") "__get__" = some (some (.builtin "getset_descriptor.__get__"))) (tak : PySem.W.takesIn K (.builtin "object.__class__") = some true) : KTOk K (ktOf lc lt) := by
  refine ⟨fun t c r h => ?_, fun C c r h => ?_, get, tak⟩
  · unfold ktOf at h
    split at h
    · split at h
      · exact ⟨_, .ty _, kit_ty h⟩
      · split at h
        · next l hl => exact ascN_all (P := fun C (l : List (String × Bool)) => ∀ n r, l.lookup n = some r → ∃ u, ClsV (.ty n) u ∧ PySem.W.kitOne K (.ref C) u = some r) h2 _ _ hl _ _ h
        · cases h
    · split at h
      · next l hl =>
        obtain ⟨u, hu, ha⟩ := ascN_all (P := fun E (l : List (TyA × Bool)) => ∃ u, ClsV (.ref E) u ∧ AllL (fun q => PySem.W.kitOne K q.1.v u = some q.2) l) h1 _ _ hl
        exact ⟨u, hu, ascT_all (P := fun (t : TyA) (r : Bool) => PySem.W.kitOne K t.v u = some r) ha _ _ h⟩
      · cases h
    · cases h
  · have key : memN cl C = true → _ := fun hm => hcl.mem C (memN_iff hm)
    unfold ktOf at h
    split at h
    · dsimp only at h
      split at h
      · next l hl => exact key (ascN_all (P := fun C (_ : List (String × Bool)) => memN cl C = true) hlt _ _ hl)
      · cases h
    · split at h
      · next l hl =>
        have := ascN_all (P := fun _ (l : List (TyA × Bool)) => AllL (fun q => ∀ C, q.1 = .c C → memN cl C = true) l) hlc _ _ hl
        exact key (ascT_all (P := fun (t : TyA) (_ : Bool) => ∀ C, t = .c C → memN cl C = true) this _ _ h C rfl)
      · cases h
    · cases h
/-! ### facts at a row -/
section
variable [Scr] {P : Program} {w : World} {K : PySem.W.Frag} {mg : Str → Option Value} {base : Heap}
theorem gOk {L : List (Nat × List AV)} (h : AllL (fun p => ∃ vs, (∀ ρ, RVs ρ p.2 vs) ∧ ∀ H, SqT K H p.1 vs) L) : GOk K (ascN L) := ascN_all (P := fun a (xs : List AV) => ∃ vs, (∀ ρ, RVs ρ xs vs) ∧ ∀ H, SqT K H a vs) h
theorem dOk {L : List (Nat × List (Str × AV))} (h : AllL (fun p => AllL (fun q => ∃ v, (∀ ρ, RV ρ q.2 v) ∧ KDct K w p.1 q.1 v) p.2) L) : DOk K w (ascN L) := fun a kvs e x z hz => by
  have := ascN_all (P := fun a (kvs : List (Str × AV)) => AllL (fun q => ∃ v, (∀ ρ, RV ρ q.2 v) ∧ KDct K w a q.1 v) kvs) h a kvs e
  exact asc_all (P := fun x (z : AV) => ∃ v, (∀ ρ, RV ρ z v) ∧ KDct K w a x v) this x z (by rw [asc_lookup]; exact hz)
theorem glRef {x : Str} {a : Addr} (h : mg x = some (.ref a)) : ∃ u v', mg x = some u ∧ RelV v' u ∧ ∀ ρ, RV ρ (.k (.ref a)) v' := ⟨_, .ref a, h, rfl, fun _ => .k _⟩
theorem glInt {x : Str} {i : Int} {t : Nat} (h : mg x = some (.int i t)) : ∃ u v', mg x = some u ∧ RelV v' u ∧ ∀ ρ, RV ρ (.int i) v' := ⟨_, .int i, h, ⟨_, rfl⟩, fun _ => .int _⟩
theorem glStr {x : Str} {i : Str} {t : Nat} (h : mg x = some (.str i t)) : ∃ u v', mg x = some u ∧ RelV v' u ∧ ∀ ρ, RV ρ (.str i) v' := ⟨_, .str i, h, ⟨_, rfl⟩, fun _ => .str _⟩
theorem defH {x qual : Str} {I : DefI} {f : Addr} {fd : FuncData} (F : Fun K x qual I.st f fd) (ho : I.own = none) (sc : FnScope I.N I.ps (defScope I.st))
    (hb : ∀ (kV doc pm : Value) (an : Option Addr) (cdv ct : Value) (us : List Value), us.length = I.ps.length → bindArgs (PySem.W.fnOf x qual (defArgs I.st) (defBody I.st) (defScope I.st) .none kV doc pm an cdv ct) ⟨us, []⟩ = pure (I.ps.zip us)) : DefH P w K mg base I f fd := by
  refine ⟨F.binds hb, ?_⟩
  rw [ho]
  exact ⟨sc, x, qual, F⟩
theorem defOwn {I : DefI} {f : Addr} {fd : FuncData} {p : Nat × FnF} (ho : I.own = some p) (hg : I.g = true) (b : Binds K fd I.ps []) (F : FnG P w K mg base CX0 p.1 f fd I.ps (spF I.ps.length p.2)) : DefH P w K mg base I f fd := by
  refine ⟨b, ?_⟩
  rw [ho]
  exact ⟨hg, F⟩
theorem fnAt {x : Str} {I : DefI} {f : Addr} (hm : mg x = some (.ref f)) (hk : PySem.W.keepIn K (.ref f) = true) (h : ∃ fd, DefH P w K mg base I f fd) : FnAt P w K mg base x I := let ⟨fd, h⟩ := h; ⟨f, fd, hm, hk, h⟩
theorem defE {x qual : Str} {I : DefI} {f : Addr} (d : DefK K x qual I.st f) (ho : I.own = none) (sc : FnScope I.N I.ps (defScope I.st))
    (hb : ∀ (kV doc pm : Value) (an : Option Addr) (cdv ct : Value) (us : List Value), us.length = I.ps.length → bindArgs (PySem.W.fnOf x qual (defArgs I.st) (defBody I.st) (defScope I.st) .none kV doc pm an cdv ct) ⟨us, []⟩ = pure (I.ps.zip us)) : ∃ fd, DefH P w K mg base I f fd := by
  obtain ⟨fd, F⟩ := d.fd
  exact ⟨fd, defH F ho sc hb⟩
theorem metAt {C : Addr} {x : Str} {I : DefI} {f : Addr} (hg : I.g = false) (h1 : PySem.W.findIn K (.ref C) x = some (some (.ref f))) (h2 : PySem.W.isFn K (.ref f) = true) (h3 : PySem.W.fnIn K f = true) (h4 : PySem.W.keepIn K (.ref f) = true) (h : ∃ fd, DefH P w K mg base I f fd) : MetAt P w K mg base C x I := let ⟨fd, h⟩ := h; ⟨hg, f, fd, h1, h2, h3, h4, h⟩
theorem propAt {C p : Addr} {x : Str} {I : DefI} {f : Addr} (hg : I.g = false) (h1 : PropOf K C x p f) (h : ∃ fd, DefH P w K mg base I f fd) : PropAt P w K mg base C x I := let ⟨fd, h⟩ := h; ⟨hg, p, f, fd, h1, h⟩
omit [Scr] in
theorem binds1 {x qual : Str} {st : Stmt} {f : Addr} {fd : FuncData} {p : Str} (F : Fun K x qual st f fd)
    (hb : ∀ (kV doc pm : Value) (an : Option Addr) (cdv ct : Value) (us : List Value), us.length = 1 → bindArgs (PySem.W.fnOf x qual (defArgs st) (defBody st) (defScope st) .none kV doc pm an cdv ct) ⟨us, []⟩ = pure ([p].zip us)) (s : Shared) (u : Value) : BindsTo s fd ⟨[u], []⟩ [(p, u)] := by
  obtain ⟨oc, od, kV, doc, pm, an, cdv, ct, osl, rfl, lk, hcd⟩ := F.ex
  exact .of_eq (hb kV doc pm an cdv ct [u] rfl)
theorem feed_spK {c : Scr} (hc : c.K = K) (hl : c.ns.length ≤ 63) (vs : List V) (H : Hp) (Q : VK) (E : XK) (q : @spF c 2 aFeed vs H Q E) : spD K fFeedD vs H Q E := by
  have := @feed_spF c hl vs H Q E q
  rw [hc] at this
  exact this
omit [Scr] in
theorem defK_fd {x qual : Str} {st : Stmt} {f : Addr} (d : DefK K x qual st f) : ∃ fd, Fun K x qual st f fd := by
  obtain ⟨⟨oc, od, kV, doc, pm, an, cdv, ct, osl, lk, hcd⟩, kp⟩ := d
  exact ⟨_, ⟨⟨oc, od, kV, doc, pm, an, cdv, ct, osl, rfl, lk, hcd⟩, kp⟩⟩
end
end Z
end

section
set_option linter.all false
set_option maxRecDepth 100000
set_option maxHeartbeats 2000000
namespace R5
open PySem L2 Z
local macro_rules | `(tactic| walk_at "vis") => `(tactic| first | exact Or.inl rfl | exact Or.inr (Or.inl rfl) | exact Or.inr (Or.inr rfl))
local macro_rules | `(tactic| walk_at "side") => `(tactic| first | rfl | assumption | decide | omega)
local macro_rules | `(tactic| walk_at "v") => `(tactic| first
  | refine de_var (i := 0) rfl (by walk_at "vis") rfl ?_ | refine de_var (i := 1) rfl (by walk_at "vis") rfl ?_ | refine de_var (i := 2) rfl (by walk_at "vis") rfl ?_ | refine de_var (i := 3) rfl (by walk_at "vis") rfl ?_
  | refine de_var (i := 4) rfl (by walk_at "vis") rfl ?_ | refine de_var (i := 5) rfl (by walk_at "vis") rfl ?_ | refine de_var (i := 6) rfl (by walk_at "vis") rfl ?_ | refine de_var (i := 7) rfl (by walk_at "vis") rfl ?_)
local macro_rules | `(tactic| walk_at "c") => `(tactic| first
  | refine ⟨_, rfl, ?_⟩ | refine ⟨_, _, rfl, rfl, ?_⟩ | refine ⟨by walk_at "side", ?_⟩)
local macro_rules | `(tactic| walk_at "e") => `(tactic| first
  | refine de_int ?_ | refine de_str ?_ | refine de_bl ?_ | refine de_non ?_ | walk_at "v"
  | refine da_nil ?_ | refine da_cons ?_ rfl
  | refine de_mod ?_ | refine de_fdiv ?_ | refine de_mul ?_ | refine de_addD ?_ | refine de_sub ?_
  | refine de_gt ?_ | refine de_lt ?_ | refine de_le ?_ | refine de_ge ?_
  | refine dt_w (dw_and ?_) | refine dt_w (dw_or ?_) | refine dw_and ?_ | refine dw_or ?_ | refine dw_and1 ?_ | refine dw_or1 ?_ | refine dt_not ?_
  | refine dt_gt ?_ | refine dt_lt ?_ | refine dt_le ?_ | refine dt_ge ?_
  | refine dt_val ?_ (by intro _; rfl)
  | refine de_ix (fun _ _ => rfl) ?_
  | refine dss_cons ?_ | refine dss_nil ?_ | refine ds_ret ?_ | refine ds_if ?_)

def top (i : Nat) : Stmt := PySem.Challenge.pw_twolistings_k03_known_rules.main.body.getD i (.Pass ⟨0, 0, 0, 0⟩)
abbrev sTake : Stmt := top 27
abbrev sFeed : Stmt := top 26
theorem scTake : FnScope ["feed", "many", "digit"] ["feed", "many"] (defScope sTake) := ⟨rfl, rfl, rfl, by decide +kernel, rfl, by decide +kernel, by decide +kernel⟩
theorem scFeed : FnScope ["script", "k", "cell", "digits", "state"] ["script", "k"] (defScope sFeed) := ⟨rfl, rfl, rfl, by decide +kernel, rfl, by decide +kernel, by decide +kernel⟩
structure Blt (mg : Str → Option Value) : Prop where
  len : mg "len" = none
  int : mg "int" = none
  max : mg "max" = none
  abs : mg "abs" = none
section
variable {P : Program} {w : World} {K : PySem.W.Frag} {mg : Str → Option Value} {base : Heap}
theorem okTake {f : Addr} {fd : FuncData} (F : Fun K "_law_take" "_law_take" sTake f fd) (B : Blt mg) : FnG P w K mg base CX0 1 f fd ["feed", "many"] (spD K fTakeD) := by
  refine fnD_of F scTake fTakeD (fun p ds Kp ⟨a, n, _, h, _⟩ => by rw [h]; rfl) fun cdv A outer s H E hg hr p ds Kp hf => ?_
  obtain ⟨a, n, rfl, rfl, h1, h2, k⟩ := hf
  walk_at "e"
  walk_at "e"
  walk_at "e"
  refine de_feed (i := 0) rfl (Or.inl rfl) rfl (.inl rfl) fun m => ?_
  walk_at "c"
  walk_at "e"
  walk_at "c"
  refine ⟨fun hm => ?_, fun hm => ?_⟩
  · walk_at "e"
    refine ds_set (i := 2) scTake.nd rfl (Or.inl rfl) ?_
    walk_at "e"
    refine de_intI rfl B.int ?_
    refine de_feed (i := 0) rfl (Or.inl rfl) rfl (.inl rfl) fun m2 => ?_
    walk_at "c"
    walk_at "c"
    walk_at "e"
    walk_at "c"
    walk_at "c"
    walk_at "e"
    refine ds_feed (i := 0) rfl (Or.inl rfl) rfl (.inl rfl) ?_
    walk_at "e"
    refine de_feed (i := 0) rfl (Or.inl rfl) rfl (.inl rfl) fun m2 => ?_
    walk_at "c"
    walk_at "e"
    walk_at "c"
    refine ⟨⟨by omega, by omega⟩, ?_⟩
    walk_at "c"
    walk_at "e"
    walk_at "e"
    walk_at "e"
    exact k _ (Int.emod_nonneg _ (by omega)) (Int.emod_lt_of_pos _ (by omega))
  · walk_at "e"
    walk_at "e"
    refine ds_feed (i := 0) rfl (Or.inl rfl) rfl (.inr rfl) ?_
    walk_at "e"
    refine de_intI rfl B.int ?_
    walk_at "e"
    walk_at "e"
    refine de_feed (i := 0) rfl (Or.inl rfl) rfl (.inr rfl) fun m2 => ?_
    walk_at "c"
    walk_at "e"
    walk_at "c"
    refine ⟨.inr ⟨by omega, by omega⟩, ?_⟩
    walk_at "c"
    walk_at "e"
    refine ⟨_, _, rfl, rfl, ?_⟩
    walk_at "c"
    walk_at "c"
    walk_at "e"
    walk_at "c"
    refine ⟨by omega, ?_⟩
    walk_at "c"
    walk_at "e"
    walk_at "e"
    walk_at "e"
    refine de_intI rfl B.int ?_
    walk_at "e"
    refine de_feed (i := 0) rfl (Or.inl rfl) rfl (.inr rfl) fun m3 => ?_
    walk_at "c"
    walk_at "e"
    walk_at "c"
    refine ⟨⟨by omega, by omega⟩, ?_⟩
    walk_at "c"
    walk_at "c"
    walk_at "e"
    walk_at "c"
    refine ⟨by omega, ?_⟩
    exact k _ (Int.emod_nonneg _ (by omega)) (Int.emod_lt_of_pos _ (by omega))
end
end R5
end

section
set_option linter.all false
set_option maxRecDepth 100000
set_option maxHeartbeats 2000000
namespace R6
open PySem L2 Z
local macro_rules | `(tactic| walk_at "vis") => `(tactic| first | exact Or.inl rfl | exact Or.inr (Or.inl rfl) | exact Or.inr (Or.inr rfl))
local macro_rules | `(tactic| walk_at "side") => `(tactic| first | rfl | assumption | decide | omega)
local macro_rules | `(tactic| walk_at "v") => `(tactic| first
  | refine de_var (i := 0) rfl (by walk_at "vis") rfl ?_ | refine de_var (i := 1) rfl (by walk_at "vis") rfl ?_ | refine de_var (i := 2) rfl (by walk_at "vis") rfl ?_ | refine de_var (i := 3) rfl (by walk_at "vis") rfl ?_
  | refine de_var (i := 4) rfl (by walk_at "vis") rfl ?_ | refine de_var (i := 5) rfl (by walk_at "vis") rfl ?_ | refine de_var (i := 6) rfl (by walk_at "vis") rfl ?_ | refine de_var (i := 7) rfl (by walk_at "vis") rfl ?_)
local macro_rules | `(tactic| walk_at "c") => `(tactic| first
  | refine ⟨_, rfl, ?_⟩ | refine ⟨_, _, rfl, rfl, ?_⟩ | refine ⟨by walk_at "side", ?_⟩)
local macro_rules | `(tactic| walk_at "e") => `(tactic| first
  | refine de_int ?_ | refine de_str ?_ | refine de_bl ?_ | refine de_non ?_ | walk_at "v"
  | refine da_nil ?_ | refine da_cons ?_ rfl
  | refine de_mod ?_ | refine de_fdiv ?_ | refine de_mul ?_ | refine de_addD ?_ | refine de_sub ?_
  | refine de_gt ?_ | refine de_lt ?_ | refine de_le ?_ | refine de_ge ?_
  | refine dt_w (dw_and ?_) | refine dt_w (dw_or ?_) | refine dw_and ?_ | refine dw_or ?_ | refine dw_and1 ?_ | refine dw_or1 ?_ | refine dt_not ?_
  | refine dt_gt ?_ | refine dt_lt ?_ | refine dt_le ?_ | refine dt_ge ?_
  | refine dt_val ?_ (by intro _; rfl)
  | refine de_ix (fun _ _ => rfl) ?_
  | refine dss_cons ?_ | refine dss_nil ?_ | refine ds_ret ?_ | refine ds_if ?_)

def top (i : Nat) : Stmt := PySem.Challenge.pw_twolistings_k03_known_rules.main.body.getD i (.Pass ⟨0, 0, 0, 0⟩)
abbrev sTake : Stmt := top 27
abbrev sFeed : Stmt := top 26
theorem scTake : FnScope ["feed", "many", "digit"] ["feed", "many"] (defScope sTake) := ⟨rfl, rfl, rfl, by decide +kernel, rfl, by decide +kernel, by decide +kernel⟩
theorem scFeed : FnScope ["script", "k", "cell", "digits", "state"] ["script", "k"] (defScope sFeed) := ⟨rfl, rfl, rfl, by decide +kernel, rfl, by decide +kernel, by decide +kernel⟩
structure Blt (mg : Str → Option Value) : Prop where
  len : mg "len" = none
  int : mg "int" = none
  max : mg "max" = none
  abs : mg "abs" = none
section
variable {P : Program} {w : World} {K : PySem.W.Frag} {mg : Str → Option Value} {base : Heap}
theorem okFeed {f : Addr} {fd : FuncData} (F : Fun K "_law_feed" "_law_feed" sFeed f fd) (B : Blt mg) : FnG P w K mg base CX0 1 f fd ["script", "k"] (spD K fFeedD) := by
  refine fnD_of F scFeed fFeedD (fun p ds Kp ⟨_, a, ns, k, h, _⟩ => by rw [h]; rfl) fun cdv A outer s H E hg hr p ds Kp hf => ?_
  obtain ⟨rfl, a, ns, k, rfl, hl, k0, k1, kk⟩ := hf
  refine dss_cons ?_
  refine ds_set (i := 2) scFeed.nd rfl (Or.inl rfl) (DE.imp (Kp := fun r => ∃ m : Int, r = .d (.int m)) ?cell fun r ⟨m, hm⟩ => ?rest)
  case cell =>
    refine de_ifE ?_
    refine dt_lt ?_
    walk_at "v"
    refine ⟨_, rfl, ?_⟩
    refine de_lenS (i := 0) rfl (Or.inl rfl) rfl rfl B.len ?_
    refine ⟨_, rfl, ?_⟩
    refine ⟨fun hlt => ?_, fun hge => ?_⟩
    · refine de_ixS (i := 0) rfl (Or.inl rfl) rfl (fun _ _ => rfl) ?_
      walk_at "v"
      exact ⟨_, rfl, k0, by simpa using hlt, fun m => ⟨m, rfl⟩⟩
    · repeat (first | exact ⟨_, rfl⟩ | walk_at "e" | refine ⟨_, rfl, ?_⟩ | refine ⟨_, _, rfl, rfl, ?_⟩ | refine ⟨.inl ⟨by omega, by omega⟩, ?_⟩)
  case rest =>
    subst hm
    refine dss_cons ?_
    refine ds_set (i := 3) scFeed.nd rfl (Or.inl rfl) (DE.imp (Kp := fun r => ∃ m : Int, r = .d (.int m)) ?dig fun r ⟨m2, hm2⟩ => ?rest2)
    case dig =>
      refine de_max2 rfl rfl B.max ?_
      repeat (first | exact ⟨_, rfl⟩ | refine de_abs rfl B.abs ?_ | refine de_pow ?_ | walk_at "e" | refine ⟨_, rfl, ?_⟩ | refine ⟨_, _, rfl, rfl, ?_⟩ | refine ⟨⟨by decide, by decide, by decide⟩, ?_⟩)
    case rest2 =>
      subst hm2
      refine dss_cons ?_
      refine ds_set (i := 4) scFeed.nd rfl (Or.inl rfl) (DE.imp (Kp := fun r => ∃ m : Int, r = .d (.int m)) ?st fun r ⟨m3, hm3⟩ => ?rest3)
      case st =>
        repeat (first | exact ⟨_, rfl⟩ | refine de_intI rfl B.int ?_ | walk_at "e" | refine ⟨_, rfl, ?_⟩ | refine ⟨_, _, rfl, rfl, ?_⟩ | refine ⟨.inr ⟨by omega, by omega⟩, ?_⟩ | refine ⟨.inl ⟨by omega, by omega⟩, ?_⟩ | refine ⟨by omega, ?_⟩)
      case rest3 =>
        subst hm3
        refine dss_cons ?_
        refine ds_ret ?_
        refine de_lst ?_
        walk_at "e"
        walk_at "v"
        walk_at "e"
        walk_at "v"
        walk_at "e"
        exact ⟨_, rfl, by rw [sizeLine_eq]; simp, kk _ _⟩
end
end R6
end

section
set_option maxRecDepth 100000
set_option maxHeartbeats 0
open PySem PySem.W PyProof.Rows
open_top hd03 for PySem.Challenge.rw_twolistings_k03_known_rules
end

section
set_option linter.all false
set_option maxRecDepth 100000
set_option maxHeartbeats 0
namespace P
open PySem L2 Z PyProof.Rows ClX
def top (i : Nat) : Stmt := PySem.Challenge.pw_twolistings_k03_known_rules.main.body.getD i (.Pass ⟨0, 0, 0, 0⟩)
def clsB : Stmt → List Stmt
  | .ClassDef _ _ _ b _ _ _ _ _ _ _ => b
  | _ => []
def meth (c i : Nat) : Stmt := (clsB (top c)).getD i (.Pass ⟨0, 0, 0, 0⟩)
def I_f_is_number_below : DefI := ⟨["value", "end"], ["value", "end"], top 13, false, none⟩
def I_f_is_tuple_of : DefI := ⟨["value", "size"], ["value", "size"], top 14, false, none⟩
def I_f_is_list_of : DefI := ⟨["value", "least", "most"], ["value", "least", "most"], top 15, false, none⟩
def I_f_is_place : DefI := ⟨["value", "modes"], ["value", "modes"], top 16, false, none⟩
def I_f_is_condition : DefI := ⟨["value", "letters"], ["value", "letters"], top 17, false, none⟩
def I_f_are_conditions : DefI := ⟨["value", "letters", "condition"], ["value", "letters"], top 18, false, none⟩
def I_f_is_row : DefI := ⟨["value", "letters", "modes", "conditions", "mode", "shown", "kept"], ["value", "letters", "modes"], top 19, false, none⟩
def I_f_are_modes : DefI := ⟨["value", "mode", "rows"], ["value"], top 20, false, none⟩
def I_f_check_modes : DefI := ⟨["modes", "number", "mode", "event", "rows", "at", "row"], ["modes"], top 21, false, none⟩
def I_f_all_hold : DefI := ⟨["conditions", "entries", "x", "sign", "y"], ["conditions", "entries"], top 22, false, none⟩
def I_f_mode : DefI := ⟨["told", "event"], ["told"], top 23, false, none⟩
def I_f_law_feed : DefI := ⟨["script", "k", "cell", "digits", "state"], ["script", "k"], top 26, true, some (1, aFeed)⟩
def I_f_law_take : DefI := ⟨["feed", "many", "digit"], ["feed", "many"], top 27, true, some (1, aTake)⟩
def I_f_law_menu : DefI := ⟨["gone", "comes", "off", "said", "lost", "named", "struck", "again", "on", "found", "right", "over"], [], top 28, true, none⟩
def I_f_law_told : DefI := ⟨["some"], [], top 29, true, none⟩
def I_f_law : DefI := ⟨["script", "menu", "first", "at", "rule", "nth", "again"], ["script"], top 30, true, none⟩
def I_m_Rule_init : DefI := ⟨["self", "modes", "rows", "mode"], ["self", "modes"], meth 24 0, false, none⟩
def I_m_Rule_modes : DefI := ⟨["self", "rows", "mode"], ["self"], meth 24 1, false, none⟩
def I_m_Rule_len : DefI := ⟨["self"], ["self"], meth 24 2, false, none⟩
def I_m_Rule_iter : DefI := ⟨["self"], ["self"], meth 24 3, false, none⟩
def I_m_Rule_getitem : DefI := ⟨["self", "at", "mode", "event"], ["self", "at"], meth 24 4, false, none⟩
def I_m_Rule_call : DefI := ⟨["self", "mode", "event", "entries", "rows", "at", "row"], ["self", "mode", "event", "entries"], meth 24 5, false, none⟩
def I_m_Rule_eq : DefI := ⟨["self", "other"], ["self", "other"], meth 24 6, false, none⟩
def I_m_Rule_changed : DefI := ⟨["self", "mode", "event", "rows"], ["self", "mode", "event", "rows"], meth 24 7, false, none⟩
def I_m_Rule_heads : DefI := ⟨[], [], meth 24 8, false, none⟩
def I_m_Rule_last_list : DefI := ⟨[], [], meth 24 9, false, none⟩
def I_m_Rule_all_lists : DefI := ⟨[], [], meth 24 10, false, none⟩
def I_m_Rule_waiting : DefI := ⟨["shows"], [], meth 24 11, false, none⟩
def I_m_Rule_checking : DefI := ⟨[], [], meth 24 12, false, none⟩
def I_m_Rule_twice : DefI := ⟨[], [], meth 24 13, false, none⟩
def I_m_Rule_primed : DefI := ⟨["lists", "records"], [], meth 24 14, false, none⟩
theorem sc_f_is_number_below : FnScope I_f_is_number_below.N I_f_is_number_below.ps (defScope I_f_is_number_below.st) := ⟨rfl, rfl, rfl, by decide +kernel, rfl, by decide +kernel, by decide +kernel⟩
theorem b_f_is_number_below : ∀ (kV doc pm : Value) (an : Option Addr) (cdv ct : Value) (us : List Value), us.length = I_f_is_number_below.ps.length → bindArgs (PySem.W.fnOf "_is_number_below" "_is_number_below" (defArgs I_f_is_number_below.st) (defBody I_f_is_number_below.st) (defScope I_f_is_number_below.st) .none kV doc pm an cdv ct) ⟨us, []⟩ = pure (I_f_is_number_below.ps.zip us) := fun _ _ _ _ _ _ us hl => match us, hl with | [_, _], _ => rfl
theorem sc_f_is_tuple_of : FnScope I_f_is_tuple_of.N I_f_is_tuple_of.ps (defScope I_f_is_tuple_of.st) := ⟨rfl, rfl, rfl, by decide +kernel, rfl, by decide +kernel, by decide +kernel⟩
theorem b_f_is_tuple_of : ∀ (kV doc pm : Value) (an : Option Addr) (cdv ct : Value) (us : List Value), us.length = I_f_is_tuple_of.ps.length → bindArgs (PySem.W.fnOf "_is_tuple_of" "_is_tuple_of" (defArgs I_f_is_tuple_of.st) (defBody I_f_is_tuple_of.st) (defScope I_f_is_tuple_of.st) .none kV doc pm an cdv ct) ⟨us, []⟩ = pure (I_f_is_tuple_of.ps.zip us) := fun _ _ _ _ _ _ us hl => match us, hl with | [_, _], _ => rfl
theorem sc_f_is_list_of : FnScope I_f_is_list_of.N I_f_is_list_of.ps (defScope I_f_is_list_of.st) := ⟨rfl, rfl, rfl, by decide +kernel, rfl, by decide +kernel, by decide +kernel⟩
theorem b_f_is_list_of : ∀ (kV doc pm : Value) (an : Option Addr) (cdv ct : Value) (us : List Value), us.length = I_f_is_list_of.ps.length → bindArgs (PySem.W.fnOf "_is_list_of" "_is_list_of" (defArgs I_f_is_list_of.st) (defBody I_f_is_list_of.st) (defScope I_f_is_list_of.st) .none kV doc pm an cdv ct) ⟨us, []⟩ = pure (I_f_is_list_of.ps.zip us) := fun _ _ _ _ _ _ us hl => match us, hl with | [_, _, _], _ => rfl
theorem sc_f_is_place : FnScope I_f_is_place.N I_f_is_place.ps (defScope I_f_is_place.st) := ⟨rfl, rfl, rfl, by decide +kernel, rfl, by decide +kernel, by decide +kernel⟩
theorem b_f_is_place : ∀ (kV doc pm : Value) (an : Option Addr) (cdv ct : Value) (us : List Value), us.length = I_f_is_place.ps.length → bindArgs (PySem.W.fnOf "_is_place" "_is_place" (defArgs I_f_is_place.st) (defBody I_f_is_place.st) (defScope I_f_is_place.st) .none kV doc pm an cdv ct) ⟨us, []⟩ = pure (I_f_is_place.ps.zip us) := fun _ _ _ _ _ _ us hl => match us, hl with | [_, _], _ => rfl
theorem sc_f_is_condition : FnScope I_f_is_condition.N I_f_is_condition.ps (defScope I_f_is_condition.st) := ⟨rfl, rfl, rfl, by decide +kernel, rfl, by decide +kernel, by decide +kernel⟩
theorem b_f_is_condition : ∀ (kV doc pm : Value) (an : Option Addr) (cdv ct : Value) (us : List Value), us.length = I_f_is_condition.ps.length → bindArgs (PySem.W.fnOf "_is_condition" "_is_condition" (defArgs I_f_is_condition.st) (defBody I_f_is_condition.st) (defScope I_f_is_condition.st) .none kV doc pm an cdv ct) ⟨us, []⟩ = pure (I_f_is_condition.ps.zip us) := fun _ _ _ _ _ _ us hl => match us, hl with | [_, _], _ => rfl
theorem sc_f_are_conditions : FnScope I_f_are_conditions.N I_f_are_conditions.ps (defScope I_f_are_conditions.st) := ⟨rfl, rfl, rfl, by decide +kernel, rfl, by decide +kernel, by decide +kernel⟩
theorem b_f_are_conditions : ∀ (kV doc pm : Value) (an : Option Addr) (cdv ct : Value) (us : List Value), us.length = I_f_are_conditions.ps.length → bindArgs (PySem.W.fnOf "_are_conditions" "_are_conditions" (defArgs I_f_are_conditions.st) (defBody I_f_are_conditions.st) (defScope I_f_are_conditions.st) .none kV doc pm an cdv ct) ⟨us, []⟩ = pure (I_f_are_conditions.ps.zip us) := fun _ _ _ _ _ _ us hl => match us, hl with | [_, _], _ => rfl
theorem sc_f_is_row : FnScope I_f_is_row.N I_f_is_row.ps (defScope I_f_is_row.st) := ⟨rfl, rfl, rfl, by decide +kernel, rfl, by decide +kernel, by decide +kernel⟩
theorem b_f_is_row : ∀ (kV doc pm : Value) (an : Option Addr) (cdv ct : Value) (us : List Value), us.length = I_f_is_row.ps.length → bindArgs (PySem.W.fnOf "_is_row" "_is_row" (defArgs I_f_is_row.st) (defBody I_f_is_row.st) (defScope I_f_is_row.st) .none kV doc pm an cdv ct) ⟨us, []⟩ = pure (I_f_is_row.ps.zip us) := fun _ _ _ _ _ _ us hl => match us, hl with | [_, _, _], _ => rfl
theorem sc_f_are_modes : FnScope I_f_are_modes.N I_f_are_modes.ps (defScope I_f_are_modes.st) := ⟨rfl, rfl, rfl, by decide +kernel, rfl, by decide +kernel, by decide +kernel⟩
theorem b_f_are_modes : ∀ (kV doc pm : Value) (an : Option Addr) (cdv ct : Value) (us : List Value), us.length = I_f_are_modes.ps.length → bindArgs (PySem.W.fnOf "_are_modes" "_are_modes" (defArgs I_f_are_modes.st) (defBody I_f_are_modes.st) (defScope I_f_are_modes.st) .none kV doc pm an cdv ct) ⟨us, []⟩ = pure (I_f_are_modes.ps.zip us) := fun _ _ _ _ _ _ us hl => match us, hl with | [_], _ => rfl
theorem sc_f_check_modes : FnScope I_f_check_modes.N I_f_check_modes.ps (defScope I_f_check_modes.st) := ⟨rfl, rfl, rfl, by decide +kernel, rfl, by decide +kernel, by decide +kernel⟩
theorem b_f_check_modes : ∀ (kV doc pm : Value) (an : Option Addr) (cdv ct : Value) (us : List Value), us.length = I_f_check_modes.ps.length → bindArgs (PySem.W.fnOf "_check_modes" "_check_modes" (defArgs I_f_check_modes.st) (defBody I_f_check_modes.st) (defScope I_f_check_modes.st) .none kV doc pm an cdv ct) ⟨us, []⟩ = pure (I_f_check_modes.ps.zip us) := fun _ _ _ _ _ _ us hl => match us, hl with | [_], _ => rfl
theorem sc_f_all_hold : FnScope I_f_all_hold.N I_f_all_hold.ps (defScope I_f_all_hold.st) := ⟨rfl, rfl, rfl, by decide +kernel, rfl, by decide +kernel, by decide +kernel⟩
theorem b_f_all_hold : ∀ (kV doc pm : Value) (an : Option Addr) (cdv ct : Value) (us : List Value), us.length = I_f_all_hold.ps.length → bindArgs (PySem.W.fnOf "_all_hold" "_all_hold" (defArgs I_f_all_hold.st) (defBody I_f_all_hold.st) (defScope I_f_all_hold.st) .none kV doc pm an cdv ct) ⟨us, []⟩ = pure (I_f_all_hold.ps.zip us) := fun _ _ _ _ _ _ us hl => match us, hl with | [_, _], _ => rfl
theorem sc_f_mode : FnScope I_f_mode.N I_f_mode.ps (defScope I_f_mode.st) := ⟨rfl, rfl, rfl, by decide +kernel, rfl, by decide +kernel, by decide +kernel⟩
theorem b_f_mode : ∀ (kV doc pm : Value) (an : Option Addr) (cdv ct : Value) (us : List Value), us.length = I_f_mode.ps.length → bindArgs (PySem.W.fnOf "_mode" "_mode" (defArgs I_f_mode.st) (defBody I_f_mode.st) (defScope I_f_mode.st) .none kV doc pm an cdv ct) ⟨us, []⟩ = pure (I_f_mode.ps.zip us) := fun _ _ _ _ _ _ us hl => match us, hl with | [_], _ => rfl
theorem sc_f_law_feed : FnScope I_f_law_feed.N I_f_law_feed.ps (defScope I_f_law_feed.st) := ⟨rfl, rfl, rfl, by decide +kernel, rfl, by decide +kernel, by decide +kernel⟩
theorem b_f_law_feed : ∀ (kV doc pm : Value) (an : Option Addr) (cdv ct : Value) (us : List Value), us.length = I_f_law_feed.ps.length → bindArgs (PySem.W.fnOf "_law_feed" "_law_feed" (defArgs I_f_law_feed.st) (defBody I_f_law_feed.st) (defScope I_f_law_feed.st) .none kV doc pm an cdv ct) ⟨us, []⟩ = pure (I_f_law_feed.ps.zip us) := fun _ _ _ _ _ _ us hl => match us, hl with | [_, _], _ => rfl
theorem sc_f_law_take : FnScope I_f_law_take.N I_f_law_take.ps (defScope I_f_law_take.st) := ⟨rfl, rfl, rfl, by decide +kernel, rfl, by decide +kernel, by decide +kernel⟩
theorem b_f_law_take : ∀ (kV doc pm : Value) (an : Option Addr) (cdv ct : Value) (us : List Value), us.length = I_f_law_take.ps.length → bindArgs (PySem.W.fnOf "_law_take" "_law_take" (defArgs I_f_law_take.st) (defBody I_f_law_take.st) (defScope I_f_law_take.st) .none kV doc pm an cdv ct) ⟨us, []⟩ = pure (I_f_law_take.ps.zip us) := fun _ _ _ _ _ _ us hl => match us, hl with | [_, _], _ => rfl
theorem sc_f_law_menu : FnScope I_f_law_menu.N I_f_law_menu.ps (defScope I_f_law_menu.st) := ⟨rfl, rfl, rfl, by decide +kernel, rfl, by decide +kernel, by decide +kernel⟩
theorem b_f_law_menu : ∀ (kV doc pm : Value) (an : Option Addr) (cdv ct : Value) (us : List Value), us.length = I_f_law_menu.ps.length → bindArgs (PySem.W.fnOf "_law_menu" "_law_menu" (defArgs I_f_law_menu.st) (defBody I_f_law_menu.st) (defScope I_f_law_menu.st) .none kV doc pm an cdv ct) ⟨us, []⟩ = pure (I_f_law_menu.ps.zip us) := fun _ _ _ _ _ _ us hl => match us, hl with | [], _ => rfl
theorem sc_f_law_told : FnScope I_f_law_told.N I_f_law_told.ps (defScope I_f_law_told.st) := ⟨rfl, rfl, rfl, by decide +kernel, rfl, by decide +kernel, by decide +kernel⟩
theorem b_f_law_told : ∀ (kV doc pm : Value) (an : Option Addr) (cdv ct : Value) (us : List Value), us.length = I_f_law_told.ps.length → bindArgs (PySem.W.fnOf "_law_told" "_law_told" (defArgs I_f_law_told.st) (defBody I_f_law_told.st) (defScope I_f_law_told.st) .none kV doc pm an cdv ct) ⟨us, []⟩ = pure (I_f_law_told.ps.zip us) := fun _ _ _ _ _ _ us hl => match us, hl with | [], _ => rfl
theorem sc_f_law : FnScope I_f_law.N I_f_law.ps (defScope I_f_law.st) := ⟨rfl, rfl, rfl, by decide +kernel, rfl, by decide +kernel, by decide +kernel⟩
theorem b_f_law : ∀ (kV doc pm : Value) (an : Option Addr) (cdv ct : Value) (us : List Value), us.length = I_f_law.ps.length → bindArgs (PySem.W.fnOf "law" "law" (defArgs I_f_law.st) (defBody I_f_law.st) (defScope I_f_law.st) .none kV doc pm an cdv ct) ⟨us, []⟩ = pure (I_f_law.ps.zip us) := fun _ _ _ _ _ _ us hl => match us, hl with | [_], _ => rfl
theorem sc_m_Rule_init : FnScope I_m_Rule_init.N I_m_Rule_init.ps (defScope I_m_Rule_init.st) := ⟨rfl, rfl, rfl, by decide +kernel, rfl, by decide +kernel, by decide +kernel⟩
theorem b_m_Rule_init : ∀ (kV doc pm : Value) (an : Option Addr) (cdv ct : Value) (us : List Value), us.length = I_m_Rule_init.ps.length → bindArgs (PySem.W.fnOf "__init__" "Rule.__init__" (defArgs I_m_Rule_init.st) (defBody I_m_Rule_init.st) (defScope I_m_Rule_init.st) .none kV doc pm an cdv ct) ⟨us, []⟩ = pure (I_m_Rule_init.ps.zip us) := fun _ _ _ _ _ _ us hl => match us, hl with | [_, _], _ => rfl
theorem sc_m_Rule_modes : FnScope I_m_Rule_modes.N I_m_Rule_modes.ps (defScope I_m_Rule_modes.st) := ⟨rfl, rfl, rfl, by decide +kernel, rfl, by decide +kernel, by decide +kernel⟩
theorem b_m_Rule_modes : ∀ (kV doc pm : Value) (an : Option Addr) (cdv ct : Value) (us : List Value), us.length = I_m_Rule_modes.ps.length → bindArgs (PySem.W.fnOf "modes" "Rule.modes" (defArgs I_m_Rule_modes.st) (defBody I_m_Rule_modes.st) (defScope I_m_Rule_modes.st) .none kV doc pm an cdv ct) ⟨us, []⟩ = pure (I_m_Rule_modes.ps.zip us) := fun _ _ _ _ _ _ us hl => match us, hl with | [_], _ => rfl
theorem sc_m_Rule_len : FnScope I_m_Rule_len.N I_m_Rule_len.ps (defScope I_m_Rule_len.st) := ⟨rfl, rfl, rfl, by decide +kernel, rfl, by decide +kernel, by decide +kernel⟩
theorem b_m_Rule_len : ∀ (kV doc pm : Value) (an : Option Addr) (cdv ct : Value) (us : List Value), us.length = I_m_Rule_len.ps.length → bindArgs (PySem.W.fnOf "__len__" "Rule.__len__" (defArgs I_m_Rule_len.st) (defBody I_m_Rule_len.st) (defScope I_m_Rule_len.st) .none kV doc pm an cdv ct) ⟨us, []⟩ = pure (I_m_Rule_len.ps.zip us) := fun _ _ _ _ _ _ us hl => match us, hl with | [_], _ => rfl
theorem sc_m_Rule_iter : FnScope I_m_Rule_iter.N I_m_Rule_iter.ps (defScope I_m_Rule_iter.st) := ⟨rfl, rfl, rfl, by decide +kernel, rfl, by decide +kernel, by decide +kernel⟩
theorem b_m_Rule_iter : ∀ (kV doc pm : Value) (an : Option Addr) (cdv ct : Value) (us : List Value), us.length = I_m_Rule_iter.ps.length → bindArgs (PySem.W.fnOf "__iter__" "Rule.__iter__" (defArgs I_m_Rule_iter.st) (defBody I_m_Rule_iter.st) (defScope I_m_Rule_iter.st) .none kV doc pm an cdv ct) ⟨us, []⟩ = pure (I_m_Rule_iter.ps.zip us) := fun _ _ _ _ _ _ us hl => match us, hl with | [_], _ => rfl
theorem sc_m_Rule_getitem : FnScope I_m_Rule_getitem.N I_m_Rule_getitem.ps (defScope I_m_Rule_getitem.st) := ⟨rfl, rfl, rfl, by decide +kernel, rfl, by decide +kernel, by decide +kernel⟩
theorem b_m_Rule_getitem : ∀ (kV doc pm : Value) (an : Option Addr) (cdv ct : Value) (us : List Value), us.length = I_m_Rule_getitem.ps.length → bindArgs (PySem.W.fnOf "__getitem__" "Rule.__getitem__" (defArgs I_m_Rule_getitem.st) (defBody I_m_Rule_getitem.st) (defScope I_m_Rule_getitem.st) .none kV doc pm an cdv ct) ⟨us, []⟩ = pure (I_m_Rule_getitem.ps.zip us) := fun _ _ _ _ _ _ us hl => match us, hl with | [_, _], _ => rfl
theorem sc_m_Rule_call : FnScope I_m_Rule_call.N I_m_Rule_call.ps (defScope I_m_Rule_call.st) := ⟨rfl, rfl, rfl, by decide +kernel, rfl, by decide +kernel, by decide +kernel⟩
theorem b_m_Rule_call : ∀ (kV doc pm : Value) (an : Option Addr) (cdv ct : Value) (us : List Value), us.length = I_m_Rule_call.ps.length → bindArgs (PySem.W.fnOf "__call__" "Rule.__call__" (defArgs I_m_Rule_call.st) (defBody I_m_Rule_call.st) (defScope I_m_Rule_call.st) .none kV doc pm an cdv ct) ⟨us, []⟩ = pure (I_m_Rule_call.ps.zip us) := fun _ _ _ _ _ _ us hl => match us, hl with | [_, _, _, _], _ => rfl
theorem sc_m_Rule_eq : FnScope I_m_Rule_eq.N I_m_Rule_eq.ps (defScope I_m_Rule_eq.st) := ⟨rfl, rfl, rfl, by decide +kernel, rfl, by decide +kernel, by decide +kernel⟩
theorem b_m_Rule_eq : ∀ (kV doc pm : Value) (an : Option Addr) (cdv ct : Value) (us : List Value), us.length = I_m_Rule_eq.ps.length → bindArgs (PySem.W.fnOf "__eq__" "Rule.__eq__" (defArgs I_m_Rule_eq.st) (defBody I_m_Rule_eq.st) (defScope I_m_Rule_eq.st) .none kV doc pm an cdv ct) ⟨us, []⟩ = pure (I_m_Rule_eq.ps.zip us) := fun _ _ _ _ _ _ us hl => match us, hl with | [_, _], _ => rfl
theorem sc_m_Rule_changed : FnScope I_m_Rule_changed.N I_m_Rule_changed.ps (defScope I_m_Rule_changed.st) := ⟨rfl, rfl, rfl, by decide +kernel, rfl, by decide +kernel, by decide +kernel⟩
theorem b_m_Rule_changed : ∀ (kV doc pm : Value) (an : Option Addr) (cdv ct : Value) (us : List Value), us.length = I_m_Rule_changed.ps.length → bindArgs (PySem.W.fnOf "changed" "Rule.changed" (defArgs I_m_Rule_changed.st) (defBody I_m_Rule_changed.st) (defScope I_m_Rule_changed.st) .none kV doc pm an cdv ct) ⟨us, []⟩ = pure (I_m_Rule_changed.ps.zip us) := fun _ _ _ _ _ _ us hl => match us, hl with | [_, _, _, _], _ => rfl
theorem sc_m_Rule_heads : FnScope I_m_Rule_heads.N I_m_Rule_heads.ps (defScope I_m_Rule_heads.st) := ⟨rfl, rfl, rfl, by decide +kernel, rfl, by decide +kernel, by decide +kernel⟩
theorem b_m_Rule_heads : ∀ (kV doc pm : Value) (an : Option Addr) (cdv ct : Value) (us : List Value), us.length = I_m_Rule_heads.ps.length → bindArgs (PySem.W.fnOf "heads" "Rule.heads" (defArgs I_m_Rule_heads.st) (defBody I_m_Rule_heads.st) (defScope I_m_Rule_heads.st) .none kV doc pm an cdv ct) ⟨us, []⟩ = pure (I_m_Rule_heads.ps.zip us) := fun _ _ _ _ _ _ us hl => match us, hl with | [], _ => rfl
theorem sc_m_Rule_last_list : FnScope I_m_Rule_last_list.N I_m_Rule_last_list.ps (defScope I_m_Rule_last_list.st) := ⟨rfl, rfl, rfl, by decide +kernel, rfl, by decide +kernel, by decide +kernel⟩
theorem b_m_Rule_last_list : ∀ (kV doc pm : Value) (an : Option Addr) (cdv ct : Value) (us : List Value), us.length = I_m_Rule_last_list.ps.length → bindArgs (PySem.W.fnOf "last_list" "Rule.last_list" (defArgs I_m_Rule_last_list.st) (defBody I_m_Rule_last_list.st) (defScope I_m_Rule_last_list.st) .none kV doc pm an cdv ct) ⟨us, []⟩ = pure (I_m_Rule_last_list.ps.zip us) := fun _ _ _ _ _ _ us hl => match us, hl with | [], _ => rfl
theorem sc_m_Rule_all_lists : FnScope I_m_Rule_all_lists.N I_m_Rule_all_lists.ps (defScope I_m_Rule_all_lists.st) := ⟨rfl, rfl, rfl, by decide +kernel, rfl, by decide +kernel, by decide +kernel⟩
theorem b_m_Rule_all_lists : ∀ (kV doc pm : Value) (an : Option Addr) (cdv ct : Value) (us : List Value), us.length = I_m_Rule_all_lists.ps.length → bindArgs (PySem.W.fnOf "all_lists" "Rule.all_lists" (defArgs I_m_Rule_all_lists.st) (defBody I_m_Rule_all_lists.st) (defScope I_m_Rule_all_lists.st) .none kV doc pm an cdv ct) ⟨us, []⟩ = pure (I_m_Rule_all_lists.ps.zip us) := fun _ _ _ _ _ _ us hl => match us, hl with | [], _ => rfl
theorem sc_m_Rule_waiting : FnScope I_m_Rule_waiting.N I_m_Rule_waiting.ps (defScope I_m_Rule_waiting.st) := ⟨rfl, rfl, rfl, by decide +kernel, rfl, by decide +kernel, by decide +kernel⟩
theorem b_m_Rule_waiting : ∀ (kV doc pm : Value) (an : Option Addr) (cdv ct : Value) (us : List Value), us.length = I_m_Rule_waiting.ps.length → bindArgs (PySem.W.fnOf "waiting" "Rule.waiting" (defArgs I_m_Rule_waiting.st) (defBody I_m_Rule_waiting.st) (defScope I_m_Rule_waiting.st) .none kV doc pm an cdv ct) ⟨us, []⟩ = pure (I_m_Rule_waiting.ps.zip us) := fun _ _ _ _ _ _ us hl => match us, hl with | [], _ => rfl
theorem sc_m_Rule_checking : FnScope I_m_Rule_checking.N I_m_Rule_checking.ps (defScope I_m_Rule_checking.st) := ⟨rfl, rfl, rfl, by decide +kernel, rfl, by decide +kernel, by decide +kernel⟩
theorem b_m_Rule_checking : ∀ (kV doc pm : Value) (an : Option Addr) (cdv ct : Value) (us : List Value), us.length = I_m_Rule_checking.ps.length → bindArgs (PySem.W.fnOf "checking" "Rule.checking" (defArgs I_m_Rule_checking.st) (defBody I_m_Rule_checking.st) (defScope I_m_Rule_checking.st) .none kV doc pm an cdv ct) ⟨us, []⟩ = pure (I_m_Rule_checking.ps.zip us) := fun _ _ _ _ _ _ us hl => match us, hl with | [], _ => rfl
theorem sc_m_Rule_twice : FnScope I_m_Rule_twice.N I_m_Rule_twice.ps (defScope I_m_Rule_twice.st) := ⟨rfl, rfl, rfl, by decide +kernel, rfl, by decide +kernel, by decide +kernel⟩
theorem b_m_Rule_twice : ∀ (kV doc pm : Value) (an : Option Addr) (cdv ct : Value) (us : List Value), us.length = I_m_Rule_twice.ps.length → bindArgs (PySem.W.fnOf "twice" "Rule.twice" (defArgs I_m_Rule_twice.st) (defBody I_m_Rule_twice.st) (defScope I_m_Rule_twice.st) .none kV doc pm an cdv ct) ⟨us, []⟩ = pure (I_m_Rule_twice.ps.zip us) := fun _ _ _ _ _ _ us hl => match us, hl with | [], _ => rfl
theorem sc_m_Rule_primed : FnScope I_m_Rule_primed.N I_m_Rule_primed.ps (defScope I_m_Rule_primed.st) := ⟨rfl, rfl, rfl, by decide +kernel, rfl, by decide +kernel, by decide +kernel⟩
theorem b_m_Rule_primed : ∀ (kV doc pm : Value) (an : Option Addr) (cdv ct : Value) (us : List Value), us.length = I_m_Rule_primed.ps.length → bindArgs (PySem.W.fnOf "primed" "Rule.primed" (defArgs I_m_Rule_primed.st) (defBody I_m_Rule_primed.st) (defScope I_m_Rule_primed.st) .none kV doc pm an cdv ct) ⟨us, []⟩ = pure (I_m_Rule_primed.ps.zip us) := fun _ _ _ _ _ _ us hl => match us, hl with | [], _ => rfl
def SG : List (Nat × List AV) := [(85, [.str "head", .str "strike", .str "other", .str "named", .str "struck", .str "absent"]), (87, [.str "s", .str "k", .str "o", .str "n"]), (88, [.str "s", .str "k", .str "o"]), (89, [.str "s", .str "k", .str "o"]), (90, [.str "s", .str "k", .str "o", .str "x"]), (91, [.str "s", .str "k", .str "o"]), (92, [.str "s", .str "k", .str "o"]), (93, [.str "==", .str "!="])]
def SDc : List (Nat × List (Str × AV)) := [(86, [("head", .k (.ref 87)), ("strike", .k (.ref 88)), ("other", .k (.ref 89)), ("named", .k (.ref 90)), ("struck", .k (.ref 91)), ("absent", .k (.ref 92))])]
def SLc : List (Nat × List (TyA × Bool)) := [(295, [(.b "NoneType", false), (.b "bool", false), (.b "int", false), (.b "str", false), (.b "list", false), (.b "tuple", false), (.b "dict", false), (.c 295, true)])]
def SLt : List (Nat × List (String × Bool)) := []
def S : Src := { G := ascN SG, D := ascN SDc, kt := ktOf SLc SLt, gl := [("EVENTS", .k (.ref 85)), ("LETTERS", .k (.ref 86)), ("SIGNS", .k (.ref 93)), ("MOST_MODES", .int 3), ("MOST_ROWS", .int 4), ("MOST_CONDITIONS", .int 2), ("TwoError", .k (.ref 31)), ("BadModes", .k (.ref 44)), ("BadRow", .k (.ref 63)), ("NoPlace", .k (.ref 82)), ("Rule", .k (.ref 295))], bt := [("bool", "bool"), ("int", "int"), ("list", "list"), ("tuple", "tuple")], un := ["TypeError", "abs", "all", "bool", "enumerate", "int", "isinstance", "len", "list", "max", "property", "range", "repr", "staticmethod", "tuple", "zip"], fn := [("_is_number_below", I_f_is_number_below), ("_is_tuple_of", I_f_is_tuple_of), ("_is_list_of", I_f_is_list_of), ("_is_place", I_f_is_place), ("_is_condition", I_f_is_condition), ("_are_conditions", I_f_are_conditions), ("_is_row", I_f_is_row), ("_are_modes", I_f_are_modes), ("_check_modes", I_f_check_modes), ("_all_hold", I_f_all_hold), ("_mode", I_f_mode), ("_law_feed", I_f_law_feed), ("_law_take", I_f_law_take), ("_law_menu", I_f_law_menu), ("_law_told", I_f_law_told), ("law", I_f_law)], mkc := [("Rule", 295, I_m_Rule_init)], prop := [("modes", 295, I_m_Rule_modes)], meth := [("changed", 295, I_m_Rule_changed)], sm := [("heads", 295, I_m_Rule_heads), ("last_list", 295, I_m_Rule_last_list), ("all_lists", 295, I_m_Rule_all_lists), ("waiting", 295, I_m_Rule_waiting), ("checking", 295, I_m_Rule_checking), ("twice", 295, I_m_Rule_twice), ("primed", 295, I_m_Rule_primed)], eqs := [(295, I_m_Rule_eq)], lens := [(295, I_m_Rule_len)], items := [(295, I_m_Rule_getitem)], fld := [("_modes", [295])], tl := [85, 87, 88, 89, 90, 91, 92, 93] }
theorem runs : (FF S 12 I_f_law [.scr] ⟨0, .lf⟩).chk (fun r => match r.1 with | .bl true => true | _ => false) = true := by decide +kernel
end P
open PySem PySem.W PyProof.Rows
theorem PySem.Challenge.cw_twolistings_k03_known_rules_holds : PySem.Challenge.rw_twolistings_k03_known_rules.Holds := by
  refine hd03 ?_
  k_fill
  refine Z.walk_G (l := PySem.Challenge.rw_twolistings_k03_known_rules) (k := 24) (x := "script") rfl rfl ⟨rfl, by decide, by decide⟩ (fun w h Y => PySem.W.kIn_of Y) ?F
  case F =>
    intro w mg fa h KX G hmg
    have hfa : mg "law" = some (.ref fa) := hmg
    clear hmg
    have cl_295 : L2.Cls (hd03.heap_39 w.params) 295 := ⟨by k_is, by k_is, by k_is, by k_is⟩
    have dk_f_is_number_below : Z.DefK (hd03.heap_39 w.params) "_is_number_below" "_is_number_below" P.I_f_is_number_below.st 100 := ⟨⟨_, _, _, _, _, _, _, _, _, by k_is, by k_is⟩, by k_is⟩
    have dk_f_is_tuple_of : Z.DefK (hd03.heap_39 w.params) "_is_tuple_of" "_is_tuple_of" P.I_f_is_tuple_of.st 107 := ⟨⟨_, _, _, _, _, _, _, _, _, by k_is, by k_is⟩, by k_is⟩
    have dk_f_is_list_of : Z.DefK (hd03.heap_39 w.params) "_is_list_of" "_is_list_of" P.I_f_is_list_of.st 114 := ⟨⟨_, _, _, _, _, _, _, _, _, by k_is, by k_is⟩, by k_is⟩
    have dk_f_is_place : Z.DefK (hd03.heap_39 w.params) "_is_place" "_is_place" P.I_f_is_place.st 121 := ⟨⟨_, _, _, _, _, _, _, _, _, by k_is, by k_is⟩, by k_is⟩
    have dk_f_is_condition : Z.DefK (hd03.heap_39 w.params) "_is_condition" "_is_condition" P.I_f_is_condition.st 128 := ⟨⟨_, _, _, _, _, _, _, _, _, by k_is, by k_is⟩, by k_is⟩
    have dk_f_are_conditions : Z.DefK (hd03.heap_39 w.params) "_are_conditions" "_are_conditions" P.I_f_are_conditions.st 133 := ⟨⟨_, _, _, _, _, _, _, _, _, by k_is, by k_is⟩, by k_is⟩
    have dk_f_is_row : Z.DefK (hd03.heap_39 w.params) "_is_row" "_is_row" P.I_f_is_row.st 140 := ⟨⟨_, _, _, _, _, _, _, _, _, by k_is, by k_is⟩, by k_is⟩
    have dk_f_are_modes : Z.DefK (hd03.heap_39 w.params) "_are_modes" "_are_modes" P.I_f_are_modes.st 145 := ⟨⟨_, _, _, _, _, _, _, _, _, by k_is, by k_is⟩, by k_is⟩
    have dk_f_check_modes : Z.DefK (hd03.heap_39 w.params) "_check_modes" "_check_modes" P.I_f_check_modes.st 152 := ⟨⟨_, _, _, _, _, _, _, _, _, by k_is, by k_is⟩, by k_is⟩
    have dk_f_all_hold : Z.DefK (hd03.heap_39 w.params) "_all_hold" "_all_hold" P.I_f_all_hold.st 157 := ⟨⟨_, _, _, _, _, _, _, _, _, by k_is, by k_is⟩, by k_is⟩
    have dk_f_mode : Z.DefK (hd03.heap_39 w.params) "_mode" "_mode" P.I_f_mode.st 162 := ⟨⟨_, _, _, _, _, _, _, _, _, by k_is, by k_is⟩, by k_is⟩
    have dk_f_law_feed : Z.DefK (hd03.heap_39 w.params) "_law_feed" "_law_feed" P.I_f_law_feed.st 306 := ⟨⟨_, _, _, _, _, _, _, _, _, by k_is, by k_is⟩, by k_is⟩
    have dk_f_law_take : Z.DefK (hd03.heap_39 w.params) "_law_take" "_law_take" P.I_f_law_take.st 313 := ⟨⟨_, _, _, _, _, _, _, _, _, by k_is, by k_is⟩, by k_is⟩
    have dk_f_law_menu : Z.DefK (hd03.heap_39 w.params) "_law_menu" "_law_menu" P.I_f_law_menu.st 320 := ⟨⟨_, _, _, _, _, _, _, _, _, by k_is, by k_is⟩, by k_is⟩
    have dk_f_law_told : Z.DefK (hd03.heap_39 w.params) "_law_told" "_law_told" P.I_f_law_told.st 327 := ⟨⟨_, _, _, _, _, _, _, _, _, by k_is, by k_is⟩, by k_is⟩
    have dk_f_law : Z.DefK (hd03.heap_39 w.params) "law" "law" P.I_f_law.st 332 := ⟨⟨_, _, _, _, _, _, _, _, _, by k_is, by k_is⟩, by k_is⟩
    have dk_m_Rule_init : Z.DefK (hd03.heap_39 w.params) "__init__" "Rule.__init__" P.I_m_Rule_init.st 174 := ⟨⟨_, _, _, _, _, _, _, _, _, by k_is, by k_is⟩, by k_is⟩
    have dk_m_Rule_modes : Z.DefK (hd03.heap_39 w.params) "modes" "Rule.modes" P.I_m_Rule_modes.st 179 := ⟨⟨_, _, _, _, _, _, _, _, _, by k_is, by k_is⟩, by k_is⟩
    have dk_m_Rule_len : Z.DefK (hd03.heap_39 w.params) "__len__" "Rule.__len__" P.I_m_Rule_len.st 187 := ⟨⟨_, _, _, _, _, _, _, _, _, by k_is, by k_is⟩, by k_is⟩
    have dk_m_Rule_iter : Z.DefK (hd03.heap_39 w.params) "__iter__" "Rule.__iter__" P.I_m_Rule_iter.st 194 := ⟨⟨_, _, _, _, _, _, _, _, _, by k_is, by k_is⟩, by k_is⟩
    have dk_m_Rule_getitem : Z.DefK (hd03.heap_39 w.params) "__getitem__" "Rule.__getitem__" P.I_m_Rule_getitem.st 201 := ⟨⟨_, _, _, _, _, _, _, _, _, by k_is, by k_is⟩, by k_is⟩
    have dk_m_Rule_call : Z.DefK (hd03.heap_39 w.params) "__call__" "Rule.__call__" P.I_m_Rule_call.st 208 := ⟨⟨_, _, _, _, _, _, _, _, _, by k_is, by k_is⟩, by k_is⟩
    have dk_m_Rule_eq : Z.DefK (hd03.heap_39 w.params) "__eq__" "Rule.__eq__" P.I_m_Rule_eq.st 215 := ⟨⟨_, _, _, _, _, _, _, _, _, by k_is, by k_is⟩, by k_is⟩
    have dk_m_Rule_changed : Z.DefK (hd03.heap_39 w.params) "changed" "Rule.changed" P.I_m_Rule_changed.st 222 := ⟨⟨_, _, _, _, _, _, _, _, _, by k_is, by k_is⟩, by k_is⟩
    have dk_m_Rule_heads : Z.DefK (hd03.heap_39 w.params) "heads" "Rule.heads" P.I_m_Rule_heads.st 229 := ⟨⟨_, _, _, _, _, _, _, _, _, by k_is, by k_is⟩, by k_is⟩
    have dk_m_Rule_last_list : Z.DefK (hd03.heap_39 w.params) "last_list" "Rule.last_list" P.I_m_Rule_last_list.st 239 := ⟨⟨_, _, _, _, _, _, _, _, _, by k_is, by k_is⟩, by k_is⟩
    have dk_m_Rule_all_lists : Z.DefK (hd03.heap_39 w.params) "all_lists" "Rule.all_lists" P.I_m_Rule_all_lists.st 249 := ⟨⟨_, _, _, _, _, _, _, _, _, by k_is, by k_is⟩, by k_is⟩
    have dk_m_Rule_waiting : Z.DefK (hd03.heap_39 w.params) "waiting" "Rule.waiting" P.I_m_Rule_waiting.st 259 := ⟨⟨_, _, _, _, _, _, _, _, _, by k_is, by k_is⟩, by k_is⟩
    have dk_m_Rule_checking : Z.DefK (hd03.heap_39 w.params) "checking" "Rule.checking" P.I_m_Rule_checking.st 269 := ⟨⟨_, _, _, _, _, _, _, _, _, by k_is, by k_is⟩, by k_is⟩
    have dk_m_Rule_twice : Z.DefK (hd03.heap_39 w.params) "twice" "Rule.twice" P.I_m_Rule_twice.st 279 := ⟨⟨_, _, _, _, _, _, _, _, _, by k_is, by k_is⟩, by k_is⟩
    have dk_m_Rule_primed : Z.DefK (hd03.heap_39 w.params) "primed" "Rule.primed" P.I_m_Rule_primed.st 289 := ⟨⟨_, _, _, _, _, _, _, _, _, by k_is, by k_is⟩, by k_is⟩
    obtain ⟨fd, Fl⟩ := Z.defK_fd dk_f_law
    have hfx : fa = 332 := by
      have e := (PySem.W.mg_of KX G (n := "law") (v := .ref 332) (by k_is)).symm.trans hfa
      cases e
      rfl
    subst hfx
    refine ⟨fd, fun s u => Z.binds1 Fl P.b_f_law s u, fun base KX G => Z.law_true (S := P.S) (I := P.I_f_law) (n := 12) rfl (fun c hc hl => ?_) P.runs⟩
    have so : @Z.SrcOk c PySem.Challenge.rw_twolistings_k03_known_rules.prog w (hd03.heap_39 w.params) mg base P.S := by
      have b1 : R5.Blt mg := ⟨PySem.W.mg_none_of KX G (by k_is), PySem.W.mg_none_of KX G (by k_is), PySem.W.mg_none_of KX G (by k_is), PySem.W.mg_none_of KX G (by k_is)⟩
      have b2 : R6.Blt mg := ⟨b1.len, b1.int, b1.max, b1.abs⟩
      refine @Z.SrcOk.mk c _ w _ mg base P.S ?G ?D ?kt ?gl ?bt ?un ?fn ?mkc ?prop ?meth ?sm ?eqs ?lens ?items ?fld ?tl
      case G => exact Z.gOk (.cons (⟨[.str "head", .str "strike", .str "other", .str "named", .str "struck", .str "absent"], fun ρ => .cons (.str _) (.cons (.str _) (.cons (.str _) (.cons (.str _) (.cons (.str _) (.cons (.str _) (.nil)))))), fun H => .inr ⟨_, _, _, by k_is, rfl, rfl, by decide, .cons (⟨_, rfl⟩) (.cons (⟨_, rfl⟩) (.cons (⟨_, rfl⟩) (.cons (⟨_, rfl⟩) (.cons (⟨_, rfl⟩) (.cons (⟨_, rfl⟩) (.nil))))))⟩⟩) (.cons (⟨[.str "s", .str "k", .str "o", .str "n"], fun ρ => .cons (.str _) (.cons (.str _) (.cons (.str _) (.cons (.str _) (.nil)))), fun H => .inr ⟨_, _, _, by k_is, rfl, rfl, by decide, .cons (⟨_, rfl⟩) (.cons (⟨_, rfl⟩) (.cons (⟨_, rfl⟩) (.cons (⟨_, rfl⟩) (.nil))))⟩⟩) (.cons (⟨[.str "s", .str "k", .str "o"], fun ρ => .cons (.str _) (.cons (.str _) (.cons (.str _) (.nil))), fun H => .inr ⟨_, _, _, by k_is, rfl, rfl, by decide, .cons (⟨_, rfl⟩) (.cons (⟨_, rfl⟩) (.cons (⟨_, rfl⟩) (.nil)))⟩⟩) (.cons (⟨[.str "s", .str "k", .str "o"], fun ρ => .cons (.str _) (.cons (.str _) (.cons (.str _) (.nil))), fun H => .inr ⟨_, _, _, by k_is, rfl, rfl, by decide, .cons (⟨_, rfl⟩) (.cons (⟨_, rfl⟩) (.cons (⟨_, rfl⟩) (.nil)))⟩⟩) (.cons (⟨[.str "s", .str "k", .str "o", .str "x"], fun ρ => .cons (.str _) (.cons (.str _) (.cons (.str _) (.cons (.str _) (.nil)))), fun H => .inr ⟨_, _, _, by k_is, rfl, rfl, by decide, .cons (⟨_, rfl⟩) (.cons (⟨_, rfl⟩) (.cons (⟨_, rfl⟩) (.cons (⟨_, rfl⟩) (.nil))))⟩⟩) (.cons (⟨[.str "s", .str "k", .str "o"], fun ρ => .cons (.str _) (.cons (.str _) (.cons (.str _) (.nil))), fun H => .inr ⟨_, _, _, by k_is, rfl, rfl, by decide, .cons (⟨_, rfl⟩) (.cons (⟨_, rfl⟩) (.cons (⟨_, rfl⟩) (.nil)))⟩⟩) (.cons (⟨[.str "s", .str "k", .str "o"], fun ρ => .cons (.str _) (.cons (.str _) (.cons (.str _) (.nil))), fun H => .inr ⟨_, _, _, by k_is, rfl, rfl, by decide, .cons (⟨_, rfl⟩) (.cons (⟨_, rfl⟩) (.cons (⟨_, rfl⟩) (.nil)))⟩⟩) (.cons (⟨[.str "==", .str "!="], fun ρ => .cons (.str _) (.cons (.str _) (.nil)), fun H => .inr ⟨_, _, _, by k_is, rfl, rfl, by decide, .cons (⟨_, rfl⟩) (.cons (⟨_, rfl⟩) (.nil))⟩⟩) (.nil)))))))))
      case D => exact Z.dOk (.cons (.cons (⟨.ref 87, fun ρ => .k _, ⟨_, _, _, by k_is, (by first | kl_lit | (repeat (first | exact trivial | refine ⟨⟨_, _, rfl, rfl⟩, ?_⟩))), by k_is, rfl⟩⟩) (.cons (⟨.ref 88, fun ρ => .k _, ⟨_, _, _, by k_is, (by first | kl_lit | (repeat (first | exact trivial | refine ⟨⟨_, _, rfl, rfl⟩, ?_⟩))), by k_is, rfl⟩⟩) (.cons (⟨.ref 89, fun ρ => .k _, ⟨_, _, _, by k_is, (by first | kl_lit | (repeat (first | exact trivial | refine ⟨⟨_, _, rfl, rfl⟩, ?_⟩))), by k_is, rfl⟩⟩) (.cons (⟨.ref 90, fun ρ => .k _, ⟨_, _, _, by k_is, (by first | kl_lit | (repeat (first | exact trivial | refine ⟨⟨_, _, rfl, rfl⟩, ?_⟩))), by k_is, rfl⟩⟩) (.cons (⟨.ref 91, fun ρ => .k _, ⟨_, _, _, by k_is, (by first | kl_lit | (repeat (first | exact trivial | refine ⟨⟨_, _, rfl, rfl⟩, ?_⟩))), by k_is, rfl⟩⟩) (.cons (⟨.ref 92, fun ρ => .k _, ⟨_, _, _, by k_is, (by first | kl_lit | (repeat (first | exact trivial | refine ⟨⟨_, _, rfl, rfl⟩, ?_⟩))), by k_is, rfl⟩⟩) (.nil))))))) (.nil))
      case kt => exact Z.ktOk (.cons (⟨_, .own _, .cons (by rfl) (.cons (by rfl) (.cons (by rfl) (.cons (by rfl) (.cons (by rfl) (.cons (by rfl) (.cons (by rfl) (.cons (by rfl) (.nil))))))))⟩) (.nil)) .nil (cl := [295]) (.cons (⟨cl_295, by k_is, by k_is⟩) (.nil)) .nil (.cons (.cons (fun C e => by cases e) (.cons (fun C e => by cases e) (.cons (fun C e => by cases e) (.cons (fun C e => by cases e) (.cons (fun C e => by cases e) (.cons (fun C e => by cases e) (.cons (fun C e => by cases e) (.cons (fun C e => by cases e; rfl) (.nil))))))))) (.nil)) (by k_is) (by k_is)
      case gl => exact Z.asc_all (.cons (Z.glRef (PySem.W.mg_of KX G (by k_is))) (.cons (Z.glRef (PySem.W.mg_of KX G (by k_is))) (.cons (Z.glRef (PySem.W.mg_of KX G (by k_is))) (.cons (Z.glInt (PySem.W.mg_of KX G (by k_is))) (.cons (Z.glInt (PySem.W.mg_of KX G (by k_is))) (.cons (Z.glInt (PySem.W.mg_of KX G (by k_is))) (.cons (Z.glRef (PySem.W.mg_of KX G (by k_is))) (.cons (Z.glRef (PySem.W.mg_of KX G (by k_is))) (.cons (Z.glRef (PySem.W.mg_of KX G (by k_is))) (.cons (Z.glRef (PySem.W.mg_of KX G (by k_is))) (.cons (Z.glRef (PySem.W.mg_of KX G (by k_is))) (.nil))))))))))))
      case bt => exact Z.asc_all (.cons (⟨PySem.W.mg_none_of KX G (by k_is), by decide +kernel⟩) (.cons (⟨PySem.W.mg_none_of KX G (by k_is), by decide +kernel⟩) (.cons (⟨PySem.W.mg_none_of KX G (by k_is), by decide +kernel⟩) (.cons (⟨PySem.W.mg_none_of KX G (by k_is), by decide +kernel⟩) (.nil)))))
      case un => exact Z.memS_all (.cons (PySem.W.mg_none_of KX G (by k_is)) (.cons (PySem.W.mg_none_of KX G (by k_is)) (.cons (PySem.W.mg_none_of KX G (by k_is)) (.cons (PySem.W.mg_none_of KX G (by k_is)) (.cons (PySem.W.mg_none_of KX G (by k_is)) (.cons (PySem.W.mg_none_of KX G (by k_is)) (.cons (PySem.W.mg_none_of KX G (by k_is)) (.cons (PySem.W.mg_none_of KX G (by k_is)) (.cons (PySem.W.mg_none_of KX G (by k_is)) (.cons (PySem.W.mg_none_of KX G (by k_is)) (.cons (PySem.W.mg_none_of KX G (by k_is)) (.cons (PySem.W.mg_none_of KX G (by k_is)) (.cons (PySem.W.mg_none_of KX G (by k_is)) (.cons (PySem.W.mg_none_of KX G (by k_is)) (.cons (PySem.W.mg_none_of KX G (by k_is)) (.cons (PySem.W.mg_none_of KX G (by k_is)) (.nil)))))))))))))))))
      case fn => exact Z.asc_all (.cons (Z.fnAt (f := 100) (PySem.W.mg_of KX G (by k_is)) (by k_is) (Z.defE dk_f_is_number_below rfl P.sc_f_is_number_below P.b_f_is_number_below)) (.cons (Z.fnAt (f := 107) (PySem.W.mg_of KX G (by k_is)) (by k_is) (Z.defE dk_f_is_tuple_of rfl P.sc_f_is_tuple_of P.b_f_is_tuple_of)) (.cons (Z.fnAt (f := 114) (PySem.W.mg_of KX G (by k_is)) (by k_is) (Z.defE dk_f_is_list_of rfl P.sc_f_is_list_of P.b_f_is_list_of)) (.cons (Z.fnAt (f := 121) (PySem.W.mg_of KX G (by k_is)) (by k_is) (Z.defE dk_f_is_place rfl P.sc_f_is_place P.b_f_is_place)) (.cons (Z.fnAt (f := 128) (PySem.W.mg_of KX G (by k_is)) (by k_is) (Z.defE dk_f_is_condition rfl P.sc_f_is_condition P.b_f_is_condition)) (.cons (Z.fnAt (f := 133) (PySem.W.mg_of KX G (by k_is)) (by k_is) (Z.defE dk_f_are_conditions rfl P.sc_f_are_conditions P.b_f_are_conditions)) (.cons (Z.fnAt (f := 140) (PySem.W.mg_of KX G (by k_is)) (by k_is) (Z.defE dk_f_is_row rfl P.sc_f_is_row P.b_f_is_row)) (.cons (Z.fnAt (f := 145) (PySem.W.mg_of KX G (by k_is)) (by k_is) (Z.defE dk_f_are_modes rfl P.sc_f_are_modes P.b_f_are_modes)) (.cons (Z.fnAt (f := 152) (PySem.W.mg_of KX G (by k_is)) (by k_is) (Z.defE dk_f_check_modes rfl P.sc_f_check_modes P.b_f_check_modes)) (.cons (Z.fnAt (f := 157) (PySem.W.mg_of KX G (by k_is)) (by k_is) (Z.defE dk_f_all_hold rfl P.sc_f_all_hold P.b_f_all_hold)) (.cons (Z.fnAt (f := 162) (PySem.W.mg_of KX G (by k_is)) (by k_is) (Z.defE dk_f_mode rfl P.sc_f_mode P.b_f_mode)) (.cons (Z.fnAt (f := 306) (PySem.W.mg_of KX G (by k_is)) (by k_is) (let ⟨fd, F⟩ := dk_f_law_feed.fd; ⟨fd, Z.defOwn rfl rfl (F.binds P.b_f_law_feed) ((R6.okFeed F b2).imp (Z.feed_spK hc hl))⟩)) (.cons (Z.fnAt (f := 313) (PySem.W.mg_of KX G (by k_is)) (by k_is) (let ⟨fd, F⟩ := dk_f_law_take.fd; ⟨fd, Z.defOwn rfl rfl (F.binds P.b_f_law_take) ((R5.okTake F b1).imp Z.take_spF)⟩)) (.cons (Z.fnAt (f := 320) (PySem.W.mg_of KX G (by k_is)) (by k_is) (Z.defE dk_f_law_menu rfl P.sc_f_law_menu P.b_f_law_menu)) (.cons (Z.fnAt (f := 327) (PySem.W.mg_of KX G (by k_is)) (by k_is) (Z.defE dk_f_law_told rfl P.sc_f_law_told P.b_f_law_told)) (.cons (Z.fnAt (f := 332) (PySem.W.mg_of KX G (by k_is)) (by k_is) (Z.defE dk_f_law rfl P.sc_f_law P.b_f_law)) (.nil)))))))))))))))))
      case mkc => exact Z.asc_all (.cons (⟨PySem.W.mg_of KX G (by k_is), by k_is, by k_is, Z.metAt rfl (by k_is) (by k_is) (by k_is) (by k_is) (Z.defE dk_m_Rule_init rfl P.sc_m_Rule_init P.b_m_Rule_init)⟩) (.nil))
      case prop => exact Z.asc_all (.cons (⟨cl_295, Z.propAt (p := 180) rfl ⟨by k_is, by k_is, by k_is, ⟨_, by k_is⟩⟩ (Z.defE dk_m_Rule_modes rfl P.sc_m_Rule_modes P.b_m_Rule_modes)⟩) (.nil))
      case meth => exact Z.asc_all (.cons (⟨cl_295, Z.metAt rfl (by k_is) (by k_is) (by k_is) (by k_is) (Z.defE dk_m_Rule_changed rfl P.sc_m_Rule_changed P.b_m_Rule_changed)⟩) (.nil))
      case sm => exact Z.asc_all (.cons (⟨rfl, rfl, let ⟨fd, F⟩ := dk_m_Rule_heads.fd; ⟨231, 229, fd, .type "type", ⟨by k_is, by k_is⟩, by k_is, ⟨_, by k_is⟩, by k_is, by k_is, by k_is, by k_is, by k_is, by k_is, by decide +kernel, by k_is, Z.defH F rfl P.sc_m_Rule_heads P.b_m_Rule_heads⟩⟩) (.cons (⟨rfl, rfl, let ⟨fd, F⟩ := dk_m_Rule_last_list.fd; ⟨241, 239, fd, .type "type", ⟨by k_is, by k_is⟩, by k_is, ⟨_, by k_is⟩, by k_is, by k_is, by k_is, by k_is, by k_is, by k_is, by decide +kernel, by k_is, Z.defH F rfl P.sc_m_Rule_last_list P.b_m_Rule_last_list⟩⟩) (.cons (⟨rfl, rfl, let ⟨fd, F⟩ := dk_m_Rule_all_lists.fd; ⟨251, 249, fd, .type "type", ⟨by k_is, by k_is⟩, by k_is, ⟨_, by k_is⟩, by k_is, by k_is, by k_is, by k_is, by k_is, by k_is, by decide +kernel, by k_is, Z.defH F rfl P.sc_m_Rule_all_lists P.b_m_Rule_all_lists⟩⟩) (.cons (⟨rfl, rfl, let ⟨fd, F⟩ := dk_m_Rule_waiting.fd; ⟨261, 259, fd, .type "type", ⟨by k_is, by k_is⟩, by k_is, ⟨_, by k_is⟩, by k_is, by k_is, by k_is, by k_is, by k_is, by k_is, by decide +kernel, by k_is, Z.defH F rfl P.sc_m_Rule_waiting P.b_m_Rule_waiting⟩⟩) (.cons (⟨rfl, rfl, let ⟨fd, F⟩ := dk_m_Rule_checking.fd; ⟨271, 269, fd, .type "type", ⟨by k_is, by k_is⟩, by k_is, ⟨_, by k_is⟩, by k_is, by k_is, by k_is, by k_is, by k_is, by k_is, by decide +kernel, by k_is, Z.defH F rfl P.sc_m_Rule_checking P.b_m_Rule_checking⟩⟩) (.cons (⟨rfl, rfl, let ⟨fd, F⟩ := dk_m_Rule_twice.fd; ⟨281, 279, fd, .type "type", ⟨by k_is, by k_is⟩, by k_is, ⟨_, by k_is⟩, by k_is, by k_is, by k_is, by k_is, by k_is, by k_is, by decide +kernel, by k_is, Z.defH F rfl P.sc_m_Rule_twice P.b_m_Rule_twice⟩⟩) (.cons (⟨rfl, rfl, let ⟨fd, F⟩ := dk_m_Rule_primed.fd; ⟨291, 289, fd, .type "type", ⟨by k_is, by k_is⟩, by k_is, ⟨_, by k_is⟩, by k_is, by k_is, by k_is, by k_is, by k_is, by k_is, by decide +kernel, by k_is, Z.defH F rfl P.sc_m_Rule_primed P.b_m_Rule_primed⟩⟩) (.nil))))))))
      case eqs => exact Z.AllL.mem (.cons (⟨Z.metAt rfl (by k_is) (by k_is) (by k_is) (by k_is) (Z.defE dk_m_Rule_eq rfl P.sc_m_Rule_eq P.b_m_Rule_eq), by k_is, by k_is⟩) (.nil))
      case lens => exact Z.AllL.mem (.cons (Z.metAt rfl (by k_is) (by k_is) (by k_is) (by k_is) (Z.defE dk_m_Rule_len rfl P.sc_m_Rule_len P.b_m_Rule_len)) (.nil))
      case items => exact Z.AllL.mem (.cons (Z.metAt rfl (by k_is) (by k_is) (by k_is) (by k_is) (Z.defE dk_m_Rule_getitem rfl P.sc_m_Rule_getitem P.b_m_Rule_getitem)) (.nil))
      case fld => exact Z.asc_all (.cons (Z.AllL.mem (.cons (⟨cl_295, by unfold L2.NoAttr; k_is⟩) (.nil))) (.nil))
      case tl => exact Z.AllL.mem (.cons (⟨_, by k_is, rfl, rfl⟩) (.cons (⟨_, by k_is, rfl, rfl⟩) (.cons (⟨_, by k_is, rfl, rfl⟩) (.cons (⟨_, by k_is, rfl, rfl⟩) (.cons (⟨_, by k_is, rfl, rfl⟩) (.cons (⟨_, by k_is, rfl, rfl⟩) (.cons (⟨_, by k_is, rfl, rfl⟩) (.cons (⟨_, by k_is, rfl, rfl⟩) (.nil)))))))))
    exact (@Z.lv_all c _ w _ mg base P.S so 12 P.I_f_law _ fd (Z.defH Fl rfl P.sc_f_law P.b_f_law)).2.1
end
