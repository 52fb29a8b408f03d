import PyProof.Rows.All
import Wide.All
import OpenK.AllK
import Wide.FinOn
import HandS.ForMost
import HandS.Exc
import HandS.WordsExc
import HandS.TupAny
import HandS.Style
import HandS.IsInst
import HandS.Iter
import HandS.Property
import HandS.Star
import HandS.Gcd
import HandS.Conv
import KE.KStar
import KE.GoesEnum
import HandS.Strs
import HandS.TupSets
import HandS.StrMore
import PyProof.ListStr
import HandS.Dict
import HandS.Small
import KE.KStateDown
import HandS.Ends
import HandS.Head0
import HandS.Head1
import HandS.Head2
import HandS.HeadEnd
import HandS.HeadHook1
import HandS.Replace
import HandS.ListItems
import HandS.ClsMeth
import HandS.ExcInit
import HandS.ExcSuper
import HandS.ExcIs
import HandS.ExcField
import HandS.RaiseMore
import HandS.FStr
import HandS.Lambda
import HandS.Defaults
import HandS.TryOnly
import KE.KExcSuper
import KE.KSuper
import HandS.Nested
import HandS.MakeKwOnly
import KE.KLam
import HandS.TryMany
import HandS.HeadHook4
import HandS.HeadWalk
import HandS.Text
import PyProof.StrBlock2
import PySem.Challenge.RW_harvestcarts_k39_texts_of_plans
set_option Elab.async false
set_option linter.all false
set_option maxRecDepth 100000
set_option maxHeartbeats 4000000
section
namespace DL
open PySem PySem.Spec PyProof.Rows L2
inductive OwnK where
  | lst | ins (C at_ dx : Addr) (fn : List Str) | dic (ks : List Key)
def OwnK.ho : OwnK → List V → HO
  | .lst, xs => .lst xs
  | .ins C _ dx fn, xs => .ins C dx (fn.zip xs)
  | .dic ks, xs => .dK (ks.zip xs)
def OwnK.fits : OwnK → Addr → List V → Prop
  | .lst, _, _ => True
  | .ins _ p _ fn, a, xs => a = p ∧ fn.length = xs.length
  | .dic ks, _, xs => ks.length = xs.length
inductive D where
  | non | bl (b : Bool) | int (i : Int) | str (x : Str)
  | tup (ds : List D) | lst (ds : List D)
  | ins (C : Addr) (fn : List Str) (ds : List D)
  | adr (a : Addr) | sem (p : Hp → Addr → Prop) | dic (ks : List Key) (ds : List D) | own (k : OwnK) (ds : List D) | nest (k : OwnK) (ds : List D)
mutual
def Rep (K : PySem.W.Frag) (H : Hp) : D → V → Prop
  | .non, v => v = .non
  | .bl b, v => v = .bl b
  | .int i, v => v = .int i
  | .str x, v => v = .str x
  | .tup ds, v => ∃ a xs, v = .ref a ∧ SqT K H a xs ∧ RepL K H ds xs
  | .lst ds, v => ∃ a xs, v = .ref a ∧ H a = some (.lst xs) ∧ RepL K H ds xs
  | .ins C fn ds, v => ∃ a dx xs, v = .ref a ∧ H a = some (.ins C dx (fn.zip xs)) ∧ fn.length = xs.length ∧ RepL K H ds xs
  | .adr a, v => v = .ref a
  | .sem p, v => ∃ a G, v = .ref a ∧ (∀ b o, G b = some o → H b = some o) ∧ p G a
  | .dic ks ds, v => ∃ a xs, v = .ref a ∧ H a = some (.dK (ks.zip xs)) ∧ ks.length = xs.length ∧ RepL K H ds xs
  | .own _ _, _ => False
  | .nest _ _, _ => False
def RepL (K : PySem.W.Frag) (H : Hp) : List D → List V → Prop
  | [], xs => xs = []
  | d :: ds, xs => ∃ v vs, xs = v :: vs ∧ Rep K H d v ∧ RepL K H ds vs
end
def Ex (H H' : Hp) : Prop := ∀ a o, H a = some o → H' a = some o
theorem ex_t {K : PySem.W.Frag} {H H' : Hp} {a : Addr} {xs : List V} (e : Ex H H') (h : SqT K H a xs) : SqT K H' a xs := by
  rcases h with (h | ⟨o, h⟩) | h
  · exact .inl (.inl (e _ _ h))
  · exact .inl (.inr ⟨o, e _ _ h⟩)
  · exact .inr h
mutual
theorem Rep.mono {K : PySem.W.Frag} {H H' : Hp} (e : Ex H H') : ∀ (d : D) (v : V), Rep K H d v → Rep K H' d v
  | .non, _, h => h
  | .bl _, _, h => h
  | .int _, _, h => h
  | .str _, _, h => h
  | .tup ds, _, h => by
    unfold Rep at h ⊢
    obtain ⟨a, xs, e1, h1, h2⟩ := h
    exact ⟨a, xs, e1, ex_t e h1, RepL.mono e ds xs h2⟩
  | .lst ds, _, h => by
    unfold Rep at h ⊢
    obtain ⟨a, xs, e1, h1, h2⟩ := h
    exact ⟨a, xs, e1, e _ _ h1, RepL.mono e ds xs h2⟩
  | .ins C fn ds, _, h => by
    unfold Rep at h ⊢
    obtain ⟨a, dx, xs, e1, h1, hl, h2⟩ := h
    exact ⟨a, dx, xs, e1, e _ _ h1, hl, RepL.mono e ds xs h2⟩
  | .adr _, _, h => h
  | .sem _, _, h => by
    unfold Rep at h ⊢
    obtain ⟨a, G, e1, e2, h1⟩ := h
    exact ⟨a, G, e1, fun b o q => e b o (e2 b o q), h1⟩
  | .dic ks ds, _, h => by
    unfold Rep at h ⊢
    obtain ⟨a, xs, e1, h1, hl, h2⟩ := h
    exact ⟨a, xs, e1, e _ _ h1, hl, RepL.mono e ds xs h2⟩
  | .own _ _, _, h => h
  | .nest _ _, _, h => h
theorem RepL.mono {K : PySem.W.Frag} {H H' : Hp} (e : Ex H H') : ∀ (ds : List D) (vs : List V), RepL K H ds vs → RepL K H' ds vs
  | [], _, h => h
  | d :: ds, _, h => by
    unfold RepL at h ⊢
    obtain ⟨v, vs, e1, h1, h2⟩ := h
    exact ⟨v, vs, e1, Rep.mono e d v h1, RepL.mono e ds vs h2⟩
end
section
variable {K : PySem.W.Frag} {H : Hp}
theorem RepL.nil : RepL K H [] [] := by unfold RepL; rfl
theorem RepL.cons {d : D} {ds : List D} {v : V} {vs : List V} (h : Rep K H d v) (r : RepL K H ds vs) : RepL K H (d :: ds) (v :: vs) := by
  unfold RepL; exact ⟨v, vs, rfl, h, r⟩
theorem RepL.len : ∀ {ds : List D} {vs : List V}, RepL K H ds vs → ds.length = vs.length
  | [], _, h => by unfold RepL at h; subst h; rfl
  | d :: ds, _, h => by
    unfold RepL at h
    obtain ⟨v, vs, rfl, _, h2⟩ := h
    simp [RepL.len h2]
theorem RepL.append : ∀ {ds es : List D} {vs us : List V}, RepL K H ds vs → RepL K H es us → RepL K H (ds ++ es) (vs ++ us)
  | [], _, _, _, h, h' => by unfold RepL at h; subst h; exact h'
  | d :: ds, es, _, us, h, h' => by
    unfold RepL at h
    obtain ⟨v, vs, rfl, h1, h2⟩ := h
    exact RepL.cons h1 (RepL.append h2 h')
theorem RepL.set : ∀ {ds : List D} {vs : List V} {i : Nat} {d : D} {v : V}, RepL K H ds vs → Rep K H d v → RepL K H (ds.set i d) (vs.set i v)
  | [], _, _, _, _, h, _ => by unfold RepL at h; subst h; exact RepL.nil
  | d :: ds, _, i, d', v', h, r => by
    unfold RepL at h
    obtain ⟨v, vs, rfl, h1, h2⟩ := h
    cases i with
    | zero => exact RepL.cons r h2
    | succ i => exact RepL.cons h1 (RepL.set h2 r)
theorem RepL.reverse : ∀ {ds : List D} {vs : List V}, RepL K H ds vs → RepL K H ds.reverse vs.reverse
  | [], _, h => by unfold RepL at h; subst h; exact RepL.nil
  | d :: ds, _, h => by
    unfold RepL at h
    obtain ⟨v, vs, rfl, h1, h2⟩ := h
    simp only [List.reverse_cons]
    exact RepL.append (RepL.reverse h2) (RepL.cons h1 RepL.nil)
end
def isX : HO → Bool
  | .ext _ => true
  | .tup _ => true
  | _ => false
structure Sit where
  Hs : Hp
  W : Addr → Prop
  I : Hp → Prop
  stab : ∀ H H', (∀ a o, H a = some o → (W a ∨ isX o = true) → H' a = some o) → I H → I H'
  there : ∀ H a, I H → W a → ∃ o, H a = some o
  nox : ∀ H a o, I H → W a → H a = some o → isX o = false
open Classical in
noncomputable def hide (H : Hp) (Z : Addr → Prop) : Hp := fun a => if Z a then none else H a
theorem hide_some {H : Hp} {Z : Addr → Prop} {a : Addr} {o : HO} : hide H Z a = some o ↔ ¬ Z a ∧ H a = some o := by
  unfold hide
  by_cases h : Z a
  · rw [if_pos h]; simp [h]
  · rw [if_neg h]; simp [h]
def Kp (S : Sit) (H H' : Hp) : Prop := ∀ b o, H b = some o → ¬ S.W b → H' b = some o
theorem Kp.refl {S : Sit} (H : Hp) : Kp S H H := fun _ _ h _ => h
theorem Kp.trans {S : Sit} {H H1 H2 : Hp} (a : Kp S H H1) (b : Kp S H1 H2) : Kp S H H2 := fun c o h n => b c o (a c o h n) n
theorem Kp.of {S : Sit} {H H' : Hp} (e : Ex H H') : Kp S H H' := fun b o h _ => e b o h
structure Wd (S : Sit) (Z : Addr → Prop) (H : Hp) : Prop where
  base : ∀ b o, S.Hs b = some o → H b = some o ∧ ¬ Z b
  wz : ∀ a, S.W a → Z a
  zin : ∀ a, Z a → ∃ o, H a = some o
  zx : ∀ a o, Z a → H a = some o → isX o = false
  inv : S.I H
section
variable {S : Sit} {Z Z' : Addr → Prop} {H H' : Hp}
theorem Wd.step (w : Wd S Z H) (k : Kp S H H') (i : S.I H') : Wd S Z H' where
  base := fun b o e => let ⟨h, n⟩ := w.base b o e; ⟨k b o h fun q => n (w.wz b q), n⟩
  wz := w.wz
  zin := fun a z => by
    by_cases hw : S.W a
    · exact S.there H' a i hw
    · obtain ⟨o, e⟩ := w.zin a z
      exact ⟨o, k a o e hw⟩
  zx := fun a o z e => by
    by_cases hw : S.W a
    · exact S.nox H' a o i hw e
    · obtain ⟨u, e1⟩ := w.zin a z
      rw [k a u e1 hw] at e
      rw [← Option.some.inj e]
      exact w.zx a u z e1
  inv := i
theorem Wd.ex (w : Wd S Z H) (k : Kp S H H') : Ex (hide H Z) (hide H' Z) := fun a o h => by
  obtain ⟨n, e⟩ := hide_some.mp h
  exact hide_some.mpr ⟨n, k a o e fun q => n (w.wz a q)⟩
theorem hide_weak {H : Hp} (h : ∀ a, Z a → Z' a) : Ex (hide H Z') (hide H Z) := fun a o e => by
  obtain ⟨n, e⟩ := hide_some.mp e
  exact hide_some.mpr ⟨fun z => n (h a z), e⟩
end
abbrev EnvD := List (Option D)
abbrev XD := Addr → List (Str × D) → Prop
def D.isOwn : D → Bool
  | .own _ _ => true
  | .nest _ _ => true
  | _ => false
def XRep (K : PySem.W.Frag) (H : Hp) (dd : Option Addr) (fs : List (Str × D)) : Prop :=
  (fs = [] ∧ dd = none) ∨ ∃ a vs, dd = some a ∧ H a = some (.xd ((fs.map (·.1)).zip vs)) ∧ RepL K H (fs.map (·.2)) vs
structure Cl where
  Z0 : Addr → Prop
  H0 : Hp
  E : XK
  x : XD
def XFit (K : PySem.W.Frag) (S : Sit) (c : Cl) : Prop := ∀ cls dd H' fs, Kp S c.H0 H' → S.I H' → XRep K (hide H' c.Z0) dd fs → c.x cls fs → c.E (.ref cls) dd H'
structure RV (K : PySem.W.Frag) (S : Sit) (c : Cl) (Z : Addr → Prop) (σ : L2.St) (H : Hp) (ρ : EnvD) : Prop where
  wd : Wd S Z H
  kp : Kp S c.H0 H
  zz : ∀ a, c.Z0 a → Z a
  len : σ.length = ρ.length
  sl : ∀ (i : Nat) (d : D), ρ[i]? = some (some d) → d.isOwn = false → ∃ v, σ[i]? = some (some v) ∧ Rep K (hide H Z) d v
theorem RV.step {K : PySem.W.Frag} {S : Sit} {c : Cl} {Z : Addr → Prop} {σ : L2.St} {H H' : Hp} {ρ : EnvD} (r : RV K S c Z σ H ρ) (k : Kp S H H') (i : S.I H') : RV K S c Z σ H' ρ where
  wd := r.wd.step k i
  kp := r.kp.trans k
  zz := r.zz
  len := r.len
  sl := fun j d e n => let ⟨v, e1, q⟩ := r.sl j d e n; ⟨v, e1, Rep.mono (r.wd.ex k) d v q⟩
abbrev TED := EnvD → (D → Prop) → Prop
abbrev TAD := EnvD → (List D → Prop) → Prop
abbrev TTD := EnvD → (Bool → Prop) → Prop
def WE (K : PySem.W.Frag) (S : Sit) (c : Cl) (te : TE) (t : TED) : Prop := ∀ Z σ H ρ (P : D → Prop), RV K S c Z σ H ρ → t ρ P →
  ∀ Q : VK, (∀ v H' d, Kp S H H' → S.I H' → Rep K (hide H' Z) d v → P d → Q v H') → te σ H Q
def WA (K : PySem.W.Frag) (S : Sit) (c : Cl) (ta : TA) (t : TAD) : Prop := ∀ Z σ H ρ (P : List D → Prop), RV K S c Z σ H ρ → t ρ P →
  ∀ Q : List V → Hp → Prop, (∀ vs H' ds, Kp S H H' → S.I H' → RepL K (hide H' Z) ds vs → P ds → Q vs H') → ta σ H Q
def WT (K : PySem.W.Frag) (S : Sit) (c : Cl) (tt : TT) (t : TTD) : Prop := ∀ Z σ H ρ (P : Bool → Prop), RV K S c Z σ H ρ → t ρ P →
  ∀ Q : Bool → Hp → Prop, (∀ b H', Kp S H H' → S.I H' → P b → Q b H') → tt σ H Q
section
variable {K : PySem.W.Frag} {S : Sit} {c : Cl} {ta tb te : TE} {a b t : TED} {tt tu : TT} {p q : TTD} {ts : TA} {as : TAD}
end
end DL
end
section
namespace DL
open PySem PySem.Spec PyProof.Rows L2
section
variable {K : PySem.W.Frag} {S : Sit} {c : Cl} {ta tb te : TE} {a b t : TED} {tt tu : TT} {p q : TTD} {ts : TA} {as : TAD}
mutual
def D.py : D → PyData
  | .non => .none
  | .bl b => .bool b
  | .int i => .int i
  | .str x => .str x
  | .tup ds => .tuple (D.pyL ds)
  | .lst ds => .list (D.pyL ds)
  | .ins _ _ _ => .none
  | .adr _ => .none
  | .sem _ => .none
  | .dic _ _ => .none
  | .own _ _ => .none
  | .nest _ _ => .none
def D.pyL : List D → List PyData
  | [] => []
  | d :: ds => D.py d :: D.pyL ds
end

abbrev TOD := EnvD → (Option Int → Prop) → Prop
def WO (K : PySem.W.Frag) (S : Sit) (c : Cl) (to : TO) (t : TOD) : Prop := ∀ Z σ H ρ (P : Option Int → Prop), RV K S c Z σ H ρ → t ρ P →
  ∀ Q : Option Int → Hp → Prop, (∀ o H', Kp S H H' → S.I H' → P o → Q o H') → to σ H Q
def D.v : D → V
  | .bl b => .bl b
  | .int i => .int i
  | .str x => .str x
  | _ => .non
end
end DL
end
section
namespace DL
open PySem PySem.Spec PyProof.Rows L2
mutual
/-- d lies at v, held: own, one object; nest, it and what lies below it (own, nest), all of them at ft; else shared -/
def Own (K : PySem.W.Frag) (H : Hp) (Z : Addr → Prop) (H0 : Hp) : D → V → List Addr → Prop
  | .own k ds, v, ft => ∃ a xs, v = .ref a ∧ ft = [a] ∧ Z a ∧ H0 a = none ∧ H a = some (k.ho xs) ∧ k.fits a xs ∧ RepL K (hide H Z) ds xs
  | .nest k ds, v, ft => ∃ a xs f, v = .ref a ∧ ft = a :: f ∧ Z a ∧ H0 a = none ∧ H a = some (k.ho xs) ∧ k.fits a xs ∧ OwnL K H Z H0 ds xs f
  | .non, v, ft => ft = [] ∧ Rep K (hide H Z) .non v
  | .bl b, v, ft => ft = [] ∧ Rep K (hide H Z) (.bl b) v
  | .int i, v, ft => ft = [] ∧ Rep K (hide H Z) (.int i) v
  | .str x, v, ft => ft = [] ∧ Rep K (hide H Z) (.str x) v
  | .tup ds, v, ft => ft = [] ∧ Rep K (hide H Z) (.tup ds) v
  | .lst ds, v, ft => ft = [] ∧ Rep K (hide H Z) (.lst ds) v
  | .ins C fn ds, v, ft => ft = [] ∧ Rep K (hide H Z) (.ins C fn ds) v
  | .adr a, v, ft => ft = [] ∧ Rep K (hide H Z) (.adr a) v
  | .sem p, v, ft => ft = [] ∧ Rep K (hide H Z) (.sem p) v
  | .dic ks ds, v, ft => ft = [] ∧ Rep K (hide H Z) (.dic ks ds) v
def OwnL (K : PySem.W.Frag) (H : Hp) (Z : Addr → Prop) (H0 : Hp) : List D → List V → List Addr → Prop
  | [], xs, ft => xs = [] ∧ ft = []
  | d :: ds, xs, ft => ∃ v vs f1 f2, xs = v :: vs ∧ ft = f1 ++ f2 ∧ Own K H Z H0 d v f1 ∧ OwnL K H Z H0 ds vs f2
end
mutual
def D.thaw : D → D
  | .own .lst ds => .lst ds
  | .own (.ins C _ _ fn) ds => .ins C fn ds
  | .own (.dic ks) ds => .dic ks ds
  | .nest .lst ds => .lst (D.thawL ds)
  | .nest (.ins C _ _ fn) ds => .ins C fn (D.thawL ds)
  | .nest (.dic ks) ds => .dic ks (D.thawL ds)
  | .non => .non
  | .bl b => .bl b
  | .int i => .int i
  | .str x => .str x
  | .tup ds => .tup ds
  | .lst ds => .lst ds
  | .ins C fn ds => .ins C fn ds
  | .adr a => .adr a
  | .sem p => .sem p
  | .dic ks ds => .dic ks ds
def D.thawL : List D → List D
  | [] => []
  | d :: ds => d.thaw :: D.thawL ds
end
theorem thaw_id {d : D} (h : d.isOwn = false) : d.thaw = d := by
  cases d <;> first | (cases h; done) | (unfold D.thaw; rfl)
section
variable {K : PySem.W.Frag} {H H' H0 : Hp} {Z Z' : Addr → Prop}
theorem own_plain {d : D} {v : V} {ft : List Addr} (h : d.isOwn = false) : Own K H Z H0 d v ft ↔ ft = [] ∧ Rep K (hide H Z) d v := by
  cases d <;> first | (cases h; done) | (unfold Own; rfl)
theorem OwnL.len : ∀ {ds : List D} {xs : List V} {ft : List Addr}, OwnL K H Z H0 ds xs ft → ds.length = xs.length
  | [], _, _, h => by unfold OwnL at h; obtain ⟨rfl, _⟩ := h; rfl
  | d :: ds, _, _, h => by
    unfold OwnL at h
    obtain ⟨v, vs, f1, f2, rfl, _, _, h2⟩ := h
    simp [OwnL.len h2]
mutual
theorem Own.in_ : ∀ {d : D} {v : V} {ft : List Addr}, Own K H Z H0 d v ft → ∀ a ∈ ft, Z a ∧ H0 a = none ∧ ∃ o, H a = some o
  | .own k ds, v, ft, h, a, ha => by
    unfold Own at h
    obtain ⟨b, xs, _, rfl, z, n, e, _⟩ := h
    rw [List.mem_singleton] at ha
    subst ha
    exact ⟨z, n, _, e⟩
  | .nest k ds, v, ft, h, a, ha => by
    unfold Own at h
    obtain ⟨b, xs, f, _, rfl, z, n, e, _, q⟩ := h
    rcases List.mem_cons.mp ha with rfl | ha
    · exact ⟨z, n, _, e⟩
    · exact OwnL.in_ q a ha
  | .non, v, ft, h, a, ha => by unfold Own at h; rw [h.1] at ha; cases ha
  | .bl b, v, ft, h, a, ha => by unfold Own at h; rw [h.1] at ha; cases ha
  | .int i, v, ft, h, a, ha => by unfold Own at h; rw [h.1] at ha; cases ha
  | .str x, v, ft, h, a, ha => by unfold Own at h; rw [h.1] at ha; cases ha
  | .tup ds, v, ft, h, a, ha => by unfold Own at h; rw [h.1] at ha; cases ha
  | .lst ds, v, ft, h, a, ha => by unfold Own at h; rw [h.1] at ha; cases ha
  | .ins C fn ds, v, ft, h, a, ha => by unfold Own at h; rw [h.1] at ha; cases ha
  | .adr b, v, ft, h, a, ha => by unfold Own at h; rw [h.1] at ha; cases ha
  | .sem b, v, ft, h, a, ha => by unfold Own at h; rw [h.1] at ha; cases ha
  | .dic ks ds, v, ft, h, a, ha => by unfold Own at h; rw [h.1] at ha; cases ha
theorem OwnL.in_ : ∀ {ds : List D} {xs : List V} {ft : List Addr}, OwnL K H Z H0 ds xs ft → ∀ a ∈ ft, Z a ∧ H0 a = none ∧ ∃ o, H a = some o
  | [], _, _, h, a, ha => by unfold OwnL at h; rw [h.2] at ha; cases ha
  | d :: ds, _, _, h, a, ha => by
    unfold OwnL at h
    obtain ⟨v, vs, f1, f2, _, rfl, h1, h2⟩ := h
    rcases List.mem_append.mp ha with ha | ha
    · exact Own.in_ h1 a ha
    · exact OwnL.in_ h2 a ha
end
theorem ho_noX {k : OwnK} {xs : List V} : isX (k.ho xs) = false := by cases k <;> rfl
mutual
theorem Own.noX : ∀ {d : D} {v : V} {ft : List Addr}, Own K H Z H0 d v ft → ∀ a ∈ ft, ∀ o, H a = some o → isX o = false
  | .own k ds, v, ft, h, a, ha, o, ho => by
    unfold Own at h
    obtain ⟨b, xs, _, rfl, z, n, e, _⟩ := h
    rw [List.mem_singleton] at ha
    subst ha
    rw [e] at ho
    cases ho
    exact ho_noX
  | .nest k ds, v, ft, h, a, ha, o, ho => by
    unfold Own at h
    obtain ⟨b, xs, f, _, rfl, z, n, e, _, q⟩ := h
    rcases List.mem_cons.mp ha with rfl | ha
    · rw [e] at ho
      cases ho
      exact ho_noX
    · exact OwnL.noX q a ha o ho
  | .non, v, ft, h, a, ha, o, ho => by unfold Own at h; rw [h.1] at ha; cases ha
  | .bl b, v, ft, h, a, ha, o, ho => by unfold Own at h; rw [h.1] at ha; cases ha
  | .int i, v, ft, h, a, ha, o, ho => by unfold Own at h; rw [h.1] at ha; cases ha
  | .str x, v, ft, h, a, ha, o, ho => by unfold Own at h; rw [h.1] at ha; cases ha
  | .tup ds, v, ft, h, a, ha, o, ho => by unfold Own at h; rw [h.1] at ha; cases ha
  | .lst ds, v, ft, h, a, ha, o, ho => by unfold Own at h; rw [h.1] at ha; cases ha
  | .ins C fn ds, v, ft, h, a, ha, o, ho => by unfold Own at h; rw [h.1] at ha; cases ha
  | .adr b, v, ft, h, a, ha, o, ho => by unfold Own at h; rw [h.1] at ha; cases ha
  | .sem b, v, ft, h, a, ha, o, ho => by unfold Own at h; rw [h.1] at ha; cases ha
  | .dic ks ds, v, ft, h, a, ha, o, ho => by unfold Own at h; rw [h.1] at ha; cases ha
theorem OwnL.noX : ∀ {ds : List D} {xs : List V} {ft : List Addr}, OwnL K H Z H0 ds xs ft → ∀ a ∈ ft, ∀ o, H a = some o → isX o = false
  | [], _, _, h, a, ha, o, ho => by unfold OwnL at h; rw [h.2] at ha; cases ha
  | d :: ds, _, _, h, a, ha, o, ho => by
    unfold OwnL at h
    obtain ⟨v, vs, f1, f2, _, rfl, h1, h2⟩ := h
    rcases List.mem_append.mp ha with ha | ha
    · exact Own.noX h1 a ha o ho
    · exact OwnL.noX h2 a ha o ho
end
mutual
theorem Own.mono (ex : Ex (hide H Z) (hide H' Z')) (zz : ∀ a, Z a → Z' a) : ∀ {d : D} {v : V} {ft : List Addr}, (∀ a ∈ ft, ∀ o, H a = some o → H' a = some o) → Own K H Z H0 d v ft → Own K H' Z' H0 d v ft
  | .own k ds, v, ft, kp, h => by
    unfold Own at h ⊢
    obtain ⟨a, xs, rfl, rfl, z, n, e, f, q⟩ := h
    exact ⟨a, xs, rfl, rfl, zz a z, n, kp a List.mem_cons_self _ e, f, RepL.mono ex ds xs q⟩
  | .nest k ds, v, ft, kp, h => by
    unfold Own at h ⊢
    obtain ⟨a, xs, f, rfl, rfl, z, n, e, ft, q⟩ := h
    exact ⟨a, xs, f, rfl, rfl, zz a z, n, kp a List.mem_cons_self _ e, ft, OwnL.mono ex zz (fun b hb => kp b (List.mem_cons_of_mem _ hb)) q⟩
  | .non, v, ft, kp, h => by unfold Own at h ⊢; exact ⟨h.1, Rep.mono ex _ _ h.2⟩
  | .bl b, v, ft, kp, h => by unfold Own at h ⊢; exact ⟨h.1, Rep.mono ex _ _ h.2⟩
  | .int i, v, ft, kp, h => by unfold Own at h ⊢; exact ⟨h.1, Rep.mono ex _ _ h.2⟩
  | .str x, v, ft, kp, h => by unfold Own at h ⊢; exact ⟨h.1, Rep.mono ex _ _ h.2⟩
  | .tup ds, v, ft, kp, h => by unfold Own at h ⊢; exact ⟨h.1, Rep.mono ex _ _ h.2⟩
  | .lst ds, v, ft, kp, h => by unfold Own at h ⊢; exact ⟨h.1, Rep.mono ex _ _ h.2⟩
  | .ins C fn ds, v, ft, kp, h => by unfold Own at h ⊢; exact ⟨h.1, Rep.mono ex _ _ h.2⟩
  | .adr b, v, ft, kp, h => by unfold Own at h ⊢; exact ⟨h.1, Rep.mono ex _ _ h.2⟩
  | .sem b, v, ft, kp, h => by unfold Own at h ⊢; exact ⟨h.1, Rep.mono ex _ _ h.2⟩
  | .dic ks ds, v, ft, kp, h => by unfold Own at h ⊢; exact ⟨h.1, Rep.mono ex _ _ h.2⟩
theorem OwnL.mono (ex : Ex (hide H Z) (hide H' Z')) (zz : ∀ a, Z a → Z' a) : ∀ {ds : List D} {xs : List V} {ft : List Addr}, (∀ a ∈ ft, ∀ o, H a = some o → H' a = some o) → OwnL K H Z H0 ds xs ft → OwnL K H' Z' H0 ds xs ft
  | [], _, _, _, h => by unfold OwnL at h ⊢; exact h
  | d :: ds, _, _, kp, h => by
    unfold OwnL at h ⊢
    obtain ⟨v, vs, f1, f2, e1, rfl, h1, h2⟩ := h
    exact ⟨v, vs, f1, f2, e1, rfl, Own.mono ex zz (fun a ha => kp a (List.mem_append_left _ ha)) h1, OwnL.mono ex zz (fun a ha => kp a (List.mem_append_right _ ha)) h2⟩
end
mutual
/-- held no more -/
theorem Own.thaw (ex : Ex (hide H Z) (hide H Z')) : ∀ {d : D} {v : V} {ft : List Addr}, (∀ a ∈ ft, ¬ Z' a) → Own K H Z H0 d v ft → Rep K (hide H Z') d.thaw v
  | .own k ds, v, ft, nz, h => by
    unfold Own at h
    obtain ⟨a, xs, rfl, rfl, z, n, e, f, q⟩ := h
    have e' : hide H Z' a = some (k.ho xs) := hide_some.mpr ⟨nz a List.mem_cons_self, e⟩
    cases k with
    | lst => unfold D.thaw Rep; exact ⟨a, xs, rfl, e', RepL.mono ex ds xs q⟩
    | ins C p dx fn => unfold D.thaw Rep; exact ⟨a, dx, xs, rfl, e', f.2, RepL.mono ex ds xs q⟩
    | dic ks => unfold D.thaw Rep; exact ⟨a, xs, rfl, e', f, RepL.mono ex ds xs q⟩
  | .nest k ds, v, ft, nz, h => by
    unfold Own at h
    obtain ⟨a, xs, f, rfl, rfl, z, n, e, ft, q⟩ := h
    have e' : hide H Z' a = some (k.ho xs) := hide_some.mpr ⟨nz a List.mem_cons_self, e⟩
    have q' := OwnL.thaw ex (fun b hb => nz b (List.mem_cons_of_mem _ hb)) q
    cases k with
    | lst => unfold D.thaw Rep; exact ⟨a, xs, rfl, e', q'⟩
    | ins C p dx fn => unfold D.thaw Rep; exact ⟨a, dx, xs, rfl, e', ft.2, q'⟩
    | dic ks => unfold D.thaw Rep; exact ⟨a, xs, rfl, e', ft, q'⟩
  | .non, v, ft, nz, h => by unfold Own at h; unfold D.thaw; exact Rep.mono ex _ _ h.2
  | .bl b, v, ft, nz, h => by unfold Own at h; unfold D.thaw; exact Rep.mono ex _ _ h.2
  | .int i, v, ft, nz, h => by unfold Own at h; unfold D.thaw; exact Rep.mono ex _ _ h.2
  | .str x, v, ft, nz, h => by unfold Own at h; unfold D.thaw; exact Rep.mono ex _ _ h.2
  | .tup ds, v, ft, nz, h => by unfold Own at h; unfold D.thaw; exact Rep.mono ex _ _ h.2
  | .lst ds, v, ft, nz, h => by unfold Own at h; unfold D.thaw; exact Rep.mono ex _ _ h.2
  | .ins C fn ds, v, ft, nz, h => by unfold Own at h; unfold D.thaw; exact Rep.mono ex _ _ h.2
  | .adr b, v, ft, nz, h => by unfold Own at h; unfold D.thaw; exact Rep.mono ex _ _ h.2
  | .sem b, v, ft, nz, h => by unfold Own at h; unfold D.thaw; exact Rep.mono ex _ _ h.2
  | .dic ks ds, v, ft, nz, h => by unfold Own at h; unfold D.thaw; exact Rep.mono ex _ _ h.2
theorem OwnL.thaw (ex : Ex (hide H Z) (hide H Z')) : ∀ {ds : List D} {xs : List V} {ft : List Addr}, (∀ a ∈ ft, ¬ Z' a) → OwnL K H Z H0 ds xs ft → RepL K (hide H Z') (D.thawL ds) xs
  | [], _, _, _, h => by unfold OwnL at h; unfold D.thawL RepL; exact h.1
  | d :: ds, _, _, nz, h => by
    unfold OwnL at h
    obtain ⟨v, vs, f1, f2, rfl, rfl, h1, h2⟩ := h
    unfold D.thawL
    exact RepL.cons (Own.thaw ex (fun a ha => nz a (List.mem_append_left _ ha)) h1) (OwnL.thaw ex (fun a ha => nz a (List.mem_append_right _ ha)) h2)
end
end
structure RZ (K : PySem.W.Frag) (S : Sit) (c : Cl) (B : Hp) (Z : Addr → Prop) (σ : L2.St) (H : Hp) (ρ : EnvD) : Prop where
  rv : RV K S c Z σ H ρ
  w0 : Wd S c.Z0 c.H0
  ex : Ex B (hide H Z)
  fp : ∃ FT : Nat → List Addr, (∀ (i : Nat) d, ρ[i]? = some (some d) → d.isOwn = true → ∃ v, σ[i]? = some (some v) ∧ Own K H Z c.H0 d v (FT i) ∧ (FT i).Nodup) ∧
    (∀ (i j : Nat) d e a, ρ[i]? = some (some d) → d.isOwn = true → ρ[j]? = some (some e) → e.isOwn = true → a ∈ FT i → a ∈ FT j → i = j)
def RS (K : PySem.W.Frag) (S : Sit) (c : Cl) (B : Hp) (σ : L2.St) (H : Hp) (ρ : EnvD) : Prop := ∃ Z, RZ K S c B Z σ H ρ
def view (ρ : EnvD) : EnvD := ρ.map (Option.map D.thaw)
theorem set_cases {ρ : EnvD} {i : Nat} {d : D} {j : Nat} {e : D} (h : (ρ.set i (some d))[j]? = some (some e)) : (j = i ∧ e = d ∧ i < ρ.length) ∨ (j ≠ i ∧ ρ[j]? = some (some e)) := by
  by_cases hj : i = j
  · subst hj
    by_cases hb : i < ρ.length
    · rw [List.getElem?_set_self hb] at h
      cases h
      exact .inl ⟨rfl, rfl, hb⟩
    · rw [List.getElem?_eq_none (by rw [List.length_set]; omega)] at h
      cases h
  · rw [List.getElem?_set_ne hj] at h
    exact .inr ⟨fun z => hj z.symm, h⟩
section
variable {K : PySem.W.Frag} {S : Sit} {c : Cl} {B B' : Hp} {Z : Addr → Prop} {σ : L2.St} {H H' : Hp} {ρ : EnvD}
theorem RZ.own (r : RZ K S c B Z σ H ρ) (i : Nat) (k : OwnK) (ds : List D) (h : ρ[i]? = some (some (.own k ds))) : ∃ a xs, σ[i]? = some (some (.ref a)) ∧ Z a ∧ c.H0 a = none ∧ H a = some (k.ho xs) ∧ k.fits a xs ∧ RepL K (hide H Z) ds xs := by
  obtain ⟨FT, f1, _⟩ := r.fp
  obtain ⟨v, e1, q, _⟩ := f1 i _ h rfl
  unfold Own at q
  obtain ⟨a, xs, rfl, _, z, n, e, ft, q⟩ := q
  exact ⟨a, xs, e1, z, n, e, ft, q⟩
theorem RZ.notW (r : RZ K S c B Z σ H ρ) {a : Addr} (h : c.H0 a = none) : ¬ S.W a := fun w => by
  obtain ⟨o, e⟩ := r.w0.zin a (r.w0.wz a w)
  rw [h] at e; cases e
theorem RZ.notZ0 (r : RZ K S c B Z σ H ρ) {a : Addr} (h : c.H0 a = none) : ¬ c.Z0 a := fun w => by
  obtain ⟨o, e⟩ := r.w0.zin a w
  rw [h] at e; cases e
theorem RZ.step (r : RZ K S c B Z σ H ρ) (k : Kp S H H') (i : S.I H') : RZ K S c B Z σ H' ρ where
  rv := r.rv.step k i
  w0 := r.w0
  ex := fun a o e => r.rv.wd.ex k a o (r.ex a o e)
  fp := by
    obtain ⟨FT, f1, f2⟩ := r.fp
    refine ⟨FT, fun j d e o => ?_, f2⟩
    obtain ⟨v, e1, q, nd⟩ := f1 j d e o
    exact ⟨v, e1, Own.mono (r.rv.wd.ex k) (fun _ z => z) (fun a ha u hu => k a u hu (r.notW (q.in_ a ha).2.1)) q, nd⟩
theorem RZ.base (r : RZ K S c B Z σ H ρ) (e : Ex B' B) : RZ K S c B' Z σ H ρ := ⟨r.rv, r.w0, fun a o h => r.ex a o (e a o h), r.fp⟩
theorem view_get {i : Nat} {d : D} (h : (view ρ)[i]? = some (some d)) : ∃ e, ρ[i]? = some (some e) ∧ d = e.thaw := by
  unfold view at h
  rw [List.getElem?_map] at h
  cases q : ρ[i]? with
  | none => rw [q] at h; cases h
  | some o =>
    cases o with
    | none => rw [q] at h; cases h
    | some e => rw [q] at h; cases h; exact ⟨e, rfl, rfl⟩
theorem RZ.view (r : RZ K S c B Z σ H ρ) : RV K S c c.Z0 σ H (view ρ) where
  wd := r.w0.step r.rv.kp r.rv.wd.inv
  kp := r.rv.kp
  zz := fun _ z => z
  len := by unfold DL.view; rw [List.length_map]; exact r.rv.len
  sl := fun i d e n => by
    obtain ⟨d', e1, rfl⟩ := view_get e
    cases ho : d'.isOwn with
    | false =>
      obtain ⟨v, e2, q⟩ := r.rv.sl i d' e1 ho
      rw [thaw_id ho]
      exact ⟨v, e2, Rep.mono (hide_weak r.rv.zz) d' v q⟩
    | true =>
      obtain ⟨FT, f1, _⟩ := r.fp
      obtain ⟨v, e2, q, _⟩ := f1 i d' e1 ho
      exact ⟨v, e2, Own.thaw (hide_weak r.rv.zz) (fun a ha => r.notZ0 (q.in_ a ha).2.1) q⟩
theorem RZ.set (r : RZ K S c B Z σ H ρ) (i : Nat) {d : D} {v : V} (q : Rep K (hide H Z) d v) : RZ K S c B Z (σ.set i (some v)) H (ρ.set i (some d)) := by
  have no : d.isOwn = false := by cases d <;> first | rfl | (unfold Rep at q; exact q.elim)
  have hl := r.rv.len
  refine ⟨⟨r.rv.wd, r.rv.kp, r.rv.zz, by rw [List.length_set, List.length_set]; exact hl, fun j e h n => ?_⟩, r.w0, r.ex, ?_⟩
  · rcases set_cases h with ⟨rfl, rfl, hb⟩ | ⟨hne, h⟩
    · exact ⟨v, List.getElem?_set_self (by omega), q⟩
    · obtain ⟨u, e1, q1⟩ := r.rv.sl j e h n
      exact ⟨u, by rw [List.getElem?_set_ne (Ne.symm hne)]; exact e1, q1⟩
  · obtain ⟨FT, f1, f2⟩ := r.fp
    refine ⟨FT, fun j e h o => ?_, fun j l e e' a h1 o1 h2 o2 m1 m2 => ?_⟩
    · rcases set_cases h with ⟨rfl, rfl, hb⟩ | ⟨hne, h⟩
      · rw [no] at o; cases o
      · obtain ⟨u, e1, q1⟩ := f1 j e h o
        exact ⟨u, by rw [List.getElem?_set_ne (Ne.symm hne)]; exact e1, q1⟩
    · rcases set_cases h1 with ⟨rfl, rfl, hb⟩ | ⟨hne, h1⟩
      · rw [no] at o1; cases o1
      · rcases set_cases h2 with ⟨rfl, rfl, hb⟩ | ⟨hne', h2⟩
        · rw [no] at o2; cases o2
        · exact f2 j l e e' a h1 o1 h2 o2 m1 m2
theorem RZ.setNew (r : RZ K S c B Z σ H ρ) (i : Nat) {d : D} {v : V} {ft : List Addr} {H1 : Hp} (k : Kp S H H1) (iv : S.I H1) (hn : ∀ a ∈ ft, H a = none) (nd : ft.Nodup) (q : Own K H1 (fun a => Z a ∨ a ∈ ft) c.H0 d v ft) (ho : d.isOwn = true) :
    RZ K S c B (fun a => Z a ∨ a ∈ ft) (σ.set i (some v)) H1 (ρ.set i (some d)) := by
  have r1 := r.step k iv
  have hl := r.rv.len
  have exz : Ex (hide H Z) (hide H1 (fun a => Z a ∨ a ∈ ft)) := fun a o e => by
    obtain ⟨n, e⟩ := hide_some.mp e
    refine hide_some.mpr ⟨fun z => ?_, (hide_some.mp (r.rv.wd.ex k a o (hide_some.mpr ⟨n, e⟩))).2⟩
    rcases z with z | z
    · exact n z
    · rw [hn a z] at e; cases e
  have exz1 : Ex (hide H1 Z) (hide H1 (fun a => Z a ∨ a ∈ ft)) → True := fun _ => trivial
  obtain ⟨FT, f1, f2⟩ := r.fp
  have old : ∀ j d', ρ[j]? = some (some d') → d'.isOwn = true → ∀ a ∈ FT j, a ∉ ft := fun j d' e o a ha hf => by
    obtain ⟨u, _, q', _⟩ := f1 j d' e o
    obtain ⟨_, _, o', e'⟩ := q'.in_ a ha
    rw [hn a hf] at e'; cases e'
  refine ⟨⟨⟨fun b o e => ⟨(r1.rv.wd.base b o e).1, fun z => z.elim (r1.rv.wd.base b o e).2 fun hm => by have q9 := (r.rv.wd.base b o e).1; rw [hn b hm] at q9; cases q9⟩, fun a w => .inl (r1.rv.wd.wz a w), fun a z => ?_, fun a o z e => z.elim (fun z => r1.rv.wd.zx a o z e) (fun z => q.noX a z o e), iv⟩, r1.rv.kp, fun a z => .inl (r.rv.zz a z), by rw [List.length_set, List.length_set]; exact hl, fun j e h n => ?_⟩, r.w0, fun a o e => exz a o (r.ex a o e), fun j => if j = i then ft else FT j, fun j e h o => ?_, fun j l e e' a h1 o1 h2 o2 m1 m2 => ?_⟩
  · rcases z with z | z
    · exact r1.rv.wd.zin a z
    · exact (q.in_ a z).2.2
  · rcases set_cases h with ⟨rfl, rfl, hb⟩ | ⟨hne, h⟩
    · rw [ho] at n; cases n
    · obtain ⟨u, e1, q1⟩ := r.rv.sl j e h n
      exact ⟨u, by rw [List.getElem?_set_ne (Ne.symm hne)]; exact e1, Rep.mono exz e u q1⟩
  · rcases set_cases h with ⟨rfl, rfl, hb⟩ | ⟨hne, h⟩
    · refine ⟨v, List.getElem?_set_self (by omega), ?_, ?_⟩
      · show Own _ _ _ _ _ _ (if j = j then ft else FT j)
        rw [if_pos rfl]; exact q
      · show (if j = j then ft else FT j).Nodup
        rw [if_pos rfl]; exact nd
    · obtain ⟨u, e1, q1, n1⟩ := f1 j e h o
      refine ⟨u, by rw [List.getElem?_set_ne (Ne.symm hne)]; exact e1, ?_, ?_⟩
      · show Own _ _ _ _ _ _ (if j = i then ft else FT j)
        rw [if_neg hne]
        exact Own.mono exz (fun _ z => .inl z) (fun a ha u hu => k a u hu (r.notW (q1.in_ a ha).2.1)) q1
      · show (if j = i then ft else FT j).Nodup
        rw [if_neg hne]; exact n1
  · have m1' : a ∈ (if j = i then ft else FT j) := m1
    have m2' : a ∈ (if l = i then ft else FT l) := m2
    rcases set_cases h1 with ⟨ej, _, hb⟩ | ⟨hne, g1⟩
    · rcases set_cases h2 with ⟨el, _, hb'⟩ | ⟨hne', g2⟩
      · rw [ej, el]
      · rw [if_pos ej] at m1'
        rw [if_neg hne'] at m2'
        exact (old l e' g2 o2 a m2' m1').elim
    · rw [if_neg hne] at m1'
      rcases set_cases h2 with ⟨el, _, hb'⟩ | ⟨hne', g2⟩
      · rw [if_pos el] at m2'
        exact (old j e g1 o1 a m1' m2').elim
      · rw [if_neg hne'] at m2'
        exact f2 j l e e' a g1 o1 g2 o2 m1' m2'
end
structure EndsD where
  nx : EnvD → Prop
  rt : D → Prop
  bk : EnvD → Prop := fun _ => False
  ct : EnvD → Prop := fun _ => False
abbrev TSD := EndsD → EnvD → Prop
structure Fit (K : PySem.W.Frag) (S : Sit) (c : Cl) (B : Hp) (Dd : EndsD) (D : Ends) : Prop where
  nx : ∀ σ H ρ, RS K S c B σ H ρ → Dd.nx ρ → D.nx σ H
  rt : ∀ v H d, Kp S c.H0 H → S.I H → Rep K (hide H c.Z0) d v → Dd.rt d → D.rt v H
  bk : ∀ σ H ρ, RS K S c B σ H ρ → Dd.bk ρ → D.bk σ H
  ct : ∀ σ H ρ, RS K S c B σ H ρ → Dd.ct ρ → D.ct σ H
def WS (K : PySem.W.Frag) (S : Sit) (c : Cl) (ts : TS) (t : TSD) : Prop := ∀ B σ H ρ (Dd : EndsD) (D : Ends), RS K S c B σ H ρ → t Dd ρ → Fit K S c B Dd D → ts D σ H
section
variable {K : PySem.W.Frag} {S : Sit} {c : Cl} {te : TE} {ta : TA} {tt : TT} {a t : TED} {as : TAD} {p : TTD} {s1 s2 : TS} {d1 d2 : TSD}
def WN (K : PySem.W.Frag) (S : Sit) (c : Cl) (te : TE) (t : TAD) : Prop := ∀ Z σ H ρ (P : List D → Prop), RV K S c Z σ H ρ → t ρ P →
  ∀ Q : VK, (∀ p H' ds xs, Kp S H H' → S.I H' → H p = none → H' p = some (.lst xs) → RepL K (hide H' (fun a => Z a ∨ a = p)) ds xs → P ds → Q (.ref p) H') → te σ H Q
end
abbrev TGD := D → EnvD → (EnvD → Prop) → Prop
def WG (K : PySem.W.Frag) (g : TG) (t : TGD) (ix : List Nat) : Prop := ∀ Z H (R : L2.St → EnvD → Prop), (∀ σ ρ i d v, i ∈ ix → R σ ρ → Rep K (hide H Z) d v → R (σ.set i (some v)) (ρ.set i (some d))) →
  ∀ σ ρ d v (P : EnvD → Prop), R σ ρ → Rep K (hide H Z) d v → t d ρ P → ∀ Q : L2.St → Hp → Prop, (∀ σ' ρ', R σ' ρ' → P ρ' → Q σ' H) → g v σ H Q
def WGs (K : PySem.W.Frag) (g : TGs) (t : List D → EnvD → (EnvD → Prop) → Prop) (ix : List Nat) : Prop := ∀ Z H (R : L2.St → EnvD → Prop), (∀ σ ρ i d v, i ∈ ix → R σ ρ → Rep K (hide H Z) d v → R (σ.set i (some v)) (ρ.set i (some d))) →
  ∀ σ ρ ds vs (P : EnvD → Prop), R σ ρ → RepL K (hide H Z) ds vs → t ds ρ P → ∀ Q : L2.St → Hp → Prop, (∀ σ' ρ', R σ' ρ' → P ρ' → Q σ' H) → g vs σ H Q
section
variable {K : PySem.W.Frag} {S : Sit} {c : Cl} {te : TE} {a : TED} {g : TG} {gs : TGs} {gd : TGD} {gds : List D → EnvD → (EnvD → Prop) → Prop} {ix iy : List Nat}
end
def Yields (K : PySem.W.Frag) (J : It) (B : Hp) (ds : List D) : Prop := ∀ H2 Z2, Ex B (hide H2 Z2) → (∀ a, Z2 a → ∃ o, H2 a = some o) →
  (∀ (i : Nat) d, ds[i]? = some d → J.go i H2 ∧ ∀ x H', J.yld i H2 x H' → Ex H2 H' ∧ Rep K (hide H' Z2) d x) ∧ J.stop ds.length H2
def WI (K : PySem.W.Frag) (S : Sit) (c : Cl) (wi : TI) (t : TAD) : Prop := ∀ Z σ H ρ (P : List D → Prop), RV K S c Z σ H ρ → t ρ P →
  ∀ Q : It → Hp → Prop, (∀ J H' ds, Kp S H H' → S.I H' → P ds → Yields K J (hide H' Z) ds → Q J H') → wi σ H Q
section
variable {K : PySem.W.Frag} {S : Sit} {c : Cl} {te : TE} {ta : TA} {a : TED} {as : TAD}
def WIv (K : PySem.W.Frag) (S : Sit) (c : Cl) (wi : TI) (t : TAD) : Prop := ∀ Z σ H ρ (P : List D → Prop), RV K S c Z σ H ρ → t ρ P →
  ∀ Q : It → Hp → Prop, (∀ J H' ds, Kp S H H' → S.I H' → P ds → (∀ B, Yields K J B ds) → Q J H') → wi σ H Q
end
section
variable {K : PySem.W.Frag} {S : Sit} {c : Cl} {wi : TI} {it : TAD} {g : TG} {gd : TGD} {ix : List Nat} {tb : TS} {body : TSD} {tt : TT} {p : TTD}
end
end DL
end
section
namespace DL
open PySem PySem.Spec PyProof.Rows L2
theorem RV.set {K : PySem.W.Frag} {S : Sit} {c : Cl} {Z : Addr → Prop} {σ : L2.St} {H : Hp} {ρ : EnvD} (r : RV K S c Z σ H ρ) (i : Nat) {d : D} {v : V} (q : Rep K (hide H Z) d v) : RV K S c Z (σ.set i (some v)) H (ρ.set i (some d)) := by
  have hl := r.len
  refine ⟨r.wd, r.kp, r.zz, by rw [List.length_set, List.length_set]; exact hl, fun j e h n => ?_⟩
  by_cases hj : i = j
  · subst hj
    by_cases hb : i < ρ.length
    · rw [List.getElem?_set_self hb] at h
      cases h
      exact ⟨v, List.getElem?_set_self (by omega), q⟩
    · rw [List.getElem?_eq_none (by rw [List.length_set]; omega)] at h
      cases h
  · rw [List.getElem?_set_ne hj] at h
    rw [List.getElem?_set_ne hj]
    exact r.sl j e h n
section
variable {K : PySem.W.Frag} {S : Sit} {c : Cl} {wi : TI} {it : TAD} {g : TG} {gd : TGD} {ix vs : List Nat} {tt : TT} {p : TTD} {te : TE} {e : TED}
end
section
variable {K : PySem.W.Frag} {S : Sit} {c : Cl} {ta : TE} {a : TED} {ts : TA} {as : TAD} {C : Addr} {f m : Str}
abbrev SpD := List D → (D → Prop) → XD → Prop
def liftSp (K : PySem.W.Frag) (S : Sit) (spd : SpD) : Sp := fun vs H Q E => ∃ (Z : Addr → Prop) (ds : List D) (P : D → Prop) (x : XD), Wd S Z H ∧ RepL K (hide H Z) ds vs ∧ spd ds P x ∧
  (∀ v H' d, Kp S H H' → S.I H' → Rep K (hide H' Z) d v → P d → Q v H') ∧ (∀ cls dd H' fs, Kp S H H' → S.I H' → XRep K (hide H' Z) dd fs → x cls fs → E (.ref cls) dd H')
theorem XRep.mono {H H' : Hp} {dd : Option Addr} {fs : List (Str × D)} (e : Ex H H') (r : XRep K H dd fs) : XRep K H' dd fs := by
  rcases r with r | ⟨a, vs, e1, h1, h2⟩
  · exact .inl r
  · exact .inr ⟨a, vs, e1, e _ _ h1, RepL.mono e _ vs h2⟩
abbrev InD := List D → (List Str → List D → Prop) → XD → Prop
def XOk (K : PySem.W.Frag) (S : Sit) (c : Cl) (E : XK) (xd : XD) : Prop := ∀ cls dd H' fs, Kp S c.H0 H' → S.I H' → XRep K (hide H' c.Z0) dd fs → xd cls fs → E (.ref cls) dd H'
theorem XOk.at {E : XK} {xd : XD} {Z : Addr → Prop} {σ : L2.St} {H1 : Hp} {ρ : EnvD} (h : XOk K S c E xd) (rv : RV K S c Z σ H1 ρ) : ∀ cls dd H' fs, Kp S H1 H' → S.I H' → XRep K (hide H' Z) dd fs → xd cls fs → E (.ref cls) dd H' :=
  fun cls dd H' fs k i xr hx => h cls dd H' fs (rv.kp.trans k) i (XRep.mono (hide_weak rv.zz) xr) hx
end
end DL
end
section
namespace DL
open PySem PySem.Spec PyProof.Rows L2
structure DE (K : PySem.W.Frag) (S : Sit) (c : Cl) (X : Cx) (e : Expr) (te : TE) (t : TED) : Prop where
  pe : PE X e te
  we : WE K S c te t
structure DN (K : PySem.W.Frag) (S : Sit) (c : Cl) (X : Cx) (e : Expr) (te : TE) (t : TAD) : Prop where
  pe : PE X e te
  wn : WN K S c te t
structure DA (K : PySem.W.Frag) (S : Sit) (c : Cl) (X : Cx) (es : List Expr) (ts : TA) (t : TAD) : Prop where
  pa : PA X es ts
  wa : WA K S c ts t
structure DT (K : PySem.W.Frag) (S : Sit) (c : Cl) (X : Cx) (e : Expr) (tt : TT) (t : TTD) : Prop where
  pt : PT X e tt
  wt : WT K S c tt t
structure DW (K : PySem.W.Frag) (S : Sit) (c : Cl) (X : Cx) (e : Expr) (tt : TT) (t : TTD) : Prop where
  pw : PW X e tt
  wt : WT K S c tt t
structure DO (K : PySem.W.Frag) (S : Sit) (c : Cl) (X : Cx) (e : Option Expr) (to : TO) (t : TOD) : Prop where
  po : PO X e to
  wo : WO K S c to t
structure DG (K : PySem.W.Frag) (X : Cx) (e : Expr) (g : TG) (t : TGD) (ix : List Nat) : Prop where
  pg : PG X e g
  wg : WG K g t ix
structure DGs (K : PySem.W.Frag) (X : Cx) (es : List Expr) (g : TGs) (t : List D → EnvD → (EnvD → Prop) → Prop) (ix : List Nat) : Prop where
  pgs : PGs X es g
  wgs : WGs K g t ix
structure DI (K : PySem.W.Frag) (S : Sit) (c : Cl) (X : Cx) (tg e : Expr) (wi : TI) (t : TAD) : Prop where
  pi : PI X tg e wi
  wi : WI K S c wi t
structure DIv (K : PySem.W.Frag) (S : Sit) (c : Cl) (X : Cx) (tg e : Expr) (wi : TI) (t : TAD) : Prop where
  pi : PI X tg e wi
  wi : WIv K S c wi t
structure DS (K : PySem.W.Frag) (S : Sit) (c : Cl) (X : Cx) (st : Stmt) (ts : TS) (t : TSD) : Prop where
  ps : PS X st ts
  ws : WS K S c ts t
structure DSs (K : PySem.W.Frag) (S : Sit) (c : Cl) (X : Cx) (st : List Stmt) (ts : TS) (t : TSD) : Prop where
  pss : PSs X st ts
  ws : WS K S c ts t
section
variable {K : PySem.W.Frag} {S : Sit} {c : Cl} {X : Cx} {ta tb te tc : TE} {a b t c' : TED} {tt tu : TT} {p q : TTD} {ts : TA} {as : TAD} {e e1 e2 e3 o : Expr} {es rest : List Expr} {pos pos' pos2 p1 p2 p3 : Pos} {x f m : Str} {C : Addr}
section
variable {k : Nat} {fa : Addr} {fd : FuncData} {ps : List Str} {spd : SpD} {ind : InD}
end
section
variable {g : TG} {gs : TGs} {gd : TGD} {gds : List D → EnvD → (EnvD → Prop) → Prop} {ix iy : List Nat}
end
end
end DL
end
section
namespace DL
open PySem PySem.Spec PyProof.Rows L2
section
variable {K : PySem.W.Frag} {S : Sit} {c : Cl} {X : Cx} {ta tb te tc : TE} {a b t : TED} {tt tu : TT} {p q : TTD} {ts : TA} {as : TAD} {e e1 e2 e3 o : Expr} {es : List Expr} {pos pos' pos2 p1 p2 p3 : Pos} {x y f m : Str} {C : Addr}
  {st : Stmt} {body els rest : List Stmt} {s1 s2 tbd : TS} {d1 d2 : TSD} {g : TG} {gd : TGD} {ix : List Nat} {wi : TI} {it : TAD}
structure DTs (K : PySem.W.Frag) (S : Sit) (c : Cl) (X : Cx) (es : List Expr) (tt : TT) (t : TTD) : Prop where
  pts : PTs X es tt
  wt : WT K S c tt t
end
end DL
end
section
namespace DL
open PySem PySem.Spec PyProof.Rows L2
structure OpO (K : PySem.W.Frag) (C : Addr) (name : Str) (g : Addr) : Prop where
  at_ : PySem.W.findIn K (.ref C) name = some (some (.ref g))
  fn : PySem.W.isFn K (.ref g) = true
section
variable {X : Cx} {CX : CXT} {k : Nat} {C g a dx : Addr} {fs : List (Str × V)} {fd : FuncData} {ps : List Str} {sp : Sp} {E : XK} {e o : Expr} {pos : Pos} {ta tb : TE}
end
section
variable {K : PySem.W.Frag} {S : Sit} {C : Addr} {spd : SpD}
end
section
variable {K : PySem.W.Frag} {S : Sit} {c : Cl} {X : Cx} {ta tb : TE} {a b : TED} {ts : TA} {as : TAD} {e e1 e2 : Expr} {es : List Expr} {pos p1 : Pos} {x : Str} {C g : Addr} {k : Nat} {fd : FuncData} {ps : List Str} {spd : SpD}
end
section
variable {P : Program} {w : World} {K : PySem.W.Frag} {S : Sit} {mg : Str → Option Value} {base : Heap}
end
end DL
end
section
namespace PySem.W
open PySem PySem.Calls PyProof.Rows
section
variable {M : Model} {A : Around} {E : Value → Shared → Prop} {s : Shared}
end
end PySem.W
namespace PySem.W
open PySem PySem.Calls PyProof.Rows
section
variable {M : Model} {A : Around} {E : Value → Shared → Prop} {s : Shared} {K : Frag} {env : Env} {pos p : Pos} {f : Value} {first : List Value} {Q : Value → Shared → Prop} {h₀ : Heap} {e : Expr} {kws : List Keyword}
end
end PySem.W
namespace DL
open PySem PySem.Spec PyProof.Rows L2
section
variable {CX : CXT} {P : Program} {w : World} {K : PySem.W.Frag} {mg : Str → Option Value} {base : Heap} {k : Nat} {f : Addr} {name qual : Str} {params : Arguments} {body : List Stmt} {scope : Scope} {dV kV doc pm cdv ct oc : Value} {an od : Option Addr}
  {osl : Array (Option Value)} {N : List Str} {sp : Sp} {a0 kn pv : Str}
end
section
variable {X : Cx} {CX : CXT} {k : Nat} {f C : Addr} {sp : List V → V → Hp → VK → XK → Prop} {E : XK} {x kn : Str} {p p9 pos kpos : Pos} {e e2 : Expr} {es : List Expr} {te tk : TE} {t : TA}
end
end DL
end
section
namespace DL
open PySem PySem.Spec PyProof.Rows L2
section
variable {K : PySem.W.Frag} {S : Sit} {c : Cl} {C : Addr} {ta tk : TE} {a b : TED} {ts : TA} {as : TAD} {E : XK} {xd : XD} {ind : InD}
end
section
variable {K : PySem.W.Frag} {S : Sit} {c : Cl} {X : Cx} {ta tb : TE} {a b : TED} {ts : TA} {as : TAD} {e e1 e2 o : Expr} {es : List Expr} {pos pos' p1 p2 kpos : Pos} {x f kn : Str} {C : Addr} {E : XK} {xd : XD} {ind : InD} {CX : CXT} {k : Nat} {fi : Addr}
end
section
variable {P : Program} {w : World} {K : PySem.W.Frag} {S : Sit} {mg : Str → Option Value} {base : Heap}
end
end DL
end
section
namespace DL
open PySem PySem.Spec PyProof.Rows L2
end DL
end
section
namespace DL
open PySem PySem.Spec PyProof.Rows L2
section
variable {K : PySem.W.Frag} {S : Sit} {c : Cl} {te : TE} {ta : TA} {a : TED} {as : TAD}
def D.tyN : D → String
  | .non => "NoneType"
  | .bl _ => "bool"
  | .int _ => "int"
  | .str _ => "str"
  | .lst _ => "list"
  | .tup _ => "tuple"
  | _ => ""
def kindsN : List String := ["NoneType", "bool", "int", "str", "list", "tuple"]
def D.kind (d : D) : Bool := kindsN.contains d.tyN
end
end DL
end
section
namespace DL
open PySem PySem.Spec PyProof.Rows L2
section
variable {prog : Program} {w : World} {A : Around} {R : Result → Shared → Prop} {J : Addr} {fp wr : List Addr} {G : Array GenState → Array GenState → Prop} {n : Nat} {P : Nat → Value → Prop} {St : Nat → Shared → Prop}
end
section
variable {prog : Program} {w : World} {A : Around} {E : Value → Shared → Prop} {s : Shared}
end
end DL
end
section
namespace DL
open PySem PySem.Spec PyProof.Rows L2
section
variable {K : PySem.W.Frag} {S : Sit} {c : Cl} {X : Cx} {ta tb te : TE} {a b t : TED} {ts : TA} {as : TAD} {e e1 e2 e3 e4 : Expr} {es : List Expr} {pos p1 p2 p3 tpos : Pos} {x : Str} {C : Addr}
section
variable {wi : TI} {it : TAD} {g : TG} {gd : TGD} {ix : List Nat} {tt : TT} {p : TTD} {elt tg iter : Expr} {ifs : List Expr} {scope : Scope} {own : List (Str × Nat)} {py lpos : Pos}
end
end
end DL
end
section
namespace DL
open PySem PySem.Spec PyProof.Rows L2
section
variable {K : PySem.W.Frag} {S : Sit} {c : Cl} {X : Cx} {ta : TE} {a : TED} {e : Expr} {pos p1 p2 : Pos} {x : Str} {C : Addr} {E : XK} {xd : XD} {ind : InD} {CX : CXT} {k : Nat} {fi : Addr} {sp : Sp}
end
end DL
end
section
namespace DL
open PySem PySem.Spec PyProof.Rows L2
end DL
end
section
namespace DL
open PySem PySem.Spec PyProof.Rows L2
section
variable {K : PySem.W.Frag}
structure Scr (K : PySem.W.Frag) (Hs : Hp) (l p : Addr) (ns : List Int) : Prop where
  at_ : ∀ H, (∀ b o, Hs b = some o → b ≠ l → H b = some o) → SqL K H p (ns.map V.int)
end
end DL
end
section
namespace DL
open PySem PySem.Spec PyProof.Rows L2
section
variable {K : PySem.W.Frag} {S : Sit} {c : Cl} {X : Cx} {ta tb te tk : TE} {a b t : TED} {ts : TA} {as bs : TAD} {e e1 e2 e3 : Expr} {es : List Expr} {pos p1 p2 p3 p4 p5 p6 : Pos} {x y z : Str}
theorem RV.more {Z : Addr → Prop} {σ : L2.St} {H H1 : Hp} {ρ : EnvD} {p : Addr} {o : HO} (r : RV K S c Z σ H ρ) (k : Kp S H H1) (i : S.I H1) (hp : H p = none) (h1 : H1 p = some o) (hx : isX o = false := by rfl) : RV K S c (fun a => Z a ∨ a = p) σ H1 ρ := by
  have r1 := r.step k i
  have ex : Ex (hide H Z) (hide H1 (fun a => Z a ∨ a = p)) := fun b u e => by
    obtain ⟨n, e⟩ := hide_some.mp e
    have nb : b ≠ p := ne_of_none e hp
    exact hide_some.mpr ⟨fun z => z.elim n nb, k b u e fun w => n (r.wd.wz b w)⟩
  refine ⟨⟨fun b u e => ⟨(r1.wd.base b u e).1, fun z => z.elim (r1.wd.base b u e).2 fun q => by have q9 := (r.wd.base b u e).1; rw [q, hp] at q9; cases q9⟩, fun b w => .inl (r1.wd.wz b w), fun b zb => ?_, fun a u z e => z.elim (fun z => r1.wd.zx a u z e) (fun z => by rw [z, h1] at e; rw [← Option.some.inj e]; exact hx), i⟩, r1.kp, fun b zb => .inl (r.zz b zb), r.len, fun j d e n => ?_⟩
  · rcases zb with zb | zb
    · exact r1.wd.zin b zb
    · subst zb; exact ⟨o, h1⟩
  · obtain ⟨v, e1, q⟩ := r.sl j d e n
    exact ⟨v, e1, Rep.mono ex d v q⟩
end
end DL
end
section
namespace DL
open PySem PySem.Spec PyProof.Rows L2
def D.key : D → Option Key
  | .int i => some (.inl i)
  | .str x => some (.inr x)
  | _ => none
section
variable {K : PySem.W.Frag} {H : Hp}
end
section
variable {K : PySem.W.Frag} {S : Sit} {c : Cl} {X : Cx} {ta tb te : TE} {a b t : TED} {ts : TA} {as : TAD} {e e2 : Expr} {es : List Expr} {pos p1 p2 p3 pos' : Pos} {x y : Str}
end
end DL
end
section
namespace DL
open PySem PySem.Spec PyProof.Rows L2
structure ClsTy (K : PySem.W.Frag) (C : Addr) : Prop where
  cl : Cls K C
  ha : PySem.W.findIn K (.ref C) "__class__" = some (some (.builtin "object.__class__"))
  hn : PySem.W.specialIn K (.builtin "object.__class__") "__get__" = some (some (.builtin "getset_descriptor.__get__"))
  htk : PySem.W.takesIn K (.builtin "object.__class__") = some true
  hm : PySem.W.mroIn K C (.type "object") = some true
section
variable {K : PySem.W.Frag} {S : Sit} {c : Cl} {X : Cx} {te ta : TE} {a : TED} {e : Expr} {pos p1 p2 : Pos} {x y : Str} {C : Addr}
structure DPop (K : PySem.W.Frag) (S : Sit) (c : Cl) (X : Cx) (j : Nat) (e : Expr) (tb : TE) (b : TED) : Prop where
  pe : PE X e (tBM K "list" rPopAt (tVar j) (tCons tb tNil))
  we : WE K S c tb b
end
end DL
end
section
namespace DL
open PySem PySem.Spec PyProof.Rows L2
section
variable {K : PySem.W.Frag} {S : Sit} {c : Cl} {X : Cx} {e : Expr} {pos p1 p2 p3 p4 p5 p6 : Pos} {x y : Str}
end
end DL
end
section
namespace DL
open PySem PySem.Spec PyProof.Rows L2
section
variable {K : PySem.W.Frag} {S : Sit} {c : Cl} {X : Cx} {ta tb te : TE} {a b t : TED} {ts : TA} {as : TAD} {e e1 e2 e3 e4 : Expr} {pos p1 p2 p3 p4 : Pos} {x : Str}
end
section
variable {K : PySem.W.Frag}
end
structure LawAt (K : PySem.W.Frag) where
  c : Cl
  Hs : Hp
  l : Addr
  p : Addr
  ns : List Int
  scr : Scr K Hs l p ns
end DL
namespace DL
open PySem PySem.Spec PyProof.Rows L2
section
variable {X : Cx} {x : Str} {pos p1 p2 : Pos} {j : Nat}
end
end DL
namespace DL
open PySem PySem.Spec PyProof.Rows L2
section
variable {K : PySem.W.Frag} {S : Sit} {c : Cl} {X : Cx} {ta : TA} {as : TAD} {e1 e2 : Expr} {pos : Pos} {x y : Str}
end
end DL
end
section
namespace DL
open PySem PySem.Spec PyProof.Rows L2
inductive At where
  | glo (x : Str)
  | meth (C m : Str)
  | prop (C f : Str)
def getterA (K : PySem.W.Frag) (p : Addr) : Addr := match PySem.W.recIn K p "property" with
  | some (.ref g :: _) => g
  | _ => 0
def At.ad (K : PySem.W.Frag) : At → Addr
  | .glo x => He.ga K x
  | .meth C m => He.ma K (He.ga K C) m
  | .prop C f => getterA K (He.ma K (He.ga K C) f)
structure DefX where
  at_ : At
  name : Str
  qual : Str
  st : Stmt
def DefX.look (K : PySem.W.Frag) (d : DefX) : He.FnV := match K.lookup (d.at_.ad K) with
  | some ⟨_, _, .func fd, _⟩ => some (fd.name, fd.qualname, fd.params, fd.body, fd.scope, fd.globals, fd.closure, fd.defaults, fd.builtins)
  | _ => none
def DefX.want (d : DefX) : He.FnV := some (d.name, d.qual, defArgs d.st, .stmts (defBody d.st), defScope d.st, mainGlobals, [], .none, builtinsNs)
def DefX.ok (K : PySem.W.Frag) (d : DefX) : Bool := PySem.W.keepIn K (.ref (d.at_.ad K)) && (match K.lookup (d.at_.ad K) with
  | some ⟨_, _, .func fd, _⟩ => PySem.W.codeIn K fd.code d.qual
  | _ => false)
inductive Fb where
  | a (f : He.Fa)
  | con (C f : Str) (i : Int)
  | cons (C f z : Str)
  | prop (C f : Str)
  | ty (C : Str)
  | sf (C : Str)
  | fnin (C m : Str)
  | imp (x : Str) (id : String)
  | cval (C f : Str) (i : Int)
def Fb.ok (K : PySem.W.Frag) : Fb → Bool
  | .a f => f.ok K
  | .con C f i => (match PySem.W.findIn K (.ref (He.ga K C)) f with
    | some (some (.int j t)) => decide (j = i) && decide (PySem.W.specialIn K (.int j t) "__get__" = some none)
    | _ => false) && !(PySem.W.copiedNames.contains f)
  | .cons C f z => (match PySem.W.findIn K (.ref (He.ga K C)) f with
    | some (some (.str j t)) => decide (j = z) && decide (PySem.W.specialIn K (.str j t) "__get__" = some none)
    | _ => false) && !(PySem.W.copiedNames.contains f)
  | .prop C f => He.eqO (PySem.W.findIn K (.ref (He.ga K C)) f) (some (some (.ref (He.ma K (He.ga K C) f)))) && (He.eqO (PySem.W.specialIn K (.ref (He.ma K (He.ga K C) f)) "__get__") (some (some (.builtin "property.__get__"))) && (decide (PySem.W.takesIn K (.ref (He.ma K (He.ga K C) f)) = some true) && (match PySem.W.recIn K (He.ma K (He.ga K C) f) "property" with
    | some (.ref g :: _) => true
    | _ => false)))
  | .ty C => (He.Fa.cls C).ok K && (He.eqO (PySem.W.findIn K (.ref (He.ga K C)) "__class__") (some (some (.builtin "object.__class__"))) && (He.eqO (PySem.W.specialIn K (.builtin "object.__class__") "__get__") (some (some (.builtin "getset_descriptor.__get__"))) && (decide (PySem.W.takesIn K (.builtin "object.__class__") = some true) && decide (PySem.W.mroIn K (He.ga K C) (.type "object") = some true))))
  | .sf C => PySem.W.selfFirst K (He.ga K C)
  | .fnin C m => PySem.W.fnIn K (He.ma K (He.ga K C) m)
  | .imp x id => He.eqO (PySem.W.nsIn K mainGlobals x) (some (some (.builtin id)))
  | .cval C f i => PySem.W.readsIn K (He.ga K C) (.type "type") && (He.eqO (PySem.W.specialIn K (.ref (He.ga K C)) "__getattribute__") (some (some (.builtin "type.__getattribute__"))) && (match PySem.W.findCls K (.ref (He.ga K C)) (.type "type") f with
    | some (.val (.int j _)) => decide (j = i)
    | _ => false))
section
variable {K : PySem.W.Frag} {h : Heap} {mg : Str → Option Value}
end
abbrev AlX : Type := Bool × List He.FnV
section
variable {fa : List Fb} {fn : List DefX} {K : PySem.W.Frag}
end
end DL
end
section
namespace DL
open PySem PySem.Spec PyProof.Rows L2
end DL
end
section
namespace DL
open PySem PySem.Spec PyProof.Rows L2
section
variable {K : PySem.W.Frag} {S : Sit} {c : Cl} {X : Cx} {te ta tb : TE} {a b t : TED} {as : TAD}
abbrev TXD := EnvD → (D → Prop) → Prop
def WX (K : PySem.W.Frag) (S : Sit) (c : Cl) (te : TE) (t : TXD) : Prop := ∀ Z σ H ρ (P : D → Prop), RV K S c Z σ H ρ → t ρ P →
  ∀ Q : VK, (∀ v H' d ft, Kp S H H' → S.I H' → (∀ a ∈ ft, H a = none) → ft.Nodup → Own K H' (fun a => Z a ∨ a ∈ ft) c.H0 d v ft → P d → Q v H') → te σ H Q
structure DX (K : PySem.W.Frag) (S : Sit) (c : Cl) (X : Cx) (e : Expr) (te : TE) (t : TXD) : Prop where
  pe : PE X e te
  wx : WX K S c te t
variable {e e1 e2 e3 : Expr} {t1 t2 t3 : TE} {a1 a2 a3 : TXD} {x y z : Str} {pos pos' p1 p2 p3 p4 p5 p6 : Pos}
theorem RZ.put {B : Hp} {Z : Addr → Prop} {σ : L2.St} {H H' : Hp} {ρ : EnvD} (r : RZ K S c B Z σ H ρ) (i : Nat) {d : D} {v : V} {ft : List Addr} (k : Kp S H H') (iv : S.I H') (hn : ∀ a ∈ ft, H a = none) (nd : ft.Nodup) (q : Own K H' (fun a => Z a ∨ a ∈ ft) c.H0 d v ft) :
    RZ K S c B (fun a => Z a ∨ a ∈ ft) (σ.set i (some v)) H' (ρ.set i (some d)) := by
  cases ho : d.isOwn with
  | true => exact r.setNew i k iv hn nd q ho
  | false =>
    obtain ⟨rfl, rd⟩ := (own_plain ho).mp q
    have ez : (fun a => Z a ∨ a ∈ ([] : List Addr)) = Z := by funext a; simp
    rw [ez] at rd ⊢
    exact (r.step k iv).set i rd
end
section
variable {K : PySem.W.Frag} {S : Sit} {c : Cl} {X : Cx} {ta : TE} {a : TED} {ts : TA} {as : TAD} {o e : Expr} {es : List Expr} {apos cpos pos p : Pos} {T id : String} {name : Str} {r : V → List V → Hp → VK → Prop}
end
section
variable {K : PySem.W.Frag} {S : Sit} {c : Cl} {X : Cx} {te ta tb : TE} {a b t : TED} {as : TAD} {e e1 e2 : Expr} {x y : Str} {pos pos' p1 p2 p3 p4 p5 p6 : Pos}
structure CCon (K : PySem.W.Frag) (C : Addr) (f : Str) (v : V) : Prop where
  rd : ClX.CRead K C (.type "type")
  at_ : ∃ u, ClX.CVal K C (.type "type") f v u
end
section
variable {P : Program} {w : World} {K : PySem.W.Frag} {S : Sit} {c : Cl} {X : Cx} {mg : Str → Option Value} {base : Heap} {te ta : TE} {ts : TA} {as : TAD} {e : Expr} {es : List Expr} {x : Str} {p pos : Pos}
structure DSsN (K : PySem.W.Frag) (S : Sit) (c : Cl) (X : Cx) (i : Nat) (st : List Stmt) (ts : TS) (t : TSD) : Prop where
  pss : PSs X st ts
  ws : ∀ B σ H ρ (Dd : EndsD) (D : Ends), RS K S c B σ H ρ → t Dd ρ → (∀ σ H ρ, RS K S c B σ H ρ → Dd.nx ρ → tRet (tVar i) D σ H) → (∀ d, ¬ Dd.rt d) → (∀ ρ, ¬ Dd.bk ρ) → (∀ ρ, ¬ Dd.ct ρ) → ts D σ H
end
end DL
end
section
namespace DL
open PySem PySem.Spec PyProof.Rows L2
section
variable {K : PySem.W.Frag}
end
end DL
end
section
namespace DL
open PySem PySem.Spec PyProof.Rows L2
end DL
end
section
namespace EXK
open PySem PySem.W PySem.Calls PyProof.Rows PySem.HandSPX
open Builtin Builtin.ObjectAttr
section
variable {P : Program} {w : World} {M : Model} {Ar : Around} {Er : Value → Shared → Prop} {Rr : Result → Shared → Prop} {hh : Heap} {gs : Array GenState} {dr : Drawn} {tk : Nat} {oss : OsState}
variable {cn cq : Str} {C Nc : Addr} {bs bm bmB : List Value} {hdct : Bool} {sn : List Str} {sub : List Value} {ab : Bool} {col : Option Bool} {dd : Option Addr} {k0 k1 k2 k3 k5 : Option Value} {B newId initId : String} {kw : List (Str × Value)}
end
end EXK
end
section
namespace DL
open PySem PySem.Spec PyProof.Rows L2
structure SupX (X : Cx) (C D : Addr) : Prop where
  ks : X.env.kindOf "super" = some .globalImplicit
  kc : X.env.kindOf "__class__" = some .free
  k0 : X.env.kindOf "self" = some .local
  n0 : X.N[0]? = some ("self" : Str)
  fn : ∃ (f : Addr) (oc : Value) (od : Option Addr) (fd : FuncData) (osl : Array (Option Value)) (ar : Arg), X.env.func = some f ∧ X.K.lookup f = some ⟨oc, od, .func fd, osl⟩ ∧ (fd.params.posonlyargs ++ fd.params.args).head? = some ar ∧ ar.arg = "self"
  code : ∃ (cda : Addr) (ccl : Value) (cdd : Option Addr) (vs : Array Value) (ccs : Array (Option Value)) (file : Str) (tf : Tok), X.env.code = .ref cda ∧ X.K.lookup cda = some ⟨ccl, cdd, .fields vs, ccs⟩ ∧ vs[2]? = some (.str file tf) ∧ ((X.prog.main.file : Str) == file) = true
  top : (X.prog.main.scope.names.lookup ("super" : Str)).isSome = false
  mg : X.mg "super" = none
  cell : ∃ (cc : Addr) (cl : Value) (cld : Option Addr) (csl : Array (Option Value)), X.env.cells.lookup ("__class__" : Str) = some cc ∧ X.K.lookup cc = some ⟨cl, cld, .cell (some (.ref D)), csl⟩
  clsD : ∃ cdD, PySem.W.clsIn X.K D = some cdD
  clsC : ∃ cdC, PySem.W.clsIn X.K C = some cdC
  sub : PySem.W.mroIn X.K C (.ref D) = some true
  opq : PySem.W.nsIn X.K cStatics "thirdparty.any" = some none
section
variable {X : Cx} {pins : List (Addr × Obj)} {σ : L2.St} {H : Hp} {s : Shared} {C D a : Addr}
end
end DL
end
section
namespace DL
open PySem PySem.Spec PyProof.Rows L2
section
open PySem.W PySem.Calls
variable {P : Program} {w : World} {Ar : Around} {Er : Value → Shared → Prop} {hh : Heap} {gs : Array GenState} {dr : Drawn} {tk : Nat} {oss : OsState}
variable {cn cq : Str} {C Nc : Addr} {bs bm bmB : List Value} {hdct : Bool} {sn : List Str} {sub : List Value} {ab : Bool} {col : Option Bool} {dd : Option Addr} {k0 k1 k2 k3 k5 : Option Value} {B i newId : String}
end
section
variable {X : Cx} {pins : List (Addr × Obj)} {σ : L2.St} {H : Hp} {s : Shared} {C D a : Addr} {e : Expr} {es : List Expr} {ta : TA} {body : List Stmt} {p0 p1 p2 p3 pos : Pos} {Dn : Ends}
end
end DL
end
section
namespace DL
open PySem PySem.Spec PyProof.Rows L2
structure FunS (P : Program) (K : PySem.W.Frag) (x qual : Str) (st : Stmt) (D f : Addr) (fd : FuncData) : Prop where
  ex : ∃ (oc : Value) (od : Option Addr) (kV doc pm : Value) (an : Option Addr) (cda : Addr) (ct : Value) (osl : Array (Option Value)) (cc : Addr),
    fd = PySem.W.ksFn x qual (defArgs st) (defBody st) (defScope st) .none kV doc pm an (.ref cda) ct cc ∧ K.lookup f = some ⟨oc, od, .func fd, osl⟩ ∧ PySem.W.codeIn K (.ref cda) qual = true ∧
    (∃ (ccl : Value) (cdd : Option Addr) (vs : Array Value) (ccs : Array (Option Value)) (file : Str) (tf : Tok), K.lookup cda = some ⟨ccl, cdd, .fields vs, ccs⟩ ∧ vs[2]? = some (.str file tf) ∧ ((P.main.file : Str) == file) = true) ∧
    ∃ (cl : Value) (cld : Option Addr) (csl : Array (Option Value)), K.lookup cc = some ⟨cl, cld, .cell (some (.ref D)), csl⟩
  kp : PySem.W.keepIn K (.ref f) = true
structure SupK (P : Program) (K : PySem.W.Frag) (mg : Str → Option Value) (C D : Addr) : Prop where
  top : (P.main.scope.names.lookup ("super" : Str)).isSome = false
  mg : mg "super" = none
  clsD : ∃ cdD, PySem.W.clsIn K D = some cdD
  clsC : ∃ cdC, PySem.W.clsIn K C = some cdC
  sub : PySem.W.mroIn K C (.ref D) = some true
  opq : PySem.W.nsIn K cStatics "thirdparty.any" = some none
section
variable {P : Program} {w : World} {K : PySem.W.Frag} {mg : Str → Option Value} {base : Heap} {CX : CXT} {x qual : Str} {st : Stmt} {C D f : Addr} {fd : FuncData} {N ps : List Str} {k : Nat} {sp : Sp}
end
end DL
end
section
namespace DL
open PySem PySem.Spec PyProof.Rows L2
def Fm (v : V) : Prop := (∃ i : Int, v = .int i ∧ i.natAbs.log2 < 1920) ∨ ∃ y : Str, v = .str y ∧ y.length ≤ 100000 ∧ (reprText y).length ≤ 100000
def spXI (C : Addr) (fs : List Str) : Sp := fun vs H Q _ => ∃ (a : Addr) (ys : List V), vs = .ref a :: ys ∧ ys.length = fs.length ∧ (∀ y ∈ ys, Fm y) ∧ H a = some (exo a C none) ∧
  ∀ dx H', H dx = none → dx ≠ a → H' a = some (exo a C (some dx)) → H' dx = some (exd dx (fs.zip ys).reverse) → (∀ b, b ≠ a → b ≠ dx → H' b = H b) → Q .non H'
section
variable {P : Program} {w : World} {K : PySem.W.Frag} {mg : Str → Option Value} {base : Heap} {CX : CXT} {qual : Str} {st : Stmt} {C f : Addr} {fd : FuncData} {k : Nat}
end
section
variable {X : Cx} {CX : CXT} {x : Str} {C fI : Addr} {k : Nat} {fd : FuncData} {ps ks : List Str} {sp : Sp} {kws : List Keyword} {tk : TA} {p pos : Pos} {g : List Value → List Value → List Value} {gV : List V → List V → List V}
end
end DL
end
section
namespace LMX
open PySem PySem.Spec PyProof.Rows L2 LamX
structure LF where
  qual : Str
  params : Arguments
  body : Expr
  scope : Scope
  cl : List (Str × Addr)
  c : Addr
  dv : Option Addr
def LF.dV (F : LF) : Value := match F.dv with
  | none => .none
  | some t => .ref t
abbrev fdL (qual : Str) (params : Arguments) (body : Expr) (scope : Scope) (cl : List (Str × Addr)) (dV pm cdv ct : Value) : FuncData :=
  { PySem.W.kla_fn "<lambda>" qual params body scope cl pm cdv ct with defaults := dV }
def LamO (f : Addr) (F : LF) : HO := .ext fun h => ∃ (od : Option Addr) (sl : Array (Option Value)) (pm ctv : Value), h.get? f = some (⟨.type "function", od, .func (fdL F.qual F.params F.body F.scope F.cl F.dV pm (.ref F.c) ctv), sl⟩ : Obj)
section
variable {M : Model} {A : Around} {E : Value → Shared → Prop} {s : Shared} {q : Str} {pr : Arguments} {bd : Expr} {sc : Scope} {env : Env} {c P : Addr} {ps : Array Value} {pos : Pos} {ln : Nat} {mg : Str → Option Value} {cl : List (Str × Addr)} {dV : Value} {Qv : Value → Shared → Prop}
end
end LMX
end
section
namespace LMX
open PySem PySem.Spec PyProof.Rows L2 LamX
def LamAt (qual : Str) (params : Arguments) (body : Expr) (scope : Scope) (cl : List (Str × Addr)) (hasD : Bool) (H : Hp) (f : Addr) : Prop :=
  ∃ (c' : Addr) (dv : Option Addr), H f = some (LamO f ⟨qual, params, body, scope, cl, c', dv⟩) ∧ H c' = some (CodeO c' qual) ∧ dv.isSome = hasD ∧ ∀ t, dv = some t → H t = some (.tup [.int 0])
theorem LamAt.ext {qual : Str} {params : Arguments} {body : Expr} {scope : Scope} {cl : List (Str × Addr)} {hasD : Bool} {H H' : Hp} {f : Addr} (h : LamAt qual params body scope cl hasD H f) (e : ∀ b o, H b = some o → H' b = some o) : LamAt qual params body scope cl hasD H' f := by
  obtain ⟨c', dv, h1, h2, h3, h4⟩ := h
  exact ⟨c', dv, e _ _ h1, e _ _ h2, h3, fun t ht => e _ _ (h4 t ht)⟩
section
variable {X : Cx} {pins : List (Addr × Obj)} {σ : L2.St} {H : Hp} {s : Shared}
end
end LMX
end
section
namespace LMX
open PySem PySem.Spec PyProof.Rows L2 LamX
section
variable {X : Cx} {pins : List (Addr × Obj)} {σ : L2.St} {H : Hp} {s : Shared}
end
structure LScope (ps : List Str) (sc : Scope) : Prop where
  kind : sc.kind = .function
  co : sc.isCoroutine = false
  gen : sc.isGenerator = false
  nocell : ∀ y ∈ sc.names, y.2 ≠ .cell
  par : ∀ x ∈ ps, sc.names.lookup x = some .local
section
variable {P : Program} {w : World} {K : PySem.W.Frag} {mg : Str → Option Value} {base : Heap} {N ps : List Str} {F : LF} {f : Addr} {A : Around} {outer : List Env} {s : Shared} {H : Hp} {E : XK} {us : List Value} {σ : L2.St}
end
end LMX
end
section
namespace DL
open PySem PySem.Spec PyProof.Rows L2 LamX LMX
abbrev SpT := (D → Prop) → XD → Prop
section
variable {K : PySem.W.Frag} {S : Sit} {c : Cl} {X : Cx} {E : XK} {xd : XD} {k i : Nat} {x : Str} {p1 p2 : Pos} {Act : (Hp → Addr → Prop) → SpT → Prop}
end
section
variable {P : Program} {w : World} {K : PySem.W.Frag} {mg : Str → Option Value} {S : Sit} {c : Cl} {X : Cx}
end
end DL
end
section
namespace DL
open PySem PySem.Spec PyProof.Rows L2 LamX LMX
section
variable {K : PySem.W.Frag} {S : Sit} {c : Cl} {X : Cx}
abbrev ActT := (Hp → Addr → Prop) → SpT → Prop
variable {CX : CXT} {k j : Nat} {g : Addr} {fd : FuncData} {ps : List Str} {spA : ActT → SpD} {E : XK} {xd : XD} {x : Str} {p pos : Pos} {e : Expr} {es : List Expr} {ts : TA} {as : TAD} {tab : List ((Hp → Addr → Prop) × (XD → TED) × List Bool)}
structure TabIn (S : Sit) (T : List (Addr × Str)) : Prop where
  w : ∀ p ∈ T, S.W p.1
  i : ∀ H, S.I H → Tabs T H
  put : ∀ H H' P q, (P, q) ∈ T → S.I H → (∀ b o, b ≠ P → H b = some o → H' b = some o) → TabS H' P q → S.I H'
end
end DL
end
section
namespace DL
open PySem PySem.Spec PyProof.Rows L2 LamX LMX
def tabSit (S : Sit) (T : List (Addr × Str)) : Sit where
  Hs := S.Hs
  W := fun a => S.W a ∨ ∃ q, (a, q) ∈ T
  I := fun H => S.I H ∧ Tabs T H
  stab := fun H H' h ⟨i, t⟩ => ⟨S.stab H H' (fun a o e w => h a o e (w.imp .inl id)) i, fun p hp => by
    obtain ⟨ps, h1, h2, h3⟩ := t p hp
    refine ⟨ps, h _ _ h1 (.inl (.inr ⟨p.2, hp⟩)), h2, fun pos cv hc => ?_⟩
    obtain ⟨c, e1, e2⟩ := h3 pos cv hc
    exact ⟨c, e1, h _ _ e2 (.inr rfl)⟩⟩
  there := fun H a ⟨i, t⟩ w => w.elim (fun w => S.there H a i w) fun ⟨q, hq⟩ => by
    obtain ⟨ps, h1, _⟩ := t _ hq
    exact ⟨_, h1⟩
  nox := fun H a o ⟨i, t⟩ w e => w.elim (fun w => S.nox H a o i w e) fun ⟨q, hq⟩ => by
    obtain ⟨ps, h1, _⟩ := t _ hq
    have h1 : H a = some (.tbl ps) := h1
    rw [h1] at e
    cases e
    rfl
def NoTab (S : Sit) : Prop := ∀ H a ps, S.I H → S.W a → H a ≠ some (.tbl ps)
section
variable {P : Program} {w : World} {K : PySem.W.Frag} {mg : Str → Option Value} {base : Heap} {CX : CXT} {k : Nat} {f : Addr} {fd : FuncData} {ps : List Str} {S : Sit} {T : List (Addr × Str)}
theorem wd_tab {Z : Addr → Prop} {H : Hp} (w : Wd (tabSit S T) Z H) : Wd S Z H := ⟨w.base, fun a h => w.wz a (.inl h), w.zin, w.zx, w.inv.1⟩
theorem tab_keep (nt : NoTab S) {H H' : Hp} (k : Kp S H H') (i : (tabSit S T).I H) (i' : S.I H') : (tabSit S T).I H' := by
  obtain ⟨i0, t⟩ := i
  refine ⟨i', fun p hp => ?_⟩
  obtain ⟨qs, h1, h2, h3⟩ := t p hp
  refine ⟨qs, k _ _ h1 fun w => nt H _ qs i0 w h1, h2, fun pos cv hc => ?_⟩
  obtain ⟨c, e1, e2⟩ := h3 pos cv hc
  exact ⟨c, e1, k _ _ e2 fun w => by
    have z := S.nox H c _ i0 w e2
    cases z⟩
theorem FnOk.tab {spd : SpD} (nt : NoTab S) (F : FnOk P w K mg base CX k f fd ps (liftSp K S spd)) : FnOk P w K mg base CX k f fd ps (liftSp K (tabSit S T) spd) :=
  F.imp fun vs H Q E ⟨Z, ds, Pd, x, wd, r, h, q, qe⟩ => ⟨Z, ds, Pd, x, wd_tab wd, r, h,
    fun v H' d k' i' r' h' => q v H' d (fun b o e n => k' b o e fun w => n (.inl w)) (tab_keep nt k' wd.inv i') r' h',
    fun cls dd H' fs k' i' xr hx => qe cls dd H' fs (fun b o e n => k' b o e fun w => n (.inl w)) (tab_keep nt k' wd.inv i') xr hx⟩
end
end DL
end
section
namespace DL
open PySem PySem.Spec PyProof.Rows L2 LamX LMX
structure XC (K : PySem.W.Frag) (S : Sit) (c : Cl) (X : Cx) : Prop where
  fit : XFit K S c
  tk : Takes X fun cls d _ H => c.E cls d H
  own : PassesOwn (model X.prog X.w) X.A X.env X.xe
section
variable {K : PySem.W.Frag} {S : Sit} {c : Cl} {X : Cx}
theorem XC.pass (h : XC K S c X) : Passes (L2.CX X.prog X.w) X c.E := passes_call h.tk fun _ _ _ _ h => h
theorem XC.ok (h : XC K S c X) : XOk K S c c.E c.x := h.fit
end
section
variable {P : Program} {w : World} {K : PySem.W.Frag} {S : Sit} {mg : Str → Option Value} {base : Heap}
end
section
variable {K : PySem.W.Frag} {S : Sit} {c : Cl} {X : Cx} {C : Addr} {te : TE} {a : TED} {ts : TA} {as : TAD} {fs : List Str} {E : XK} {xd : XD}
variable {x : Str} {e : Expr} {p pos rpos : Pos} {fI : Addr} {k : Nat} {fd : FuncData} {ps ks : List Str} {kws : List Keyword} {CX : CXT}
structure DK (K : PySem.W.Frag) (S : Sit) (c : Cl) (X : Cx) (kws : List Keyword) (ts : TA) (as : TAD) : Prop where
  pk : PK X kws ts
  wa : WA K S c ts as
structure XCls (P : Program) (w : World) (K : PySem.W.Frag) (mg : Str → Option Value) (base : Heap) (k : Nat) (x : Str) (C : Addr) (fs : List Str) : Prop where
  T : OexC K C
  m : mg x = some (.ref C)
  ex : ∃ (fI : Addr) (fd : FuncData) (ps : List Str), PySem.W.findIn K (.ref C) "__init__" = some (some (.ref fI)) ∧ PySem.W.typeIn K (.ref fI) = some (.type "function") ∧ FnOk P w K mg base CX0 k fI fd ps (spXI C fs) ∧
    KBn K fd ps 1 fs (fun us ws => us ++ ws) (fun us ws => us ++ ws)
structure XCls0 (K : PySem.W.Frag) (mg : Str → Option Value) (x : Str) (C : Addr) : Prop where
  q : ∃ (bmB : List Value) (B newId initId : String), ExcBaseFacts B newId initId bmB ∧ PySem.W.excIn K C bmB newId = true
  m : mg x = some (.ref C)
  kC : PySem.W.keepIn K (.ref C) = true
  exC : PySem.W.subIn K (.ref C) (.type "BaseException") = some true
  tyC : PySem.W.typeIn K (.ref C) = some (.type "type")
end
end DL
end
section
namespace DL
open PySem PySem.Spec PyProof.Rows L2 LamX LMX
structure Cls1 where
  c : Value
  i : Option Nat
  t : Addr → Value → Option Addr → TS
def Cls1.ends (k : Cls1) (D : Ends) : Ends := match k.i with
  | none => D
  | some i => { nx := fun σ H => D.nx (σ.set i none) H, rt := D.rt, bk := fun σ H => D.bk (σ.set i none) H, ct := fun σ H => D.ct (σ.set i none) H }
def Cls1.slots (k : Cls1) (a : Addr) (σ : L2.St) : L2.St := match k.i with
  | none => σ
  | some i => σ.set i (some (.ref a))
def wMix (K : PySem.W.Frag) (Wout : L2.WX) (D : Ends) : List Cls1 → L2.WX
  | [] => Wout
  | k :: r => fun cls d σ H => ∃ b, PySem.W.exmOne K cls k.c = some b ∧ (b = true → ∀ a, H a = none → k.t a cls d (k.ends D) (k.slots a σ) H) ∧ (b = false → wMix K Wout D r cls d σ H)
structure ClsOk (X : Cx) (h : ExceptHandler) (k : Cls1) : Prop where
  ex : ∃ (x : Str) (np pos : Pos) (on : Option Str) (b₀ : Stmt) (suite : List Stmt), h = .ExceptHandler (some (.Name x np)) on (b₀ :: suite) pos ∧ Names X x k.c ∧
    (∀ (a : Addr) (oe : Obj) (cls : Value) (d : Option Addr) (pn : List (Addr × Obj)), Zc cls d oe → (∃ vs, oe.data = .fields vs) → PSs (X.suite a ((a, oe) :: pn)) (b₀ :: suite) (k.t a cls d)) ∧
    ((on = none ∧ k.i = none) ∨ ∃ n i, on = some n ∧ k.i = some i ∧ X.N.Nodup ∧ X.N[i]? = some n ∧ X.env.kindOf n = some .local)
inductive ClssOk (X : Cx) : List ExceptHandler → List Cls1 → Prop
  | nil : ClssOk X [] []
  | cons {h : ExceptHandler} {k : Cls1} {hs : List ExceptHandler} {ks : List Cls1} (c : ClsOk X h k) (r : ClssOk X hs ks) : ClssOk X (h :: hs) (k :: ks)
structure HeldX (X : Cx) (pins : List (Addr × Obj)) (σ : L2.St) (H : Hp) (a : Addr) (cls : Value) (d : Option Addr) (B : Heap) (sI s : Shared) : Prop where
  J : Inv X pins σ H sI
  nb : ∀ b o, sI.heap.get? b = some o → b ∉ frs X.stack → B.get? b = some o
  fl : HandSPX.FlyingZ B (X.env :: X.outer) a (Zc cls d) s.heap
  up : sI.heap.UpToSlots s.heap
  os : s.os = sI.os
  ag : AllBare s.gens
  na : H a = none
section
variable {X : Cx} {pins : List (Addr × Obj)} {σ : L2.St} {H : Hp} {a : Addr} {cls : Value} {d : Option Addr} {B : Heap} {sI s : Shared}
theorem HeldX.inv (h : HeldX X pins σ H a cls d B sI s) (hf : X.env.frame = some X.env.locals) : ∃ (oe : Obj) (vs : Array Value), s.heap.get? a = some oe ∧ Zc cls d oe ∧ oe.data = .fields vs ∧ Inv (X.suite a ((a, oe) :: (X.pn ++ pins))) [] σ H s := by
  obtain ⟨oe, vs, e1, e2, e3⟩ := h.fl.there
  have notIn : a ∉ frs (X.env :: X.outer) := fun hm => by
    obtain ⟨_, o', e', hnf⟩ := h.fl.2.2.1.mem hm
    rw [e1] at e'
    cases e'
    exact hnf _ e3
  have J3 : Inv X pins σ H s := by
    obtain ⟨hh, g, dr, tk, os⟩ := s
    exact h.J.landed (s' := ⟨hh, g, dr, tk, os⟩) h.nb h.fl.1 h.up h.os h.ag
  refine ⟨oe, vs, e1, e2, e3, J3.suite e1 e3 h.na (fun z => notIn ?_) fun hm => notIn ?_⟩
  · exact List.mem_filterMap.mpr ⟨X.env, List.mem_cons_self, by rw [hf, z]⟩
  · obtain ⟨e, he, q⟩ := List.mem_filterMap.mp hm
    exact List.mem_filterMap.mpr ⟨e, List.mem_cons_of_mem _ he, q⟩
theorem HeldX.again (h : HeldX X pins σ H a cls d B sI s) {h' : Heap} (fl : HandSPX.FlyingZ B (X.env :: X.outer) a (Zc cls d) h') (up : s.heap.UpToSlots h') : HeldX X pins σ H a cls d B sI { s with heap := h' } :=
  ⟨h.J, h.nb, fl, h.up.trans up, h.os, h.ag, h.na⟩
theorem HeldX.pass (h : HeldX X pins σ H a cls d B sI s) (hs : X.stack = X.env :: X.outer) (hf : X.env.frame = some X.env.locals) {Wout : L2.WX} (tk : Takes X Wout) (w : Wout cls d σ H) {Q : Flow → Shared → Prop} :
    wpAny (model X.prog X.w) X.A (handleBy (.ref a) X.env []) Q X.xe s := by
  refine wpAny_handleBy_nil ?_
  obtain ⟨_, _, _, oe, vs, T, oT, ts', q1, q2, q3, q4, _⟩ := id h.fl
  unfold PySem.passOn
  refine wpAny_bind (wpAny_field q1 q3 q4 ?_)
  have nn : ¬ ((Value.ref T == Value.none) = true) := by simp
  rw [if_neg nn]
  have go : wpAny (model X.prog X.w) X.A (setFlight (.ref a) X.env.frame) (fun _ s4 => wpAny (model X.prog X.w) X.A (throw (.ref a) : Sem Flow) Q X.xe s4) X.xe s := by
    rw [hf]
    refine HandSPX.setFlight_upZ h.fl fun h4 hh4 up4 => wpAny_throw (tk _ _ ⟨a, B, sI, pins, σ, H, cls, d, rfl, h.J, h.nb, h.up.trans up4, .inr (.inr ?_), h.na, h.os, h.ag, w⟩)
    rw [hs]; exact hh4
  first
    | exact wpAny_bind (wpAny_pure (wpAny_bind go))
    | exact wpAny_bind go
theorem sp_of_suite {D : Ends} {f : Flow} {q : Addr × Obj} (ok : X.Ok) (h : SP (X.suite a (q :: (X.pn ++ pins))) [] D f s) : SP X pins D f s := by
  cases f with
  | next => obtain ⟨σ6, H6, S6, q6⟩ := h; exact ⟨_, _, S6.unsuite ok, q6⟩
  | brk => obtain ⟨σ6, H6, S6, q6⟩ := h; exact ⟨_, _, S6.unsuite ok, q6⟩
  | cont => obtain ⟨σ6, H6, S6, q6⟩ := h; exact ⟨_, _, S6.unsuite ok, q6⟩
  | ret u => obtain ⟨v6, σ6, H6, S6, r6, q6⟩ := h; exact ⟨_, _, _, S6.unsuite ok, r6, q6⟩
theorem HeldX.run (hs : X.stack = X.env :: X.outer) (hf : X.env.frame = some X.env.locals) {Wout : L2.WX} (tk : Takes X Wout) {D : Ends} : ∀ {hds : List ExceptHandler} {l : List Cls1} {s : Shared}, ClssOk X hds l → HeldX X pins σ H a cls d B sI s → wMix X.K Wout D l cls d σ H →
    wpAny (model X.prog X.w) X.A (handleBy (.ref a) X.env hds) (SP X pins D) X.xe s
  | _, _, s, .nil, h, w => h.pass hs hf tk w
  | _, _, s, .cons (h := hd) (k := k) (hs := hds) (ks := l) c r, h, w => by
    obtain ⟨b, hb1, hyes, hno⟩ := w
    obtain ⟨x, np, pos, on, b₀, suite, rfl, hc, hsu, hn⟩ := c.ex
    have ok := h.J.ok
    obtain ⟨oe3, vs3, e3, z3, d3, S3⟩ := h.inv hf
    refine wpAny_handleBy_cons (codeAny_handlers_test ?_) (fun q => nomatch q)
    have LT : PySem.W.Looks (model X.prog X.w) s.heap (typeOf (.ref a)) cls := fun A Q E t kp q => wpAny_typeOf_ref (kp _ _ e3) (by rw [z3.1]; exact q)
    have LM := PySem.W.exm_one (M := model X.prog X.w) S3.kIn LT hb1
    have look : ∀ {Q : Value → Shared → Prop} {E : Value → Shared → Prop}, Q k.c s → wpAny (model X.prog X.w) (X.A.mark (some (.ref a))) (eval (.Name x np) X.env) Q E s := fun {Q E} q => by
      obtain ⟨n1, n2, n3 | ⟨n3, n4, n5⟩⟩ := hc
      · exact ld_glob (X := X.suite a ((a, oe3) :: (X.pn ++ pins))) S3 n1 n3 q n2
      · exact ld_blt (X := X.suite a ((a, oe3) :: (X.pn ++ pins))) S3 n1 n3 n4 q n5 n2
    refine look (LM.here ?_)
    cases b with
    | false =>
      show wpAny _ X.A (handleBy (.ref a) X.env hds) _ _ _
      exact HeldX.run hs hf tk r h (hno rfl)
    | true =>
      have hrun := hyes rfl a h.na
      rcases hn with ⟨rfl, hi⟩ | ⟨n, i, rfl, hi, nd, hN, hl⟩
      · refine codeAny_handlers_suite (HandSPX.lands_againZ h.fl fun h4 fl4 up4 => ?_)
        have h4' := h.again fl4 up4
        obtain ⟨oe4, vs4, e4, z4, d4, S4⟩ := h4'.inv hf
        have hrun' : k.t a cls d D σ H := by
          have z := hrun
          unfold Cls1.ends Cls1.slots at z
          rw [hi] at z
          exact z
        exact wpAny_mono ((hsu a oe4 cls d (X.pn ++ pins) z4 ⟨_, d4⟩).run [] _ _ H _ S4 hrun') (fun f s6 hsp => sp_of_suite ok hsp) fun _ _ z => False.elim z
      · refine codeAny_handlers_suite_as (HandSPX.lands_againZ h.fl fun h4 fl4 up4 => ?_)
        have h4' := h.again fl4 up4
        obtain ⟨oe4, vs4, e4, z4, d4, S4⟩ := h4'.inv hf
        have hrun' : k.t a cls d { nx := fun σ H => D.nx (σ.set i none) H, rt := D.rt, bk := fun σ H => D.bk (σ.set i none) H, ct := fun σ H => D.ct (σ.set i none) H } (σ.set i (some (.ref a))) H := by
          have z := hrun
          unfold Cls1.ends Cls1.slots at z
          rw [hi] at z
          exact z
        refine store_ok (X := X.suite a ((a, oe4) :: (X.pn ++ pins))) (v := .ref a) S4 nd hN (.inl hl) rfl (fun s5 S5 => ?_) (.inr hl)
        refine wpAny_mono ((hsu a oe4 cls d (X.pn ++ pins) z4 ⟨_, d4⟩).run [] s5 _ H _ S5 hrun') (fun f s6 hsp => ?_) fun _ _ z => False.elim z
        have gone : ∀ {σ6 : L2.St} {H6 : Hp} {Q : Shared → Prop}, Inv (X.suite a ((a, oe4) :: (X.pn ++ pins))) [] σ6 H6 s6 → (∀ s7, Inv X pins (σ6.set i none) H6 s7 → Q s7) →
            wpAny (model X.prog X.w) X.A (do bindName X.env n .none; unbindBehindTheSuite X.env n pos) (fun _ s7 => Q s7) X.xe s6 := fun {σ6 H6 Q} S6 hq => gone_ok (S6.unsuite ok) nd hN hl hq
        cases f with
        | next => obtain ⟨σ6, H6, S6, q6⟩ := hsp; exact gone S6 fun s7 J7 => ⟨_, _, J7, q6⟩
        | brk => obtain ⟨σ6, H6, S6, q6⟩ := hsp; exact gone S6 fun s7 J7 => ⟨_, _, J7, q6⟩
        | cont => obtain ⟨σ6, H6, S6, q6⟩ := hsp; exact gone S6 fun s7 J7 => ⟨_, _, J7, q6⟩
        | ret u => obtain ⟨v6, σ6, H6, S6, r6, q6⟩ := hsp; exact gone S6 fun s7 J7 => ⟨_, _, _, J7, r6, q6⟩
end
end DL
end
section
namespace EXK
open PySem PySem.W PySem.Spec PySem.Calls PyProof.Rows L2
section
variable {prog : Program} {w : World} {Ar : Around} {Er : Value → Shared → Prop} {s : Shared} {K : Frag} {x D : Addr} {ox : Obj} {od : Option Obj}
end
end EXK
namespace DL
open PySem PySem.Spec PyProof.Rows L2 LamX LMX
end DL
end
section
namespace DL
open PySem PySem.Spec PyProof.Rows L2 LamX LMX
structure HdR where
  sub : Addr → Option Bool
  i : Option Nat
  t : Addr → List (Str × D) → (Hp → Addr → Prop) → TSD
def HdR.env (h : HdR) (n : Nat) (p : Hp → Addr → Prop) : EnvD := match h.i with
  | none => List.replicate n none
  | some i => (List.replicate n none).set i (some (.sem p))
def ExP (K : PySem.W.Frag) (a : Addr) (d : Option Addr) (fs : List (Str × D)) : Hp → Addr → Prop := fun G b => b = a ∧ XRep K G d fs
section
variable {K : PySem.W.Frag} {S : Sit} {c : Cl} {X : Cx} {E : XK} {xo : XD}
structure HdOk (K : PySem.W.Frag) (S : Sit) (c : Cl) (X : Cx) (h : ExceptHandler) (r : HdR) : Prop where
  ex : ∃ (x : Str) (np pos : Pos) (on : Option Str) (b₀ : Stmt) (suite : List Stmt) (C : Value), h = .ExceptHandler (some (.Name x np)) on (b₀ :: suite) pos ∧ Names X x C ∧ (∀ cls b, r.sub cls = some b → PySem.W.exmOne X.K (.ref cls) C = some b) ∧
    (∀ (a : Addr) (oe : Obj) (cls : Addr) (d : Option Addr) (fs : List (Str × D)) (pn : List (Addr × Obj)), Zc (.ref cls) d oe → (∃ vs, oe.data = .fields vs) → (∃ b, r.sub cls = some b) →
      ∃ t, DSs K S c (X.suite a ((a, oe) :: pn)) (b₀ :: suite) t (r.t cls fs (ExP K a d fs))) ∧
    ((on = none ∧ r.i = none) ∨ ∃ n i, on = some n ∧ r.i = some i ∧ X.N.Nodup ∧ X.N[i]? = some n ∧ X.env.kindOf n = some .local)
inductive HdsOk' (K : PySem.W.Frag) (S : Sit) (c : Cl) (X : Cx) : List ExceptHandler → List HdR → Prop
  | nil : HdsOk' K S c X [] []
  | cons {h : ExceptHandler} {r : HdR} {hs : List ExceptHandler} {rs : List HdR} (a : HdOk K S c X h r) (b : HdsOk' K S c X hs rs) : HdsOk' K S c X (h :: hs) (r :: rs)
end
end DL
end
section
namespace DL
open PySem PySem.Spec PyProof.Rows L2 LamX LMX
structure XkOk (K : PySem.W.Frag) (fs : List Str) (C : Addr) : Prop where
  xc : ExcC K C
  no : ∀ f ∈ fs, PySem.W.findIn K (.ref C) f = some none
section
variable {K : PySem.W.Frag} {S : Sit} {c : Cl} {X : Cx} {a cls C : Addr} {d : Option Addr} {oe : Obj} {fl : List (Str × D)} {pn : List (Addr × Obj)} {en f y : Str} {p1 p2 p3 pos : Pos}
end
section
variable {K : PySem.W.Frag} {S : Sit}
end
def dJs : List TED → Str → EnvD → (Str → Prop) → Prop
  | [], acc, _, P => P acc
  | d :: ds, acc, ρ, P => d ρ fun x => match x with
    | .str y => (acc ++ y).length ≤ 10000000 ∧ dJs ds (acc ++ y) ρ P
    | _ => False
section
variable {K : PySem.W.Frag} {S : Sit} {c : Cl} {X : Cx} {te : TE} {a : TED} {e : Expr} {pos : Pos}
inductive DJ (K : PySem.W.Frag) (S : Sit) (c : Cl) (X : Cx) : List Expr → List TE → List TED → Prop where
  | nil : DJ K S c X [] [] []
  | cons {e : Expr} {t : TE} {a : TED} {es : List Expr} {ts : List TE} {as : List TED} (h : DE K S c X e t a) (r : DJ K S c X es ts as) : DJ K S c X (e :: es) (t :: ts) (a :: as)
theorem DJ.run {es : List Expr} {ts : List TE} {as : List TED} (h : DJ K S c X es ts as) : ∀ (Z : Addr → Prop) (σ : L2.St) (H : Hp) (ρ : EnvD) (acc : Str) (P : Str → Prop), RV K S c Z σ H ρ → dJs as acc ρ P → ∀ Q : Str → Hp → Prop, (∀ out H', Kp S H H' → S.I H' → P out → Q out H') → tJs ts acc σ H Q := by
  induction h with
  | nil => exact fun Z σ H ρ acc P rv h Q q => q acc H (Kp.refl H) rv.wd.inv h
  | cons h r ih =>
    intro Z σ H ρ acc P rv hd Q q
    refine h.we Z σ H ρ _ rv hd _ fun v H1 d k i rd h1 => ?_
    cases d <;> try exact h1.elim
    rename_i y
    unfold Rep at rd
    exact ⟨y, rd, by rw [sizeLine_eq]; have := h1.1; omega, ih Z σ H1 ρ _ P (rv.step k i) h1.2 Q fun out H' k' i' hp => q out H' (k.trans k') i' hp⟩
end
end DL
end
section
namespace DL
open PySem PySem.Spec PyProof.Rows L2 LamX LMX
inductive Fc where
  | a (f : Fb)
  | b (g : PySem.W.Frag → Bool)
def Fc.ok (K : PySem.W.Frag) : Fc → Bool
  | .a f => f.ok K
  | .b g => g K
structure DefS where
  at_ : At
  name : Str
  qual : Str
  st : Stmt
  C : Str
def DefS.look (K : PySem.W.Frag) (d : DefS) : He.FnV := match K.lookup (d.at_.ad K) with
  | some ⟨_, _, .func fd, _⟩ => some (fd.name, fd.qualname, fd.params, fd.body, fd.scope, fd.globals, [], fd.defaults, fd.builtins)
  | _ => none
def DefS.want (d : DefS) : He.FnV := some (d.name, d.qual, defArgs d.st, .stmts (defBody d.st), defScope d.st, mainGlobals, [], .none, builtinsNs)
def cellB (K : PySem.W.Frag) (cl : List (Str × Addr)) (D : Addr) : Bool := match cl with
  | [(x, cc)] => decide (x = "__class__") && (match K.lookup cc with
    | some ⟨_, _, .cell (some (.ref D')), _⟩ => decide (D' = D)
    | _ => false)
  | _ => false
def fileB (K : PySem.W.Frag) (file : Str) (cd : Value) : Bool := match (cd : Value) with
  | .ref c => (match K.lookup c with
    | some ⟨_, _, .fields vs, _⟩ => (match (vs[2]? : Option Value) with
      | some (.str f _) => file == f
      | _ => false)
    | _ => false)
  | _ => false
def DefS.ok (file : Str) (K : PySem.W.Frag) (d : DefS) : Bool := PySem.W.keepIn K (.ref (d.at_.ad K)) && (match K.lookup (d.at_.ad K) with
  | some ⟨_, _, .func fd, _⟩ => PySem.W.codeIn K fd.code d.qual && (cellB K fd.closure (He.ga K d.C) && fileB K file fd.code)
  | _ => false)
def xkB (K : PySem.W.Frag) (fs : List Str) (C : Addr) : Bool := He.eqO (PySem.W.findIn K (.ref C) "__getattribute__") (some (some (.builtin "BaseException.__getattribute__"))) && (He.eqO (PySem.W.findIn K (.ref C) "__getattr__") (some none) &&
  (decide (PySem.W.subIn K (.ref C) (.type "BaseException") = some true) && (PySem.W.hasDictIn K C && (He.eqO (PySem.W.findIn K (.ref C) "__class__") (some (some (.builtin "object.__class__"))) &&
  (He.eqO (PySem.W.specialIn K (.builtin "object.__class__") "__get__") (some (some (.builtin "getset_descriptor.__get__"))) && (decide (PySem.W.takesIn K (.builtin "object.__class__") = some true) && (decide (PySem.W.mroIn K C (.type "object") = some true) && fs.all fun f => He.eqO (PySem.W.findIn K (.ref C) f) (some none))))))))
def oexM (C : Addr) : List Value → Bool
  | .ref C' :: bm => decide (C' = C) && PySem.HandSPX.refsVE bm
  | _ => false
def oexL : List (Option Value) → Bool
  | [_, _, _, _, some (.builtin n), _] => decide (n = "ValueError.__new__")
  | _ => false
def oexV : Value → Bool
  | .type t => decide (t = "type")
  | _ => false
def oexD (C : Addr) : Data → Bool
  | .cls cd => cd.hasDict && (!cd.hasDel && oexM C cd.mro)
  | _ => false
def oexO (C : Addr) : Option Obj → Bool
  | some o => oexV o.cls && (oexL o.slots.toList && oexD C o.data)
  | none => false
def oexB (K : PySem.W.Frag) (C : Addr) : Bool := oexO C (K.lookup C) && (He.eqO (PySem.W.findIn K (.ref C) "__setattr__") (some (some (.builtin "object.__setattr__"))) && (decide (PySem.W.subIn K (.ref C) (.type "BaseException") = some true) && (decide (PySem.W.typeIn K (.ref C) = some (.type "type")) && PySem.W.keepIn K (.ref C))))
def clsB (K : PySem.W.Frag) (C : Addr) : Bool := (PySem.W.clsIn K C).isSome
def supB (K : PySem.W.Frag) (C D : Addr) : Bool := clsB K D && (clsB K C && (decide (PySem.W.mroIn K C (.ref D) = some true) && He.eqO (PySem.W.nsIn K cStatics "thirdparty.any") (some none)))
def xiB (K : PySem.W.Frag) (C : Addr) (fs : List Str) : Bool := oexB K C && (supB K C C && (decide (PySem.W.ks_superIn K C C "__init__" = some (some (.builtin "ValueError.__init__"))) && (decide (PySem.W.subIn K (.ref C) (.type "ValueError") = some true) &&
  (fs.all (fun f => He.eqO (PySem.W.findIn K (.ref C) f) (some none)) && (He.eqO (PySem.W.findIn K (.ref C) "__init__") (some (some (.ref (He.ma K C "__init__")))) && decide (PySem.W.typeIn K (.ref (He.ma K C "__init__")) = some (.type "function")))))))
structure XiOk (P : Program) (K : PySem.W.Frag) (mg : Str → Option Value) (C : Addr) (fs : List Str) (fI : Addr) : Prop where
  T : OexC K C
  U : SupK P K mg C C
  hm : PySem.W.ks_superIn K C C "__init__" = some (some (.builtin "ValueError.__init__"))
  hB : PySem.W.subIn K (.ref C) (.type "ValueError") = some true
  hg : ∀ f ∈ fs, PySem.W.findIn K (.ref C) f = some none
  i1 : PySem.W.findIn K (.ref C) "__init__" = some (some (.ref fI))
  i2 : PySem.W.typeIn K (.ref fI) = some (.type "function")
def refsX (o : Obj) : List Addr := He.refsO o ++ (match o.data with
  | .func fd => He.refV fd.kwdefaults ++ fd.closure.map (·.2)
  | _ => [])
def growX (g : Addr → Option Obj) (as : List Addr) : List Addr := (as ++ as.flatMap fun a => match g a with
  | some o => refsX o
  | none => []).eraseDups
def asX (g : Addr → Option Obj) : Nat → List Addr
  | 0 => [mainGlobals]
  | n + 1 => growX g (asX g n)
def lookZ (fa : List Fc) (fn : List DefX) (fs : List DefS) (file : Str) (K : PySem.W.Frag) : AlX := ((fa.all fun f => f.ok K) && ((fn.all fun d => d.ok K) && fs.all fun d => d.ok file K), (fn.map fun d => d.look K) ++ fs.map fun d => d.look K)
def wantZ (fn : List DefX) (fs : List DefS) : AlX := (true, fn.map DefX.want ++ fs.map DefS.want)
structure SaysZ (fa : List Fc) (fn : List DefX) (fs : List DefS) (file : Str) (tf : List He.Defn) (h : Heap) (K : PySem.W.Frag) : Prop where
  b : lookZ fa fn fs file K = wantZ fn fs
  hd : ∀ p ∈ tf, PySem.W.codeHdIn K (He.cT K p).1 (He.cT K p).2 = true
  out : ∀ p ∈ tf, K.lookup (He.cT K p).2 = none
  empty : ∀ p ∈ tf, h.get? (He.cT K p).2 = some { cls := .none, data := .fields #[] }
def seeZ (n : Nat) (fa : List Fc) (fn : List DefX) (fs : List DefS) (file : Str) (tf : List He.Defn) (g : Addr → Option Obj) : AlX :=
  ((lookZ fa fn fs file (He.frT g (cStatics :: asX g n))).1 && He.tabsB g tf (He.frT g (cStatics :: asX g n)), (lookZ fa fn fs file (He.frT g (cStatics :: asX g n))).2)
theorem saysZ_of {n : Nat} {fa : List Fc} {fn : List DefX} {fs : List DefS} {file : Str} {tf : List He.Defn} {h : Heap} (e : seeZ n fa fn fs file tf h.get? = wantZ fn fs) : SaysZ fa fn fs file tf h (He.frT h.get? (cStatics :: asX h.get? n)) := by
  have e1 : ((lookZ fa fn fs file (He.frT h.get? (cStatics :: asX h.get? n))).1 && He.tabsB h.get? tf (He.frT h.get? (cStatics :: asX h.get? n))) = true := congrArg (fun z : AlX => z.1) e
  have e2 : (lookZ fa fn fs file (He.frT h.get? (cStatics :: asX h.get? n))).2 = fn.map DefX.want ++ fs.map DefS.want := congrArg (fun z : AlX => z.2) e
  obtain ⟨h1, h2⟩ := He.ba e1
  have key : ∀ p ∈ tf, PySem.W.codeHdIn (He.frT h.get? (cStatics :: asX h.get? n)) (He.cT (He.frT h.get? (cStatics :: asX h.get? n)) p).1 (He.cT (He.frT h.get? (cStatics :: asX h.get? n)) p).2 = true ∧ ∃ o, h.get? (He.cT (He.frT h.get? (cStatics :: asX h.get? n)) p).2 = some o ∧ He.emptyTab o = true := fun p hp => by
    obtain ⟨h3, h4⟩ := He.ba (List.all_eq_true.mp h2 p hp)
    refine ⟨h3, ?_⟩
    split at h4
    · rename_i o q
      exact ⟨o, q, h4⟩
    · cases h4
  exact ⟨Prod.ext h1 e2, fun p hp => (key p hp).1, fun p hp => let ⟨_, o, q, z⟩ := key p hp; He.frT_none q z, fun p hp => by
    obtain ⟨_, o, q, z⟩ := key p hp
    rw [q, He.emptyTab_eq z]⟩
def hookZ (n : Nat) (fa : List Fc) (fn : List DefX) (fs : List DefS) (file : Str) (tf : List He.Defn) : PySem.W.Hook where
  α := AlX
  obs := fun s => seeZ n fa fn fs file tf s.heap.get?
  val := fun _ => wantZ fn fs
  says := fun _ h => ∃ K : PySem.W.Frag, K.In h ∧ SaysZ fa fn fs file tf h K
  of := fun _ _ e => ⟨_, He.frT_in, saysZ_of e⟩
  keeps := fun _ _ _ ⟨K, hK, c⟩ k => ⟨K, PySem.W.Frag.In.keeps hK k, ⟨c.b, c.hd, c.out, fun p hp => k _ _ (c.empty p hp)⟩⟩
section
variable {fa : List Fc} {fn : List DefX} {fs : List DefS} {file : Str} {tf : List He.Defn} {h : Heap} {K : PySem.W.Frag}
theorem SaysZ.alls (c : SaysZ fa fn fs file tf h K) : (fa.all fun f => f.ok K) = true ∧ (fn.all fun d => d.ok K) = true ∧ (fs.all fun d => d.ok file K) = true := by
  have c1 : ((fa.all fun f => f.ok K) && ((fn.all fun d => d.ok K) && fs.all fun d => d.ok file K)) = true := congrArg (fun z : AlX => z.1) c.b
  obtain ⟨a, b⟩ := He.ba c1
  exact ⟨a, He.ba b⟩
theorem SaysZ.bool (c : SaysZ fa fn fs file tf h K) (i : Nat) {g : PySem.W.Frag → Bool} (e : fa[i]? = some (.b g) := by rfl) : g K = true := List.all_eq_true.mp c.alls.1 (.b g) (List.mem_of_getElem? e)
end
end DL
end
section
namespace DL
open PySem PySem.Spec PyProof.Rows L2 LamX LMX
section
variable {K : PySem.W.Frag} {S : Sit} {c : Cl} {X : Cx} {CX : CXT} {E : XK} {xd : XD} {k n : Nat} {x m kn : Str} {p p1 p2 p3 p0 pos : Pos} {e o : Expr} {es : List Expr} {kws : List Keyword} {ts tk : TA} {as ks : TAD} {te ta : TE} {a : TED} {fa fi C D1 : Addr} {fd : FuncData} {ps kn' : List Str} {spd : SpD} {ind : InD}
end
section
variable {P : Program} {w : World} {K : PySem.W.Frag} {S : Sit} {mg : Str → Option Value} {base : Heap} {qual : Str} {st : Stmt} {f C D : Addr} {fd : FuncData} {N ps : List Str} {k : Nat} {ind : InD} {tD : XD → TSD}
end
end DL
end
section
namespace DL
open PySem PySem.Spec PyProof.Rows L2 LamX LMX
section
variable {K : PySem.W.Frag} {S : Sit} {c : Cl} {X : Cx} {te t1 t2 : TE} {a a1 a2 : TED} {e e1 e2 : Expr} {pos p0 p1 p2 : Pos} {x y : Str} {C c0 P : Addr} {T : List (Addr × Str)} {params : Arguments} {body : Expr} {scope : Scope}
end
end DL
end
section
namespace DL
open PySem PySem.Spec PyProof.Rows L2 LamX LMX
def xtB (ks ds fs : List Str) (K : PySem.W.Frag) : Bool := ks.all (fun k => xkB K fs (He.ga K k) && decide (PySem.W.kitOne K (.ref (He.ga K k)) (.type "ValueError") = some true)) &&
  (ks.zipIdx.all fun p => ks.zipIdx.all fun q => decide (PySem.W.kitOne K (.ref (He.ga K p.1)) (.ref (He.ga K q.1)) = some (p.2 == q.2)))
def xeB (es : List (Str × Str × Bool)) (K : PySem.W.Frag) : Bool := es.all fun e => decide (PySem.W.exmOne K (.ref (He.ga K e.1)) (.ref (He.ga K e.2.1)) = some e.2.2)
end DL
end
section
namespace DL
open PySem PySem.Spec PyProof.Rows L2 LamX LMX
structure DSup (K : PySem.W.Frag) (S : Sit) (c : Cl) (X : Cx) (body : List Stmt) (st0 : Stmt) (t0 : TS) (d0 : TSD) : Prop where
  at_ : ∀ (pins : List (Addr × Obj)) (s' : Shared) (σ : L2.St) (H' : Hp) (Dn : Ends), Inv X pins σ H' s' → t0 Dn σ H' → PySem.wpAt (model X.prog X.w) X.A (.func body X.env) (exec st0 X.env) (SP X pins Dn) X.xe s'
  ws : WS K S c t0 d0
section
variable {K : PySem.W.Frag} {S : Sit} {c : Cl} {X : Cx} {CX : CXT} {E : XK} {xd : XD} {k : Nat} {p1 p2 p3 p0 pos : Pos} {e : Expr} {es : List Expr} {ts : TA} {as : TAD} {C f2 : Addr} {fd : FuncData} {ps : List Str} {ind : InD} {body : List Stmt}
end
section
variable {P : Program} {w : World} {K : PySem.W.Frag} {S : Sit} {mg : Str → Option Value} {base : Heap} {qual : Str} {st : Stmt} {f C D : Addr} {fd : FuncData} {N ps : List Str} {k : Nat} {ind : InD} {tD : XD → TSD}
end
section
variable {K : PySem.W.Frag} {S : Sit} {c : Cl} {X : Cx} {CX : CXT} {E : XK} {xd : XD} {k n : Nat} {x : Str} {p pos : Pos} {e : Expr} {es : List Expr} {kws : List Keyword} {ts tk : TA} {as ks : TAD} {fi C : Addr} {fd : FuncData} {ps kn' : List Str} {ind : InD}
end
end DL
end
section
namespace Z
open PySem L2 DL
structure Cs where
  (Farm Plan Rule Cart RestingCart ShiftCart LateCart Moment Deed Book LiveFarm Trial PlanObserver FarmError InvalidFarm TooManyStates UnknownField InvalidPlan InvalidNumber NotHarmonic TooFewCarts Contradiction InvalidCart InvalidOperation InvalidText DecodeError : Addr)
  exm : Addr → Addr → Option Bool
  isa : Addr → Addr → Option Bool
  kin : Addr → Addr → Option Bool
  isv : Addr → Option Bool
abbrev Ns := List Str
abbrev Fs := List (Str × Int)
def isNm (w : Str) : Bool := decide (1 ≤ w.length) && decide (w.length ≤ 8) && w.cps.toList.all fun k => ("abcdefghijklmnopqrstuvwxyz" : Str).cps.toList.contains k
structure OkPlan (days : List Ns) (lead : Int) : Prop where
  len : days.length ≤ 5000
  nd : ∀ d ∈ days, d.Nodup ∧ d.length ≤ 4000
  lo : 0 ≤ lead
  hi : lead < days.length
structure OkFarm (fs : Fs) : Prop where
  ne : fs ≠ []
  len : fs.length ≤ 6
  nm : ∀ f ∈ fs, isNm f.1 = true
  lm : ∀ f ∈ fs, 1 ≤ f.2 ∧ f.2 ≤ 30
  nd : (fs.map (·.1)).Nodup
  prod : (fs.foldl (fun a f => a * f.2) 1) ≤ 4000
end Z
end
section
namespace Z
open PySem PySem.Spec PyProof.Rows L2 DL
structure XTab (A : Cs) (l : List Addr) : Prop where
  exm : ∀ c ∈ l, A.exm c A.FarmError = some true
  isa : ∀ (i j : Nat) (c d : Addr), l[i]? = some c → l[j]? = some d → A.isa c d = some (i == j)
  isv : ∀ c ∈ l, A.isv c = some true
section
variable {K : PySem.W.Frag} {ks ds fs : List Str} {c d : Addr} {b : Bool}
end
end Z
end
section
namespace Z
open PySem PySem.Spec PyProof.Rows L2 DL
structure XSub (A : Cs) (l : List Addr) : Prop where
  exm : ∀ (i j : Nat) (c d : Addr), l[i]? = some c → l[j]? = some d → A.exm c d = some (i == j)
end Z
end
section
namespace Z
open PySem PySem.Spec PyProof.Rows L2 DL LMX LamX
def top (i : Nat) : Stmt := PySem.Challenge.pw_harvestcarts_k39_texts_of_plans.main.body.getD i (.Pass ⟨0, 0, 0, 0⟩)
def fileN : Str := PySem.Challenge.pw_harvestcarts_k39_texts_of_plans.main.file
abbrev s_xi_InvalidPlan : Stmt := inClass (top 4) 0
abbrev s_xi_InvalidText : Stmt := inClass (top 8) 0
abbrev s_is_number : Stmt := top 14
abbrev s_is_name : Stmt := top 16
abbrev s_first_wrong_dayX : Stmt := top 19
abbrev s_Plan_initX : Stmt := inClass (top 21) 0
abbrev s_Plan_days : Stmt := inClass (top 21) 1
abbrev s_Plan_lead : Stmt := inClass (top 21) 2
abbrev s_row_of : Stmt := top 27
abbrev s_format_plan : Stmt := top 28
abbrev s_is_leadG : Stmt := top 29
abbrev s_lead_ofX : Stmt := top 30
abbrev s_names_ofX : Stmt := top 31
abbrev s_parse_planX : Stmt := top 32
abbrev s_rlaw_random : Stmt := top 34
abbrev s_rlaw_below : Stmt := top 35
abbrev s_rlaw_shuffled : Stmt := top 36
abbrev s_rlaw_days : Stmt := top 37
abbrev s_rlaw_words : Stmt := top 38
abbrev s_rlaw_equal : Stmt := top 39
abbrev s_rlaw_is_number : Stmt := top 40
abbrev s_rlaw_is_name : Stmt := top 41
abbrev s_rlaw_expected : Stmt := top 42
abbrev s_rlaw_error_of : Stmt := top 43
abbrev s_law : Stmt := top 44
def fa0 : List Fc := [.a (.a (.glo "is_number")), .a (.a (.glo "is_name")), .a (.a (.glo "_first_wrong_day")), .a (.prop "Plan" "days"), .a (.prop "Plan" "lead"), .a (.a (.glo "_row_of")), .a (.a (.glo "format_plan")), .a (.a (.glo "_is_lead")), .a (.a (.glo "_lead_of")), .a (.a (.glo "_names_of")), .a (.a (.glo "parse_plan")), .a (.a (.glo "_law_random")), .a (.a (.glo "_law_below")), .a (.a (.glo "_law_shuffled")), .a (.a (.glo "_law_days")), .a (.a (.glo "_law_words")), .a (.a (.glo "_law_equal")), .a (.a (.glo "_law_is_number")), .a (.a (.glo "_law_is_name")), .a (.a (.glo "_law_expected")), .a (.a (.glo "_law_error_of")), .a (.a (.glo "law")), .b (fun K => xiB K (He.ga K "InvalidPlan") ["index"]), .b (fun K => xiB K (He.ga K "InvalidText") ["row", "word"]), .a (.a (.glo "DecodeError")), .a (.a (.glo "FarmError")), .a (.a (.glo "InvalidCart")), .a (.a (.glo "InvalidNumber")), .a (.a (.glo "InvalidOperation")), .a (.a (.glo "InvalidPlan"))]
def fa1 : List Fc := [.a (.a (.glo "InvalidText")), .a (.a (.cls "Plan")), .a (.a (.glo "Plan")), .a (.a (.glo "UnknownField")), .a (.a (.mkr "Plan")), .a (.a (.noat "Plan" "_days")), .a (.a (.noat "Plan" "_lead")), .a (.a (.free "ValueError")), .a (.a (.free "abs")), .a (.a (.free "all")), .a (.a (.free "bool")), .a (.a (.free "enumerate")), .a (.a (.free "int")), .a (.a (.free "isinstance")), .a (.a (.free "len")), .a (.a (.free "list")), .a (.a (.free "min")), .a (.a (.free "range")), .a (.a (.free "set")), .a (.a (.free "str")), .a (.a (.free "tuple")), .a (.a (.str "DIGITS" "0123456789")), .a (.a (.str "LEAD_WORD" "lead")), .a (.a (.str "LETTERS" "abcdefghijklmnopqrstuvwxyz")), .a (.a (.int "MAX_DAYS" 5000)), .a (.a (.int "MAX_LEAD_DIGITS" 4)), .a (.a (.int "MAX_NAME" 8)), .a (.a (.str "NOTHING" "-")), .b (xtB ["InvalidCart", "InvalidOperation", "InvalidText", "DecodeError", "UnknownField", "InvalidNumber", "InvalidPlan"] [] ["index", "part", "name", "row", "word", "offset"]), .b (xeB [("InvalidCart", "FarmError", true), ("InvalidOperation", "FarmError", true), ("InvalidText", "FarmError", true), ("DecodeError", "FarmError", true), ("UnknownField", "FarmError", true), ("InvalidNumber", "FarmError", true), ("InvalidPlan", "FarmError", true)])]
def fa2 : List Fc := [.a (.a (.free "super"))]
def fa : List Fc := fa0 ++ fa1 ++ fa2
def fn0 : List DefX := [⟨.glo "is_number", "is_number", "is_number", s_is_number⟩, ⟨.glo "is_name", "is_name", "is_name", s_is_name⟩, ⟨.glo "_first_wrong_day", "_first_wrong_day", "_first_wrong_day", s_first_wrong_dayX⟩, ⟨.meth "Plan" "__init__", "__init__", "Plan.__init__", s_Plan_initX⟩, ⟨.prop "Plan" "days", "days", "Plan.days", s_Plan_days⟩, ⟨.prop "Plan" "lead", "lead", "Plan.lead", s_Plan_lead⟩, ⟨.glo "_row_of", "_row_of", "_row_of", s_row_of⟩, ⟨.glo "format_plan", "format_plan", "format_plan", s_format_plan⟩, ⟨.glo "_is_lead", "_is_lead", "_is_lead", s_is_leadG⟩, ⟨.glo "_lead_of", "_lead_of", "_lead_of", s_lead_ofX⟩, ⟨.glo "_names_of", "_names_of", "_names_of", s_names_ofX⟩, ⟨.glo "parse_plan", "parse_plan", "parse_plan", s_parse_planX⟩, ⟨.glo "_law_random", "_law_random", "_law_random", s_rlaw_random⟩, ⟨.glo "_law_below", "_law_below", "_law_below", s_rlaw_below⟩, ⟨.glo "_law_shuffled", "_law_shuffled", "_law_shuffled", s_rlaw_shuffled⟩, ⟨.glo "_law_days", "_law_days", "_law_days", s_rlaw_days⟩, ⟨.glo "_law_words", "_law_words", "_law_words", s_rlaw_words⟩, ⟨.glo "_law_equal", "_law_equal", "_law_equal", s_rlaw_equal⟩, ⟨.glo "_law_is_number", "_law_is_number", "_law_is_number", s_rlaw_is_number⟩, ⟨.glo "_law_is_name", "_law_is_name", "_law_is_name", s_rlaw_is_name⟩, ⟨.glo "_law_expected", "_law_expected", "_law_expected", s_rlaw_expected⟩, ⟨.glo "_law_error_of", "_law_error_of", "_law_error_of", s_rlaw_error_of⟩, ⟨.glo "law", "law", "law", s_law⟩]
def fn : List DefX := fn0
def fS0 : List DefS := [⟨.meth "InvalidPlan" "__init__", "__init__", "InvalidPlan.__init__", s_xi_InvalidPlan, "InvalidPlan"⟩, ⟨.meth "InvalidText" "__init__", "__init__", "InvalidText.__init__", s_xi_InvalidText, "InvalidText"⟩]
def fS : List DefS := fS0
def tf : List He.Defn := [("law", none)]
def nm0 : List Str := ["_wall", "FarmError", "UnknownField", "InvalidPlan", "InvalidNumber", "InvalidCart", "InvalidOperation", "InvalidText", "DecodeError", "LETTERS", "LAST_DAY", "MAX_NAME", "is_number", "check_number", "is_name", "MAX_DAYS", "_first_wrong_day", "_place", "Plan", "DIGITS", "LEAD_WORD", "NOTHING", "MAX_LEAD_DIGITS", "_row_of", "format_plan", "_is_lead", "_lead_of", "_names_of", "parse_plan", "_law_random"]
def nm1 : List Str := ["_law_below", "_law_shuffled", "_law_days", "_law_words", "_law_equal", "_law_is_number", "_law_is_name", "_law_expected", "_law_error_of"]
def nms : List Str := nm0 ++ nm1
abbrev Rw : PySem.W.OpenRow := PySem.W.OpenLaw.row PySem.Challenge.rw_harvestcarts_k39_texts_of_plans
abbrev hk : PySem.W.Hook := hookZ 6 fa fn fS fileN tf
def ob (s : PySem.W.SharedT) : AlX := seeZ 6 fa fn fS fileN tf (HandSHeadRun.getT s)
theorem run (w : World) : HandSHeadRun.RunEq Rw (PySem.W.view Rw.prog [44]) hk ob 6000 nms w := by
  intro os
  kernel_rfl
end Z
end
set_option Elab.async false
set_option linter.all false
set_option maxRecDepth 100000
set_option maxHeartbeats 4000000
section
namespace DL
open PySem PySem.Spec PyProof.Rows L2
theorem ex_l {K : PySem.W.Frag} {H H' : Hp} {a : Addr} {xs : List V} (e : Ex H H') (h : SqL K H a xs) : SqL K H' a xs := by
  rcases h with (h | ⟨o, h⟩) | h
  · exact .inl (.inl (e _ _ h))
  · exact .inl (.inr ⟨o, e _ _ h⟩)
  · exact .inr h
section
variable {K : PySem.W.Frag} {H : Hp}
theorem RepL.get : ∀ {ds : List D} {vs : List V} {i : Nat} {d : D}, RepL K H ds vs → ds[i]? = some d → ∃ v, vs[i]? = some v ∧ Rep K H d v
  | [], _, _, _, _, e => by simp at e
  | d :: ds, _, i, d', h, e => by
    unfold RepL at h
    obtain ⟨v, vs, rfl, h1, h2⟩ := h
    cases i with
    | zero => simp at e; subst e; exact ⟨v, rfl, h1⟩
    | succ i => simpa using RepL.get (i := i) h2 (by simpa using e)
theorem RepL.get' : ∀ {ds : List D} {vs : List V} {i : Nat} {v : V}, RepL K H ds vs → vs[i]? = some v → ∃ d, ds[i]? = some d ∧ Rep K H d v := by
  intro ds vs i v h e
  have hl := h.len
  have hi : i < ds.length := by
    have := (List.getElem?_eq_some_iff.mp e).1
    omega
  obtain ⟨v', e1, r⟩ := h.get (i := i) (d := ds[i]) (List.getElem?_eq_getElem hi)
  rw [e] at e1
  cases e1
  exact ⟨_, List.getElem?_eq_getElem hi, r⟩
theorem RepL.drop : ∀ {ds : List D} {vs : List V} (n : Nat), RepL K H ds vs → RepL K H (ds.drop n) (vs.drop n)
  | _, _, 0, h => h
  | [], _, n + 1, h => by unfold RepL at h; subst h; exact RepL.nil
  | d :: ds, _, n + 1, h => by
    unfold RepL at h
    obtain ⟨v, vs, rfl, h1, h2⟩ := h
    exact RepL.drop n h2
theorem RepL.take : ∀ {ds : List D} {vs : List V} (n : Nat), RepL K H ds vs → RepL K H (ds.take n) (vs.take n)
  | _, _, 0, h => RepL.nil
  | [], _, n + 1, h => by unfold RepL at h; subst h; exact RepL.nil
  | d :: ds, _, n + 1, h => by
    unfold RepL at h
    obtain ⟨v, vs, rfl, h1, h2⟩ := h
    exact RepL.cons h1 (RepL.take n h2)
theorem RepL.ints : ∀ (ns : List Int), RepL K H (ns.map D.int) (ns.map V.int)
  | [] => RepL.nil
  | n :: ns => RepL.cons (by unfold Rep; rfl) (RepL.ints ns)
theorem RepL.of_ints : ∀ {ns : List Int} {vs : List V}, RepL K H (ns.map D.int) vs → vs = ns.map V.int
  | [], _, h => by unfold RepL at h; exact h
  | n :: ns, vs, h => by
    simp only [List.map_cons] at h
    unfold RepL at h
    obtain ⟨v, vs', rfl, h1, h2⟩ := h
    unfold Rep at h1
    rw [h1, RepL.of_ints h2, List.map_cons]
theorem RepL.strs : ∀ (ns : List Str), RepL K H (ns.map D.str) (ns.map V.str)
  | [] => RepL.nil
  | n :: ns => RepL.cons (by unfold Rep; rfl) (RepL.strs ns)
theorem RepL.of_strs : ∀ {ns : List Str} {vs : List V}, RepL K H (ns.map D.str) vs → vs = ns.map V.str
  | [], _, h => by unfold RepL at h; exact h
  | n :: ns, vs, h => by
    simp only [List.map_cons] at h
    unfold RepL at h
    obtain ⟨v, vs', rfl, h1, h2⟩ := h
    unfold Rep at h1
    rw [h1, RepL.of_strs h2, List.map_cons]
end
theorem hide_ex {H : Hp} {Z : Addr → Prop} : Ex (hide H Z) H := fun _ _ h => (hide_some.mp h).2
theorem Kp.new {S : Sit} {H : Hp} {p : Addr} {o : HO} (h : H p = none) : Kp S H (upd H p o) := fun b u e _ => by
  rw [upd_ne (ne_of_none e h)]
  exact e
section
variable {S : Sit} {Z Z' : Addr → Prop} {H H' : Hp}
theorem Wd.inew (w : Wd S Z H) {p : Addr} {o : HO} (h : H p = none) : S.I (upd H p o) := S.stab H _ (fun a o e _ => by
  rw [upd_ne (ne_of_none e h)]; exact e) w.inv
theorem Wd.fresh (w : Wd S Z H) {p : Addr} (h : H p = none) : ¬ Z p := fun z => by
  obtain ⟨o, e⟩ := w.zin p z
  rw [h] at e; cases e
end
section
variable {K : PySem.W.Frag} {S : Sit} {c : Cl} {ta tb te : TE} {a b t : TED} {tt tu : TT} {p q : TTD} {ts : TA} {as : TAD}
def dVar (i : Nat) : TED := fun ρ P => match ρ[i]? with
  | some (some (.own _ _)) => False
  | some (some (.nest _ _)) => False
  | some (some d) => P d
  | _ => False
theorem we_var {i : Nat} : WE K S c (tVar i) (dVar i) := by
  intro Z σ H ρ P r h Q q
  unfold dVar at h
  split at h
  · exact h.elim
  · exact h.elim
  · rename_i d hn hm e
    obtain ⟨v, e1, h1⟩ := r.sl i d e (by cases d <;> first | rfl | exact (hn _ _ rfl).elim | exact (hm _ _ rfl).elim)
    exact ⟨v, e1, q v H d (Kp.refl H) r.wd.inv h1 h⟩
  · exact h.elim
def dC (d : D) : TED := fun _ P => P d
theorem we_c {d : D} {v : V} (h : ∀ H, Rep K H d v) : WE K S c (tC v) (dC d) := fun Z σ H ρ P r hp Q q => q v H d (Kp.refl H) r.wd.inv (h _) hp
theorem we_int {i : Int} : WE K S c (tC (.int i)) (dC (.int i)) := we_c fun _ => by unfold Rep; rfl
theorem we_str {i : Str} : WE K S c (tC (.str i)) (dC (.str i)) := we_c fun _ => by unfold Rep; rfl
theorem we_bl {i : Bool} : WE K S c (tC (.bl i)) (dC (.bl i)) := we_c fun _ => by unfold Rep; rfl
theorem we_non : WE K S c (tC .non) (dC .non) := we_c fun _ => by unfold Rep; rfl
abbrev R2D := D → D → (D → Prop) → Prop
def WR (K : PySem.W.Frag) (S : Sit) (r : R2) (rd : R2D) : Prop := ∀ Z H x y d e (P : D → Prop), Wd S Z H → Rep K (hide H Z) d x → Rep K (hide H Z) e y → rd d e P →
  ∀ Q : VK, (∀ v H' d, Kp S H H' → S.I H' → Rep K (hide H' Z) d v → P d → Q v H') → r x y H Q
def dOp (r : R2D) (a b : TED) : TED := fun ρ P => a ρ fun x => b ρ fun y => r x y P
theorem we_op {r : R2} {rd : R2D} (hr : WR K S r rd) (ha : WE K S c ta a) (hb : WE K S c tb b) : WE K S c (tOp r ta tb) (dOp rd a b) := by
  intro Z σ H ρ P rv h Q q
  refine ha Z σ H ρ _ rv h _ fun x H1 d k1 i1 r1 h1 => ?_
  have rv1 := rv.step k1 i1
  refine hb Z σ H1 ρ _ rv1 h1 _ fun y H2 e k2 i2 r2 h2 => ?_
  have rv2 := rv1.step k2 i2
  refine hr Z H2 x y d e P rv2.wd (Rep.mono (rv1.wd.ex k2) d x r1) r2 h2 Q fun v H3 d3 k3 i3 r3 h3 => ?_
  exact q v H3 d3 ((k1.trans k2).trans k3) i3 r3 h3
def dNil : TAD := fun _ P => P []
def dCons (a : TED) (as : TAD) : TAD := fun ρ P => a ρ fun x => as ρ fun xs => P (x :: xs)
theorem wa_nil : WA K S c tNil dNil := fun Z σ H ρ P r h Q q => q [] H [] (Kp.refl H) r.wd.inv RepL.nil h
theorem wa_cons (ha : WE K S c ta a) (hs : WA K S c ts as) : WA K S c (tCons ta ts) (dCons a as) := by
  intro Z σ H ρ P rv h Q q
  refine ha Z σ H ρ _ rv h _ fun x H1 d k1 i1 r1 h1 => ?_
  have rv1 := rv.step k1 i1
  refine hs Z σ H1 ρ _ rv1 h1 _ fun ys H2 es k2 i2 r2 h2 => ?_
  exact q (x :: ys) H2 (d :: es) (k1.trans k2) i2 (RepL.cons (Rep.mono (rv1.wd.ex k2) d x r1) r2) h2
def dTup (as : TAD) : TED := fun ρ P => as ρ fun ds => ds.length ≤ 1000000 ∧ P (.tup ds)
def dLst (as : TAD) : TED := fun ρ P => as ρ fun ds => ds.length ≤ 1000000 ∧ P (.lst ds)
theorem sz {n : Nat} (h : n ≤ 1000000) : n ≤ sizeLine := Nat.le_trans h (by decide)
theorem szl {n : Nat} (h : n < 1000000) : n < sizeLine := Nat.lt_of_lt_of_le h (by decide)
theorem new_tup {Z : Addr → Prop} {H : Hp} {ds : List D} {vs : List V} {l : Addr} (w : Wd S Z H) (hl : H l = none) (r : RepL K (hide H Z) ds vs) : Rep K (hide (upd H l (.tup vs)) Z) (.tup ds) (.ref l) := by
  unfold Rep
  refine ⟨l, vs, rfl, .inl (.inl (hide_some.mpr ⟨w.fresh hl, upd_same⟩)), RepL.mono (w.ex (Kp.new hl)) ds vs r⟩
theorem new_lst {Z : Addr → Prop} {H : Hp} {ds : List D} {vs : List V} {l : Addr} (w : Wd S Z H) (hl : H l = none) (r : RepL K (hide H Z) ds vs) : Rep K (hide (upd H l (.lst vs)) Z) (.lst ds) (.ref l) := by
  unfold Rep
  refine ⟨l, vs, rfl, hide_some.mpr ⟨w.fresh hl, upd_same⟩, RepL.mono (w.ex (Kp.new hl)) ds vs r⟩
theorem we_tup (hs : WA K S c ts as) : WE K S c (tTup ts) (dTup as) := by
  intro Z σ H ρ P rv h Q q
  refine hs Z σ H ρ _ rv h _ fun vs H1 ds k1 i1 r1 ⟨hz, h1⟩ => ?_
  have rv1 := rv.step k1 i1
  refine ⟨sz (by rw [← r1.len]; exact hz), fun l hl => ?_⟩
  exact q _ _ (.tup ds) (k1.trans (Kp.new hl)) (rv1.wd.inew hl) (new_tup rv1.wd hl r1) h1
theorem we_lst (hs : WA K S c ts as) : WE K S c (tLst ts) (dLst as) := by
  intro Z σ H ρ P rv h Q q
  refine hs Z σ H ρ _ rv h _ fun vs H1 ds k1 i1 r1 ⟨hz, h1⟩ => ?_
  have rv1 := rv.step k1 i1
  refine ⟨sz (by rw [← r1.len]; exact hz), fun l hl => ?_⟩
  exact q _ _ (.lst ds) (k1.trans (Kp.new hl)) (rv1.wd.inew hl) (new_lst rv1.wd hl r1) h1
def dTest (a : TED) : TTD := fun ρ P => a ρ fun x => match x with
  | .bl b => P b
  | _ => False
theorem wt_test (ha : WE K S c ta a) : WT K S c (tTest ta) (dTest a) := by
  intro Z σ H ρ P rv h Q q
  refine ha Z σ H ρ _ rv h _ fun x H1 d k1 i1 r1 h1 => ?_
  cases d <;> first | exact h1.elim | skip
  rename_i k
  unfold Rep at r1
  exact ⟨k, r1, q k H1 k1 i1 h1⟩
theorem wt_B (ha : WE K S c ta a) : WT K S c (tB ta) (dTest a) := by
  intro Z σ H ρ P rv h Q q
  refine ha Z σ H ρ _ rv h _ fun x H1 d k1 i1 r1 h1 => ?_
  cases d <;> first | exact h1.elim | skip
  rename_i k
  unfold Rep at r1
  exact ⟨k, r1, q k H1 k1 i1 h1⟩
def dAnd (p q : TTD) : TTD := fun ρ P => p ρ fun b => if b = true then q ρ P else P false
def dOr (p q : TTD) : TTD := fun ρ P => p ρ fun b => if b = true then P true else q ρ P
def dNot (p : TTD) : TTD := fun ρ P => p ρ fun b => P (!b)
theorem wt_and (hp : WT K S c tt p) (hq : WT K S c tu q) : WT K S c (tAnd tt tu) (dAnd p q) := by
  intro Z σ H ρ P rv h Q k
  refine hp Z σ H ρ _ rv h _ fun b H1 k1 i1 h1 => ?_
  cases b with
  | true =>
    rw [if_pos rfl] at h1
    show tu σ H1 Q
    exact hq Z σ H1 ρ P (rv.step k1 i1) h1 Q fun b2 H2 k2 i2 h2 => k b2 H2 (k1.trans k2) i2 h2
  | false =>
    rw [if_neg Bool.false_ne_true] at h1
    exact k false H1 k1 i1 h1
theorem wt_or (hp : WT K S c tt p) (hq : WT K S c tu q) : WT K S c (tOr tt tu) (dOr p q) := by
  intro Z σ H ρ P rv h Q k
  refine hp Z σ H ρ _ rv h _ fun b H1 k1 i1 h1 => ?_
  cases b with
  | false =>
    rw [if_neg Bool.false_ne_true] at h1
    show tu σ H1 Q
    exact hq Z σ H1 ρ P (rv.step k1 i1) h1 Q fun b2 H2 k2 i2 h2 => k b2 H2 (k1.trans k2) i2 h2
  | true =>
    rw [if_pos rfl] at h1
    exact k true H1 k1 i1 h1
theorem wt_not (hp : WT K S c tt p) : WT K S c (tNot tt) (dNot p) := fun Z σ H ρ P rv h Q k => hp Z σ H ρ _ rv h _ fun b H1 k1 i1 h1 => k (!b) H1 k1 i1 h1
def dIf (p : TTD) (a b : TED) : TED := fun ρ P => p ρ fun k => if k = true then a ρ P else b ρ P
theorem we_if (hp : WT K S c tt p) (ha : WE K S c ta a) (hb : WE K S c tb b) : WE K S c (tIf tt ta tb) (dIf p a b) := by
  intro Z σ H ρ P rv h Q k
  refine hp Z σ H ρ _ rv h _ fun b H1 k1 i1 h1 => ?_
  cases b with
  | true =>
    rw [if_pos rfl] at h1
    show ta σ H1 Q
    exact ha Z σ H1 ρ P (rv.step k1 i1) h1 Q fun v H2 d k2 i2 r2 h2 => k v H2 d (k1.trans k2) i2 r2 h2
  | false =>
    rw [if_neg Bool.false_ne_true] at h1
    show tb σ H1 Q
    exact hb Z σ H1 ρ P (rv.step k1 i1) h1 Q fun v H2 d k2 i2 r2 h2 => k v H2 d (k1.trans k2) i2 r2 h2
def dAndV (a b : TED) : TED := fun ρ P => a ρ fun x => match x with
  | .bl k => if k = true then b ρ P else P (.bl false)
  | _ => False
def dOrV (a b : TED) : TED := fun ρ P => a ρ fun x => match x with
  | .bl k => if k = true then P (.bl true) else b ρ P
  | _ => False
def dNotV (a : TED) : TED := fun ρ P => a ρ fun x => match x with
  | .bl k => P (.bl (!k))
  | _ => False
theorem we_andV (ha : WE K S c ta a) (hb : WE K S c tb b) : WE K S c (tAndV ta tb) (dAndV a b) := by
  intro Z σ H ρ P rv h Q q
  refine ha Z σ H ρ _ rv h _ fun x H1 d k1 i1 r1 h1 => ?_
  cases d <;> first | exact h1.elim | skip
  rename_i k
  unfold Rep at r1
  refine ⟨k, r1, ?_⟩
  cases k with
  | true =>
    rw [if_pos rfl]
    exact hb Z σ H1 ρ P (rv.step k1 i1) h1 Q fun v H2 d k2 i2 r2 h2 => q v H2 d (k1.trans k2) i2 r2 h2
  | false =>
    rw [if_neg Bool.false_ne_true]
    exact q _ H1 (.bl false) k1 i1 (by unfold Rep; rfl) h1
theorem we_orV (ha : WE K S c ta a) (hb : WE K S c tb b) : WE K S c (tOrV ta tb) (dOrV a b) := by
  intro Z σ H ρ P rv h Q q
  refine ha Z σ H ρ _ rv h _ fun x H1 d k1 i1 r1 h1 => ?_
  cases d <;> first | exact h1.elim | skip
  rename_i k
  unfold Rep at r1
  refine ⟨k, r1, ?_⟩
  cases k with
  | true =>
    rw [if_pos rfl]
    exact q _ H1 (.bl true) k1 i1 (by unfold Rep; rfl) h1
  | false =>
    rw [if_neg Bool.false_ne_true]
    exact hb Z σ H1 ρ P (rv.step k1 i1) h1 Q fun v H2 d k2 i2 r2 h2 => q v H2 d (k1.trans k2) i2 r2 h2
theorem we_notV (ha : WE K S c ta a) : WE K S c (tNotV ta) (dNotV a) := by
  intro Z σ H ρ P rv h Q q
  refine ha Z σ H ρ _ rv h _ fun x H1 d k1 i1 r1 h1 => ?_
  cases d <;> first | exact h1.elim | skip
  rename_i k
  unfold Rep at r1
  exact ⟨k, r1, q _ H1 (.bl (!k)) k1 i1 (by unfold Rep; rfl) h1⟩
end
theorem rep_notOwn {K : PySem.W.Frag} {H : Hp} {d : D} {v : V} (h : Rep K H d v) : d.isOwn = false := by
  cases d <;> first | rfl | (unfold Rep at h; exact h.elim)
end DL
end
section
namespace DL
open PySem PySem.Spec PyProof.Rows L2
section
variable {K : PySem.W.Frag} {S : Sit} {c : Cl} {ta tb te : TE} {a b t : TED} {tt tu : TT} {p q : TTD} {ts : TA} {as : TAD}
def rII (g : Int → Int → D) : R2D := fun x y P => match x, y with
  | .int i, .int j => P (g i j)
  | _, _ => False
def rIIc (C : Int → Int → Prop) (g : Int → Int → D) : R2D := fun x y P => match x, y with
  | .int i, .int j => C i j ∧ P (g i j)
  | _, _ => False
theorem wr_I0 {g : Int → Int → V} {gd : Int → Int → D} (h : ∀ H i j, Rep K H (gd i j) (g i j)) : WR K S (rI0 g) (rII gd) := by
  intro Z H x y d e P w r1 r2 hp Q q
  cases d <;> try exact hp.elim
  cases e <;> try exact hp.elim
  unfold Rep at r1 r2
  exact ⟨_, _, r1, r2, q _ H _ (Kp.refl H) w.inv (h _ _ _) hp⟩
theorem wr_I {C C' : Int → Int → Prop} {g : Int → Int → V} {gd : Int → Int → D} (hc : ∀ i j, C' i j → C i j) (h : ∀ H i j, Rep K H (gd i j) (g i j)) : WR K S (rI C g) (rIIc C' gd) := by
  intro Z H x y d e P w r1 r2 hp Q q
  cases d <;> try exact hp.elim
  cases e <;> try exact hp.elim
  unfold Rep at r1 r2
  obtain ⟨h1, h2⟩ := hp
  exact ⟨_, _, r1, r2, hc _ _ h1, q _ H _ (Kp.refl H) w.inv (h _ _ _) h2⟩
abbrev rAddD : R2D := rII fun i j => .int (i + j)
abbrev rSubD : R2D := rII fun i j => .int (i - j)
abbrev rFdvD : R2D := rIIc CDiv fun i j => .int (i / j)
abbrev rModD : R2D := rIIc (fun _ j => 0 < j) fun i j => .int (i % j)
abbrev rLtD : R2D := rII fun i j => .bl (decide (i < j))
abbrev rLeD : R2D := rII fun i j => .bl (decide (i ≤ j))
abbrev rGtD : R2D := rII fun i j => .bl (decide (j < i))
abbrev rGeD : R2D := rII fun i j => .bl (decide (j ≤ i))
theorem repI {H : Hp} {i : Int} : Rep K H (.int i) (.int i) := by unfold Rep; rfl
theorem repB {H : Hp} {i : Bool} : Rep K H (.bl i) (.bl i) := by unfold Rep; rfl
theorem repS {H : Hp} {i : Str} : Rep K H (.str i) (.str i) := by unfold Rep; rfl
theorem repN {H : Hp} : Rep K H .non .non := by unfold Rep; rfl
theorem wr_add : WR K S (rI0 fun i j => .int (i + j)) rAddD := wr_I0 fun _ _ _ => repI
theorem wr_sub : WR K S (rI0 fun i j => .int (i - j)) rSubD := wr_I0 fun _ _ _ => repI
theorem wr_fdv : WR K S (rI CDiv fun i j => .int (i / j)) rFdvD := wr_I (fun _ _ h => h) fun _ _ _ => repI
theorem wr_mod : WR K S (rI (fun _ j => 0 < j) fun i j => .int (i % j)) rModD := wr_I (fun _ _ h => h) fun _ _ _ => repI
theorem wr_lt : WR K S (rI0 fun i j => .bl (decide (i < j))) rLtD := wr_I0 fun _ _ _ => repB
theorem wr_le : WR K S (rI0 fun i j => .bl (decide (i ≤ j))) rLeD := wr_I0 fun _ _ _ => repB
theorem wr_gt : WR K S (rI0 fun i j => .bl (decide (j < i))) rGtD := wr_I0 fun _ _ _ => repB
theorem wr_ge : WR K S (rI0 fun i j => .bl (decide (j ≤ i))) rGeD := wr_I0 fun _ _ _ => repB
def dChain (r r' : R2D) (a b c' : TED) : TED := fun ρ P => a ρ fun x => b ρ fun y => r x y fun z => match z with
  | .bl k => if k = true then c' ρ fun w => r' y w P else P (.bl false)
  | _ => False
theorem we_chain {r r' : R2} {rd rd' : R2D} {tc : TE} {c' : TED} (hr : WR K S r rd) (hr' : WR K S r' rd') (ha : WE K S c ta a) (hb : WE K S c tb b) (hc : WE K S c tc c') : WE K S c (tChain r r' ta tb tc) (dChain rd rd' a b c') := by
  intro Z σ H ρ P rv h Q q
  refine ha Z σ H ρ _ rv h _ fun x H1 d k1 i1 r1 h1 => ?_
  have rv1 := rv.step k1 i1
  refine hb Z σ H1 ρ _ rv1 h1 _ fun y H2 e k2 i2 r2 h2 => ?_
  have rv2 := rv1.step k2 i2
  refine hr Z H2 x y d e _ rv2.wd (Rep.mono (rv1.wd.ex k2) d x r1) r2 h2 _ fun z H3 d3 k3 i3 r3 h3 => ?_
  have rv3 := rv2.step k3 i3
  cases d3 <;> try exact h3.elim
  rename_i k
  unfold Rep at r3
  refine ⟨k, r3, ?_⟩
  cases k with
  | true =>
    rw [if_pos rfl]
    refine hc Z σ H3 ρ _ rv3 h3 _ fun w H4 d4 k4 i4 r4 h4 => ?_
    have rv4 := rv3.step k4 i4
    refine hr' Z H4 y w e d4 P rv4.wd (Rep.mono (rv3.wd.ex k4) e y (Rep.mono (rv2.wd.ex k3) e y r2)) r4 h4 Q fun v H5 d5 k5 i5 r5 h5 => ?_
    exact q v H5 d5 ((((k1.trans k2).trans k3).trans k4).trans k5) i5 r5 h5
  | false =>
    rw [if_neg Bool.false_ne_true]
    exact q _ H3 (.bl false) ((k1.trans k2).trans k3) i3 repB h3
def D.isNon : D → Bool
  | .non => true
  | _ => false
theorem rep_non {H : Hp} {d : D} {x : V} (r : Rep K H d x) : decide (x = .non) = d.isNon := by
  cases d <;> unfold Rep at r
  · subst r; rfl
  · subst r; rfl
  · subst r; rfl
  · subst r; rfl
  · obtain ⟨_, _, rfl, _⟩ := r; rfl
  · obtain ⟨_, _, rfl, _⟩ := r; rfl
  · obtain ⟨_, _, _, rfl, _⟩ := r; rfl
  · subst r; rfl
  · obtain ⟨_, _, rfl, _⟩ := r; rfl
  · obtain ⟨_, _, rfl, _⟩ := r; rfl
  · exact r.elim
  · exact r.elim
def rIsND : R2D := fun x y P => match y with
  | .non => P (.bl x.isNon)
  | _ => False
def rNotND : R2D := fun x y P => match y with
  | .non => P (.bl (!x.isNon))
  | _ => False
theorem wr_isN : WR K S (fun x y H Q => y = .non ∧ Q (.bl (decide (x = .non))) H) rIsND := by
  intro Z H x y d e P w r1 r2 hp Q q
  cases e <;> try exact hp.elim
  unfold Rep at r2
  refine ⟨r2, q _ H (.bl d.isNon) (Kp.refl H) w.inv ?_ hp⟩
  rw [rep_non r1]
  exact repB
theorem wr_notN : WR K S (fun x y H Q => y = .non ∧ Q (.bl (!decide (x = .non))) H) rNotND := by
  intro Z H x y d e P w r1 r2 hp Q q
  cases e <;> try exact hp.elim
  unfold Rep at r2
  refine ⟨r2, q _ H (.bl (!d.isNon)) (Kp.refl H) w.inv ?_ hp⟩
  rw [rep_non r1]
  exact repB
mutual
/-- data: none, bools, ints, texts, tuples, lists, at most n deep -/
def D.flat : Nat → D → Bool
  | _, .non => true
  | _, .bl _ => true
  | _, .int _ => true
  | _, .str x => PyData.strOk x
  | n + 1, .tup ds => D.flatL n ds
  | n + 1, .lst ds => D.flatL n ds
  | _, _ => false
def D.flatL : Nat → List D → Bool
  | _, [] => true
  | n, d :: ds => D.flat n d && D.flatL n ds
end
mutual
theorem rep_dp {H : Hp} : ∀ (n : Nat) (d : D) (v : V), D.flat n d = true → Rep K H d v → Dp K H v d.py
  | _, .non, _, _, r => by unfold Rep at r; subst r; exact .non
  | _, .bl b, _, _, r => by unfold Rep at r; subst r; exact .bl b
  | _, .int i, _, _, r => by unfold Rep at r; subst r; exact .int i
  | _, .str x, _, _, r => by unfold Rep at r; subst r; exact .str x
  | n, .tup ds, _, h, r => by
    cases n with
    | zero => exact nomatch h
    | succ n =>
      unfold Rep at r
      obtain ⟨a, xs, rfl, h1, h2⟩ := r
      unfold D.flat at h
      exact .tup h1 (rep_dpL n ds xs h h2)
  | n, .lst ds, _, h, r => by
    cases n with
    | zero => exact nomatch h
    | succ n =>
      unfold Rep at r
      obtain ⟨a, xs, rfl, h1, h2⟩ := r
      unfold D.flat at h
      exact .lst (.inl (.inl h1)) (rep_dpL n ds xs h h2)
  | 0, .ins _ _ _, _, h, _ => nomatch h
  | _ + 1, .ins _ _ _, _, h, _ => nomatch h
  | 0, .adr _, _, h, _ => nomatch h
  | _ + 1, .adr _, _, h, _ => nomatch h
  | 0, .sem _, _, h, _ => nomatch h
  | _ + 1, .sem _, _, h, _ => nomatch h
  | 0, .dic _ _, _, h, _ => nomatch h
  | _ + 1, .dic _ _, _, h, _ => nomatch h
  | 0, .own _ _, _, h, _ => nomatch h
  | _ + 1, .own _ _, _, h, _ => nomatch h
  | 0, .nest _ _, _, h, _ => nomatch h
  | _ + 1, .nest _ _, _, h, _ => nomatch h
theorem rep_dpL {H : Hp} : ∀ (n : Nat) (ds : List D) (vs : List V), D.flatL n ds = true → RepL K H ds vs → DpAll K H vs (D.pyL ds)
  | _, [], _, _, r => by unfold RepL at r; subst r; exact .nil
  | n, d :: ds, _, h, r => by
    unfold RepL at r
    obtain ⟨v, vs, rfl, h1, h2⟩ := r
    unfold D.flatL at h
    obtain ⟨f1, f2⟩ := Bool.and_eq_true_iff.mp h
    exact .cons (rep_dp n d v f1 h1) (rep_dpL n ds vs f2 h2)
end
mutual
theorem flat_lay : ∀ (n : Nat) (d : D), D.flat n d = true → d.py.canLay0 = true ∧ d.py.depth ≤ n
  | _, .non, _ => ⟨rfl, Nat.zero_le _⟩
  | _, .bl b, _ => ⟨rfl, Nat.zero_le _⟩
  | _, .int i, _ => ⟨rfl, Nat.zero_le _⟩
  | n, .str x, h => ⟨by cases n <;> (unfold D.flat at h; exact h), Nat.zero_le _⟩
  | n, .tup ds, h => by
    cases n with
    | zero => exact nomatch h
    | succ n =>
      unfold D.flat at h
      obtain ⟨h1, h2⟩ := flat_layL n ds h
      exact ⟨h1, Nat.succ_le_succ h2⟩
  | n, .lst ds, h => by
    cases n with
    | zero => exact nomatch h
    | succ n =>
      unfold D.flat at h
      obtain ⟨h1, h2⟩ := flat_layL n ds h
      exact ⟨h1, Nat.succ_le_succ h2⟩
  | 0, .ins _ _ _, h => nomatch h
  | _ + 1, .ins _ _ _, h => nomatch h
  | 0, .adr _, h => nomatch h
  | _ + 1, .adr _, h => nomatch h
  | 0, .sem _, h => nomatch h
  | _ + 1, .sem _, h => nomatch h
  | 0, .dic _ _, h => nomatch h
  | _ + 1, .dic _ _, h => nomatch h
  | 0, .own _ _, h => nomatch h
  | _ + 1, .own _ _, h => nomatch h
  | 0, .nest _ _, h => nomatch h
  | _ + 1, .nest _ _, h => nomatch h
theorem flat_layL : ∀ (n : Nat) (ds : List D), D.flatL n ds = true → PyData.canLayAll0 (D.pyL ds) = true ∧ PyData.depthAll (D.pyL ds) ≤ n
  | _, [], _ => ⟨rfl, Nat.zero_le _⟩
  | n, d :: ds, h => by
    unfold D.flatL at h
    obtain ⟨f1, f2⟩ := Bool.and_eq_true_iff.mp h
    obtain ⟨a1, a2⟩ := flat_lay n d f1
    obtain ⟨b1, b2⟩ := flat_layL n ds f2
    exact ⟨Bool.and_eq_true_iff.mpr ⟨a1, b1⟩, Nat.max_le.mpr ⟨a2, b2⟩⟩
end
theorem flat_shaped {d : D} (h : D.flat 60 d = true) : SeqAt.shaped d.py = true := by
  obtain ⟨a, b⟩ := flat_lay 60 d h
  exact Bool.and_eq_true_iff.mpr ⟨a, decide_eq_true (by omega)⟩
@[irreducible] def rEqDD : R2D := fun x y P => (D.flat 60 x = true ∧ D.flat 60 y = true) ∧ P (.bl (PyData.eqv x.py y.py))
@[irreducible] def rNeDD : R2D := fun x y P => (D.flat 60 x = true ∧ D.flat 60 y = true) ∧ P (.bl (!PyData.eqv x.py y.py))
theorem wr_eq : WR K S (rEqD K) rEqDD := by
  intro Z H x y d e P w r1 r2 hp0 Q q
  unfold rEqDD at hp0
  obtain ⟨⟨f1, f2⟩, hp⟩ := hp0
  exact ⟨d.py, e.py, rep_dp 60 d x f1 (Rep.mono hide_ex d x r1), rep_dp 60 e y f2 (Rep.mono hide_ex e y r2), flat_shaped f1, flat_shaped f2, q _ H _ (Kp.refl H) w.inv repB hp⟩
theorem wr_ne : WR K S (rNeD K) rNeDD := by
  intro Z H x y d e P w r1 r2 hp0 Q q
  unfold rNeDD at hp0
  obtain ⟨⟨f1, f2⟩, hp⟩ := hp0
  exact ⟨d.py, e.py, rep_dp 60 d x f1 (Rep.mono hide_ex d x r1), rep_dp 60 e y f2 (Rep.mono hide_ex e y r2), flat_shaped f1, flat_shaped f2, q _ H _ (Kp.refl H) w.inv repB hp⟩
theorem atI_rep {H : Hp} {ds : List D} {vs : List V} {i : Int} {d : D} (r : RepL K H ds vs) (h : atI ds i = some d) : ∃ v, atI vs i = some v ∧ Rep K H d v := by
  unfold atI at h ⊢
  rw [← r.len]
  cases e : ixN ds.length i with
  | none => rw [e] at h; cases h
  | some j =>
    rw [e] at h
    exact r.get h
@[irreducible] def rIxD : R2D := fun x y P => match x, y with
  | .lst ds, .int i => match atI ds i with
    | some d => P d
    | none => False
  | .tup ds, .int i => match atI ds i with
    | some d => P d
    | none => False
  | .str z, .int i => z.length ≤ 1000000 ∧ match atI z.cps.toList i with
    | some ch => P (.str ⟨#[ch]⟩)
    | none => False
  | _, _ => False
theorem wr_ix : WR K S (rIx K) rIxD := by
  intro Z H x y d e P w r1 r2 hp Q q
  unfold rIxD at hp
  cases d <;> try exact hp.elim
  case str z =>
    cases e <;> try exact hp.elim
    rename_i i
    unfold Rep at r1 r2
    obtain ⟨hz, hp⟩ := hp
    split at hp
    · rename_i ch e
      exact .inr (.inr ⟨z, i, ch, r1, r2, sz hz, e, q _ H _ (Kp.refl H) w.inv repS hp⟩)
    · exact hp.elim
  case tup ds =>
    cases e <;> try exact hp.elim
    rename_i i
    simp only at hp
    split at hp
    · rename_i d e
      unfold Rep at r1 r2
      obtain ⟨a, xs, rfl, h1, h2⟩ := r1
      obtain ⟨v, e2, r3⟩ := atI_rep h2 e
      exact .inr (.inl ⟨a, xs, i, v, rfl, r2, ex_t hide_ex h1, e2, q _ H _ (Kp.refl H) w.inv r3 hp⟩)
    · exact hp.elim
  case lst ds =>
    cases e <;> try exact hp.elim
    rename_i i
    simp only at hp
    split at hp
    · rename_i d e
      unfold Rep at r1 r2
      obtain ⟨a, xs, rfl, h1, h2⟩ := r1
      obtain ⟨v, e2, r3⟩ := atI_rep h2 e
      exact .inl ⟨a, xs, i, v, rfl, r2, .inl (.inl (hide_ex _ _ h1)), e2, q _ H _ (Kp.refl H) w.inv r3 hp⟩
    · exact hp.elim
def cutD (xs : List D) (lo hi : Option Int) : List D := (xs.drop (HT.sIx xs.length 0 lo)).take (HT.sIx xs.length xs.length hi - HT.sIx xs.length 0 lo)
theorem cut_rep {H : Hp} {ds : List D} {vs : List V} {lo hi : Option Int} (r : RepL K H ds vs) : RepL K H (cutD ds lo hi) (cutV vs lo hi) := by
  unfold cutD cutV
  rw [← r.len]
  exact (r.drop _).take _
def oNo : TOD := fun _ P => P none
def oYes (a : TED) : TOD := fun ρ P => a ρ fun x => match x with
  | .int i => P (some i)
  | _ => False
theorem wo_no : WO K S c tNoPart oNo := fun Z σ H ρ P r h Q q => q none H (Kp.refl H) r.wd.inv h
theorem wo_yes (ha : WE K S c ta a) : WO K S c (tPart ta) (oYes a) := by
  intro Z σ H ρ P rv h Q q
  refine ha Z σ H ρ _ rv h _ fun x H1 d k1 i1 r1 h1 => ?_
  cases d <;> try exact h1.elim
  unfold Rep at r1
  exact ⟨_, r1, q _ H1 k1 i1 h1⟩
def dSl (f : D → Option Int → Option Int → (D → Prop) → Prop) (a : TED) (l h : TOD) : TED := fun ρ P => a ρ fun x => l ρ fun lo => h ρ fun hi => f x lo hi P
def slLD : D → Option Int → Option Int → (D → Prop) → Prop := fun x lo hi P => match x with
  | .lst ds => P (.lst (cutD ds lo hi))
  | _ => False
def slTD : D → Option Int → Option Int → (D → Prop) → Prop := fun x lo hi P => match x with
  | .tup ds => P (.tup (cutD ds lo hi))
  | _ => False
theorem we_slL {tl th : TO} {l h : TOD} (ha : WE K S c ta a) (hl : WO K S c tl l) (hh : WO K S c th h) : WE K S c (tSl (rSlL K) ta tl th) (dSl slLD a l h) := by
  intro Z σ H ρ P rv hp Q q
  refine ha Z σ H ρ _ rv hp _ fun x H1 d k1 i1 r1 h1 => ?_
  have rv1 := rv.step k1 i1
  refine hl Z σ H1 ρ _ rv1 h1 _ fun lo H2 k2 i2 h2 => ?_
  have rv2 := rv1.step k2 i2
  refine hh Z σ H2 ρ _ rv2 h2 _ fun hi H3 k3 i3 h3 => ?_
  have rv3 := rv2.step k3 i3
  cases d <;> try exact h3.elim
  have r3 := Rep.mono (rv2.wd.ex k3) _ x (Rep.mono (rv1.wd.ex k2) _ x r1)
  unfold Rep at r3
  obtain ⟨a', xs, rfl, e1, e2⟩ := r3
  refine ⟨a', xs, rfl, .inl (.inl (hide_ex _ _ e1)), fun p hp' => ?_⟩
  exact q _ _ _ (((k1.trans k2).trans k3).trans (Kp.new hp')) (rv3.wd.inew hp') (new_lst rv3.wd hp' (cut_rep e2)) h3
def rCatLD : R2D := fun x y P => match x, y with
  | .lst ds, .lst es => ds.length + es.length ≤ 1000000 ∧ P (.lst (ds ++ es))
  | _, _ => False
theorem wr_catL : WR K S rCat rCatLD := by
  intro Z H x y d e P w r1 r2 hp Q q
  cases d <;> try exact hp.elim
  cases e <;> try exact hp.elim
  unfold Rep at r1 r2
  obtain ⟨a, xs, rfl, h1, h2⟩ := r1
  obtain ⟨a', ys, rfl, h3, h4⟩ := r2
  obtain ⟨hz, hp⟩ := hp
  refine ⟨a, a', xs, ys, rfl, rfl, hide_ex _ _ h1, hide_ex _ _ h3, sz (by rw [← h2.len, ← h4.len]; exact hz), fun p hp' => ?_⟩
  exact q _ _ _ (Kp.new hp') (w.inew hp') (new_lst w hp' (h2.append h4)) hp
theorem repl_rep {H : Hp} {ds : List D} {vs : List V} (r : RepL K H ds vs) : ∀ n : Nat, RepL K H (List.replicate n ds).flatten (List.replicate n vs).flatten
  | 0 => RepL.nil
  | n + 1 => by
    simp only [List.replicate_succ, List.flatten_cons]
    exact r.append (repl_rep r n)
def rRepD : R2D := fun x y P => match x, y with
  | .lst ds, .int k => (0 ≤ k ∧ k < 1000000 ∧ ds.length * k.toNat ≤ 1000000) ∧ P (.lst (List.replicate k.toNat ds).flatten)
  | _, _ => False
theorem wr_rep : WR K S rRep rRepD := by
  intro Z H x y d e P w r1 r2 hp Q q
  cases d <;> try exact hp.elim
  cases e <;> try exact hp.elim
  unfold Rep at r1 r2
  obtain ⟨a, xs, rfl, h1, h2⟩ := r1
  obtain ⟨⟨z0, z1, hz⟩, hp⟩ := hp
  refine ⟨a, _, xs, rfl, r2, hide_ex _ _ h1, by omega, by omega, sz (by rw [← h2.len]; exact hz), fun p hp' => ?_⟩
  exact q _ _ _ (Kp.new hp') (w.inew hp') (new_lst w hp' (repl_rep h2 _)) hp
def D.atom : D → Bool
  | .non => true
  | .bl _ => true
  | .int _ => true
  | .str _ => true
  | _ => false
theorem atom_rep {H : Hp} {d : D} {x : V} (h : d.atom = true) (r : Rep K H d x) : x = d.v := by
  cases d <;> (try (cases h; done))
  all_goals (unfold Rep at r; exact r)
theorem rep_atom {H : Hp} {d : D} (h : d.atom = true) : Rep K H d d.v := by
  cases d <;> (try (cases h; done))
  all_goals (unfold Rep; rfl)
theorem atom_flat {d : D} (h : d.atom = true) : flatV d.v = true := by
  cases d <;> (try (cases h; done))
  all_goals rfl
theorem atoms_rep {H : Hp} : ∀ {ds : List D} {vs : List V}, ds.all D.atom = true → RepL K H ds vs → vs = ds.map D.v
  | [], _, _, r => by unfold RepL at r; exact r
  | d :: ds, _, h, r => by
    unfold RepL at r
    obtain ⟨v, vs, rfl, h1, h2⟩ := r
    rw [List.all_cons] at h
    obtain ⟨f1, f2⟩ := Bool.and_eq_true_iff.mp h
    rw [atom_rep f1 h1, atoms_rep f2 h2, List.map_cons]
theorem atoms_flat {ds : List D} (h : ds.all D.atom = true) : (ds.map D.v).all flatV = true := by
  rw [List.all_eq_true] at h ⊢
  intro v hv
  obtain ⟨d, hd, rfl⟩ := List.mem_map.mp hv
  exact atom_flat (h d hd)
def D.items : D → Option (List D)
  | .lst ds => some ds
  | .tup ds => some ds
  | _ => none
@[irreducible] def rInD (neg : Bool) : R2D := fun x y P => match y.items with
  | some ds => (x.atom = true ∧ ds.all D.atom = true) ∧ P (.bl (if neg then !inV x.v (ds.map D.v) else inV x.v (ds.map D.v)))
  | none => False
theorem items_rep {H : Hp} {d : D} {x : V} {ds : List D} (h : d.items = some ds) (r : Rep K H d x) : ∃ p xs, x = .ref p ∧ (SqL K H p xs ∨ SqT K H p xs) ∧ RepL K H ds xs := by
  cases d <;> (try (cases h; done))
  · cases h
    unfold Rep at r
    obtain ⟨a, xs, e, h1, h2⟩ := r
    exact ⟨a, xs, e, .inr h1, h2⟩
  · cases h
    unfold Rep at r
    obtain ⟨a, xs, e, h1, h2⟩ := r
    exact ⟨a, xs, e, .inl (.inl (.inl h1)), h2⟩
theorem sq_hide {H : Hp} {Z : Addr → Prop} {p : Addr} {xs : List V} (h : SqL K (hide H Z) p xs ∨ SqT K (hide H Z) p xs) : SqL K H p xs ∨ SqT K H p xs := by
  rcases h with h | h
  · exact .inl (ex_l hide_ex h)
  · exact .inr (ex_t hide_ex h)
theorem wr_in {neg : Bool} : WR K S (rIn K neg) (rInD neg) := by
  intro Z H x y d e P w r1 r2 hp Q q
  unfold rInD at hp
  split at hp
  · rename_i ds he
    obtain ⟨⟨f1, f2⟩, hp⟩ := hp
    obtain ⟨p, xs, rfl, h1, h2⟩ := items_rep he r2
    have e1 := atom_rep f1 r1
    have e2 := atoms_rep f2 h2
    subst e1 e2
    exact ⟨p, _, rfl, sq_hide h1, atom_flat f1, atoms_flat f2, q _ H _ (Kp.refl H) w.inv repB hp⟩
  · exact hp.elim
def rInSD : R2D := fun x y P => match x, y with
  | .str s, .str z => ∃ ch, s = ⟨#[ch]⟩ ∧ P (.bl (decide (ch ∈ z.cps.toList)))
  | _, _ => False
theorem wr_inS : WR K S (fun x y H Q => ∃ (c : Nat) (z : Str), x = .str ⟨#[c]⟩ ∧ y = .str z ∧ Q (.bl (decide (c ∈ z.cps.toList))) H) rInSD := by
  intro Z H x y d e P w r1 r2 hp Q q
  cases d <;> try exact hp.elim
  cases e <;> try exact hp.elim
  unfold Rep at r1 r2
  obtain ⟨ch, rfl, hp⟩ := hp
  exact ⟨ch, _, r1, r2, q _ H _ (Kp.refl H) w.inv repB hp⟩
abbrev RCD := List D → (D → Prop) → Prop
def WC (K : PySem.W.Frag) (S : Sit) (r : List V → Hp → VK → Prop) (rd : RCD) : Prop := ∀ Z H xs ds (P : D → Prop), Wd S Z H → RepL K (hide H Z) ds xs → rd ds P →
  ∀ Q : VK, (∀ v H' d, Kp S H H' → S.I H' → Rep K (hide H' Z) d v → P d → Q v H') → r xs H Q
def dCB (r : RCD) (as : TAD) : TED := fun ρ P => as ρ fun ds => r ds P
theorem we_cb {r : List V → Hp → VK → Prop} {rd : RCD} (hr : WC K S r rd) (hs : WA K S c ts as) : WE K S c (tCB r ts) (dCB rd as) := by
  intro Z σ H ρ P rv h Q q
  refine hs Z σ H ρ _ rv h _ fun xs H1 ds k1 i1 r1 h1 => ?_
  have rv1 := rv.step k1 i1
  exact hr Z H1 xs ds P rv1.wd r1 h1 Q fun v H2 d k2 i2 r2 h2 => q v H2 d (k1.trans k2) i2 r2 h2
theorem repL1 {H : Hp} {d : D} {xs : List V} (r : RepL K H [d] xs) : ∃ v, xs = [v] ∧ Rep K H d v := by
  unfold RepL at r
  obtain ⟨v, vs, rfl, h1, h2⟩ := r
  unfold RepL at h2
  subst h2
  exact ⟨v, rfl, h1⟩
theorem repL2 {H : Hp} {d e : D} {xs : List V} (r : RepL K H [d, e] xs) : ∃ v u, xs = [v, u] ∧ Rep K H d v ∧ Rep K H e u := by
  unfold RepL at r
  obtain ⟨v, vs, rfl, h1, h2⟩ := r
  obtain ⟨u, rfl, h3⟩ := repL1 h2
  exact ⟨v, u, rfl, h1, h3⟩
def rLenD : RCD := fun ds P => match ds with
  | [.lst xs] => P (.int xs.length)
  | [.tup xs] => P (.int xs.length)
  | [.str z] => z.length ≤ 1000000 ∧ P (.int z.length)
  | _ => False
theorem wc_len : WC K S (fun xs H Q => (∃ p ys, xs = [.ref p] ∧ (SqL K H p ys ∨ SqT K H p ys) ∧ Q (.int ys.length) H) ∨ ∃ z, xs = [.str z] ∧ z.length ≤ sizeLine ∧ Q (.int z.length) H) rLenD := by
  intro Z H xs ds P w r hp Q q
  unfold rLenD at hp
  split at hp
  · obtain ⟨v, rfl, r1⟩ := repL1 r
    obtain ⟨p, ys, rfl, h1, h2⟩ := items_rep rfl r1
    exact .inl ⟨p, ys, rfl, sq_hide h1, q _ H _ (Kp.refl H) w.inv (by rw [← h2.len]; exact repI) hp⟩
  · obtain ⟨v, rfl, r1⟩ := repL1 r
    obtain ⟨p, ys, rfl, h1, h2⟩ := items_rep rfl r1
    exact .inl ⟨p, ys, rfl, sq_hide h1, q _ H _ (Kp.refl H) w.inv (by rw [← h2.len]; exact repI) hp⟩
  · obtain ⟨v, rfl, r1⟩ := repL1 r
    unfold Rep at r1
    subst r1
    exact .inr ⟨_, rfl, sz hp.1, q _ H _ (Kp.refl H) w.inv repI hp.2⟩
  · exact hp.elim
def rListD : RCD := fun ds P => match ds with
  | [x] => match x.items with
    | some xs => P (.lst xs)
    | none => False
  | _ => False
def rTupleD : RCD := fun ds P => match ds with
  | [.lst xs] => P (.tup xs)
  | [.tup xs] => P (.tup xs)
  | _ => False
theorem wc_tuple : WC K S (fun xs H Q => ∃ p ys, xs = [.ref p] ∧ ((SqL K H p ys ∧ ∀ l, H l = none → Q (.ref l) (upd H l (.tup ys))) ∨ (SqT K H p ys ∧ Q (.ref p) H))) rTupleD := by
  intro Z H xs ds P w r hp Q q
  unfold rTupleD at hp
  split at hp
  · obtain ⟨v, rfl, r1⟩ := repL1 r
    unfold Rep at r1
    obtain ⟨p, ys, rfl, h1, h2⟩ := r1
    exact ⟨p, ys, rfl, .inl ⟨.inl (.inl (hide_ex _ _ h1)), fun l hl => q _ _ _ (Kp.new hl) (w.inew hl) (new_tup w hl h2) hp⟩⟩
  · obtain ⟨v, rfl, r1⟩ := repL1 r
    have r2 := r1
    unfold Rep at r1
    obtain ⟨p, ys, rfl, h1, h2⟩ := r1
    exact ⟨p, ys, rfl, .inr ⟨ex_t hide_ex h1, q _ H _ (Kp.refl H) w.inv r2 hp⟩⟩
  · exact hp.elim
theorem RepL.of_bls {H : Hp} : ∀ {ns : List Bool} {vs : List V}, RepL K H (ns.map D.bl) vs → vs = ns.map V.bl
  | [], _, h => by unfold RepL at h; exact h
  | n :: ns, vs, h => by
    simp only [List.map_cons] at h
    unfold RepL at h
    obtain ⟨v, vs', rfl, h1, h2⟩ := h
    unfold Rep at h1
    rw [h1, RepL.of_bls h2, List.map_cons]
def rAllD : RCD := fun ds P => match ds with
  | [.lst xs] => ∃ ns : List Bool, xs = ns.map D.bl ∧ P (.bl (ns.all id))
  | _ => False
theorem wc_all : WC K S (rAll K) rAllD := by
  intro Z H xs ds P w r hp Q q
  unfold rAllD at hp
  split at hp
  · obtain ⟨v, rfl, r1⟩ := repL1 r
    obtain ⟨ns, rfl, h⟩ := hp
    unfold Rep at r1
    obtain ⟨p, ys, rfl, h1, h2⟩ := r1
    have e := RepL.of_bls h2
    subst e
    exact ⟨p, ns, rfl, .inl (.inl (hide_ex _ _ h1)), q _ H _ (Kp.refl H) w.inv repB h⟩
  · exact hp.elim
end
end DL
end
section
namespace DL
open PySem PySem.Spec PyProof.Rows L2
section
variable {K : PySem.W.Frag} {H H' H0 : Hp} {Z Z' : Addr → Prop}
theorem hide_upd {a : Addr} {o : HO} (z : Z a) : hide (upd H a o) Z = hide H Z := by
  funext b
  unfold hide
  by_cases hb : Z b
  · rw [if_pos hb, if_pos hb]
  · rw [if_neg hb, if_neg hb, upd_ne (fun e => hb (by rw [e]; exact z))]
end
section
variable {K : PySem.W.Frag} {S : Sit} {c : Cl} {B B' : Hp} {Z : Addr → Prop} {σ : L2.St} {H H' : Hp} {ρ : EnvD}
theorem RZ.rebase (r : RZ K S c B Z σ H ρ) : RZ K S c (hide H Z) Z σ H ρ := ⟨r.rv, r.w0, fun a o h => h, r.fp⟩
theorem RZ.fresh0 (r : RZ K S c B Z σ H ρ) {p : Addr} (hp : H p = none) : c.H0 p = none := by
  cases e : c.H0 p with
  | none => rfl
  | some o =>
    have hw : ¬ S.W p := fun w => by
      obtain ⟨u, e'⟩ := S.there H p r.rv.wd.inv w
      rw [hp] at e'; cases e'
    have := r.rv.kp p o e hw
    rw [hp] at this; cases this
theorem RZ.setOwn (r : RZ K S c B Z σ H ρ) (i : Nat) {kd : OwnK} {ds : List D} {p : Addr} {xs : List V} {H1 : Hp} (k : Kp S H H1) (iv : S.I H1) (hp : H p = none) (h1 : H1 p = some (kd.ho xs)) (hf : kd.fits p xs) (q : RepL K (hide H1 (fun a => Z a ∨ a = p)) ds xs) :
    RZ K S c B (fun a => Z a ∨ a = p) (σ.set i (some (.ref p))) H1 (ρ.set i (some (.own kd ds))) := by
  have ez : (fun a => Z a ∨ a ∈ [p]) = fun a => Z a ∨ a = p := by funext a; rw [List.mem_singleton]
  have z := r.setNew i (d := .own kd ds) (v := .ref p) (ft := [p]) k iv (fun a ha => by rw [List.mem_singleton.mp ha]; exact hp) (List.nodup_cons.mpr ⟨by simp, List.nodup_nil⟩) (by
    unfold Own
    exact ⟨p, xs, rfl, rfl, .inr List.mem_cons_self, r.fresh0 hp, h1, hf, by rw [ez]; exact q⟩) rfl
  rw [ez] at z
  exact z
theorem RZ.change (r : RZ K S c B Z σ H ρ) {i : Nat} {d d' : D} {v : V} {H' : Hp} {Z' : Addr → Prop} (hi : ρ[i]? = some (some d)) (ho : d.isOwn = true) (hs : σ[i]? = some (some v)) (zz : ∀ a, Z a → Z' a) (zn : ∀ a, Z' a → ¬ Z a → H a = none ∧ ∃ o, H' a = some o ∧ isX o = false)
    (kp : ∀ ft, Own K H Z c.H0 d v ft → ft.Nodup → (∀ a o, H a = some o → a ∉ ft → H' a = some o) ∧ (∀ a ∈ ft, ∃ o, H' a = some o ∧ isX o = false) ∧ ∃ ft', Own K H' Z' c.H0 d' v ft' ∧ ft'.Nodup ∧ ∀ a ∈ ft', a ∈ ft ∨ H a = none) (ho' : d'.isOwn = true) : RZ K S c B Z' σ H' (ρ.set i (some d')) := by
  have hl := r.rv.len
  obtain ⟨FT, f1, f2⟩ := r.fp
  obtain ⟨u, e1, q, nd⟩ := f1 i d hi ho
  rw [hs] at e1
  cases e1
  obtain ⟨k1, k2, ft', q', nd', sub⟩ := kp (FT i) q nd
  have nw : ∀ a ∈ FT i, c.H0 a = none := fun a ha => (q.in_ a ha).2.1
  have zi : ∀ a ∈ FT i, Z a := fun a ha => (q.in_ a ha).1
  have ih : S.I H' := S.stab H H' (fun w o eo hw => k1 w o eo fun hm => hw.elim (fun hw => r.notW (nw w hm) hw) fun hx => by
    rw [q.noX w hm o eo] at hx; cases hx) r.rv.wd.inv
  have exz : Ex (hide H Z) (hide H' Z') := fun a o e => by
    obtain ⟨n, e⟩ := hide_some.mp e
    refine hide_some.mpr ⟨fun z => ?_, k1 a o e fun hm => n (zi a hm)⟩
    have := (zn a z n).1
    rw [e] at this; cases this
  have zall : ∀ a, Z' a → ∃ o, H' a = some o ∧ isX o = false := fun a z => by
    by_cases za : Z a
    · by_cases hm : a ∈ FT i
      · exact k2 a hm
      · obtain ⟨o, e⟩ := r.rv.wd.zin a za
        exact ⟨o, k1 a o e hm, r.rv.wd.zx a o za e⟩
    · exact (zn a z za).2
  refine ⟨⟨⟨fun b o e => ?_, fun a w => zz a (r.rv.wd.wz a w), fun a z => (zall a z).imp fun o h => h.1, fun a o z e => by
    obtain ⟨u, h1, h2⟩ := zall a z
    rw [h1] at e
    rw [← Option.some.inj e]
    exact h2, ih⟩, fun b o e n => ?_, fun a z => zz a (r.rv.zz a z), by rw [List.length_set]; exact hl, fun j e h n => ?_⟩, r.w0, fun a o e => exz a o (r.ex a o e), fun j => if j = i then ft' else FT j, fun j e h o => ?_, fun j l e e' a h1 o1 h2 o2 m1 m2 => ?_⟩
  · obtain ⟨h1, h2⟩ := r.rv.wd.base b o e
    refine ⟨k1 b o h1 fun hm => ?_, fun z9 => by have q9 := (zn b z9 h2).1; rw [h1] at q9; cases q9⟩
    have := (r.w0.base b o e).1
    rw [nw b hm] at this; cases this
  · exact k1 b o (r.rv.kp b o e n) fun hm => by rw [nw b hm] at e; cases e
  · rcases set_cases h with ⟨rfl, rfl, hb⟩ | ⟨hne, h⟩
    · rw [ho'] at n; cases n
    · obtain ⟨u, e1, q1⟩ := r.rv.sl j e h n
      exact ⟨u, e1, Rep.mono exz e u q1⟩
  · rcases set_cases h with ⟨rfl, rfl, hb⟩ | ⟨hne, h⟩
    · refine ⟨v, hs, ?_, ?_⟩
      · show Own _ _ _ _ _ _ (if j = j then ft' else FT j)
        rw [if_pos rfl]; exact q'
      · show (if j = j then ft' else FT j).Nodup
        rw [if_pos rfl]; exact nd'
    · obtain ⟨u, e1, q1, n1⟩ := f1 j e h o
      refine ⟨u, e1, ?_, ?_⟩
      · show Own _ _ _ _ _ _ (if j = i then ft' else FT j)
        rw [if_neg hne]
        exact Own.mono exz zz (fun a ha u hu => k1 a u hu fun hm => hne (f2 j i e d a h o hi ho ha hm)) q1
      · show (if j = i then ft' else FT j).Nodup
        rw [if_neg hne]; exact n1
  · have m1' : a ∈ (if j = i then ft' else FT j) := m1
    have m2' : a ∈ (if l = i then ft' else FT l) := m2
    have at_ : ∀ j e, ρ[j]? = some (some e) → e.isOwn = true → j ≠ i → a ∈ FT j → a ∈ ft' → False := fun j e h o hne ha hf => by
      rcases sub a hf with hm | hm
      · exact hne (f2 j i e d a h o hi ho ha hm)
      · obtain ⟨u, _, q1, _⟩ := f1 j e h o
        obtain ⟨_, _, o', e'⟩ := q1.in_ a ha
        rw [hm] at e'; cases e'
    rcases set_cases h1 with ⟨ej, _, hb⟩ | ⟨hne, g1⟩
    · rcases set_cases h2 with ⟨el, _, hb'⟩ | ⟨hne', g2⟩
      · rw [ej, el]
      · rw [if_pos ej] at m1'
        rw [if_neg hne'] at m2'
        exact (at_ l e' g2 o2 hne' m2' m1').elim
    · rw [if_neg hne] at m1'
      rcases set_cases h2 with ⟨el, _, hb'⟩ | ⟨hne', g2⟩
      · rw [if_pos el] at m2'
        exact (at_ j e g1 o1 hne m1' m2').elim
      · rw [if_neg hne'] at m2'
        exact f2 j l e e' a g1 o1 g2 o2 m1' m2'
theorem RZ.write (r : RZ K S c B Z σ H ρ) {i : Nat} {kd kd' : OwnK} {ds ds' : List D} {a : Addr} {xs' : List V} (hi : ρ[i]? = some (some (.own kd ds))) (hs : σ[i]? = some (some (.ref a))) (hf : kd'.fits a xs') (q : RepL K (hide H Z) ds' xs') :
    RZ K S c B Z σ (upd H a (kd'.ho xs')) (ρ.set i (some (.own kd' ds'))) := by
  refine r.change hi rfl hs (fun _ z => z) (fun a z n => (n z).elim) (fun ft o nd => ?_) rfl
  unfold Own at o
  obtain ⟨b, xs, e1, rfl, z, n, e2, _, _⟩ := o
  cases e1
  refine ⟨fun b o e hb => by rw [upd_ne (fun q => hb (by rw [q]; exact List.mem_cons_self))]; exact e, fun b hb => by rw [List.mem_singleton.mp hb]; exact ⟨_, upd_same, ho_noX⟩, [a], ?_, nd, fun b hb => .inl hb⟩
  unfold Own
  exact ⟨a, xs', rfl, rfl, z, n, upd_same, hf, by rw [hide_upd z]; exact q⟩
end
section
variable {K : PySem.W.Frag} {S : Sit} {c : Cl} {te : TE} {ta : TA} {tt : TT} {a t : TED} {as : TAD} {p : TTD} {s1 s2 : TS} {d1 d2 : TSD}
def dNext : TSD := fun Dd ρ => Dd.nx ρ
theorem ws_next : WS K S c tNext dNext := fun _ σ H ρ _ _ r h f => f.nx σ H ρ r h
def dSeq (d1 d2 : TSD) : TSD := fun Dd ρ => d1 { Dd with nx := d2 Dd } ρ
theorem ws_seq (h1 : WS K S c s1 d1) (h2 : WS K S c s2 d2) : WS K S c (tSeq s1 s2) (dSeq d1 d2) := fun B σ H ρ Dd D r h f =>
  h1 B σ H ρ _ _ r h ⟨fun σ' H' ρ' r' h' => h2 B σ' H' ρ' Dd D r' h' f, f.rt, f.bk, f.ct⟩
def dRet (a : TED) : TSD := fun Dd ρ => a (view ρ) Dd.rt
theorem ws_ret (ha : WE K S c te a) : WS K S c (tRet te) (dRet a) := by
  rintro B σ H ρ Dd D ⟨Z, r⟩ h f
  exact ha c.Z0 σ H (view ρ) _ r.view h _ fun v H' d k i q hd => f.rt v H' d (r.rv.kp.trans k) i q hd
def dRetN : TSD := fun Dd _ => Dd.rt .non
def dIfS (p : TTD) (d1 d2 : TSD) : TSD := fun Dd ρ => p (view ρ) fun b => if b = true then d1 Dd ρ else d2 Dd ρ
theorem ws_if (hp : WT K S c tt p) (h1 : WS K S c s1 d1) (h2 : WS K S c s2 d2) : WS K S c (tIfS tt s1 s2) (dIfS p d1 d2) := by
  rintro B σ H ρ Dd D ⟨Z, r⟩ h f
  refine hp c.Z0 σ H (view ρ) _ r.view h _ fun b H' k i hb => ?_
  cases b with
  | true =>
    rw [if_pos rfl] at hb ⊢
    exact h1 B σ H' ρ Dd D ⟨Z, r.step k i⟩ hb f
  | false =>
    rw [if_neg Bool.false_ne_true] at hb ⊢
    exact h2 B σ H' ρ Dd D ⟨Z, r.step k i⟩ hb f
def dDrop (a : TED) : TSD := fun Dd ρ => a (view ρ) fun _ => Dd.nx ρ
theorem ws_drop (ha : WE K S c te a) : WS K S c (tDrop te) (dDrop a) := by
  rintro B σ H ρ Dd D ⟨Z, r⟩ h f
  exact ha c.Z0 σ H (view ρ) _ r.view h _ fun v H' d k i q hd => f.nx σ H' ρ ⟨Z, r.step k i⟩ hd
def dSet (i : Nat) (a : TED) : TSD := fun Dd ρ => a ρ fun d => Dd.nx (ρ.set i (some d))
theorem ws_set {i : Nat} (ha : WE K S c te a) : WS K S c (tAsg te (gName i)) (dSet i a) := by
  rintro B σ H ρ Dd D ⟨Z, r⟩ h f
  exact ha Z σ H ρ _ r.rv h _ fun v H' d k iv q hd => f.nx _ H' _ ⟨Z, (r.step k iv).set i q⟩ hd
def dOfN (as : TAD) : TED := fun ρ P => as ρ fun ds => P (.lst ds)
theorem we_of_wn (h : WN K S c te as) : WE K S c te (dOfN as) := by
  intro Z σ H ρ P r hp Q q
  refine h Z σ H ρ _ r hp Q fun p H' ds xs k i e0 e1 rl hd => q _ H' (.lst ds) k i ?_ hd
  unfold Rep
  exact ⟨p, xs, rfl, hide_some.mpr ⟨r.wd.fresh e0, e1⟩, RepL.mono (hide_weak fun a z => .inl z) ds xs rl⟩
theorem new_own {Z : Addr → Prop} {H : Hp} {ds : List D} {vs : List V} {l : Addr} (w : Wd S Z H) (hl : H l = none) (r : RepL K (hide H Z) ds vs) {o : HO} : RepL K (hide (upd H l o) (fun a => Z a ∨ a = l)) ds vs :=
  RepL.mono (fun a u e => by
    obtain ⟨n, e⟩ := hide_some.mp e
    have hne : a ≠ l := ne_of_none e hl
    exact hide_some.mpr ⟨fun z => z.elim n hne, by rw [upd_ne hne]; exact e⟩) ds vs r
def nLst (as : TAD) : TAD := fun ρ P => as ρ fun ds => ds.length ≤ 1000000 ∧ P ds
theorem wn_lst (hs : WA K S c ta as) : WN K S c (tLst ta) (nLst as) := by
  intro Z σ H ρ P rv h Q q
  refine hs Z σ H ρ _ rv h _ fun vs H1 ds k1 i1 r1 ⟨hz, h1⟩ => ?_
  have rv1 := rv.step k1 i1
  refine ⟨sz (by rw [← r1.len]; exact hz), fun l hl => ?_⟩
  have h0 : H l = none := by
    cases e : H l with
    | none => rfl
    | some o =>
      have hw : ¬ S.W l := fun w => by
        obtain ⟨u, e'⟩ := S.there H1 l i1 w
        rw [hl] at e'; cases e'
      have := k1 l o e hw
      rw [hl] at this; cases this
  exact q l _ ds vs (k1.trans (Kp.new hl)) (rv1.wd.inew hl) h0 upd_same (new_own rv1.wd hl r1) h1
theorem back_none {H H1 : Hp} {l : Addr} (k : Kp S H H1) (i1 : S.I H1) (hl : H1 l = none) : H l = none := by
  cases e : H l with
  | none => rfl
  | some o =>
    have hw : ¬ S.W l := fun w => by
      obtain ⟨u, e'⟩ := S.there H1 l i1 w
      rw [hl] at e'; cases e'
    have := k l o e hw
    rw [hl] at this; cases this
def nList (as : TAD) : TAD := fun ρ P => as ρ fun ds => match ds with
  | [x] => match x.items with
    | some xs => P xs
    | none => False
  | _ => False
theorem wn_list (hs : WA K S c ta as) : WN K S c (tCB (fun xs H Q => ∃ p ys, xs = [.ref p] ∧ (SqL K H p ys ∨ SqT K H p ys) ∧ ∀ l, H l = none → Q (.ref l) (upd H l (.lst ys))) ta) (nList as) := by
  intro Z σ H ρ P rv h Q q
  refine hs Z σ H ρ _ rv h _ fun vs H1 ds k1 i1 r1 h1 => ?_
  have rv1 := rv.step k1 i1
  split at h1
  · obtain ⟨v, rfl, r9⟩ := repL1 r1
    split at h1
    · rename_i e
      obtain ⟨p, ys, rfl, g1, g2⟩ := items_rep e r9
      exact ⟨p, ys, rfl, sq_hide g1, fun l hl => q l _ _ ys (k1.trans (Kp.new hl)) (rv1.wd.inew hl) (back_none k1 i1 hl) upd_same (new_own rv1.wd hl g2) h1⟩
    · exact h1.elim
  · exact h1.elim
def dSetN (i : Nat) (as : TAD) : TSD := fun Dd ρ => as ρ fun ds => Dd.nx (ρ.set i (some (.own .lst ds)))
theorem ws_setN {i : Nat} (ha : WN K S c te as) : WS K S c (tAsg te (gName i)) (dSetN i as) := by
  rintro B σ H ρ Dd D ⟨Z, r⟩ h f
  exact ha Z σ H ρ _ r.rv h _ fun p H' ds xs k iv e0 e1 rl hd => f.nx _ H' _ ⟨_, r.setOwn (kd := .lst) i k iv e0 e1 trivial rl⟩ hd
def dApp (i : Nat) (a : TED) : TSD := fun Dd ρ => a ρ fun d => match ρ[i]? with
  | some (some (.own .lst ds)) => ds.length < 1000000 ∧ Dd.nx (ρ.set i (some (.own .lst (ds ++ [d]))))
  | _ => False
theorem ws_app {i : Nat} (ha : WE K S c te a) (hown : True) : WS K S c (tDrop (tBM K "list" rAppend (tVar i) (tCons te tNil))) (fun Dd ρ => (∃ ds, ρ[i]? = some (some (.own .lst ds))) ∧ dApp i a Dd ρ) := by
  rintro B σ H ρ Dd D ⟨Z, r⟩ ⟨⟨ds, hi⟩, h⟩ f
  obtain ⟨l, xs, e1, z, h0, e2, _, q0⟩ := r.own i .lst ds hi
  refine ⟨_, e1, .inl ⟨rfl, xs, .inl (.inl e2)⟩, ?_⟩
  refine ha Z σ H ρ _ r.rv h _ fun v H' d k iv q hd => ?_
  rw [hi] at hd
  obtain ⟨hz, hd⟩ := hd
  have r1 := r.step k iv
  obtain ⟨l', xs', e1', z', _, e2', _, q0'⟩ := r1.own i .lst ds hi
  rw [e1] at e1'
  cases e1'
  refine ⟨l, xs', v, rfl, rfl, e2', szl (by rw [← q0'.len]; exact hz), ?_⟩
  exact f.nx σ _ _ ⟨Z, r1.write (kd' := .lst) hi e1 trivial (q0'.append (RepL.cons q RepL.nil))⟩ hd
def dPar (i j : Nat) (as : TAD) : TSD := fun Dd ρ => as ρ fun ds => match ds with
  | [x, y] => Dd.nx ((ρ.set i (some x)).set j (some y))
  | _ => False
end
section
variable {K : PySem.W.Frag} {S : Sit} {c : Cl} {te : TE} {a : TED} {g : TG} {gs : TGs} {gd : TGD} {gds : List D → EnvD → (EnvD → Prop) → Prop} {ix iy : List Nat}
def hName (i : Nat) : TGD := fun d ρ P => P (ρ.set i (some d))
theorem wg_name {i : Nat} : WG K (gName i) (hName i) [i] := fun Z H R hR σ ρ d v P r q h Q k => k _ _ (hR σ ρ i d v (by simp) r q) h
def hNil : List D → EnvD → (EnvD → Prop) → Prop := fun ds ρ P => match ds with
  | [] => P ρ
  | _ => False
def hCons (gd : TGD) (gds : List D → EnvD → (EnvD → Prop) → Prop) : List D → EnvD → (EnvD → Prop) → Prop := fun ds ρ P => match ds with
  | d :: ds => gd d ρ fun ρ' => gds ds ρ' P
  | [] => False
theorem wgs_nil : WGs K gNil hNil [] := by
  intro Z H R hR σ ρ ds vs P r q h Q k
  cases ds with
  | nil =>
    unfold RepL at q
    exact ⟨q, k σ ρ r h⟩
  | cons _ _ => exact h.elim
theorem wgs_cons (h1 : WG K g gd ix) (h2 : WGs K gs gds iy) : WGs K (gCons g gs) (hCons gd gds) (ix ++ iy) := by
  intro Z H R hR σ ρ ds vs P r q h Q k
  cases ds with
  | nil => exact h.elim
  | cons d ds =>
    unfold RepL at q
    obtain ⟨v, vs', rfl, q1, q2⟩ := q
    refine ⟨v, vs', rfl, ?_⟩
    refine h1 Z H R (fun σ ρ i d v hi => hR σ ρ i d v (List.mem_append_left _ hi)) σ ρ d v _ r q1 h _ fun σ' ρ' r' h' => ?_
    exact h2 Z H R (fun σ ρ i d v hi => hR σ ρ i d v (List.mem_append_right _ hi)) σ' ρ' ds vs' P r' q2 h' Q k
def hTup (n : Nat) (gds : List D → EnvD → (EnvD → Prop) → Prop) : TGD := fun d ρ P => match d with
  | .tup ds => ds.length = n ∧ gds ds ρ P
  | _ => False
theorem wg_tup {n : Nat} (h : WGs K gs gds ix) : WG K (gTup K n gs) (hTup n gds) ix := by
  intro Z H R hR σ ρ d v P r q hp Q k
  cases d <;> try exact hp.elim
  obtain ⟨hl, hp⟩ := hp
  unfold Rep at q
  obtain ⟨p, xs, rfl, h1, h2⟩ := q
  exact ⟨p, xs, rfl, ex_t hide_ex h1, by rw [← h2.len]; exact hl, h Z H R hR σ ρ _ xs P r h2 hp Q k⟩
def dAsg (a : TED) (gd : TGD) : TSD := fun Dd ρ => a ρ fun d => gd d ρ Dd.nx
end
section
variable {K : PySem.W.Frag} {S : Sit} {c : Cl} {te : TE} {ta : TA} {a : TED} {as : TAD}
def iLstD (a : TED) : TAD := fun ρ P => a ρ fun d => match d with
  | .lst ds => P ds
  | _ => False
theorem wi_list (ha : WE K S c te a) : WI K S c (iList K te) (iLstD a) := by
  intro Z σ H ρ P rv h Q q
  refine ha Z σ H ρ _ rv h _ fun v H1 d k iv r hd => ?_
  cases d <;> try exact hd.elim
  rename_i ds
  unfold Rep at r
  obtain ⟨p, xs, rfl, h1, h2⟩ := r
  refine ⟨p, rfl, ⟨xs, .inl (.inl (hide_ex _ _ h1))⟩, q _ H1 ds k iv hd fun H2 Z2 e z => ?_⟩
  have g1 : H2 p = some (.lst xs) := hide_ex _ _ (e _ _ h1)
  have g2 : SqL K H2 p xs := .inl (.inl g1)
  refine ⟨fun i d hi => ?_, ⟨xs, g2, by rw [h2.len]; exact Nat.le_refl _⟩⟩
  obtain ⟨x, hx, rx⟩ := h2.get hi
  refine ⟨⟨xs, x, g2, hx⟩, fun y H' ⟨e1, e2⟩ => ?_⟩
  subst e1
  have e3 := e2 xs g2
  rw [hx] at e3
  cases e3
  exact ⟨fun _ _ h => h, Rep.mono e d x rx⟩
def iTupD (a : TED) : TAD := fun ρ P => a ρ fun d => match d with
  | .tup ds => P ds
  | _ => False
theorem wi_tup (ha : WE K S c te a) : WI K S c (iTup K te) (iTupD a) := by
  intro Z σ H ρ P rv h Q q
  refine ha Z σ H ρ _ rv h _ fun v H1 d k iv r hd => ?_
  cases d <;> try exact hd.elim
  rename_i ds
  unfold Rep at r
  obtain ⟨p, xs, rfl, h1, h2⟩ := r
  refine ⟨p, rfl, ⟨xs, ex_t hide_ex h1⟩, q _ H1 ds k iv hd fun H2 Z2 e z => ?_⟩
  have g2 : SqT K H2 p xs := ex_t (fun a o q => hide_ex _ _ (e a o q)) h1
  refine ⟨fun i d hi => ?_, ⟨xs, g2, by rw [h2.len]; exact Nat.le_refl _⟩⟩
  obtain ⟨x, hx, rx⟩ := h2.get hi
  refine ⟨⟨xs, x, g2, hx⟩, fun y H' ⟨e1, e2⟩ => ?_⟩
  subst e1
  have e3 := e2 xs g2
  rw [hx] at e3
  cases e3
  exact ⟨fun _ _ h => h, Rep.mono e d x rx⟩
def rngD (lo : Int) (n : Nat) : List D := (List.range n).map fun k : Nat => .int (lo + (k : Int))
theorem rng_yields {lo : Int} {n : Nat} {B : Hp} : Yields K (Itr lo n) B (rngD lo n) := by
  intro H2 Z2 e z
  have hl : (rngD lo n).length = n := by unfold rngD; simp
  refine ⟨fun i d hi => ?_, by rw [hl]; exact Nat.le_refl n⟩
  have hb : i < n := by
    have := (List.getElem?_eq_some_iff.mp hi).1
    omega
  have e1 : d = .int (lo + (i : Int)) := by
    unfold rngD at hi
    rw [List.getElem?_map, List.getElem?_range hb] at hi
    cases hi
    rfl
  subst e1
  refine ⟨hb, fun y H' ⟨e1, e2⟩ => ?_⟩
  subst e1 e2
  exact ⟨fun _ _ h => h, repI⟩
def iRng1D (as : TAD) : TAD := fun ρ P => as ρ fun ds => match ds with
  | [.int n] => (-1000000000 ≤ n ∧ n ≤ 1000000000000000000000 ∧ n < 2 ^ 62) ∧ P (rngD 0 n.toNat)
  | _ => False
def iRng2D (as : TAD) : TAD := fun ρ P => as ρ fun ds => match ds with
  | [.int lo, .int n] => (-(2 ^ 62) ≤ lo ∧ lo < 2 ^ 62 ∧ -(2 ^ 62) ≤ n ∧ n < 2 ^ 62) ∧ P (rngD lo (n - lo).toNat)
  | _ => False
theorem wi_rng1 (hs : WA K S c ta as) : WI K S c (iRng1 ta) (iRng1D as) := by
  intro Z σ H ρ P rv h Q q
  refine hs Z σ H ρ _ rv h _ fun vs H1 ds k iv r hd => ?_
  split at hd
  · obtain ⟨v, rfl, r1⟩ := repL1 r
    unfold Rep at r1
    subst r1
    exact ⟨_, rfl, by omega, by omega, q _ H1 _ k iv hd.2 rng_yields⟩
  · exact hd.elim
theorem wi_rng2 (hs : WA K S c ta as) : WI K S c (iRng2 ta) (iRng2D as) := by
  intro Z σ H ρ P rv h Q q
  refine hs Z σ H ρ _ rv h _ fun vs H1 ds k iv r hd => ?_
  split at hd
  · obtain ⟨v, u, rfl, r1, r2⟩ := repL2 r
    unfold Rep at r1 r2
    subst r1 r2
    exact ⟨_, _, rfl, hd.1, q _ H1 _ k iv hd.2 rng_yields⟩
  · exact hd.elim
theorem wiv_rng1 (hs : WA K S c ta as) : WIv K S c (iRng1 ta) (iRng1D as) := by
  intro Z σ H ρ P rv h Q q
  refine hs Z σ H ρ _ rv h _ fun vs H1 ds k iv r hd => ?_
  split at hd
  · obtain ⟨v, rfl, r1⟩ := repL1 r
    unfold Rep at r1
    subst r1
    exact ⟨_, rfl, by omega, by omega, q _ H1 _ k iv hd.2 fun _ => rng_yields⟩
  · exact hd.elim
end
section
variable {K : PySem.W.Frag} {S : Sit} {c : Cl} {wi : TI} {it : TAD} {g : TG} {gd : TGD} {ix : List Nat} {tb : TS} {body : TSD} {tt : TT} {p : TTD}
@[irreducible] def loopD (ds : List D) (gd : TGD) (body : TSD) (Dd : EndsD) (ρ : EnvD) : Prop := ∃ J : Nat → EnvD → Prop, J 0 ρ ∧
  (∀ (i : Nat) d ρ', ds[i]? = some d → J i ρ' → gd d ρ' fun ρ2 => body { Dd with nx := J (i + 1), ct := J (i + 1), bk := Dd.nx } ρ2) ∧ ∀ ρ', J ds.length ρ' → Dd.nx ρ'
def dFor (it : TAD) (gd : TGD) (body : TSD) : TSD := fun Dd ρ => it ρ fun ds => loopD ds gd body Dd ρ
def dForV (it : TAD) (gd : TGD) (body : TSD) : TSD := fun Dd ρ => it (view ρ) fun ds => loopD ds gd body Dd ρ
theorem loop_ok (hg : WG K g gd ix) (hb : WS K S c tb body) {J : It} {B B1 : Hp} {Z : Addr → Prop} {σ : L2.St} {H : Hp} {ρ : EnvD} {ds : List D} {Dd : EndsD} {D : Ends} (r : RZ K S c B1 Z σ H ρ) (eB : Ex B B1) (y : Yields K J B1 ds) (h : loopD ds gd body Dd ρ) (f : Fit K S c B Dd D) :
    ∃ W : Nat → Nat → L2.St → Hp → Prop, (∃ m, W 0 m σ H) ∧ ∀ i m σ H, W i m σ H →
      (J.stop i H ∧ D.nx σ H) ∨ (J.go i H ∧ ∃ N : L2.St → Hp → Prop, (∀ σ' H', N σ' H' → ∃ m', m' < m ∧ W (i + 1) m' σ' H') ∧ ∀ x H', J.yld i H x H' → g x σ H' fun σ2 H2 => tb { D with nx := N, ct := N, bk := D.nx } σ2 H2) := by
  unfold loopD at h
  obtain ⟨Jd, j0, jt, je⟩ := h
  refine ⟨fun i m σ' H' => i + m = ds.length ∧ ∃ ρ', RS K S c B1 σ' H' ρ' ∧ Jd i ρ', ⟨ds.length, by omega, ρ, ⟨Z, r⟩, j0⟩, fun i m σ1 H1 ⟨hm, ρ1, ⟨Z1, r1⟩, j1⟩ => ?_⟩
  obtain ⟨y1, y2⟩ := y H1 Z1 r1.ex r1.rv.wd.zin
  by_cases hi : i = ds.length
  · subst hi
    exact .inl ⟨y2, f.nx σ1 H1 ρ1 ⟨Z1, r1.base eB⟩ (je ρ1 j1)⟩
  · have hlt : i < ds.length := by omega
    obtain ⟨g1, g2⟩ := y1 i ds[i] (List.getElem?_eq_getElem hlt)
    refine .inr ⟨g1, fun σ' H' => i + 1 + (m - 1) = ds.length ∧ ∃ ρ', RS K S c B1 σ' H' ρ' ∧ Jd (i + 1) ρ', fun σ' H' hw => ⟨m - 1, by omega, hw⟩, fun x H2 hx => ?_⟩
    obtain ⟨e2, rx⟩ := g2 x H2 hx
    have k2 : Kp S H1 H2 := Kp.of e2
    have i2 : S.I H2 := S.stab H1 H2 (fun w o eo _ => e2 w o eo) r1.rv.wd.inv
    refine hg Z1 H2 (fun σ ρ => RZ K S c B1 Z1 σ H2 ρ) (fun σ ρ i d v _ r q => r.set i q) σ1 ρ1 ds[i] x _ (r1.step k2 i2) rx (jt i _ ρ1 (List.getElem?_eq_getElem hlt) j1) _ fun σ3 ρ3 r3 h3 => ?_
    refine hb B1 σ3 H2 ρ3 _ _ ⟨Z1, r3⟩ h3 ⟨fun σ' H' ρ' r' h' => ⟨by omega, ρ', r', h'⟩, f.rt, fun σ' H' ρ' r' h' => ?_, fun σ' H' ρ' r' h' => ⟨by omega, ρ', r', h'⟩⟩
    obtain ⟨Z', r'⟩ := r'
    exact f.nx σ' H' ρ' ⟨Z', r'.base eB⟩ h'
theorem ws_for (hi : WI K S c wi it) (hg : WG K g gd ix) (hb : WS K S c tb body) : WS K S c (tFor wi g tb) (dFor it gd body) := by
  rintro B σ H ρ Dd D ⟨Z, r⟩ h f
  refine hi Z σ H ρ _ r.rv h _ fun J H1 ds k iv hd y => ?_
  have r1 := r.step k iv
  exact loop_ok hg hb r1.rebase (fun a o e => r1.ex a o e) y hd f
theorem ws_forV (hi : WIv K S c wi it) (hg : WG K g gd ix) (hb : WS K S c tb body) : WS K S c (tFor wi g tb) (dForV it gd body) := by
  rintro B σ H ρ Dd D ⟨Z, r⟩ h f
  refine hi c.Z0 σ H (view ρ) _ r.view h _ fun J H1 ds k iv hd y => ?_
  have r1 := r.step k iv
  exact loop_ok hg hb r1.rebase (fun a o e => r1.ex a o e) (y _) hd f
def dWhile (p : TTD) (body : TSD) : TSD := fun Dd ρ => ∃ J : Nat → EnvD → Prop, (∃ m, J m ρ) ∧ ∀ m ρ', J m ρ' → p (view ρ') fun b =>
  if b = true then body { Dd with nx := fun ρ2 => ∃ m', m' < m ∧ J m' ρ2, ct := fun ρ2 => ∃ m', m' < m ∧ J m' ρ2, bk := Dd.nx } ρ' else Dd.nx ρ'
theorem ws_while (hp : WT K S c tt p) (hb : WS K S c tb body) : WS K S c (tWhile tt tb) (dWhile p body) := by
  rintro B σ H ρ Dd D ⟨Z, r⟩ ⟨J, ⟨m, j0⟩, jt⟩ f
  refine ⟨fun m σ H => ∃ ρ, RS K S c B σ H ρ ∧ J m ρ, ⟨m, ρ, ⟨Z, r⟩, j0⟩, fun m σ1 H1 ⟨ρ1, ⟨Z1, r1⟩, j1⟩ => ?_⟩
  refine hp c.Z0 σ1 H1 (view ρ1) _ r1.view (jt m ρ1 j1) _ fun b H2 k iv hd => ?_
  have r2 := r1.step k iv
  cases b with
  | true =>
    rw [if_pos rfl] at hd ⊢
    refine ⟨fun σ' H' => ∃ ρ', RS K S c B σ' H' ρ' ∧ ∃ m', m' < m ∧ J m' ρ', fun σ' H' ⟨ρ', r', m', hm, j'⟩ => ⟨m', hm, ρ', r', j'⟩, ?_⟩
    exact hb B σ1 H2 ρ1 _ _ ⟨Z1, r2⟩ hd ⟨fun σ' H' ρ' r' h' => ⟨ρ', r', h'⟩, f.rt, f.nx, fun σ' H' ρ' r' h' => ⟨ρ', r', h'⟩⟩
  | false =>
    rw [if_neg Bool.false_ne_true] at hd ⊢
    exact f.nx σ1 H2 ρ1 ⟨Z1, r2⟩ hd
end
end DL
end
section
namespace DL
open PySem PySem.Spec PyProof.Rows L2
def wipeD (ρ : EnvD) : List Nat → EnvD
  | [] => ρ
  | v :: vs => (wipeD ρ vs).set v none
theorem wipeD_len (ρ : EnvD) : ∀ vs : List Nat, (wipeD ρ vs).length = ρ.length
  | [] => rfl
  | v :: vs => by unfold wipeD; rw [List.length_set, wipeD_len ρ vs]
theorem wipeD_some {ρ : EnvD} {i : Nat} {x : D} : ∀ {vs : List Nat}, (wipeD ρ vs)[i]? = some (some x) → ρ[i]? = some (some x) ∧ i ∉ vs
  | [], h => ⟨h, by simp⟩
  | v :: vs, h => by
    unfold wipeD at h
    by_cases hi : v = i
    · subst hi
      by_cases hv : v < (wipeD ρ vs).length
      · rw [List.getElem?_set_self hv] at h; cases h
      · rw [List.getElem?_eq_none (by simpa using hv)] at h; cases h
    · rw [List.getElem?_set_ne hi] at h
      obtain ⟨h1, h2⟩ := wipeD_some h
      exact ⟨h1, by simp only [List.mem_cons, not_or]; exact ⟨fun e => hi e.symm, h2⟩⟩
theorem wipe_get {σ : L2.St} {i : Nat} : ∀ {vs : List Nat}, (wipe σ vs)[i]? = if i ∈ vs then (if i < σ.length then some none else none) else σ[i]?
  | [] => by simp [wipe]
  | v :: vs => by
    unfold wipe
    by_cases hv : v = i
    · subst hv
      rw [if_pos List.mem_cons_self]
      by_cases hb : v < σ.length
      · rw [if_pos hb, List.getElem?_set_self (by rw [wipe_length]; exact hb)]
      · rw [if_neg hb, List.getElem?_eq_none (by rw [List.length_set, wipe_length]; omega)]
    · rw [List.getElem?_set_ne hv, wipe_get]
      have e : (i ∈ v :: vs) ↔ i ∈ vs := by
        simp only [List.mem_cons]
        exact ⟨fun h => h.elim (fun h => (hv h.symm).elim) id, .inr⟩
      simp only [e]
theorem wipe_set {σ : L2.St} {i : Nat} {x : Option V} {vs : List Nat} (h : i ∈ vs) : wipe (σ.set i x) vs = wipe σ vs := by
  apply List.ext_getElem?
  intro j
  rw [wipe_get, wipe_get, List.length_set]
  by_cases hj : j ∈ vs
  · rw [if_pos hj, if_pos hj]
  · rw [if_neg hj, if_neg hj, List.getElem?_set_ne (fun e => hj (by rw [← e]; exact h))]
theorem wipe_wipe {σ : L2.St} {vs : List Nat} : wipe (wipe σ vs) vs = wipe σ vs := by
  apply List.ext_getElem?
  intro j
  rw [wipe_get, wipe_length]
  by_cases hj : j ∈ vs
  · rw [if_pos hj, wipe_get, if_pos hj]
  · rw [if_neg hj]
section
variable {K : PySem.W.Frag} {S : Sit} {c : Cl} {wi : TI} {it : TAD} {g : TG} {gd : TGD} {ix vs : List Nat} {tt : TT} {p : TTD} {te : TE} {e : TED}
@[irreducible] def compD (ds : List D) (gd : TGD) (p : TTD) (e : TED) (ρ : EnvD) (P : List D → Prop) : Prop := ∃ J : Nat → List D → Prop, J 0 [] ∧
  (∀ (i : Nat) d acc, ds[i]? = some d → J i acc → acc.length < 1000000 ∧ gd d ρ fun ρ2 => p ρ2 fun b => if b = true then e ρ2 fun y => J (i + 1) (acc ++ [y]) else J (i + 1) acc) ∧ ∀ acc, J ds.length acc → P acc
def nLc (it : TAD) (gd : TGD) (p : TTD) (e : TED) (vs : List Nat) : TAD := fun ρ P => it ρ fun ds => compD ds gd p e (wipeD ρ vs) P
def dYes : TTD := fun _ P => P true
theorem wt_yes : WT K S c tYes dYes := fun Z σ H ρ P r h Q q => q true H (Kp.refl H) r.wd.inv h
theorem wn_lc (hi : WI K S c wi it) (hg : WG K g gd ix) (hix : ∀ i ∈ ix, i ∈ vs) (hp : WT K S c tt p) (he : WE K S c te e) : WN K S c (tLc wi g tt te vs) (nLc it gd p e vs) := by
  intro Z σ H ρ P rv h Q q
  refine hi Z σ H ρ _ rv h _ fun J H1 ds k iv hd y => ?_
  have rv1 := rv.step k iv
  intro Dl hD
  unfold compD at hd
  obtain ⟨Jd, j0, jt, je⟩ := hd
  have h0 : H Dl = none := back_none k iv hD
  have zD : ¬ Z Dl := rv.wd.fresh h0
  have ex0 : ∀ {H2 : Hp}, Kp S H1 H2 → Ex (hide H1 Z) (hide H2 (fun a => Z a ∨ a = Dl)) := fun {H2} k2 a o e => by
    obtain ⟨n, e⟩ := hide_some.mp e
    have hne : a ≠ Dl := ne_of_none e hD
    exact hide_some.mpr ⟨fun z => z.elim n hne, k2 a o e fun w => n (rv1.wd.wz a w)⟩
  have RV1 : ∀ {H2 : Hp}, Kp S H1 H2 → S.I H2 → (∃ o, H2 Dl = some o ∧ isX o = false) → RV K S c (fun a => Z a ∨ a = Dl) (wipe σ vs) H2 (wipeD ρ vs) := fun {H2} k2 i2 hDl => by
    have r2 := rv1.step k2 i2
    refine ⟨⟨fun b u e => ⟨(r2.wd.base b u e).1, fun z => z.elim (r2.wd.base b u e).2 fun q => by have q9 := (rv1.wd.base b u e).1; rw [q, hD] at q9; cases q9⟩, fun a w => .inl (r2.wd.wz a w), fun a z => ?_, fun a o z e => z.elim (fun z => r2.wd.zx a o z e) (fun z => by
      obtain ⟨u, h1, h2⟩ := hDl
      rw [z, h1] at e
      rw [← Option.some.inj e]
      exact h2), i2⟩, r2.kp, fun a z => .inl (rv.zz a z), by rw [wipe_length, wipeD_len]; exact rv.len, fun i d hi n => ?_⟩
    · rcases z with z | z
      · exact r2.wd.zin a z
      · subst z; exact hDl.imp fun o h => h.1
    · obtain ⟨h1, h2⟩ := wipeD_some hi
      obtain ⟨v, e1, q1⟩ := rv1.sl i d h1 n
      exact ⟨v, by rw [wipe_get, if_neg h2]; exact e1, Rep.mono (ex0 k2) d v q1⟩
  refine ⟨fun i m H2 => i + m = ds.length ∧ Kp S H1 H2 ∧ S.I H2 ∧ ∃ acc xs, H2 Dl = some (.lst xs) ∧ RepL K (hide H2 (fun a => Z a ∨ a = Dl)) acc xs ∧ Jd i acc, ⟨ds.length, by omega, Kp.new hD, rv1.wd.inew hD, [], [], upd_same, RepL.nil, j0⟩, ?_⟩
  rintro i m H2 ⟨hm, k2, i2, acc, xs, hl, rl, jd⟩
  have r2 := RV1 k2 i2 ⟨_, hl, rfl⟩
  obtain ⟨y1, y2⟩ := y H2 (fun a => Z a ∨ a = Dl) (ex0 k2) r2.wd.zin
  by_cases hi' : i = ds.length
  · subst hi'
    exact .inl ⟨y2, q Dl H2 acc xs (k.trans k2) i2 h0 hl rl (je acc jd)⟩
  · have hlt : i < ds.length := by omega
    obtain ⟨g1, g2⟩ := y1 i ds[i] (List.getElem?_eq_getElem hlt)
    refine .inr ⟨g1, fun H' => i + 1 + (m - 1) = ds.length ∧ Kp S H1 H' ∧ S.I H' ∧ ∃ acc xs, H' Dl = some (.lst xs) ∧ RepL K (hide H' (fun a => Z a ∨ a = Dl)) acc xs ∧ Jd (i + 1) acc, fun H' hw => ⟨m - 1, by omega, hw⟩, fun x H3 hx => ?_⟩
    obtain ⟨e3, rx⟩ := g2 x H3 hx
    have k3 : Kp S H2 H3 := Kp.of e3
    have i3 : S.I H3 := S.stab H2 H3 (fun w o eo _ => e3 w o eo) i2
    have r3 := r2.step k3 i3
    obtain ⟨hz, ht⟩ := jt i ds[i] acc (List.getElem?_eq_getElem hlt) jd
    refine hg (fun a => Z a ∨ a = Dl) H3 (fun σ' ρ' => RV K S c (fun a => Z a ∨ a = Dl) σ' H3 ρ' ∧ wipe σ' vs = wipe σ vs) (fun σ' ρ' j d v hj r q => ⟨r.1.set j q, by rw [wipe_set (hix j hj)]; exact r.2⟩) (wipe σ vs) (wipeD ρ vs) ds[i] x _ ⟨r3, wipe_wipe⟩ rx ht _ fun σ4 ρ4 ⟨r4, w4⟩ h4 => ?_
    refine ⟨w4, ?_⟩
    refine hp _ σ4 H3 ρ4 _ r4 h4 _ fun b H5 k5 i5 h5 => ?_
    have r5 := r4.step k5 i5
    have hl3 : H3 Dl = some (.lst xs) := e3 Dl _ hl
    have hwD : ¬ S.W Dl := fun w => zD (rv.wd.wz Dl w)
    have hl5 : H5 Dl = some (.lst xs) := k5 Dl _ hl3 hwD
    have rl5 := RepL.mono (r4.wd.ex k5) acc xs (RepL.mono (r2.wd.ex k3) acc xs rl)
    cases b with
    | true =>
      rw [if_pos rfl] at h5 ⊢
      refine he _ σ4 H5 ρ4 _ r5 h5 _ fun v H6 d6 k6 i6 r6 h6 => ?_
      have hl6 : H6 Dl = some (.lst xs) := k6 Dl _ hl5 hwD
      have rl6 := RepL.mono (r5.wd.ex k6) acc xs rl5
      have k16 : Kp S H1 H6 := ((k2.trans k3).trans k5).trans k6
      refine ⟨xs, hl6, szl (by rw [← rl.len]; exact hz), by omega, fun b o e n => ?_, S.stab H6 _ (fun w o eo hw => by
        rw [upd_ne fun e => hw.elim (fun hw => hwD (by rw [← e]; exact hw)) fun hx => by
          rw [e, hl6] at eo; cases eo; cases hx]
        exact eo) i6, acc ++ [d6], xs ++ [v], upd_same, ?_, h6⟩
      · rw [upd_ne (ne_of_none e hD)]
        exact k16 b o e n
      · rw [hide_upd (.inr rfl)]
        exact rl6.append (RepL.cons r6 RepL.nil)
    | false =>
      rw [if_neg Bool.false_ne_true] at h5 ⊢
      exact ⟨by omega, (k2.trans k3).trans k5, i5, acc, xs, hl5, rl5, h5⟩
end
def fgetD : List Str → List D → Str → Option D
  | f :: fs, d :: ds, g => if g = f then some d else fgetD fs ds g
  | _, _, _ => none
theorem fget_rep {K : PySem.W.Frag} {H : Hp} : ∀ {fn : List Str} {ds : List D} {xs : List V} {g : Str} {d : D}, RepL K H ds xs → fgetD fn ds g = some d → ∃ v, (fn.zip xs).lookup g = some v ∧ Rep K H d v
  | [], _, _, _, _, _, h => by simp [fgetD] at h
  | _ :: _, [], _, _, _, _, h => by simp [fgetD] at h
  | f :: fs, d :: ds, _, g, d', r, h => by
    unfold RepL at r
    obtain ⟨v, vs, rfl, h1, h2⟩ := r
    unfold fgetD at h
    by_cases e : g = f
    · rw [if_pos e] at h
      cases h
      subst e
      exact ⟨v, by simp [List.lookup], h1⟩
    · rw [if_neg e] at h
      obtain ⟨v', e1, r1⟩ := fget_rep h2 h
      have qw : (g == f) = false := by simpa using e
      exact ⟨v', by simp [List.lookup, qw]; exact e1, r1⟩
section
variable {K : PySem.W.Frag} {S : Sit} {c : Cl} {ta : TE} {a : TED} {ts : TA} {as : TAD} {C : Addr} {f m : Str}
def dFldC (C : Addr) (f : Str) (a : TED) : TED := fun ρ P => a ρ fun x => match x with
  | .ins C' fn ds => C' = C ∧ match fgetD fn ds f with
    | some d => P d
    | none => False
  | _ => False
theorem we_fld (hc : Cls K C) (hn : NoAttr K C f) (ha : WE K S c ta a) : WE K S c (tFld K ta f) (dFldC C f a) := by
  intro Z σ H ρ P rv h Q q
  refine ha Z σ H ρ _ rv h _ fun v H1 d k iv r hd => ?_
  cases d <;> try exact hd.elim
  obtain ⟨rfl, hd⟩ := hd
  unfold Rep at r
  obtain ⟨p, dx, xs, rfl, h1, h2, h3⟩ := r
  split at hd
  · rename_i d e
    obtain ⟨v, e1, r1⟩ := fget_rep h3 e
    exact ⟨p, _, dx, _, v, rfl, hide_ex _ _ h1, hc, hn, e1, q v H1 d k iv r1 hd⟩
  · exact hd.elim
def x0 : XD := fun _ _ => False
def dCall (spd : SpD) (x : XD) (as : TAD) : TED := fun ρ P => as ρ fun ds => spd ds P x
theorem we_call0 {spd : SpD} (hs : WA K S c ts as) : WE K S c (tCall (liftSp K S spd) [] E0 ts) (dCall spd x0 as) := by
  intro Z σ H ρ P rv h Q q
  refine hs Z σ H ρ _ rv h _ fun vs H1 ds k iv r hd => ?_
  have rv1 := rv.step k iv
  rw [List.append_nil]
  exact ⟨Z, ds, P, x0, rv1.wd, r, hd, fun v H' d k' i' r' h' => q v H' d (k.trans k') i' r' h', fun _ _ _ _ _ _ _ h => h.elim⟩
def dMeth (C : Addr) (m : Str) (spd : SpD) (x : XD) (a : TED) (as : TAD) : TED := fun ρ P => a ρ fun o => match o with
  | .ins C' fn ds => (C' = C ∧ m ∉ fn) ∧ as ρ fun es => spd (.ins C' fn ds :: es) P x
  | _ => False
def dProp (C : Addr) (spd : SpD) (a : TED) : TED := fun ρ P => a ρ fun o => match o with
  | .ins C' fn ds => C' = C ∧ spd [.ins C' fn ds] P x0
  | _ => False
theorem we_prop {spd : SpD} (ha : WE K S c ta a) : WE K S c (tProp C (liftSp K S spd) [] E0 ta) (dProp C spd a) := by
  intro Z σ H ρ P rv h Q q
  refine ha Z σ H ρ _ rv h _ fun v H1 d k iv r hd => ?_
  have rv1 := rv.step k iv
  cases d <;> try exact hd.elim
  obtain ⟨rfl, hd⟩ := hd
  have r0 := r
  unfold Rep at r
  obtain ⟨p, dx, xs, rfl, h1, h2, h3⟩ := r
  exact ⟨p, dx, _, rfl, hide_ex _ _ h1, Z, _, P, x0, rv1.wd, RepL.cons r0 RepL.nil, hd, fun v H' d k' i' r' h' => q v H' d (k.trans k') i' r' h', fun _ _ _ _ _ _ _ h => h.elim⟩
def liftIn (K : PySem.W.Frag) (S : Sit) (C : Addr) (spd : InD) : Sp := fun us H Q E => ∃ (p dx : Addr) (vs : List V) (Z : Addr → Prop) (ds : List D) (P : List Str → List D → Prop) (x : XD), us = .ref p :: vs ∧ H p = some (.ins C dx []) ∧ Wd S Z H ∧ Z p ∧ ¬ S.W p ∧
  S.Hs p = none ∧ RepL K (hide H Z) ds vs ∧ spd ds P x ∧
  (∀ H' fn es xs, (∀ b o, H b = some o → b ≠ p → ¬ S.W b → H' b = some o) → S.I H' → H' p = some (.ins C dx (fn.zip xs)) → fn.length = xs.length → RepL K (hide H' Z) es xs → P fn es → Q .non H') ∧
  (∀ cls dd H' fs, (∀ b o, H b = some o → b ≠ p → ¬ S.W b → H' b = some o) → S.I H' → XRep K (hide H' (fun a => Z a ∧ a ≠ p)) dd fs → x cls fs → E (.ref cls) dd H')
theorem in_of {spd : InD} {Z : Addr → Prop} {H1 H2 : Hp} {ds : List D} {vs : List V} {x dx : Addr} {P : D → Prop} {xd : XD} {Q : VK} {E : XK} (w : Wd S Z H1) (k1 : Kp S H1 H2) (i1 : S.I H2) (hx : H1 x = none) (hdx : H1 dx = none)
    (h2x : H2 x = some (.ins C dx [])) (h2d : ∃ o, H2 dx = some o ∧ isX o = false) (r : RepL K (hide H2 (fun a => Z a ∨ a = x ∨ a = dx)) ds vs)
    (h : spd ds (fun fn es => P (.ins C fn es)) xd) (q : ∀ v H' d, Kp S H1 H' → S.I H' → Rep K (hide H' Z) d v → P d → Q v H')
    (qe : ∀ cls dd H' fs, Kp S H1 H' → S.I H' → XRep K (hide H' Z) dd fs → xd cls fs → E (.ref cls) dd H') :
    liftIn K S C spd (.ref x :: vs) H2 (fun v H2 => v = .non ∧ Q (.ref x) H2) E := by
  have nw : ∀ {y : Addr}, H1 y = none → ¬ S.W y := fun {y} hy wy => by
    obtain ⟨o, e⟩ := w.zin y (w.wz y wy)
    rw [hy] at e; cases e
  have hs : ∀ {y : Addr}, H1 y = none → S.Hs y = none := fun {y} hy => by
    cases e : S.Hs y with
    | none => rfl
    | some o =>
      have := (w.base y o e).1
      rw [hy] at this; cases this
  have kk : ∀ {H' : Hp}, (∀ b o, H2 b = some o → b ≠ x → ¬ S.W b → H' b = some o) → Kp S H1 H' := fun {H'} k b o e n => k b o (k1 b o e n) (ne_of_none e hx) n
  refine ⟨x, dx, vs, fun a => Z a ∨ a = x ∨ a = dx, ds, _, xd, rfl, h2x, ⟨fun b o e => ?_, fun a wa => .inl (w.wz a wa), fun a z => ?_, fun a o z e => z.elim (fun z => (w.step k1 i1).zx a o z e) (fun z => z.elim (fun z => by rw [z, h2x] at e; cases e; rfl) (fun z => by
    obtain ⟨u, h1, h2⟩ := h2d
    rw [z, h1] at e
    rw [← Option.some.inj e]
    exact h2)), i1⟩, .inr (.inl rfl), nw hx, hs hx, r, h, fun H' fn es xs k i' e1 e2 rl hp => ⟨rfl, ?_⟩, fun cls dd H' fs k i' xr hxd => ?_⟩
  · obtain ⟨h1, h2⟩ := w.base b o e
    exact ⟨k1 b o h1 fun q => h2 (w.wz b q), fun z => z.elim h2 fun z => z.elim (fun q => by rw [q, hx] at h1; cases h1) fun q => by rw [q, hdx] at h1; cases h1⟩
  · rcases z with z | z | z
    · exact (w.step k1 i1).zin a z
    · subst z; exact ⟨_, h2x⟩
    · subst z; exact h2d.imp fun o h => h.1
  · refine q _ H' (.ins C fn es) (kk k) i' ?_ hp
    unfold Rep
    exact ⟨x, dx, xs, rfl, hide_some.mpr ⟨w.fresh hx, e1⟩, e2, RepL.mono (hide_weak fun a z => .inl z) es xs rl⟩
  · exact qe cls dd H' fs (kk k) i' (XRep.mono (hide_weak fun a z => ⟨.inl z, fun e => by rw [e] at z; exact w.fresh hx z⟩) xr) hxd
theorem made_heap {Z : Addr → Prop} {H1 : Hp} {x dx : Addr} (w : Wd S Z H1) (hx : H1 x = none) (hdx : H1 dx = none) (hne : dx ≠ x) :
    Kp S H1 (upd (upd H1 dx (.own x)) x (.ins C dx [])) ∧ S.I (upd (upd H1 dx (.own x)) x (.ins C dx [])) ∧ upd (upd H1 dx (.own x)) x (.ins C dx []) dx = some (.own x) ∧
      Ex (hide H1 Z) (hide (upd (upd H1 dx (.own x)) x (.ins C dx [])) (fun a => Z a ∨ a = x ∨ a = dx)) := by
  have k1 : Kp S H1 (upd (upd H1 dx (.own x)) x (.ins C dx [])) := fun b o e _ => by
    rw [upd_ne (ne_of_none e hx), upd_ne (ne_of_none e hdx)]
    exact e
  have nw : ∀ {y : Addr}, H1 y = none → ¬ S.W y := fun {y} hy wy => by
    obtain ⟨o, e⟩ := w.zin y (w.wz y wy)
    rw [hy] at e; cases e
  refine ⟨k1, S.stab H1 _ (fun b o e _ => by
    rw [upd_ne (ne_of_none e hx), upd_ne (ne_of_none e hdx)]; exact e) w.inv, by rw [upd_ne hne, upd_same], fun a o e => ?_⟩
  obtain ⟨n, e⟩ := hide_some.mp e
  refine hide_some.mpr ⟨fun z => ?_, k1 a o e fun wa => n (w.wz a wa)⟩
  rcases z with z | z | z
  · exact n z
  · subst z; rw [hx] at e; cases e
  · subst z; rw [hdx] at e; cases e
theorem xok0 {E : XK} : XOk K S c E x0 := fun _ _ _ _ _ _ _ h => h.elim
def putD (f : Str) (d : D) : List Str → List D → List Str × List D
  | g :: gs, e :: es => if f = g then (g :: gs, d :: es) else let r := putD f d gs es; (g :: r.1, e :: r.2)
  | _, _ => ([f], [d])
theorem put_rep {H : Hp} {f : Str} {d : D} {v : V} (q : Rep K H d v) : ∀ {fn : List Str} {ds : List D} {xs : List V}, fn.length = xs.length → RepL K H ds xs →
    ∃ ys, putF f v (fn.zip xs) = (putD f d fn ds).1.zip ys ∧ (putD f d fn ds).1.length = ys.length ∧ RepL K H (putD f d fn ds).2 ys
  | [], ds, xs, hl, r => by
    cases xs with
    | nil =>
      have e := r.len
      cases ds with
      | nil => exact ⟨[v], rfl, rfl, RepL.cons q RepL.nil⟩
      | cons _ _ => simp at e
    | cons _ _ => simp at hl
  | g :: gs, ds, xs, hl, r => by
    cases xs with
    | nil => simp at hl
    | cons y ys =>
      cases ds with
      | nil => have e := r.len; simp at e
      | cons e es =>
        unfold RepL at r
        obtain ⟨v', vs, e1, r1, r2⟩ := r
        cases e1
        show ∃ ys', putF f v ((g, y) :: gs.zip ys) = _ ∧ _
        unfold putD
        by_cases hg : f = g
        · rw [if_pos hg]
          refine ⟨v :: ys, ?_, by simpa using hl, RepL.cons q r2⟩
          show (if g = f then (g, v) :: gs.zip ys else _) = _
          rw [if_pos hg.symm]
          rfl
        · rw [if_neg hg]
          obtain ⟨ys', p1, p2, p3⟩ := put_rep q (by simpa using hl) r2
          refine ⟨y :: ys', ?_, by simpa using p2, RepL.cons r1 p3⟩
          show (if g = f then (g, v) :: gs.zip ys else (g, y) :: putF f v (gs.zip ys)) = _
          rw [if_neg (fun e => hg e.symm), p1]
          rfl
end
end DL
end
section
namespace DL
open PySem PySem.Spec PyProof.Rows L2
section
variable {K : PySem.W.Frag} {S : Sit} {c : Cl} {X : Cx} {ta tb te tc : TE} {a b t c' : TED} {tt tu : TT} {p q : TTD} {ts : TA} {as : TAD} {e e1 e2 e3 o : Expr} {es rest : List Expr} {pos pos' pos2 p1 p2 p3 : Pos} {x f m : Str} {C : Addr}
theorem de_var (i : Nat) (hN : X.N[i]? = some x := by rfl) (hv : Vis X.env.scope x := by first | exact Or.inl rfl | exact Or.inr (Or.inl rfl) | exact Or.inr (Or.inr rfl)) (hd : (x == ("__debug__" : Str)) = false := by decide)
    (hcd : (x == ("__classdict__" : Str)) = false := by decide) : DE K S c X (.Name x pos) (tVar i) (dVar i) := ⟨pe_var hN hv hd hcd, we_var⟩
theorem de_int {i : Int} {j} : DE K S c X (.Constant (.int i) j pos) (tC (.int i)) (dC (.int i)) := ⟨pe_int, we_int⟩
theorem de_bl {i : Bool} {j} : DE K S c X (.Constant (.bool i) j pos) (tC (.bl i)) (dC (.bl i)) := ⟨pe_bl, we_bl⟩
theorem de_str {i : Str} {j} : DE K S c X (.Constant (.str i) j pos) (tC (.str i)) (dC (.str i)) := ⟨pe_str, we_str⟩
theorem de_non {j} : DE K S c X (.Constant .none j pos) (tC .non) (dC .non) := ⟨pe_non, we_non⟩
theorem de_glob {d : D} {u : Value} (hat : d.atom = true) (hm : X.mg x = some u) (r : RelV d.v u) (hg : Gl X x := by rfl) (hd : (x == ("__debug__" : Str)) = false := by decide) : DE K S c X (.Name x pos) (tC d.v) (dC d) :=
  ⟨pe_glob hg hm r hd, we_c fun _ => rep_atom hat⟩
theorem de_op {op : Operator} {r : R2} {rd : R2D} (ho : OpR X (binaryOp op) r) (hr : WR K S r rd) (ha : DE K S c X e1 ta a) (hb : DE K S c X e2 tb b) : DE K S c X (.BinOp e1 op e2 pos) (tOp r ta tb) (dOp rd a b) :=
  ⟨pe_op ho ha.pe hb.pe, we_op hr ha.we hb.we⟩
theorem de_cmp {op : CmpOp} {r : R2} {rd : R2D} (ho : OpR X (compareOp op) r) (hr : WR K S r rd) (ha : DE K S c X e1 ta a) (hb : DE K S c X e2 tb b) (hm : behindInMarks op e2 = false) : DE K S c X (.Compare e1 [op] [e2] pos) (tOp r ta tb) (dOp rd a b) :=
  ⟨pe_cmpR ho ha.pe hb.pe hm, we_op hr ha.we hb.we⟩
theorem dt_cmp {op : CmpOp} {r : R2} {rd : R2D} (ho : OpR X (compareOp op) r) (hr : WR K S r rd) (ha : DE K S c X e1 ta a) (hb : DE K S c X e2 tb b) (hm : behindInMarks op e2 = false) : DT K S c X (.Compare e1 [op] [e2] pos) (tTest (tOp r ta tb)) (dTest (dOp rd a b)) :=
  ⟨pt_cmpR ho ha.pe hb.pe hm, wt_test (we_op hr ha.we hb.we)⟩
theorem de_and (ha : DE K S c X e1 ta a) (hb : DE K S c X (.BoolOp .And (e2 :: rest) pos) tb b) : DE K S c X (.BoolOp .And (e1 :: e2 :: rest) pos) (tAndV ta tb) (dAndV a b) := ⟨pe_and ha.pe hb.pe, we_andV ha.we hb.we⟩
theorem de_or (ha : DE K S c X e1 ta a) (hb : DE K S c X (.BoolOp .Or (e2 :: rest) pos) tb b) : DE K S c X (.BoolOp .Or (e1 :: e2 :: rest) pos) (tOrV ta tb) (dOrV a b) := ⟨pe_or ha.pe hb.pe, we_orV ha.we hb.we⟩
theorem de_one {op} (ha : DE K S c X e1 ta a) : DE K S c X (.BoolOp op [e1] pos) ta a := ⟨pe_one ha.pe, ha.we⟩
theorem de_not (ha : DE K S c X e1 ta a) : DE K S c X (.UnaryOp .Not e1 pos) (tNotV ta) (dNotV a) := ⟨pe_not ha.pe, we_notV ha.we⟩
theorem dt_val (ha : DE K S c X e1 ta a) (he : ∀ whole, isTrue e1 X.env whole = (do let v ← whole; standAt e1.pos; holding [v] (truthy v)) := by intro _; rfl) : DT K S c X e1 (tB ta) (dTest a) := ⟨pt_val ha.pe he, wt_B ha.we⟩
theorem dt_not (ha : DT K S c X e1 tt p) : DT K S c X (.UnaryOp .Not e1 pos) (tNot tt) (dNot p) := ⟨pt_not ha.pt, wt_not ha.wt⟩
theorem dw_and (ha : DT K S c X e1 tt p) (hb : DW K S c X (.BoolOp .And (e2 :: rest) pos) tu q) : DW K S c X (.BoolOp .And (e1 :: e2 :: rest) pos) (tAnd tt tu) (dAnd p q) := ⟨pw_and ha.pt hb.pw, wt_and ha.wt hb.wt⟩
theorem dw_or (ha : DT K S c X e1 tt p) (hb : DW K S c X (.BoolOp .Or (e2 :: rest) pos) tu q) : DW K S c X (.BoolOp .Or (e1 :: e2 :: rest) pos) (tOr tt tu) (dOr p q) := ⟨pw_or ha.pt hb.pw, wt_or ha.wt hb.wt⟩
theorem dw_and1 (ha : DT K S c X e1 tt p) : DW K S c X (.BoolOp .And [e1] pos) tt p := ⟨pw_and1 ha.pt, ha.wt⟩
theorem dw_or1 (ha : DT K S c X e1 tt p) : DW K S c X (.BoolOp .Or [e1] pos) tt p := ⟨pw_or1 ha.pt, ha.wt⟩
theorem DW.tst (h : DW K S c X e1 tt p) : DT K S c X e1 tt p := ⟨h.pw.pt, h.wt⟩
theorem de_if (hp : DT K S c X e1 tt p) (ha : DE K S c X e2 ta a) (hb : DE K S c X e3 tb b) : DE K S c X (.IfExp e1 e2 e3 pos) (tIf tt ta tb) (dIf p a b) := ⟨pe_ifExp hp.pt ha.pe hb.pe, we_if hp.wt ha.we hb.we⟩
theorem de_chain {op op' : CmpOp} {r r' : R2} {rd rd' : R2D} (ho : OpR X (compareOp op) r) (hr : WR K S r rd) (ho' : OpR X (compareOp op') r') (hr' : WR K S r' rd') (ha : DE K S c X e1 ta a) (hb : DE K S c X e2 tb b) (hc : DE K S c X e3 tc c') (hm : lastMarks [op, op'] [e2, e3] = false := by rfl) :
    DE K S c X (.Compare e1 [op, op'] [e2, e3] pos) (tChain r r' ta tb tc) (dChain rd rd' a b c') := ⟨pe_chain ho ho' ha.pe hb.pe hc.pe hm, we_chain hr hr' ha.we hb.we hc.we⟩
def dTru (a : TED) : TTD := fun ρ P => a ρ fun x => match x with
  | .non => P false
  | .bl b => P b
  | .int i => P (i != 0)
  | .lst ds => P (!ds.isEmpty)
  | .tup ds => P (!ds.isEmpty)
  | _ => False
theorem isEmpty_rep {H : Hp} {ds : List D} {xs : List V} (r : RepL K H ds xs) : ds.isEmpty = xs.isEmpty := by
  have := r.len
  cases ds <;> cases xs <;> simp at this <;> rfl
theorem wt_tru (ha : WE K S c ta a) : WT K S c (fun σ H Q => ta σ H fun x H' => ∃ k, TruV K x H' k ∧ Q k H') (dTru a) := by
  intro Z σ H ρ P rv h Q k
  refine ha Z σ H ρ _ rv h _ fun v H1 d k1 i1 r1 h1 => ?_
  cases d <;> try exact h1.elim
  · unfold Rep at r1; subst r1; exact ⟨_, rfl, k _ H1 k1 i1 h1⟩
  · unfold Rep at r1; subst r1; exact ⟨_, rfl, k _ H1 k1 i1 h1⟩
  · unfold Rep at r1; subst r1; exact ⟨_, rfl, k _ H1 k1 i1 h1⟩
  · unfold Rep at r1
    obtain ⟨a', xs, rfl, g1, g2⟩ := r1
    exact ⟨_, .inr (.inl ⟨xs, ex_t hide_ex g1, by rw [← isEmpty_rep g2]⟩), k _ H1 k1 i1 h1⟩
  · unfold Rep at r1
    obtain ⟨a', xs, rfl, g1, g2⟩ := r1
    exact ⟨_, .inl ⟨xs, .inl (.inl (hide_ex _ _ g1)), by rw [← isEmpty_rep g2]⟩, k _ H1 k1 i1 h1⟩
theorem dt_tru (hK : X.K = K) (ha : DE K S c X e1 ta a) (he : ∀ whole, isTrue e1 X.env whole = (do let v ← whole; standAt e1.pos; holding [v] (truthy v)) := by intro _; rfl) : DT K S c X e1 (fun σ H Q => ta σ H fun x H' => ∃ k, TruV K x H' k ∧ Q k H') (dTru a) := by
  subst hK
  exact ⟨pt_truth ha.pe he, wt_tru ha.we⟩
theorem da_nil : DA K S c X [] tNil dNil := ⟨pa_nil, wa_nil⟩
theorem da_cons (ha : DE K S c X e ta a) (hs : DA K S c X es ts as) (h : starEach (e :: es) X.env = (false, eval e X.env) :: starEach es X.env := by rfl) : DA K S c X (e :: es) (tCons ta ts) (dCons a as) := ⟨pa_cons ha.pe hs.pa h, wa_cons ha.we hs.wa⟩
theorem de_tup {k} (hs : DA K S c X es ts as) : DE K S c X (.Tuple es k pos) (tTup ts) (dTup as) := ⟨pe_tup hs.pa, we_tup hs.wa⟩
theorem de_lst (hs : DA K S c X es ts as) : DE K S c X (.List es pos) (tLst ts) (dLst as) := ⟨pe_lst hs.pa, we_lst hs.wa⟩
theorem dn_lst (hs : DA K S c X es ts as) : DN K S c X (.List es pos) (tLst ts) (nLst as) := ⟨pe_lst hs.pa, wn_lst hs.wa⟩
theorem de_n {as : TAD} (h : DN K S c X e ta as) : DE K S c X e ta (dOfN as) := ⟨h.pe, we_of_wn h.wn⟩
theorem de_ix (hK : X.K = K) (ha : DE K S c X e1 ta a) (hb : DE K S c X e2 tb b) (hs : PlainIx e2 := by exact fun _ _ => rfl) : DE K S c X (.Subscript e1 e2 pos) (tOp (rIx K) ta tb) (dOp rIxD a b) := by
  subst hK
  exact ⟨pe_ix ix_seq ha.pe hb.pe hs, we_op wr_ix ha.we hb.we⟩
theorem do_no : DO K S c X none tNoPart oNo := ⟨po_none, wo_no⟩
theorem do_yes (ha : DE K S c X e ta a) : DO K S c X (some e) (tPart ta) (oYes a) := ⟨po_some ha.pe, wo_yes ha.we⟩
theorem de_slL {lo hi : Option Expr} {tl th : TO} {l h : TOD} (hK : X.K = K) (ha : DE K S c X e ta a) (hl : DO K S c X lo tl l) (hh : DO K S c X hi th h) : DE K S c X (.Subscript e (.Slice lo hi none p2) pos) (tSl (rSlL K) ta tl th) (dSl slLD a l h) := by
  subst hK
  exact ⟨pe_slice sl_list ha.pe hl.po hh.po, we_slL ha.we hl.wo hh.wo⟩
theorem de_cb {id : String} {r : List V → Hp → VK → Prop} {rd : RCD} (hc : CallR X (.builtin id) r) (hr : WC K S r rd) (hm : X.mg x = none) (hv : bootBuiltins x = some (.builtin id)) (hs : DA K S c X (e :: es) ts as) (hg : Gl X x := by rfl) (hn : x ≠ "__name__" := by decide) (hdb : (x == ("__debug__" : Str)) = false := by decide)
    (he : starEach (e :: es) X.env = (false, eval e X.env) :: starEach es X.env := by rfl) (hpl : (backTo pos (starEach es X.env)).any (·.1) = false := by rfl) : DE K S c X (.Call (.Name x p1) (e :: es) [] pos) (tCB r ts) (dCB rd as) :=
  ⟨pe_callB hc hg hm hv hs.pa hn hdb he hpl, we_cb hr hs.wa⟩
theorem de_cty {T : String} {r : List V → Hp → VK → Prop} {rd : RCD} (hc : CallR X (.type T) r) (hr : WC K S r rd) (hm : X.mg x = none) (hv : bootBuiltins x = some (.type T)) (hs : DA K S c X (e :: es) ts as) (hg : Gl X x := by rfl) (hn : x ≠ "__name__" := by decide) (hdb : (x == ("__debug__" : Str)) = false := by decide)
    (he : starEach (e :: es) X.env = (false, eval e X.env) :: starEach es X.env := by rfl) (hpl : (backTo pos (starEach es X.env)).any (·.1) = false := by rfl) : DE K S c X (.Call (.Name x p1) (e :: es) [] pos) (tCB r ts) (dCB rd as) :=
  ⟨pe_callTy hc hg hm hv hs.pa hn hdb he hpl, we_cb hr hs.wa⟩
theorem dn_list (hK : X.K = K) (hm : X.mg x = none) (hv : bootBuiltins x = some (.type "list")) (hs : DA K S c X (e :: es) ts as) (hg : Gl X x := by rfl) (hn : x ≠ "__name__" := by decide) (hdb : (x == ("__debug__" : Str)) = false := by decide)
    (he : starEach (e :: es) X.env = (false, eval e X.env) :: starEach es X.env := by rfl) (hpl : (backTo pos (starEach es X.env)).any (·.1) = false := by rfl) : DN K S c X (.Call (.Name x p1) (e :: es) [] pos) (tCB (fun xs H Q => ∃ p ys, xs = [.ref p] ∧ (SqL K H p ys ∨ SqT K H p ys) ∧ ∀ l, H l = none → Q (.ref l) (upd H l (.lst ys))) ts) (nList as) := by
  subst hK
  exact ⟨pe_callTy call_list_of hg hm hv hs.pa hn hdb he hpl, wn_list hs.wa⟩
theorem de_fld (hK : X.K = K) (hc : Cls K C) (hn : NoAttr K C f) (ha : DE K S c X e ta a) (hb : attributeBase e f X.env (eval e X.env) = eval e X.env := by rfl) : DE K S c X (.Attribute e f pos) (tFld K ta f) (dFldC C f a) := by
  subst hK
  exact ⟨pe_fld ha.pe hb, we_fld hc hn ha.we⟩
section
variable {k : Nat} {fa : Addr} {fd : FuncData} {ps : List Str} {spd : SpD} {ind : InD}
theorem de_call0 (F : FnOk X.prog X.w X.K X.mg X.base CX0 k fa fd ps (liftSp K S spd)) (hr : Room k X.A) (hm : X.mg x = some (.ref fa)) (hk : PySem.W.keepIn X.K (.ref fa) = true) (hb : Binds X.K fd ps []) (hs : DA K S c X (e :: es) ts as) (hg : Gl X x := by rfl) (hdb : (x == ("__debug__" : Str)) = false := by decide)
    (he : starEach (e :: es) X.env = (false, eval e X.env) :: starEach es X.env := by rfl) (hpl : (backTo pos (starEach es X.env)).any (·.1) = false := by rfl) : DE K S c X (.Call (.Name x p1) (e :: es) [] pos) (tCall (liftSp K S spd) [] E0 ts) (dCall spd x0 as) :=
  ⟨pe_call F hr hg hm hk hb .nil pass0 hs.pa hdb he hpl, we_call0 hs.wa⟩
theorem passE0 {X : Cx} : Passes CX0 X E0 := fun _ _ _ _ _ _ _ h => h.elim
theorem de_prop {pp g : Addr} (hc : Cls X.K C) (hp : PropOf X.K C f pp g) (F : FnOk X.prog X.w X.K X.mg X.base CX0 k g fd ps (liftSp K S spd)) (hr : Room (k + 1) X.A) (hb : Binds X.K fd ps []) (ha : DE K S c X e ta a) (hab : attributeBase e f X.env (eval e X.env) = eval e X.env := by rfl) :
    DE K S c X (.Attribute e f pos) (tProp C (liftSp K S spd) [] E0 ta) (dProp C spd a) :=
  ⟨pe_prop ha.pe hc hp F hr hb .nil passE0 hab, we_prop ha.we⟩
end
theorem di_list {tg : Expr} (hK : X.K = K) (ha : DE K S c X e ta a) : DI K S c X tg e (iList K ta) (iLstD a) := by subst hK; exact ⟨pi_list ha.pe, wi_list ha.we⟩
theorem di_tup {tg : Expr} (hK : X.K = K) (ha : DE K S c X e ta a) : DI K S c X tg e (iTup K ta) (iTupD a) := by subst hK; exact ⟨pi_tup ha.pe, wi_tup ha.we⟩
theorem di_rng1 {tg : Expr} (hm : X.mg "range" = none) (hs : DA K S c X [e] ts as) (hg : Gl X "range" := by rfl) (h : starEach [e] X.env = [(false, eval e X.env)] := by rfl) : DI K S c X tg (.Call (.Name "range" p1) [e] [] pos) (iRng1 ts) (iRng1D as) := ⟨pi_range1 hg hm hs.pa h, wi_rng1 hs.wa⟩
theorem dv_rng1 {tg : Expr} (hm : X.mg "range" = none) (hs : DA K S c X [e] ts as) (hg : Gl X "range" := by rfl) (h : starEach [e] X.env = [(false, eval e X.env)] := by rfl) : DIv K S c X tg (.Call (.Name "range" p1) [e] [] pos) (iRng1 ts) (iRng1D as) := ⟨pi_range1 hg hm hs.pa h, wiv_rng1 hs.wa⟩
theorem dg_name (i : Nat) (hN : X.N.Nodup) (hi : X.N[i]? = some x := by rfl) (hx : Loc X.env.scope x := by first | exact Or.inl rfl | exact Or.inr rfl) (hf : X.fn x = true ∨ X.env.scope.names.lookup x = some .local := by first | exact .inl rfl | exact .inr rfl) : DG K X (.Name x pos) (gName i) (hName i) [i] := ⟨pg_name hN hi hx hf, wg_name⟩
section
variable {g : TG} {gs : TGs} {gd : TGD} {gds : List D → EnvD → (EnvD → Prop) → Prop} {ix iy : List Nat}
theorem dgs_nil : DGs K X [] gNil hNil [] := ⟨pgs_nil, wgs_nil⟩
theorem dgs_cons (h1 : DG K X e g gd ix) (h2 : DGs K X es gs gds iy) (hs : (assignEach (e :: es) X.env).map (·.2) = assign e X.env :: (assignEach es X.env).map (·.2) := by rfl) : DGs K X (e :: es) (gCons g gs) (hCons gd gds) (ix ++ iy) := ⟨pgs_cons h1.pg h2.pgs hs, wgs_cons h1.wg h2.wgs⟩
theorem dg_tup {k n : Nat} (hK : X.K = K) (hc : X.calm = true) (h : DGs K X es gs gds ix) (hn : (assignEach es X.env).length = n := by rfl) (hst : (assignEach es X.env).findIdx? (·.1) = none := by rfl) : DG K X (.Tuple es k pos) (gTup K n gs) (hTup n gds) ix := by
  subst hK
  exact ⟨pg_tup hc h.pgs hn hst, wg_tup h.wgs⟩
end
end
end DL
end
section
namespace DL
open PySem PySem.Spec PyProof.Rows L2
section
variable {K : PySem.W.Frag} {S : Sit} {c : Cl} {X : Cx} {ta tb te tc : TE} {a b t : TED} {tt tu : TT} {p q : TTD} {ts : TA} {as : TAD} {e e1 e2 e3 o : Expr} {es : List Expr} {pos pos' pos2 p1 p2 p3 : Pos} {x y f m : Str} {C : Addr}
  {st : Stmt} {body els rest : List Stmt} {s1 s2 tbd : TS} {d1 d2 : TSD} {g : TG} {gd : TGD} {ix : List Nat} {wi : TI} {it : TAD}
theorem dss_nil : DSs K S c X [] tNext dNext := ⟨pss_nil, ws_next⟩
theorem dss_cons (h1 : DS K S c X st s1 d1) (h2 : DSs K S c X rest s2 d2) : DSs K S c X (st :: rest) (tSeq s1 s2) (dSeq d1 d2) := ⟨pss_cons h1.ps h2.pss, ws_seq h1.ws h2.ws⟩
theorem dss_one (h1 : DS K S c X st s1 d1) : DSs K S c X [st] s1 d1 := ⟨pss_one h1.ps, h1.ws⟩
theorem ds_ret (ha : DE K S c X e ta a) : DS K S c X (.Return (some e) pos) (tRet ta) (dRet a) := ⟨ps_ret ha.pe, ws_ret ha.we⟩
theorem ds_if (hp : DT K S c X e tt p) (h1 : DSs K S c X body s1 d1) (h2 : DSs K S c X els s2 d2) : DS K S c X (.If e body els pos) (tIfS tt s1 s2) (dIfS p d1 d2) := ⟨ps_if hp.pt h1.pss h2.pss, ws_if hp.wt h1.ws h2.ws⟩
theorem ds_drop (ha : DE K S c X e ta a) (hs : swapsWith e none pos.line X.env = pure false := by rfl) : DS K S c X (.Expr e pos) (tDrop ta) (dDrop a) := ⟨ps_expr ha.pe hs, ws_drop ha.we⟩
theorem ds_set (i : Nat) (hN : X.N.Nodup) (ha : DE K S c X e ta a) (hi : X.N[i]? = some x := by rfl) (hx : Loc X.env.scope x := by first | exact Or.inl rfl | exact Or.inr rfl) (hs : swapsWith e (some (.Name x pos')) pos.line X.env = pure false := by rfl)
    (hf : X.fn x = true ∨ X.env.scope.names.lookup x = some .local := by first | exact .inl rfl | exact .inr rfl) : DS K S c X (.Assign [.Name x pos'] e pos) (tAsg ta (gName i)) (dSet i a) := ⟨ps_set hN hi hx ha.pe hs hf, ws_set ha.we⟩
theorem ds_setN (i : Nat) (hN : X.N.Nodup) (ha : DN K S c X e ta as) (hi : X.N[i]? = some x := by rfl) (hx : Loc X.env.scope x := by first | exact Or.inl rfl | exact Or.inr rfl) (hs : swapsWith e (some (.Name x pos')) pos.line X.env = pure false := by rfl)
    (hf : X.fn x = true ∨ X.env.scope.names.lookup x = some .local := by first | exact .inl rfl | exact .inr rfl) : DS K S c X (.Assign [.Name x pos'] e pos) (tAsg ta (gName i)) (dSetN i as) := ⟨ps_set hN hi hx ha.pe hs hf, ws_setN ha.wn⟩
theorem ds_for {tg : Expr} (hp : PassesOwn (model X.prog X.w) X.A X.env X.xe) (hc : X.calm = true) (hi : DI K S c X tg e wi it) (hg : DG K X tg g gd ix) (hb : DSs K S c X body tbd d1) (hs : ∀ x, foldedSetIterable e X.env x = pure x := by intro _; rfl) :
    DS K S c X (.For tg e body [] pos) (tFor wi g tbd) (dFor it gd d1) := ⟨ps_for hp hc hi.pi hg.pg hb.pss hs, ws_for hi.wi hg.wg hb.ws⟩
theorem ds_forV {tg : Expr} (hp : PassesOwn (model X.prog X.w) X.A X.env X.xe) (hc : X.calm = true) (hi : DIv K S c X tg e wi it) (hg : DG K X tg g gd ix) (hb : DSs K S c X body tbd d1) (hs : ∀ x, foldedSetIterable e X.env x = pure x := by intro _; rfl) :
    DS K S c X (.For tg e body [] pos) (tFor wi g tbd) (dForV it gd d1) := ⟨ps_for hp hc hi.pi hg.pg hb.pss hs, ws_forV hi.wi hg.wg hb.ws⟩
theorem ds_while (hp : PassesOwn (model X.prog X.w) X.A X.env X.xe) (ht : DT K S c X e tt p) (hb : DSs K S c X body tbd d1) : DS K S c X (.While e body [] pos) (tWhile tt tbd) (dWhile p d1) := ⟨ps_while hp ht.pt hb.pss, ws_while ht.wt hb.ws⟩
def dAppS (i : Nat) (a : TED) : TSD := fun Dd ρ => (∃ ds, ρ[i]? = some (some (.own .lst ds))) ∧ dApp i a Dd ρ
theorem ds_app (i : Nat) (hK : X.K = K) (ha : DE K S c X e ta a) (hN : X.N[i]? = some x := by rfl) (hv : Vis X.env.scope x := by first | exact Or.inl rfl | exact Or.inr (Or.inl rfl) | exact Or.inr (Or.inr rfl)) (hd : (x == ("__debug__" : Str)) = false := by decide)
    (hcd : (x == ("__classdict__" : Str)) = false := by decide)
    (he : starEach (e :: []) X.env = (false, eval e X.env) :: starEach [] X.env := by rfl)
    (hbase : attributeBase (.Name x p1) "append" X.env (eval (.Name x p1) X.env) = eval (.Name x p1) X.env := by rfl)
    (hfew : ((backTo p3 (starEach (e :: []) X.env)).all (fun x => !x.1) && (backToKw p3 (keywordEach [] X.env)).all (fun x => x.1.isSome)
      && decide ((e :: ([] : List Expr)).length + ([] : List Keyword).length + (if ([] : List Keyword).isEmpty then 0 else 1) < 30)) = true := by rfl) (hline : (p2.endLine == p3.line) = true := by rfl)
    (hpl : (backTo p3 (starEach [] X.env)).any (·.1) = false := by rfl)
    (hs : swapsWith (.Call (.Attribute (.Name x p1) "append" p2) [e] [] p3) none pos.line X.env = pure false := by rfl) :
    DS K S c X (.Expr (.Call (.Attribute (.Name x p1) "append" p2) [e] [] p3) pos) (tDrop (tBM K "list" rAppend (tVar i) (tCons ta tNil))) (dAppS i a) := by
  subst hK
  exact ⟨ps_expr (pe_bm PySem.F.plainAttrs_list PySem.F.slot_list_append PySem.F.type_list_append mt_append (pe_var hN hv hd hcd) (pa_cons ha.pe pa_nil he) hbase hfew hline he hpl) hs, ws_app ha.we trivial⟩
theorem dts_nil : DTs K S c X [] tYes dYes := ⟨pts_nil, wt_yes⟩
theorem dts_one (h : DT K S c X e tt p) : DTs K S c X [e] tt p := ⟨pts_one h.pt, h.wt⟩
theorem dn_lc {elt tg iter : Expr} {ifs : List Expr} {scope : Scope} {own : List (Str × Nat)} (hc : X.calm = true) (hN : X.N.Nodup) (hi : DI K S c X tg iter wi it) (ok : BlkOk X.N X.env.scope scope own)
    (hg : ∀ (s : Shared) (H : Hp) (C : Addr) (cl : List (Str × Addr)) (fp : List Addr), DG K (X.blk s H scope (compEnvC scope cl C X.env) fp) tg g gd ix) (ht : ∀ (s : Shared) (H : Hp) (C : Addr) (cl : List (Str × Addr)) (fp : List Addr), DTs K S c (X.blk s H scope (compEnvC scope cl C X.env) fp) ifs tt p)
    (he : ∀ (s : Shared) (H : Hp) (C : Addr) (cl : List (Str × Addr)) (fp : List Addr), DE K S c (X.blk s H scope (compEnvC scope cl C X.env) fp) elt te t) (hix : ∀ i ∈ ix, i ∈ own.map (·.2)) (hs : ∀ x, foldedSetIterable iter X.env x = pure x := by intro _; rfl) :
    DN K S c X (.ListComp elt [⟨tg, iter, ifs, 0⟩] scope pos) (tLc wi g tt te (own.map (·.2))) (nLc it gd p t (own.map (·.2))) := by
  exact ⟨pe_lc hc hN hi.pi ok (fun s H C cl fp => (hg s H C cl fp).pg) (fun s H C cl fp => (ht s H C cl fp).pts) (fun s H C cl fp => (he s H C cl fp).pe) hs,
    wn_lc hi.wi (hg X.s_0 (fun _ => none) 0 [] []).wg hix (ht X.s_0 (fun _ => none) 0 [] []).wt (he X.s_0 (fun _ => none) 0 [] []).we⟩
end
end DL
end
section
namespace DL
open PySem PySem.Spec PyProof.Rows L2
section
variable {X : Cx} {CX : CXT} {k : Nat} {C g a dx : Addr} {fs : List (Str × V)} {fd : FuncData} {ps : List Str} {sp : Sp} {E : XK} {e o : Expr} {pos : Pos} {ta tb : TE}
end
section
variable {K : PySem.W.Frag} {S : Sit} {C : Addr} {spd : SpD}
end
section
variable {K : PySem.W.Frag} {S : Sit} {c : Cl} {X : Cx} {ta tb : TE} {a b : TED} {ts : TA} {as : TAD} {e e1 e2 : Expr} {es : List Expr} {pos p1 : Pos} {x : Str} {C g : Addr} {k : Nat} {fd : FuncData} {ps : List Str} {spd : SpD}
end
def startD (N : List Str) (ds : List D) : EnvD := ds.map some ++ List.replicate (N.length - ds.length) none
section
variable {P : Program} {w : World} {K : PySem.W.Frag} {S : Sit} {mg : Str → Option Value} {base : Heap}
theorem start_get {N : List Str} {vs : List V} {i : Nat} {v : V} (h : vs[i]? = some v) : (start N vs)[i]? = some (some v) := by
  unfold L2.start
  have hi := (List.getElem?_eq_some_iff.mp h).1
  rw [List.getElem?_append_left (by simpa using hi), List.getElem?_map, h]
  rfl
theorem startD_get {N : List Str} {ds : List D} {i : Nat} {d : D} (h : (startD N ds)[i]? = some (some d)) : ds[i]? = some d := by
  unfold startD at h
  by_cases hi : i < ds.length
  · rw [List.getElem?_append_left (by simpa using hi), List.getElem?_map] at h
    cases e : ds[i]? with
    | none => rw [e] at h; cases h
    | some x => rw [e] at h; cases h; rfl
  · rw [List.getElem?_append_right (by simpa using hi)] at h
    have := List.mem_of_getElem? h
    rw [List.mem_replicate] at this
    exact nomatch this.2
theorem start_len {N : List Str} {vs : List V} {ds : List D} (h : ds.length = vs.length) : (start N vs).length = (startD N ds).length := by
  unfold L2.start startD
  simp [h]
theorem rz_start {Z : Addr → Prop} {H : Hp} {N : List Str} {vs : List V} {ds : List D} {E : XK} {x : XD} (w : Wd S Z H) (r : RepL K (hide H Z) ds vs) : RZ K S ⟨Z, H, E, x⟩ (fun _ => none) Z (start N vs) H (startD N ds) := by
  have noOwn : ∀ (i : Nat) d, (startD N ds)[i]? = some (some d) → d.isOwn = true → False := fun i d h o => by
    obtain ⟨v, _, q⟩ := r.get (startD_get h)
    rw [rep_notOwn q] at o; cases o
  refine ⟨⟨w, Kp.refl H, fun _ z => z, start_len r.len, fun i d h n => ?_⟩, w, (fun _ _ h => by cases h), fun _ => [], (fun i d h o => (noOwn i d h o).elim), (fun i j d e a h o _ _ _ _ => (noOwn i d h o).elim)⟩
  obtain ⟨v, e, q⟩ := r.get (startD_get h)
  exact ⟨v, start_get e, q⟩
theorem fit_of {Z : Addr → Prop} {H : Hp} {E : XK} {x : XD} {Q : VK} {Pd : D → Prop} (hq : ∀ v H' d, Kp S H H' → S.I H' → Rep K (hide H' Z) d v → Pd d → Q v H') :
    Fit K S ⟨Z, H, E, x⟩ (fun _ => none) { nx := fun _ => Pd .non, rt := Pd } { nx := fun _ H' => Q .non H', rt := Q } :=
  ⟨fun σ H' ρ ⟨Z', r⟩ h => hq .non H' .non r.rv.kp r.rv.wd.inv repN h, fun v H' d k i q h => hq v H' d k i q h, fun _ _ _ _ h => h.elim, fun _ _ _ _ h => h.elim⟩
theorem fn_deep {x qual : Str} {st : Stmt} {f : Addr} {fd : FuncData} {N ps : List Str} {k : Nat} {spd : SpD} {tD : TSD} (F : Fun K x qual st f fd) (sc : FnScope N ps (defScope st)) (hlen : ∀ ds P x, spd ds P x → ds.length = ps.length)
    (hpure : ∀ ds P x, spd ds P x → tD { nx := fun _ => P .non, rt := P } (startD N ds))
    (hbody : ∀ (c : Cl) (cdv : Value) (A : Around) (outer : List Env) (s : Shared) (H : Hp) (E : XK), Room k (A.deeper (envOfC qual (defScope st) s.heap.objs.size f cdv)) →
      ∃ ts, DSs K S c (cxOf CX0 P w K mg base N qual (defScope st) f cdv A outer s H E).nox (defBody st) ts tD) : FnOk P w K mg base CX0 (k + 1) f fd ps (liftSp K S spd) := by
  refine F.ok sc (fun vs H Q E h => ?_) (fun cdv A outer s H vs Q E hr h => ?_)
  · obtain ⟨Z, ds, Pd, x, w, r, hs, _⟩ := h
    rw [← r.len]
    exact hlen ds Pd x hs
  · obtain ⟨Z, ds, Pd, x, w, r, hs, hq, hx⟩ := h
    obtain ⟨ts, d⟩ := hbody ⟨Z, H, E, x⟩ cdv A outer s H E hr
    exact ⟨ts, d.pss, d.ws (fun _ => none) _ H _ _ _ ⟨Z, rz_start w r⟩ (hpure ds Pd x hs) (fit_of hq)⟩
end
end DL
end
section
namespace PySem.W
open PySem PySem.Calls PyProof.Rows
section
variable {M : Model} {A : Around} {E : Value → Shared → Prop} {s : Shared}
theorem dlk_lone {f : Value} {x : Sem Value} {pos : Pos} {Q : Args → Shared → Prop} {kws : List (Option Str × Sem Value)} (hall : kws.all (·.1.isSome) = true)
    (h : wpAny M A x (fun v s₁ => wpAny M A (evalAll (kws.map (·.2))) (fun ks s₂ => StarOf M A E v (fun vs s₃ => Q ⟨vs, (kws.filterMap (·.1)).zip ks⟩ s₃) s₂) E s₁) E s) :
    wpAny M A (evalArgs f true [(true, (do let v ← x; standAt pos; pure v))] kws) Q E s := by
  unfold evalArgs
  refine wpAny_bind (wpAny_bind (wpAny_mono h (fun v s₁ h₁ => wpAny_bind (wpAny_standAt (wpAny_pure ?_))) fun _ _ x => x))
  refine wpAny_holding ?_
  simp only [hall, if_true]
  refine wpAny_bind (wpAny_mono h₁ (fun ks s₂ h₂ => ?_) fun _ _ x => x)
  unfold StarOf at h₂
  refine wpAny_bind (wpAny_bind (wpAny_mono h₂ (fun b s₃ h₃ => ?_) fun _ _ x => x))
  obtain ⟨rfl, h₃⟩ := h₃
  have z := wpAny_holding (vs := ((kws.filterMap (·.1)).zip ks).map (·.2)) (wpAny_mono h₃ (fun vs s₃ h₃ => (wpAny_pure h₃ : wpAny M A (pure (⟨vs, (kws.filterMap (·.1)).zip ks⟩ : Args)) Q E s₃)) fun _ _ x => x)
  try simp only [Bool.false_eq_true, if_false]
  first
    | exact z
    | exact wpAny_bind (wpAny_pure z)
end
end PySem.W
namespace PySem.W
open PySem PySem.Calls PyProof.Rows
section
variable {M : Model} {A : Around} {E : Value → Shared → Prop} {s : Shared} {K : Frag} {env : Env} {pos p : Pos} {f : Value} {first : List Value} {Q : Value → Shared → Prop} {h₀ : Heap} {e : Expr} {kws : List Keyword}
theorem dlk_call {args : List (Bool × Sem Value)} {kw : List (Option Str × Sem Value)} {P : Heap → Prop} (hst : args.any (·.1) = true)
    (hk : ∀ h, P h → ∃ k, (k = Keeper.frame ∨ k = Keeper.machine ∨ k = Keeper.boundFrame) ∧ Looks M h (keeperOf f) k)
    (h : wpAny M A (evalArgs f true args kw) (fun a s₁ => P s₁.heap ∧ wpAny M A (call f (first ++ a.pos) a.kw) Q E s₁) E s) : wpAny M A (callWith pos f first args kw) Q E s := by
  unfold callWith
  refine wpAny_bind (wpAny_holding (wpAny_mono h (fun a s₁ h₁ => wpAny_bind (wpAny_standAt ?_)) fun _ _ x => x))
  obtain ⟨k, hk', L⟩ := hk _ h₁.1
  simp only [hst, Bool.true_or]
  refine wpAny_bind (L.here ?_)
  have tail : ∀ {t : Sem Value}, wpAny M A t Q E s₁ → wpAny M A (t >>= fun r => holding [r] point >>= fun _ => pure r) Q E s₁ :=
    fun ht => wpAny_bind (wpAny_mono ht (fun r s₂ hr => wpAny_bind (wpAny_holding (wpAny_point (wpAny_pure hr)))) fun _ _ x => x)
  have marked (mk : Value) : wpAny M A (callMarked mk f (first ++ a.pos) a.kw) Q E s₁ := by unfold callMarked; exact Calls.wpAny_keep h₁.2
  rcases hk' with rfl | rfl | rfl <;> dsimp only <;> first | exact tail (marked _) | exact tail (wpAny_operating h₁.2)
theorem callWith_SK (hk : keepIn K f = true) (hall : (backToKw pos (keywordEach kws env)).all (·.1.isSome) = true)
    (h : wpAny M A (eval e env) (fun v s₁ => wpAny M A (evalAll ((backToKw pos (keywordEach kws env)).map (·.2))) (fun ks s₂ => StarOf M A E v (fun vs s₃ => K.In s₃.heap ∧ wpAny M A (call f (first ++ vs) (((backToKw pos (keywordEach kws env)).filterMap (·.1)).zip ks)) Q E s₃) s₂) E s₁) E s)
    (he : starEach [.Starred e p] env = [(true, eval e env)] := by rfl) :
    wpAny M A (callWith pos f first (backTo pos (starEach [.Starred e p] env)) (backToKw pos (keywordEach kws env))) Q E s := by
  rw [he]
  exact dlk_call rfl (keeps_K hk) (dlk_lone hall h)
end
end PySem.W
namespace DL
open PySem PySem.Spec PyProof.Rows L2
def FnKw (P : Program) (w : World) (K : PySem.W.Frag) (mg : Str → Option Value) (base : Heap) (CX : CXT) (k : Nat) (f : Addr) (kn : Str) (sp : List V → V → Hp → VK → XK → Prop) : Prop :=
  ∀ (A : Around) (outer : List Env) (s : Shared) (H : Hp) (us : List Value) (vs : List V) (u : Value) (v : V) (Q : VK) (E : XK), Room k A → Env0 P w K mg base A outer s H → Vals vs us → RelV v u → sp vs v H Q E →
    codeAny (model P w) A (.call (.ref f) ⟨us, [(kn, u)]⟩) (CR CX outer P w H s Q E) s
section
variable {CX : CXT} {P : Program} {w : World} {K : PySem.W.Frag} {mg : Str → Option Value} {base : Heap} {k : Nat} {f : Addr} {name qual : Str} {params : Arguments} {body : List Stmt} {scope : Scope} {dV kV doc pm cdv ct oc : Value} {an od : Option Addr}
  {osl : Array (Option Value)} {N : List Str} {sp : Sp} {a0 kn pv : Str}
theorem fn_starko (lk : K.lookup f = some ⟨oc, od, .func (PySem.W.fnOf name qual params body scope dV kV doc pm an cdv ct), osl⟩) (hcd : PySem.W.codeIn K cdv qual = true) (S : FnScope N [a0, kn, pv] scope) (hCX : StX.CXUp CX)
    (h0 : ∀ a z : Value, bindArgs (PySem.W.fnOf name qual params body scope dV kV doc pm an cdv ct) ⟨[a], [(kn, z)]⟩ = (newTuple [] >>= fun t => pure [(a0, a), (kn, z), (pv, t)]))
    (h1 : ∀ (a z r : Value) (rest : List Value), bindArgs (PySem.W.fnOf name qual params body scope dV kV doc pm an cdv ct) ⟨a :: r :: rest, [(kn, z)]⟩ = (newTuple (r :: rest) >>= fun t => pure [(a0, a), (kn, z), (pv, t)]))
    (hbody : ∀ (A : Around) (outer : List Env) (s : Shared) (H : Hp) (vs : List V) (Q : VK) (E : XK), Room k (A.deeper (envOfC qual scope s.heap.objs.size f cdv)) → sp vs H Q E →
      ∃ t, PSs (cxOf CX P w K mg base N qual scope f cdv A outer s H E) body t ∧ t { nx := fun _ H' => Q .non H', rt := Q } (L2.start N vs) H) :
    FnKw P w K mg base CX (k + 1) f kn (fun vs v H Q E => ∃ x rest, vs = x :: rest ∧ rest.length ≤ sizeLine ∧ ∀ p, H p = Option.none → sp [x, v, V.ref p] (upd H p (.tup rest)) Q E) := by
  intro A outer s H us vs u v Q E hr e0 r rv hsp
  obtain ⟨x, rest, ev, hz, hq⟩ := hsp
  subst ev
  cases r with
  | cons rx r2 =>
    rename_i ux u2
    have hn : H s.heap.objs.size = Option.none := e0.hok.fresh (Nat.le_refl _)
    have hl2 : u2.length ≤ sizeLine := by rw [← r2.length]; exact hz
    have hb : bindArgs (PySem.W.fnOf name qual params body scope dV kV doc pm an cdv ct) ⟨ux :: u2, [(kn, u)]⟩ = (newTuple u2 >>= fun t => pure [(a0, ux), (kn, u), (pv, t)]) := by
      cases u2 with
      | nil => exact h0 ux u
      | cons r rr => exact h1 ux u r rr
    refine StX.run_bnd lk hcd S hr e0 (G := fun xs H2 => ∃ p, H p = Option.none ∧ xs = [x, v, V.ref p] ∧ H2 = upd H p (.tup rest)) (fun A' Ex Q' h => ?_) fun s2 H2 xs ⟨p, hp, ex, eH⟩ hr' => ?_
    · rw [hb]
      refine wpAny_bind (wpAny_newTuple (wpAny_pure ?_) hl2)
      have new : ObjOk P w (upd H s.heap.objs.size (.tup rest)) (s.heap.push ({ cls := .type "tuple", data := .seq u2.toArray } : Obj)) s.heap.objs.size (.tup rest) := ⟨hz, u2, r2, ⟨_, Heap.get?_push_size _ rfl, rfl, _, rfl⟩⟩
      have un := StX.un_laid (fs := frs outer) (s := s) (o := ({ cls := .type "tuple", data := .seq u2.toArray } : Obj)) (u := .tup rest) hn
      exact h _ _ [x, v, V.ref s.heap.objs.size] [ux, u, Value.ref s.heap.objs.size] (StX.env0_laid e0 new) un rfl (fun e s' => hCX outer s H _ _ E e s' un (fun b o q => Heap.get?_push_of_some _ q) rfl) (.cons rx (.cons rv (.cons rfl .nil)))
        rfl ⟨_, hn, rfl, rfl⟩
    · subst ex eH
      exact hbody A outer s2 _ _ Q E hr' (hq p hp)
end
def tMakeSK (K : PySem.W.Frag) (C : Addr) (sp : List V → V → Hp → VK → XK → Prop) (E : XK) (te tk : TE) : TE := fun σ H Q => te σ H fun y H1 => ∃ a, y = V.ref a ∧ tk σ H1 fun z H2 => ∃ xs, (SqT K H2 a xs ∨ SqL K H2 a xs) ∧ ∀ x dx, H2 x = Option.none → H2 dx = Option.none → dx ≠ x →
  sp (.ref x :: xs) z (upd (upd H2 dx (.own x)) x (.ins C dx [])) (fun v H3 => v = .non ∧ Q (.ref x) H3) E
section
variable {X : Cx} {CX : CXT} {k : Nat} {f C : Addr} {sp : List V → V → Hp → VK → XK → Prop} {E : XK} {x kn : Str} {p p9 pos kpos : Pos} {e e2 : Expr} {es : List Expr} {te tk : TE} {t : TA}
theorem run_makeKw {pins : List (Addr × Obj)} {σ : L2.St} {H : Hp} {s : Shared} {Q : VK} {us : List Value} {u : Value} {vs : List V} {z : V} (M : Mk X.K C f) (F : FnKw X.prog X.w X.K X.mg X.base CX k f kn sp) (hr : Room (k + 1) X.A) (hx : Passes CX X E)
    (I : Inv X pins σ H s) (r : Vals vs us) (rz : RelV z u)
    (h : ∀ x dx, H x = Option.none → H dx = Option.none → dx ≠ x → sp (.ref x :: vs) z (upd (upd H dx (.own x)) x (.ins C dx [])) (fun v H2 => v = .non ∧ Q (.ref x) H2) E) :
    wpAny (model X.prog X.w) X.A (call (.ref C) us [(kn, u)]) (EP X pins σ Q) X.xe s := by
  have hq := h (s.heap.objs.size + 1) s.heap.objs.size (I.hok.fresh (Nat.le_succ _)) (I.hok.fresh (Nat.le_refl _)) (Nat.ne_of_lt (Nat.lt_succ_self _))
  have I2 := Inv.made (C := C) I
  refine wpAny_call (make_map (f := f) I.kIn M.makes M.init (beq_iff_eq.mp M.fn) (codeAny_mono (F _ X.stack _ _ (Value.ref (s.heap.objs.size + 1) :: us) (V.ref (s.heap.objs.size + 1) :: vs) u z _ E (hr.make C us [(kn, u)])
    (I2.env0.make C us [(kn, u)]) (.cons rfl r) rz hq) fun r s' hq' => ?_))
  cases r with
  | error e => exact hx pins σ _ _ e s' I2 hq'
  | ok fl =>
    cases fl with
    | ret u =>
      obtain ⟨v, H', I3, rv, ev, q3⟩ := I2.after hq'
      subst ev
      exact ⟨rv, ⟨V.ref (s.heap.objs.size + 1), H', I3, rfl, q3⟩⟩
    | next => exact False.elim hq'
    | brk => exact False.elim hq'
    | cont => exact False.elim hq'
theorem pe_makeSK (M : Mk X.K C f) (F : FnKw X.prog X.w X.K X.mg X.base CX k f kn sp) (hr : Room (k + 1) X.A) (hm : X.mg x = some (.ref C)) (hx : Passes CX X E) (he : PE X e te) (hk : PE X e2 tk) (hg : Gl X x := by rfl) (hdb : (x == ("__debug__" : Str)) = false := by decide)
    (hst : starEach [.Starred e p9] X.env = [(true, eval e X.env)] := by rfl) (hkw : backToKw pos (keywordEach [⟨some kn, e2, kpos⟩] X.env) = [(some kn, (do let v ← eval e2 X.env; standAt pos; pure v))] := by rfl) :
    PE X (.Call (.Name x p) [.Starred e p9] [⟨some kn, e2, kpos⟩] pos) (tMakeSK X.K C sp E te tk) := by
  refine ⟨fun pins s σ H Q I h => ?_⟩
  refine wpAny_Call_Name_kw (ld_glob I hg hm ?_ hdb)
  refine PySem.W.callWith_SK M.kp (by rw [hkw] <;> rfl) (thn (he.run pins s σ H _ I h) fun v s1 ⟨y, H1, I1, ry, a, ey, q⟩ => ?_) hst
  subst ey
  obtain rfl : v = Value.ref a := ry
  rw [hkw]
  refine wpAny_evalAll_cons (wpAny_bind (thn (hk.run pins s1 σ H1 _ I1 q) fun u s2 ⟨z, H2, I2, rz, xs, hxs, q2⟩ => wpAny_bind (wpAny_standAt (wpAny_pure (wpAny_evalAll_nil ?_)))))
  refine StX.star_any I2 hxs fun us s3 I3 rv => ⟨I3.kIn, ?_⟩
  exact run_makeKw M F hr hx I3 rv rz q2
end
end DL
end
section
namespace DL
open PySem PySem.Spec PyProof.Rows L2
section
variable {K : PySem.W.Frag} {S : Sit} {c : Cl} {C : Addr} {ta tk : TE} {a b : TED} {ts : TA} {as : TAD} {E : XK} {xd : XD} {ind : InD}
theorem star_heap {Z : Addr → Prop} {H1 : Hp} {x dx p : Addr} {xs : List V} (w : Wd S Z H1) (hx : H1 x = none) (hdx : H1 dx = none) (hne : dx ≠ x) (hp : upd (upd H1 dx (.own x)) x (.ins C dx []) p = none) :
    Kp S H1 (upd (upd (upd H1 dx (.own x)) x (.ins C dx [])) p (.tup xs)) ∧ S.I (upd (upd (upd H1 dx (.own x)) x (.ins C dx [])) p (.tup xs)) ∧ upd (upd (upd H1 dx (.own x)) x (.ins C dx [])) p (.tup xs) x = some (.ins C dx []) ∧
      (∃ o, upd (upd (upd H1 dx (.own x)) x (.ins C dx [])) p (.tup xs) dx = some o ∧ isX o = false) ∧ Ex (hide H1 Z) (hide (upd (upd (upd H1 dx (.own x)) x (.ins C dx [])) p (.tup xs)) (fun a => Z a ∨ a = x ∨ a = dx)) ∧ ¬ (Z p ∨ p = x ∨ p = dx) := by
  obtain ⟨k2, i2, e2, ex⟩ := made_heap (C := C) w hx hdx hne
  have nx : p ≠ x := fun e => by rw [e, upd_same] at hp; cases hp
  have ndx : p ≠ dx := fun e => by rw [e, e2] at hp; cases hp
  have h1p : H1 p = none := by rw [upd_ne nx, upd_ne ndx] at hp; exact hp
  have nz : ¬ Z p := w.fresh h1p
  have k3 : Kp S (upd (upd H1 dx (.own x)) x (.ins C dx [])) (upd (upd (upd H1 dx (.own x)) x (.ins C dx [])) p (.tup xs)) := Kp.new hp
  refine ⟨k2.trans k3, S.stab _ _ (fun b o e _ => by rw [upd_ne (ne_of_none e hp)]; exact e) i2, by rw [upd_ne (Ne.symm nx), upd_same], ⟨.own x, by rw [upd_ne (Ne.symm ndx)]; exact e2, rfl⟩, fun a o e => ?_, ?_⟩
  · obtain ⟨n, e⟩ := hide_some.mp (ex a o e)
    exact hide_some.mpr ⟨n, by rw [upd_ne (ne_of_none e hp)]; exact e⟩
  · rintro (z | z | z)
    · exact nz z
    · exact nx z
    · exact ndx z
def spInK (K : PySem.W.Frag) (S : Sit) (C : Addr) (ind : InD) : List V → V → Hp → VK → XK → Prop := fun vs v H Q E => ∃ x rest, vs = x :: rest ∧ rest.length ≤ sizeLine ∧ ∀ p, H p = none → liftIn K S C ind [x, v, V.ref p] (upd H p (.tup rest)) Q E
def dMakeSK (ind : InD) (C : Addr) (xd : XD) (a b : TED) : TED := fun ρ P => a ρ fun y => match y.items with
  | some ds => b ρ fun z => ds.length ≤ 1000000 ∧ ind [z, .tup ds] (fun fn es => P (.ins C fn es)) xd
  | none => False
theorem we_makeSK (hE : XOk K S c E xd) (ha : WE K S c ta a) (hb : WE K S c tk b) : WE K S c (tMakeSK K C (spInK K S C ind) E ta tk) (dMakeSK ind C xd a b) := by
  intro Z σ H ρ P rv h Q q
  refine ha Z σ H ρ _ rv h _ fun u H0 y k0 iv0 r0 hd => ?_
  have rv0 := rv.step k0 iv0
  cases hy : y.items with
  | none => rw [hy] at hd; exact hd.elim
  | some ds =>
    rw [hy] at hd
    obtain ⟨pa, _, ha, _⟩ := items_rep hy r0
    refine ⟨pa, ha, ?_⟩
    refine hb Z σ H0 ρ _ rv0 hd _ fun v H1 z k iv rz hd => ?_
    have rv1 := rv0.step k iv
    obtain ⟨p', vs, e, h1, r⟩ := items_rep hy (Rep.mono (rv0.wd.ex k) y u r0)
    rw [ha] at e
    cases e
    refine ⟨vs, (sq_hide h1).symm, ?_⟩
    intro x dx hx hdx hne
    refine ⟨V.ref x, vs, rfl, sz (by rw [← r.len]; exact hd.1), fun p hp => ?_⟩
    obtain ⟨k2, i2, e2, e3, ex, nz⟩ := star_heap (C := C) (xs := vs) rv1.wd hx hdx hne hp
    refine in_of rv1.wd k2 i2 hx hdx e2 e3 (ds := [z, .tup ds]) (RepL.cons (Rep.mono ex z v rz) (RepL.cons ?_ RepL.nil)) hd.2 (fun v H' d k' i' r' h' => q v H' d ((k0.trans k).trans k') i' r' h') (hE.at rv1)
    unfold Rep
    exact ⟨p, vs, rfl, .inl (.inl (hide_some.mpr ⟨nz, upd_same⟩)), RepL.mono ex ds vs r⟩
def dFldS (i : Nat) (C : Addr) (f : Str) (a : TED) : TSD := fun Dd ρ => (∃ p dx fn es, ρ[i]? = some (some (.own (.ins C p dx fn) es))) ∧ a ρ fun d => match ρ[i]? with
  | some (some (.own (.ins C' p dx fn) es)) => fn.length < 1000 ∧ Dd.nx (ρ.set i (some (.own (.ins C' p dx (putD f d fn es).1) (putD f d fn es).2)))
  | _ => False
theorem ws_fldS {i : Nat} {f : Str} (hc : Cls K C) (hn : NoAttr K C f) (ha : WE K S c ta a) : WS K S c (sFld K (tVar i) ta f) (dFldS i C f a) := by
  rintro B σ H ρ Dd D ⟨Z, r⟩ ⟨⟨p, dx, fn, es, hi⟩, h⟩ F
  refine ha Z σ H ρ _ r.rv h _ fun v H1 d k iv q hd => ?_
  have r1 := r.step k iv
  obtain ⟨p', xs, e1, z, h0, e2, ⟨hp, hl⟩, rl⟩ := r1.own i _ es hi
  subst hp
  rw [hi] at hd
  obtain ⟨hz, hd⟩ := hd
  refine ⟨_, e1, p', C, dx, _, rfl, e2, hc, hn, ?_, ?_⟩
  · rw [List.length_zip, hl, Nat.min_self, ← hl]
    exact hz
  · obtain ⟨ys, g1, g2, g3⟩ := put_rep (f := f) q hl rl
    rw [g1]
    exact F.nx σ _ _ ⟨Z, r1.write (kd' := .ins C p' dx _) hi e1 ⟨rfl, g2⟩ g3⟩ hd
end
section
variable {K : PySem.W.Frag} {S : Sit} {c : Cl} {X : Cx} {ta tb : TE} {a b : TED} {ts : TA} {as : TAD} {e e1 e2 o : Expr} {es : List Expr} {pos pos' p1 p2 kpos : Pos} {x f kn : Str} {C : Addr} {E : XK} {xd : XD} {ind : InD} {CX : CXT} {k : Nat} {fi : Addr}
theorem ds_fldS (i : Nat) (hK : X.K = K) (hc : Cls K C) (hn : NoAttr K C f) (hv : DE K S c X e ta a) (hN : X.N[i]? = some x := by rfl) (hvis : Vis X.env.scope x := by first | exact Or.inl rfl | exact Or.inr (Or.inl rfl)) (hd : (x == ("__debug__" : Str)) = false := by decide)
    (hcd : (x == ("__classdict__" : Str)) = false := by decide) (hs : swapsWith e (some (.Attribute (.Name x p1) f pos')) pos.line X.env = pure false := by rfl) :
    DS K S c X (.Assign [.Attribute (.Name x p1) f pos'] e pos) (sFld K (tVar i) ta f) (dFldS i C f a) := by
  subst hK
  exact ⟨ps_fld (pe_var hN hvis hd hcd) hv.pe hs, ws_fldS hc hn hv.we⟩
theorem de_makeSK (hK : X.K = K) (M : Mk X.K C fi) (F : FnKw X.prog X.w X.K X.mg X.base CX k fi kn (spInK K S C ind)) (hr : Room (k + 1) X.A) (hm : X.mg x = some (.ref C)) (hx : Passes CX X E) (hE : XOk K S c E xd) (ha : DE K S c X e ta a) (hb : DE K S c X e2 tb b) (hg : Gl X x := by rfl) (hdb : (x == ("__debug__" : Str)) = false := by decide)
    (hst : starEach [.Starred e p2] X.env = [(true, eval e X.env)] := by rfl) (hkw : backToKw pos (keywordEach [⟨some kn, e2, kpos⟩] X.env) = [(some kn, (do let v ← eval e2 X.env; standAt pos; pure v))] := by rfl) :
    DE K S c X (.Call (.Name x p1) [.Starred e p2] [⟨some kn, e2, kpos⟩] pos) (tMakeSK K C (spInK K S C ind) E ta tb) (dMakeSK ind C xd a b) := by
  subst hK
  exact ⟨pe_makeSK M F hr hm hx ha.pe hb.pe hg hdb hst hkw, we_makeSK hE ha.we hb.we⟩
end
section
variable {P : Program} {w : World} {K : PySem.W.Frag} {S : Sit} {mg : Str → Option Value} {base : Heap}
open Classical in
noncomputable def cutP (H : Hp) (p : Addr) : Hp := fun b => if b = p then none else H b
theorem cutP_ne {H : Hp} {p b : Addr} (h : b ≠ p) : cutP H p b = H b := by unfold cutP; rw [if_neg h]
theorem cutP_at {H : Hp} {p : Addr} : cutP H p p = none := by unfold cutP; rw [if_pos rfl]
theorem cutP_some {H : Hp} {p b : Addr} {o : HO} (h : cutP H p b = some o) : b ≠ p ∧ H b = some o := by
  by_cases e : b = p
  · subst e; rw [cutP_at] at h; cases h
  · exact ⟨e, by rw [cutP_ne e] at h; exact h⟩
theorem rz_init {Z : Addr → Prop} {H : Hp} {N : List Str} {vs : List V} {ds : List D} {E : XK} {x : XD} {C p dx : Addr} (wd : Wd S Z H) (hp : H p = some (.ins C dx [])) (zp : Z p) (np : ¬ S.W p) (hs : S.Hs p = none) (r : RepL K (hide H Z) ds vs) :
    RZ K S ⟨fun a => Z a ∧ a ≠ p, cutP H p, E, x⟩ (fun _ => none) Z (L2.start N (.ref p :: vs)) H (startD N (.own (.ins C p dx []) [] :: ds)) := by
  have cut : ∀ (i : Nat) d, (startD N (.own (.ins C p dx []) [] :: ds))[i]? = some (some d) → (i = 0 ∧ d = .own (.ins C p dx []) []) ∨ ∃ j, i = j + 1 ∧ ds[j]? = some d := fun i d h => by
    have e := startD_get h
    cases i with
    | zero => exact .inl ⟨rfl, (Option.some.inj e).symm⟩
    | succ j => exact .inr ⟨j, rfl, e⟩
  have noOwn : ∀ (j : Nat) d, ds[j]? = some d → d.isOwn = true → False := fun j d h o => by
    obtain ⟨v, _, q⟩ := r.get h
    rw [rep_notOwn q] at o; cases o
  refine ⟨⟨wd, fun b o e n => (cutP_some e).2, fun a z => z.1, start_len (by simp [r.len]), fun i d h n => ?_⟩, ⟨fun b o e => ?_, fun a wa => ⟨wd.wz a wa, fun e => by rw [e] at wa; exact np wa⟩, fun a z => ?_, fun a o z e => wd.zx a o z.1 (cutP_some e).2, S.stab H _ (fun a o eo hw => by
    show cutP H p a = some o
    rw [cutP_ne fun e => hw.elim (fun wa => by rw [e] at wa; exact np wa) fun hx => by rw [e, hp] at eo; cases eo; cases hx]
    exact eo) wd.inv⟩, (fun _ _ h => by cases h), fun i => if i = 0 then [p] else [], fun i d h o => ?_, fun i j d e a h1 o1 h2 o2 _ _ => ?_⟩
  · rcases cut i d h with ⟨_, rfl⟩ | ⟨j, rfl, e⟩
    · cases n
    · obtain ⟨v, e1, q⟩ := r.get e
      exact ⟨v, start_get (by simpa using e1), q⟩
  · obtain ⟨h1, h2⟩ := wd.base b o e
    exact ⟨by show cutP H p b = some o; rw [cutP_ne (fun e' => by rw [e', hs] at e; cases e)]; exact h1, fun z => h2 z.1⟩
  · obtain ⟨o, e⟩ := wd.zin a z.1
    exact ⟨o, by show cutP H p a = some o; rw [cutP_ne z.2]; exact e⟩
  · rcases cut i _ h with ⟨rfl, rfl⟩ | ⟨j, rfl, e⟩
    · refine ⟨.ref p, start_get rfl, ?_, (List.nodup_cons.mpr ⟨by simp, List.nodup_nil⟩ : ([p] : List Addr).Nodup)⟩
      show Own K H Z (cutP H p) _ _ [p]
      unfold Own
      exact ⟨p, [], rfl, rfl, zp, cutP_at, hp, ⟨rfl, rfl⟩, RepL.nil⟩
    · exact (noOwn j d e o).elim
  · rcases cut i _ h1 with ⟨rfl, _⟩ | ⟨i', rfl, e1⟩
    · rcases cut j _ h2 with ⟨rfl, _⟩ | ⟨j', rfl, e2⟩
      · rfl
      · exact (noOwn j' e e2 o2).elim
    · exact (noOwn i' d e1 o1).elim
def InitEnds (C p dx : Addr) (Pd : List Str → List D → Prop) : EndsD := { nx := fun ρ => ∃ fn es, ρ[0]? = some (some (.own (.ins C p dx fn) es)) ∧ Pd fn es, rt := fun _ => False }
theorem fit_init {Z : Addr → Prop} {H : Hp} {E : XK} {x : XD} {C p dx : Addr} {Pd : List Str → List D → Prop} {Q : VK} (zp : Z p)
    (hq : ∀ H' fn es xs, (∀ b o, H b = some o → b ≠ p → ¬ S.W b → H' b = some o) → S.I H' → H' p = some (.ins C dx (fn.zip xs)) → fn.length = xs.length → RepL K (hide H' Z) es xs → Pd fn es → Q .non H') :
    Fit K S ⟨fun a => Z a ∧ a ≠ p, cutP H p, E, x⟩ (fun _ => none) (InitEnds C p dx Pd) { nx := fun _ H' => Q .non H', rt := Q } := by
  refine ⟨fun σ H' ρ ⟨Z', r⟩ ⟨fn, es, h1, h2⟩ => ?_, fun _ _ _ _ _ _ h => h.elim, fun _ _ _ _ h => h.elim, fun _ _ _ _ h => h.elim⟩
  obtain ⟨p', xs, e1, z, h0, e2, ⟨hp, hl⟩, rl⟩ := r.own 0 _ es h1
  subst hp
  refine hq H' fn es xs (fun b o e n nw => r.rv.kp b o (by show cutP H p' b = some o; rw [cutP_ne n]; exact e) nw) r.rv.wd.inv e2 hl (RepL.mono (hide_weak fun a za => ?_) es xs rl) h2
  by_cases ea : a = p'
  · rw [ea]; exact z
  · exact r.rv.zz a ⟨za, ea⟩
end
end DL
end
section
namespace DL
open PySem PySem.Spec PyProof.Rows L2
theorem en_new {v : Value} {o : Obj} {H : Heap → Prop} (B : Begins v o H) : Meets (Builtin.«enumerate.__new__» ⟨[.type "enumerate", v], []⟩) (fun _ R s => H s.heap ∧
    R (.ok (.ret (.ref (s.heap.push o).objs.size))) { s with heap := (s.heap.push o).push { cls := .type "enumerate", data := .fields #[.none, .bool false, .ref s.heap.objs.size, rawInt 0, .none, .none] } }) :=
  .of_wp fun prog w A R s h => by
    obtain ⟨hp, g, d, tk, os⟩ := s
    obtain ⟨hB, hR⟩ := h
    have hsu := sub_enumerate
    have qq : ∀ {A' : Around} {E Q : Value → Shared → Prop}, Q (.ref hp.objs.size) ⟨hp.push o, g, d, tk, os⟩ → wpAny (model prog w) A' (pyIter v) Q E ⟨hp, g, d, tk, os⟩ := fun q => B.iter prog w _ _ ⟨hp, g, d, tk, os⟩ _ hB q
    wp_walk using qq
    refine wpAny_stack_any fun st => wpAny_pure ?_
    split
    · rename_i c _ _ _ _ _
      cases (c == Value.type "enumerate") <;> (wp_walk using qq; exact ⟨_, rfl, hR⟩)
    · (wp_walk using qq; exact ⟨_, rfl, hR⟩)
theorem en_call {prog : Program} {w : World} {A : Around} {E : Value → Shared → Prop} {s : Shared} {v : Value} {o : Obj} {H : Heap → Prop} {Q : Value → Shared → Prop} (B : Begins v o H) (hB : H s.heap)
    (h : ∀ h', IsEnum h' (s.heap.objs.size + 1) s.heap.objs.size 0 .none → h'.get? s.heap.objs.size = some o → h'.objs.size = s.heap.objs.size + 2 → (∀ b ob, s.heap.get? b = some ob → h'.get? b = some ob) → Q (.ref (s.heap.objs.size + 1)) { s with heap := h' }) :
    wpAny (model prog w) A (call (.type "enumerate") [v]) Q E s := by
  refine callType_new F.called_enumerate (by decide) (F.typeCall_enumerate_1 _) (F.newCall_enumerate_1 _) (fun obj => F.args_object_init_2 obj _) F.entry_enumerate_new (en_new B) ⟨hB, ?_⟩
  have z1 : (s.heap.push o).objs.size = s.heap.objs.size + 1 := Heap.size_push ..
  have en : IsEnum ((s.heap.push o).push { cls := .type "enumerate", data := .fields #[.none, .bool false, .ref s.heap.objs.size, rawInt 0, .none, .none] }) (s.heap.objs.size + 1) s.heap.objs.size 0 .none := by
    have q := Heap.get?_push_size (s.heap.push o) (o := { cls := .type "enumerate", data := .fields #[.none, .bool false, .ref s.heap.objs.size, rawInt 0, .none, .none] }) rfl
    rw [z1] at q
    exact q
  show _ ∧ _
  rw [z1]
  exact ⟨⟨_, en, rfl⟩, h _ en (Heap.get?_push_of_some _ (Heap.get?_push_size _ B.free)) (by rw [Heap.size_push, z1]) fun b ob e => Heap.get?_push_of_some _ (Heap.get?_push_of_some _ e)⟩
theorem en_end {prog : Program} {w : World} {A : Around} {E : Value → Shared → Prop} {s : Shared} {e it t : Addr} {k : Int} {i : Nat} {items : Array Value} {old : Value} {Q : Option Value → Shared → Prop} (hh : A.handled = none) (he : IsEnum s.heap e it k old) (hit : s.heap.IsTupleIter it t i)
    (ht : s.heap.IsTuple t items) (hx : items[i]? = none) (hQ : ∀ h', Heap.ExtBut it s.heap h' → Q none { s with heap := h' }) : wpAny (model prog w) A (pyNext (.ref e)) Q E s := by
  have ty : s.TypeIs (.ref e) "enumerate" := ⟨_, he, rfl⟩
  unfold pyNext
  refine wpAny_bind (wpAny_attempt (wpAny_callSpecial?_slot (name := Str.ofString "__next__") ty F.slot_enumerate_next (wpAny_call_entry F.slot_enumerate_next ty F.entry_enumerate_next ?_ (F.args_enumerate_next_1 _))))
  show wpAny _ _ (field (.ref e) 2 >>= _) _ _ _
  refine wpAny_bind (wpAny_field he rfl (x := .ref it) rfl (wpAny_bind (wpAny_nextOf_tuple_end (by simpa using hh) hit ht hx fun h' x xb ⟨o, ho, hc⟩ => ?_)))
  exact wpAny_bind (wpAny_isInstance (T := "StopIteration") (b := true) ⟨o, ho, hc⟩ isSubtype_stop (wpAny_pure (hQ _ xb)))
def IeT (K : PySem.W.Frag) (a : Addr) : It :=
  ⟨fun i H => ∃ (xs : List V) (x : V), SqT K H a xs ∧ xs[i]? = some x, fun i H v H' => ∃ T x, v = .ref T ∧ H T = none ∧ H' = upd H T (.tup [.int (i : Nat), x]) ∧ ∀ xs, SqT K H a xs → xs[i]? = some x, fun i H => ∃ xs : List V, SqT K H a xs ∧ xs.length ≤ i⟩
theorem turn_enT {P : Program} {w : World} {K : PySem.W.Frag} {elts : List Expr} {kk : Nat} {tpos : Pos} (a e it : Addr) (hai : a ≠ it) (hea : e ≠ a) :
    Turn P w K (.Tuple elts kk tpos) (IeT K a) [e, it] e (fun i h => (∃ old, IsEnum h e it ((i : Nat) : Int) old) ∧ h.IsTupleIter it a i ∧ e ≠ it) where
  mem := by simp
  obj := fun i h st b hb => by
    obtain ⟨⟨old, he⟩, ⟨o, ho, hc, hd⟩, _⟩ := st
    rcases (by simpa using hb : b = e ∨ b = it) with z | z
    · rw [z]; exact ⟨_, he, fun v q => nomatch q⟩
    · rw [z]; exact ⟨o, ho, fun v q => by rw [hd] at q; cases q⟩
  keep := fun i h h' st k => let ⟨⟨old, he⟩, hi, hne⟩ := st; ⟨⟨old, k e (by simp) _ he⟩, hi.at fun o q => k it (by simp) o q, hne⟩
  item := by
    intro X hP hw hK hc i pins s σ H E I hf st hg
    subst hP hw hK
    obtain ⟨⟨old, he⟩, hit, hne⟩ := st
    obtain ⟨xs, x, hq, hx⟩ := hg
    obtain ⟨its, rv, p, hz⟩ := I.tuple hq
    obtain ⟨u, hu, ru⟩ := rv.get hx
    have hel : e < s.heap.objs.size := Heap.lt_size he
    have hil : it < s.heap.objs.size := by obtain ⟨_, q, _⟩ := hit; exact Heap.lt_size q
    have hlt : i < its.toArray.size := by
      rw [List.size_toArray]
      exact (List.getElem?_eq_some_iff.mp hu).1
    refine wpAny_pyNext_enum_itemD (Draws.tuple (by simpa using I.ok.hd hc) it a hai its.toArray) he ⟨hit, p⟩ hlt hne (by simp only [List.mem_cons, List.not_mem_nil, or_false, not_or]; exact ⟨hne, hea⟩) fun x' h' tk hx' ho hst hT hsz hk => ?_
    have ex : x' = u := by
      have e2 : its[i]? = some x' := by simpa using hx'
      rw [hu] at e2
      cases e2
      rfl
    subst ex
    refine ⟨_, rfl, wpAny_letOwnedTupleGo_enum (s := { s with heap := h', toks := tk + 1 }) ho fun h'' he' sb => ?_⟩
    have hT2 : h''.get? s.heap.objs.size = some { cls := .type "tuple", data := .seq #[.int i tk, x'] } := (sb.2 _ (Nat.ne_of_gt hel)).trans hT
    have new : ObjOk X.prog X.w (upd H s.heap.objs.size (.tup [.int (i : Nat), x])) h'' s.heap.objs.size (.tup [.int (i : Nat), x]) :=
      ⟨by show 2 ≤ sizeLine; decide, [.int i tk, x'], .cons ⟨_, rfl⟩ (.cons ru .nil), ⟨_, hT2, rfl, _, rfl⟩⟩
    have I1 : Inv X pins σ (upd H s.heap.objs.size (.tup [.int (i : Nat), x])) { s with heap := h'', toks := tk + 1 } :=
      I.turnedNew (ch := [e, it]) (fun b ob hb q => (sb.2 b (fun z => hb (by simp [z]))).trans (hk b ob (fun z => hb (by simp [z])) (fun z => hb (by simp [z])) q)) hf (Nat.le_refl _) new
    refine ⟨.ref s.heap.objs.size, _, I1, rfl, ⟨_, x, rfl, I.hok.fresh (Nat.le_refl _), rfl, fun ys hy => by rw [I.tuple_inj hy hq]; exact hx⟩, ⟨⟨x', ?_⟩, hst.1.at fun o q => (sb.2 it (Ne.symm hne)).trans q, hne⟩, fun b hb => ?_⟩
    · rw [Int.natCast_add, Int.natCast_one]; exact he'
    · have hb' : b < s.heap.objs.size := by
        rcases (by simpa using hb : b = e ∨ b = it) with z | z
        · rw [z]; exact hel
        · rw [z]; exact hil
      rw [upd_ne (Nat.ne_of_lt hb')]
      exact (hf b hb).1
  done := by
    intro X hP hw hK hc i pins s σ H E I hf st hg
    subst hP hw hK
    obtain ⟨⟨old, he⟩, hit, hne⟩ := st
    obtain ⟨xs, hq, hx⟩ := hg
    obtain ⟨its, rv, p, hz⟩ := I.tuple hq
    obtain ⟨f0, f1, f2, f3, f4, f5⟩ := hf it (by simp)
    have hl := rv.length
    exact en_end (I.ok.hd hc) he hit p (Array.getElem?_eq_none (by rw [List.size_toArray, ← hl]; exact hx)) fun h' eb => ⟨rfl, I.turned (t' := s.toks) (fun b o hb q => eb b o hb q) f0 f1 f3 f4 f5⟩
  self := fun A i s Q E st h => let ⟨⟨_, he⟩, _⟩ := st; wpAny_pyIter_enum he h
def iEnT (K : PySem.W.Frag) (ta : TA) : TI := fun σ H R => ta σ H fun vs H1 => ∃ a xs, vs = [.ref a] ∧ SqT K H1 a xs ∧ R (IeT K a) H1
theorem pi_enT {X : Cx} {e : Expr} {ta : TA} {p pos tpos : Pos} {elts : List Expr} {kk : Nat} (hg : Gl X "enumerate") (hm : X.mg "enumerate" = none) (ha : PA X [e] ta) (hs : starEach [e] X.env = [(false, eval e X.env)] := by rfl) :
    PI X (.Tuple elts kk tpos) (.Call (.Name "enumerate" p) [e] [] pos) (iEnT X.K ta) := by
  refine ⟨fun pins s σ H R I h => ?_⟩
  refine Call_ (ld_blt I hg hm boot_enumerate (PyProof.Rows.callWith_type1 (thn (ha.run pos pins s σ H _ I h) fun us s1 ⟨vs, H1, I1, r1, a, xs, ex, hq, q⟩ => ?_) hs rfl))
  subst ex
  obtain ⟨u, rfl, ru⟩ := vals1 r1
  obtain rfl : u = Value.ref a := ru
  obtain ⟨its, rv, p', hz⟩ := I1.tuple hq
  have la : a < s1.heap.objs.size := by obtain ⟨_, q', _⟩ := p'; exact Heap.lt_size q'
  refine en_call (begins_tuple a its.toArray) p' fun h' he hit hsz hk => wpAny_pyIter_enum he ?_
  have I2 : Inv X pins σ H1 { s1 with heap := h' } := I1.kept (t' := s1.toks) hk
  refine ⟨s1.heap.objs.size + 1, [s1.heap.objs.size + 1, s1.heap.objs.size], _, _, H1, rfl, I2, turn_enT a (s1.heap.objs.size + 1) s1.heap.objs.size (Nat.ne_of_lt la) (Nat.ne_of_gt (Nat.lt_succ_of_lt la)), ⟨⟨.none, he⟩, ⟨_, hit, rfl, rfl⟩, Nat.succ_ne_self _⟩, fun b hb => ?_, q⟩
  have hle : s1.heap.objs.size ≤ b := by
    rcases (by simpa using hb : b = s1.heap.objs.size + 1 ∨ b = s1.heap.objs.size) with z | z <;> (rw [z]; first | exact Nat.le_refl _ | exact Nat.le_add_right _ _)
  exact I1.fpOk hle (I1.hok.fresh hle)
end DL
end
section
namespace DL
open PySem PySem.Spec PyProof.Rows L2
def enD (ds : List D) : List D := ds.mapIdx fun i d => .tup [.int (i : Nat), d]
theorem enD_get {ds : List D} {i : Nat} {d : D} (h : (enD ds)[i]? = some d) : ∃ x, ds[i]? = some x ∧ d = .tup [.int (i : Nat), x] := by
  unfold enD at h
  rw [List.getElem?_mapIdx] at h
  cases q : ds[i]? with
  | none => rw [q] at h; cases h
  | some x => rw [q] at h; cases h; exact ⟨x, rfl, rfl⟩
theorem enD_len {ds : List D} : (enD ds).length = ds.length := by unfold enD; simp
section
variable {K : PySem.W.Frag} {S : Sit} {c : Cl} {te : TE} {ta : TA} {a : TED} {as : TAD}
def iEnumLD (as : TAD) : TAD := fun ρ P => as ρ fun ds => match ds with
  | [.lst es] => P (enD es)
  | _ => False
def iEnumTD (as : TAD) : TAD := fun ρ P => as ρ fun ds => match ds with
  | [.tup es] => P (enD es)
  | _ => False
theorem pair_rep {H2 : Hp} {Z2 : Addr → Prop} {T : Addr} {i : Nat} {y : V} {x : D} (z : ∀ a, Z2 a → ∃ o, H2 a = some o) (hT : H2 T = none) (r : Rep K (hide H2 Z2) x y) : Rep K (hide (upd H2 T (.tup [.int (i : Nat), y])) Z2) (.tup [.int (i : Nat), x]) (.ref T) := by
  have nz : ¬ Z2 T := fun q => by
    obtain ⟨o, e⟩ := z T q
    rw [hT] at e; cases e
  have ex : Ex (hide H2 Z2) (hide (upd H2 T (.tup [.int (i : Nat), y])) Z2) := fun b o e => by
    obtain ⟨n, e⟩ := hide_some.mp e
    exact hide_some.mpr ⟨n, by rw [upd_ne (ne_of_none e hT)]; exact e⟩
  unfold Rep
  exact ⟨T, [.int (i : Nat), y], rfl, .inl (.inl (hide_some.mpr ⟨nz, upd_same⟩)), RepL.cons repI (RepL.cons (Rep.mono ex _ _ r) RepL.nil)⟩
theorem wi_enumT (hs : WA K S c ta as) : WI K S c (iEnT K ta) (iEnumTD as) := by
  intro Z σ H ρ P rv h Q q
  refine hs Z σ H ρ _ rv h _ fun vs H1 ds k iv r hd => ?_
  split at hd
  · rename_i es
    obtain ⟨v, rfl, r1⟩ := repL1 r
    unfold Rep at r1
    obtain ⟨p, xs, rfl, h1, h2⟩ := r1
    refine ⟨p, xs, rfl, ex_t hide_ex h1, q _ H1 _ k iv hd fun H2 Z2 e z => ?_⟩
    have g2 : SqT K H2 p xs := ex_t (fun a o q => hide_ex _ _ (e a o q)) h1
    refine ⟨fun i d hi => ?_, ⟨xs, g2, by rw [enD_len, h2.len]; exact Nat.le_refl _⟩⟩
    obtain ⟨x, hx, rfl⟩ := enD_get hi
    obtain ⟨y, hy, ry⟩ := h2.get hx
    refine ⟨⟨xs, y, g2, hy⟩, fun v H' ⟨T, y', e1, hT, e2, e3⟩ => ?_⟩
    have e4 := e3 xs g2
    rw [hy] at e4
    cases e4
    subst e1 e2
    exact ⟨fun b o eb => by rw [upd_ne (ne_of_none eb hT)]; exact eb, pair_rep z hT (Rep.mono e x y ry)⟩
  · exact hd.elim
theorem wi_enumL (hs : WA K S c ta as) : WI K S c (iEnum K ta) (iEnumLD as) := by
  intro Z σ H ρ P rv h Q q
  refine hs Z σ H ρ _ rv h _ fun vs H1 ds k iv r hd => ?_
  split at hd
  · rename_i es
    obtain ⟨v, rfl, r1⟩ := repL1 r
    unfold Rep at r1
    obtain ⟨p, xs, rfl, h1, h2⟩ := r1
    refine ⟨p, xs, rfl, .inl (.inl (hide_ex _ _ h1)), q _ H1 _ k iv hd fun H2 Z2 e z => ?_⟩
    have g2 : SqL K H2 p xs := .inl (.inl (hide_ex _ _ (e _ _ h1)))
    refine ⟨fun i d hi => ?_, ⟨xs, g2, by rw [enD_len, h2.len]; exact Nat.le_refl _⟩⟩
    obtain ⟨x, hx, rfl⟩ := enD_get hi
    obtain ⟨y, hy, ry⟩ := h2.get hx
    refine ⟨⟨xs, y, g2, hy⟩, fun v H' ⟨T, y', e1, hT, e2, e3⟩ => ?_⟩
    have e4 := e3 xs g2
    rw [hy] at e4
    cases e4
    subst e1 e2
    exact ⟨fun b o eb => by rw [upd_ne (ne_of_none eb hT)]; exact eb, pair_rep z hT (Rep.mono e x y ry)⟩
  · exact hd.elim
def strD (x : Str) : List D := x.cps.toList.map fun k => .str ⟨#[k]⟩
def iStrD (a : TED) : TAD := fun ρ P => a ρ fun d => match d with
  | .str x => P (strD x)
  | _ => False
def isiD (T : String) (d : D) : Bool := d.tyN == T || (T == "int" && d.tyN == "bool")
def KitT (T : String) : Prop := ∀ n ∈ kindsN, kitB n T = some (n == T || (T == "int" && n == "bool"))
theorem kit_int : KitT "int" := by unfold KitT; decide +kernel
theorem kit_bool : KitT "bool" := by unfold KitT; decide +kernel
theorem kit_str : KitT "str" := by unfold KitT; decide +kernel
theorem kit_list : KitT "list" := by unfold KitT; decide +kernel
theorem kit_tuple : KitT "tuple" := by unfold KitT; decide +kernel
theorem ty_rep {H : Hp} {Z : Addr → Prop} {d : D} {x : V} (hn : d.tyN ∈ kindsN) (r : Rep K (hide H Z) d x) : TyX K H x (.type d.tyN) := by
  cases d with
  | non => unfold Rep at r; subst r; exact .base .non
  | bl b => unfold Rep at r; subst r; exact .base (.bl b)
  | int b => unfold Rep at r; subst r; exact .base (.int b)
  | str b => unfold Rep at r; subst r; exact .base (.str b)
  | lst ds =>
    unfold Rep at r
    obtain ⟨p, xs, rfl, h1, h2⟩ := r
    exact .base (.lst (hide_ex _ _ h1))
  | tup ds =>
    unfold Rep at r
    obtain ⟨p, xs, rfl, h1, h2⟩ := r
    have h3 : SqT K H p xs := ex_t hide_ex h1
    rcases h3 with (h3 | ⟨o, h3⟩) | ⟨o, its, n, h3, h4, _⟩
    · exact .base (.tup h3)
    · exact .fTuple h3
    · exact .kTuple h3 h4
  | _ => exact absurd hn (by show ¬ ("" ∈ kindsN); decide)
theorem D.kind_mem {d : D} (h : d.kind = true) : d.tyN ∈ kindsN := by
  unfold D.kind at h
  simpa using h
theorem kit_rep {T : String} (k : KitT T) {d : D} (h : d.tyN ∈ kindsN) : PySem.W.kitOne K (.type d.tyN) (.type T) = some (isiD T d) := kit_ty (k _ h)
def dIsi (T : String) (a : TED) : TED := fun ρ P => a ρ fun d => d.kind = true ∧ P (.bl (isiD T d))
theorem we_isi {T : String} (k : KitT T) (ha : WE K S c te a) : WE K S c (tCB (rIsi K) (tCons te (tCons (tC (.ty T)) tNil))) (dIsi T a) := by
  intro Z σ H ρ P rv h Q q
  refine ha Z σ H ρ _ rv h _ fun v H1 d k1 i1 r1 ⟨hk, h1⟩ => ?_
  exact ⟨v, .ty T, _, _, _, rfl, .ty T, ty_rep (D.kind_mem hk) r1, kit_rep k (D.kind_mem hk), q _ H1 _ k1 i1 repB h1⟩
theorem wi_str (ha : WE K S c te a) : WI K S c (iStr te) (iStrD a) := by
  intro Z σ H ρ P rv h Q q
  refine ha Z σ H ρ _ rv h _ fun v H1 d k iv r hd => ?_
  cases d <;> try exact hd.elim
  rename_i x
  unfold Rep at r
  subst r
  have hl : (strD x).length = x.cps.size := by unfold strD; simp
  refine ⟨x, rfl, q _ H1 _ k iv hd fun H2 Z2 e z => ⟨fun i d hi => ?_, by rw [hl]; exact Nat.le_refl _⟩⟩
  have hb : i < x.cps.size := by rw [← hl]; exact (List.getElem?_eq_some_iff.mp hi).1
  have ed : d = .str ⟨#[x.cps[i]]⟩ := by
    unfold strD at hi
    rw [List.getElem?_map, Array.getElem?_toList, Array.getElem?_eq_getElem hb] at hi
    cases hi
    rfl
  subst ed
  refine ⟨hb, fun y H' ⟨e1, k', e2, e3⟩ => ?_⟩
  subst e1 e3
  rw [Array.getElem?_eq_getElem hb] at e2
  cases e2
  exact ⟨fun _ _ h => h, repS⟩
def rAddSD : R2D := fun x y P => match x, y with
  | .str i, .str j => i.length + j.length ≤ 1000000 ∧ P (.str (i ++ j))
  | _, _ => False
theorem wr_addS : WR K S (fun x y H Q => ∃ i j, x = .str i ∧ y = .str j ∧ i.length + j.length ≤ sizeLine ∧ Q (.str (i ++ j)) H) rAddSD := by
  intro Z H x y d e P w r1 r2 hp Q q
  cases d <;> try exact hp.elim
  cases e <;> try exact hp.elim
  unfold Rep at r1 r2
  subst r1 r2
  exact ⟨_, _, rfl, rfl, sz hp.1, q _ H _ (Kp.refl H) w.inv repS hp.2⟩
end
end DL
end
section
namespace DL
open PySem PySem.Spec PyProof.Rows L2
def metN (xs : List Str) : Nat → Nat
  | 0 => 0
  | i + 1 => if (xs.take i).any (· == xs.getD i Str.empty) then metN xs i else metN xs i + 1
theorem metN_le (xs : List Str) : ∀ i, metN xs i ≤ i
  | 0 => Nat.le_refl 0
  | i + 1 => by
    have ih := metN_le xs i
    unfold metN
    split <;> omega
section
variable {prog : Program} {w : World} {A : Around} {R : Result → Shared → Prop} {J : Addr} {fp wr : List Addr} {G : Array GenState → Array GenState → Prop} {n : Nat} {P : Nat → Value → Prop} {St : Nat → Shared → Prop}
abbrev HasN (prog : Program) (w : World) (h : Heap) (a : Addr) (xs : List Str) (i : Nat) : Prop := h.SetOf (PySem.strKind prog w) a (fun y => (xs.take i).any (· == y)) (metN xs i)
theorem has_move {h h' : Heap} {a : Addr} {xs : List Str} {i : Nat} (z : HasN prog w h a xs i) (k : ∀ o, h.get? a = some o → h'.get? a = some o) : HasN prog w h' a xs i := by
  obtain ⟨o, es, ep, t, ho, rest⟩ := z
  exact ⟨o, es, ep, t, k o ho, rest⟩
theorem take_any {xs : List Str} {i : Nat} (h : i < xs.length) (y : Str) : ((xs.take i).any (· == y) || decide (y = xs.getD i Str.empty)) = (xs.take (i + 1)).any (· == y) := by
  rw [List.take_succ, List.any_append, List.getElem?_eq_getElem h, List.getD_eq_getElem?_getD, List.getElem?_eq_getElem h]
  congr 1
  simp only [Option.getD_some, Option.toList_some, List.any_cons, List.any_nil, Bool.or_false]
  by_cases e : y = xs[i]
  · subst e; simp
  · rw [decide_eq_false e]
    symm
    exact beq_eq_false_iff_ne.mpr fun q => e q.symm
theorem met_loop (W : WalksS prog w A.in1 J fp wr G n P St) (D : Addr) (hD : D ∉ fp) (xs : List Str) (hl : xs.length = n) (hb : n + 1 < scanBound) (hv : ∀ i v, P i v → ∃ t, v = .str (xs.getD i Str.empty) t) :
    ∀ (m i : Nat) (s : Shared), n - i = m → i ≤ n → St i s → HasN prog w s.heap D xs i → (∀ s', Moved (D :: wr) G s s' → HasN prog w s'.heap D xs n → R (.ok (.ret .none)) s') →
      codeAny (model prog w) A (.builtin "set.update.loop" ⟨[.ref D, .ref J], []⟩) R s := by
  have nD : D ∉ wr := fun q => hD (W.sub _ q)
  have up : ∀ b ∈ wr, b ∈ D :: wr := fun b q => List.mem_cons_of_mem _ q
  intro m
  induction m with
  | zero =>
    intro i s hm hi st hs hR
    obtain rfl : i = n := by omega
    refine codeAny_builtin PyProof.Rows.F.entry_set_update_loop ?_
    rw [Around.under_plainId PyProof.Rows.F.plain_set_update_loop _]
    show wpAny _ A.in1 (pyNext (.ref J) >>= _) _ _ s
    refine wpAny_bind (W.done s _ _ st fun s1 mv => ?_)
    show wpAny _ A.in1 (ret Value.none) _ _ s1
    exact wpAny_pure (hR s1 (mv.mono up) (has_move hs fun o e => mv.heap D o nD e))
  | succ m ih =>
    intro i s hm hi st hs hR
    have lt : i < n := by omega
    have le := metN_le xs i
    refine codeAny_builtin PyProof.Rows.F.entry_set_update_loop ?_
    rw [Around.under_plainId PyProof.Rows.F.plain_set_update_loop _]
    show wpAny _ A.in1 (pyNext (.ref J) >>= _) _ _ s
    refine wpAny_bind (W.item i s _ _ lt st fun v s1 hp st1 mv => ?_)
    obtain ⟨t, rfl⟩ := hv i v hp
    have hs1 : HasN prog w s1.heap D xs i := has_move hs fun o e => mv.heap D o nD e
    show wpAny _ A.in1 (holding [Value.str (xs.getD i Str.empty) t] (setAdd D (.str (xs.getD i Str.empty) t)) >>= _) _ _ s1
    refine wpAny_bind (wpAny_holding ?_)
    unfold setAdd
    refine wpAny_holding (wpAny_bind ((PySem.strKind prog w).pyHash (k := xs.getD i Str.empty) (strKind_is _ _ _ _) ?_))
    refine wpAny_setAddHashed_of (knd := PySem.strKind prog w) (s := { s1 with toks := s1.toks + 1 }) (strKind_is _ _ _ _) rfl hs1 (by omega) fun h1 sb hs2 => ?_
    have hs3 : HasN prog w h1 D xs (i + 1) := SetOf_congr hs2 (fun y => take_any (by omega) y) rfl
    refine wpAny_pure ⟨plainId_quiet PyProof.Rows.F.plain_set_update_loop _, ih (i + 1) _ (by omega) lt (W.frame _ s1 _ _ st1 (Nat.le_succ _) fun b hb' o e => ?_) hs3 fun s2 mv2 hs4 => ?_⟩
    · rw [sb.2 b fun q : b = D => hD (by rw [← q]; exact hb')]
      exact e
    · refine hR s2 (Moved.trans W.gtrans ((mv.mono up).then_heap (Nat.le_succ _) fun b o hb' e => ?_) mv2) hs4
      rw [sb.2 b fun q : b = D => hb' (by rw [q]; exact List.mem_cons_self)]
      exact e
end
section
variable {prog : Program} {w : World} {A : Around} {E : Value → Shared → Prop} {s : Shared}
theorem set_of_lst {l : Addr} {items : Array Value} {xs : List Str} {Q : Value → Shared → Prop} (calm : A.handled = none) (isq : s.heap.IsList l items) (texts : PyProof.Rows.StrsAre items.toList xs) (few : xs.length + 1 < scanBound)
    (fin : ∀ (h1 : Heap) (tk : Nat), HasN prog w h1 s.heap.objs.size xs xs.length → (∀ b o, b < s.heap.objs.size → s.heap.get? b = some o → h1.get? b = some o) → Q (.ref s.heap.objs.size) { s with heap := h1, toks := tk }) :
    wpAny (model prog w) A (call (.type "set") [.ref l]) Q E s := by
  obtain ⟨c, tl, f_mro⟩ := PySem.F.called_set.mro
  have f_made := PySem.F.called_set.made; have f_sub := PySem.F.called_set.sub
  refine wpAny_call (codeAny_of_tree ?_)
  show wpAny _ _ (callAny (.type "set") _) _ _ _
  refine wpAny_pure ⟨Code.quiet_builtin _ (by decide +kernel), codeAny_builtin PySem.F.entry_type_call ?_⟩
  rw [Around.under_plain (weight_type_call_type "set" [.ref l] []) rfl]
  have f_nt := PySem.F.called_set.notType; have f_cc := PySem.F.called_set.canCreate; have f_tc := PySem.F.typeCall_set_1 (.ref l)
  repeat (any_goals (first | assumption | wp_step))
  refine codeAny_mono (code_set_new_1 (.ref l) (E := E) (Q₁ := fun obj s1 => ∃ led : Bool, obj = .ref s.heap.objs.size ∧ s1 = { s with heap := s.heap.push { cls := .type "set", dict := none, data := .set #[] 0 (.fresh 0 0 led) } }) fun led => ⟨led, rfl, rfl⟩) fun r s1 hr => ?_
  cases r with
  | error e => exact hr
  | ok fl =>
    cases fl with
    | ret obj =>
      obtain ⟨led, rfl, rfl⟩ := hr
      have so_get : (s.heap.push { cls := .type "set", dict := none, data := .set #[] 0 (.fresh 0 0 led) }).get? s.heap.objs.size = some { cls := .type "set", dict := none, data := .set #[] 0 (.fresh 0 0 led) } := Heap.get?_push_size _ rfl
      have so_ty : Shared.TypeIs { s with heap := s.heap.push { cls := .type "set", dict := none, data := .set #[] 0 (.fresh 0 0 led) } } (.ref s.heap.objs.size) "set" := ⟨_, so_get, rfl⟩
      have f_li := PySem.F.called_set.init.lookup; have f_bi := PySem.F.called_set.init.bind (.ref s.heap.objs.size)
      repeat (any_goals (first | assumption | wp_step))
      refine codeAny_mono (codeAny_call_builtin (R := wants (fun r s2 => r = .none ∧ ∃ h1 tk, s2 = { s with heap := h1, toks := tk } ∧ HasN prog w h1 s.heap.objs.size xs xs.length ∧ ∀ b o, b < s.heap.objs.size → s.heap.get? b = some o → h1.get? b = some o) E)
        PySem.F.called_set.init.plain PySem.F.entry_set_init (check_set_init_1 so_ty ?_)) fun r2 s2 hr2 => ?_
      · obtain ⟨⟨ocls, odict, odata, oslots⟩, hol, hcl, nl, hdl⟩ := isq
        simp only at hcl hdl
        subst hcl; subst hdl
        have old : (s.heap.push { cls := .type "set", dict := none, data := .set #[] 0 (.fresh 0 0 led) }).get? l = some { cls := .type "list", dict := odict, data := .seq items nl, slots := oslots } := Heap.get?_push_of_some _ hol
        have f_1 := PySem.F.sub_list_set; have f_2 := PySem.F.sub_list_frozenset
        have f_3 : (Value.type "list" == Value.type "dict") = false := by decide
        have isq1 : (s.heap.push { cls := .type "set", dict := none, data := .set #[] 0 (.fresh 0 0 led) }).IsList l items := ⟨_, old, rfl, nl, rfl⟩
        unfold Builtin.«set.__init__» noKeywords Builtin.Frozenset.updateFrom
        generalize ePI : pyIter = PI
        wp_walk
        subst ePI
        refine wpAny_pyIter_list isq1 ?_
        refine wpAny_bind (wpAny_runValue ?_)
        have ll : l < s.heap.objs.size := Heap.lt_size hol
        have zI : (s.heap.push { cls := .type "set", dict := none, data := .set #[] 0 (.fresh 0 0 led) }).objs.size = s.heap.objs.size + 1 := Heap.size_push ..
        have apart : s.heap.objs.size ∉ [(s.heap.push { cls := .type "set", dict := none, data := .set #[] 0 (.fresh 0 0 led) }).objs.size, l] := by
          rw [zI]; simp only [List.mem_cons, List.mem_singleton, List.not_mem_nil, or_false, not_or]
          exact ⟨Nat.ne_of_lt (Nat.lt_succ_self _), Nat.ne_of_gt ll⟩
        have len : xs.length = items.size := by rw [← StrsAre.len_eq texts, Array.length_toList]
        refine met_loop (n := items.size) ((Walks.list (by simpa using calm) _ l (by rw [zI]; exact Nat.ne_of_lt (Nat.lt_succ_of_lt ll)) items).toS) s.heap.objs.size apart xs len (by rw [← len]; exact few) (fun i v hv => SS.strs_at texts i v (by rw [Array.getElem?_toList]; exact hv))
          (items.size - 0) 0 _ (by omega) (Nat.zero_le _) ⟨⟨_, Heap.get?_push_size _ rfl, rfl, rfl⟩, isq1.push _⟩ ?first ?last
        case first =>
          exact PyProof.Rows.SetOf_congr ((PyProof.Rows.setObjOf_fresh (knd := PySem.strKind prog w) led).setOf (Heap.get?_push_of_some _ so_get) (by unfold scanBound; omega)) (fun _ => rfl) rfl
        case last =>
          intro s3 mv hs3
          obtain ⟨h1, g1, d1, tk, os1⟩ := s3
          obtain rfl : g1 = s.gens := mv.gens
          obtain rfl : d1 = s.drawn := mv.drawn
          obtain rfl : os1 = s.os := mv.os
          show wpAny _ _ _ _ _ _
          refine wpAny_pure ?_
          show wpAny _ _ (ret Value.none) _ _ _
          refine wpAny_pure ⟨rfl, h1, tk, rfl, by rw [len]; exact hs3, fun b o hb e => mv.heap b o ?_ (Heap.get?_push_of_some _ (Heap.get?_push_of_some _ e))⟩
          simp only [List.mem_cons, List.mem_singleton, List.not_mem_nil, or_false, not_or]
          exact ⟨Nat.ne_of_lt hb, by rw [zI]; exact Nat.ne_of_lt (Nat.lt_succ_of_lt hb)⟩
      · cases r2 with
        | error e => exact hr2
        | ok fl2 =>
          cases fl2 with
          | ret r =>
            obtain ⟨rfl, h1, tk, rfl, hs', hk'⟩ := hr2
            repeat (any_goals (first | assumption | wp_step))
            exact fin _ _ hs' hk'
          | _ => exact hr2.elim
    | _ => exact hr.elim
theorem set_of_tup {l : Addr} {items : Array Value} {xs : List Str} {Q : Value → Shared → Prop} (calm : A.handled = none) (isq : s.heap.IsTuple l items) (texts : PyProof.Rows.StrsAre items.toList xs) (few : xs.length + 1 < scanBound)
    (fin : ∀ (h1 : Heap) (tk : Nat), HasN prog w h1 s.heap.objs.size xs xs.length → (∀ b o, b < s.heap.objs.size → s.heap.get? b = some o → h1.get? b = some o) → Q (.ref s.heap.objs.size) { s with heap := h1, toks := tk }) :
    wpAny (model prog w) A (call (.type "set") [.ref l]) Q E s := by
  obtain ⟨c, tl, f_mro⟩ := PySem.F.called_set.mro
  have f_made := PySem.F.called_set.made; have f_sub := PySem.F.called_set.sub
  refine wpAny_call (codeAny_of_tree ?_)
  show wpAny _ _ (callAny (.type "set") _) _ _ _
  refine wpAny_pure ⟨Code.quiet_builtin _ (by decide +kernel), codeAny_builtin PySem.F.entry_type_call ?_⟩
  rw [Around.under_plain (weight_type_call_type "set" [.ref l] []) rfl]
  have f_nt := PySem.F.called_set.notType; have f_cc := PySem.F.called_set.canCreate; have f_tc := PySem.F.typeCall_set_1 (.ref l)
  repeat (any_goals (first | assumption | wp_step))
  refine codeAny_mono (code_set_new_1 (.ref l) (E := E) (Q₁ := fun obj s1 => ∃ led : Bool, obj = .ref s.heap.objs.size ∧ s1 = { s with heap := s.heap.push { cls := .type "set", dict := none, data := .set #[] 0 (.fresh 0 0 led) } }) fun led => ⟨led, rfl, rfl⟩) fun r s1 hr => ?_
  cases r with
  | error e => exact hr
  | ok fl =>
    cases fl with
    | ret obj =>
      obtain ⟨led, rfl, rfl⟩ := hr
      have so_get : (s.heap.push { cls := .type "set", dict := none, data := .set #[] 0 (.fresh 0 0 led) }).get? s.heap.objs.size = some { cls := .type "set", dict := none, data := .set #[] 0 (.fresh 0 0 led) } := Heap.get?_push_size _ rfl
      have so_ty : Shared.TypeIs { s with heap := s.heap.push { cls := .type "set", dict := none, data := .set #[] 0 (.fresh 0 0 led) } } (.ref s.heap.objs.size) "set" := ⟨_, so_get, rfl⟩
      have f_li := PySem.F.called_set.init.lookup; have f_bi := PySem.F.called_set.init.bind (.ref s.heap.objs.size)
      repeat (any_goals (first | assumption | wp_step))
      refine codeAny_mono (codeAny_call_builtin (R := wants (fun r s2 => r = .none ∧ ∃ h1 tk, s2 = { s with heap := h1, toks := tk } ∧ HasN prog w h1 s.heap.objs.size xs xs.length ∧ ∀ b o, b < s.heap.objs.size → s.heap.get? b = some o → h1.get? b = some o) E)
        PySem.F.called_set.init.plain PySem.F.entry_set_init (check_set_init_1 so_ty ?_)) fun r2 s2 hr2 => ?_
      · obtain ⟨⟨ocls, odict, odata, oslots⟩, hol, hcl, nl, hdl⟩ := isq
        simp only at hcl hdl
        subst hcl; subst hdl
        have old : (s.heap.push { cls := .type "set", dict := none, data := .set #[] 0 (.fresh 0 0 led) }).get? l = some { cls := .type "tuple", dict := odict, data := .seq items nl, slots := oslots } := Heap.get?_push_of_some _ hol
        have f_1 := PySem.F.sub_tuple_set; have f_2 := PySem.F.sub_tuple_frozenset
        have f_3 : (Value.type "tuple" == Value.type "dict") = false := by decide
        have isq1 : (s.heap.push { cls := .type "set", dict := none, data := .set #[] 0 (.fresh 0 0 led) }).IsTuple l items := ⟨_, old, rfl, nl, rfl⟩
        unfold Builtin.«set.__init__» noKeywords Builtin.Frozenset.updateFrom
        generalize ePI : pyIter = PI
        wp_walk
        subst ePI
        refine wpAny_pyIter_tuple isq1 ?_
        refine wpAny_bind (wpAny_runValue ?_)
        have ll : l < s.heap.objs.size := Heap.lt_size hol
        have zI : (s.heap.push { cls := .type "set", dict := none, data := .set #[] 0 (.fresh 0 0 led) }).objs.size = s.heap.objs.size + 1 := Heap.size_push ..
        have apart : s.heap.objs.size ∉ [(s.heap.push { cls := .type "set", dict := none, data := .set #[] 0 (.fresh 0 0 led) }).objs.size, l] := by
          rw [zI]; simp only [List.mem_cons, List.mem_singleton, List.not_mem_nil, or_false, not_or]
          exact ⟨Nat.ne_of_lt (Nat.lt_succ_self _), Nat.ne_of_gt ll⟩
        have len : xs.length = items.size := by rw [← StrsAre.len_eq texts, Array.length_toList]
        refine met_loop (n := items.size) ((Walks.tuple (by simpa using calm) _ l (by rw [zI]; exact Nat.ne_of_lt (Nat.lt_succ_of_lt ll)) items).toS) s.heap.objs.size apart xs len (by rw [← len]; exact few) (fun i v hv => SS.strs_at texts i v (by rw [Array.getElem?_toList]; exact hv))
          (items.size - 0) 0 _ (by omega) (Nat.zero_le _) ⟨⟨_, Heap.get?_push_size _ rfl, rfl, rfl⟩, isq1.push _⟩ ?first ?last
        case first =>
          exact PyProof.Rows.SetOf_congr ((PyProof.Rows.setObjOf_fresh (knd := PySem.strKind prog w) led).setOf (Heap.get?_push_of_some _ so_get) (by unfold scanBound; omega)) (fun _ => rfl) rfl
        case last =>
          intro s3 mv hs3
          obtain ⟨h1, g1, d1, tk, os1⟩ := s3
          obtain rfl : g1 = s.gens := mv.gens
          obtain rfl : d1 = s.drawn := mv.drawn
          obtain rfl : os1 = s.os := mv.os
          show wpAny _ _ _ _ _ _
          refine wpAny_pure ?_
          show wpAny _ _ (ret Value.none) _ _ _
          refine wpAny_pure ⟨rfl, h1, tk, rfl, by rw [len]; exact hs3, fun b o hb e => mv.heap b o ?_ (Heap.get?_push_of_some _ (Heap.get?_push_of_some _ e))⟩
          simp only [List.mem_cons, List.mem_singleton, List.not_mem_nil, or_false, not_or]
          exact ⟨Nat.ne_of_lt hb, by rw [zI]; exact Nat.ne_of_lt (Nat.lt_succ_of_lt hb)⟩
      · cases r2 with
        | error e => exact hr2
        | ok fl2 =>
          cases fl2 with
          | ret r =>
            obtain ⟨rfl, h1, tk, rfl, hs', hk'⟩ := hr2
            repeat (any_goals (first | assumption | wp_step))
            exact fin _ _ hs' hk'
          | _ => exact hr2.elim
    | _ => exact hr.elim
end
end DL
end
section
namespace DL
open PySem PySem.Spec PyProof.Rows L2
def D.strs : List D → Option (List Str)
  | [] => some []
  | .str x :: ds => (D.strs ds).map (x :: ·)
  | _ :: _ => none
theorem strs_map : ∀ (xs : List Str), D.strs (xs.map D.str) = some xs
  | [] => rfl
  | x :: xs => by unfold D.strs; rw [List.map_cons] <;> simp [strs_map xs, D.strs]
theorem strs_of : ∀ {ds : List D} {xs : List Str}, D.strs ds = some xs → ds = xs.map D.str
  | [], xs, h => by unfold D.strs at h; cases h; rfl
  | .str x :: ds, xs, h => by
    unfold D.strs at h
    cases e : D.strs ds with
    | none => rw [e] at h; cases h
    | some ys => rw [e] at h; cases h; rw [strs_of e]; rfl
  | .non :: _, _, h => nomatch h
  | .bl _ :: _, _, h => nomatch h
  | .int _ :: _, _, h => nomatch h
  | .tup _ :: _, _, h => nomatch h
  | .lst _ :: _, _, h => nomatch h
  | .ins _ _ _ :: _, _, h => nomatch h
  | .adr _ :: _, _, h => nomatch h
  | .sem _ :: _, _, h => nomatch h
  | .dic _ _ :: _, _, h => nomatch h
  | .own _ _ :: _, _, h => nomatch h
  | .nest _ _ :: _, _, h => nomatch h
def tMet (K : PySem.W.Frag) (ta : TE) : TE := fun σ H Q => ta σ H fun x H1 => ∃ l, ∃ xs : List Str, x = .ref l ∧ (SqL K H1 l (xs.map V.str) ∨ SqT K H1 l (xs.map V.str)) ∧ xs.length ≤ 4000 ∧ Q (.int (metN xs xs.length)) H1
theorem pe_met {X : Cx} {a : Expr} {ta : TE} {p p2 q pos : Pos} (calm : X.calm = true) (hg : Gl X "len") (hm : X.mg "len" = none) (hg2 : Gl X "set") (hm2 : X.mg "set" = none) (ha : PE X a ta)
    (na : starEach [a] X.env = (false, eval a X.env) :: starEach [] X.env := by rfl) : PE X (.Call (.Name "len" p) [.Call (.Name "set" p2) [a] [] q] [] pos) (tMet X.K ta) := by
  constructor
  intro pins s τ H Q I h
  refine Call_ (ld_blt I hg hm PySem.boot_len (PyProof.Rows.callWith_builtin1 (PyProof.Rows.args_cons ?_ rfl) rfl rfl))
  refine Call_ (ld_blt I hg2 hm2 PyProof.Rows.boot_set ?_)
  refine PyProof.Rows.callWith_type1 (PyProof.Rows.args_cons (thn (ha.run pins s τ H _ I h) fun v s1 ⟨x, H1, I1, r1, q1⟩ => PyProof.Rows.args_nil ?_) na) na rfl
  obtain ⟨l, xs, rfl, seq, few, q1⟩ := q1
  cases r1
  have last : ∀ (h1 : Heap) (tk : Nat), HasN X.prog X.w h1 s1.heap.objs.size xs xs.length → (∀ b o, b < s1.heap.objs.size → s1.heap.get? b = some o → h1.get? b = some o) →
      wpAny (model X.prog X.w) X.A (spliced (backTo pos (starEach [] X.env))) (fun vs s2 => wpAny (model X.prog X.w) X.A (call (.builtin "len") (Value.ref s1.heap.objs.size :: vs)) (EP X pins τ Q) X.xe s2) X.xe { s1 with heap := h1, toks := tk } := fun h1 tk hs hk => by
    refine PyProof.Rows.args_nil ?_
    obtain ⟨o, es, ep, t, ho, ex, hd, _, _, _, fits, cnt⟩ := hs
    have le := metN_le xs xs.length
    have I2 : Inv X pins τ H1 { s1 with heap := h1, toks := tk } := I1.kept fun b o e => hk b o (Heap.lt_size e) e
    exact call_len_set ho ex hd fits (by rw [cnt]; omega) ⟨.int (metN xs xs.length), H1, I2.tok _, ⟨_, by rw [cnt]⟩, q1⟩
  rcases seq with seq | seq
  · obtain ⟨its, r, pl, _⟩ := I1.list seq
    exact set_of_lst (I1.ok.hd calm) pl.isList (by simpa using strsAre_of r) (by unfold scanBound; omega) last
  · obtain ⟨its, r, pl, _⟩ := I1.tuple seq
    exact set_of_tup (I1.ok.hd calm) pl (by simpa using strsAre_of r) (by unfold scanBound; omega) last
section
variable {K : PySem.W.Frag} {S : Sit} {c : Cl} {X : Cx} {ta tb te : TE} {a b t : TED} {ts : TA} {as : TAD} {e e1 e2 e3 e4 : Expr} {es : List Expr} {pos p1 p2 p3 tpos : Pos} {x : Str} {C : Addr}
def dMet (a : TED) : TED := fun ρ P => a ρ fun d => match d.items with
  | some ds => match D.strs ds with
    | some xs => xs.length ≤ 4000 ∧ P (.int (metN xs xs.length))
    | none => False
  | none => False
theorem we_met (ha : WE K S c ta a) : WE K S c (tMet K ta) (dMet a) := by
  intro Z σ H ρ P rv h Q q
  refine ha Z σ H ρ _ rv h _ fun v H1 d k1 i1 r1 h1 => ?_
  cases hd : d.items with
  | none => rw [hd] at h1; exact h1.elim
  | some ds =>
    rw [hd] at h1
    simp only at h1
    cases hs : D.strs ds with
    | none => rw [hs] at h1; exact h1.elim
    | some xs =>
      rw [hs] at h1
      have ed := strs_of hs
      subst ed
      obtain ⟨p, vs, rfl, g1, g2⟩ := items_rep hd r1
      have ev := RepL.of_strs g2
      subst ev
      exact ⟨p, xs, rfl, sq_hide g1, h1.1, q _ H1 _ k1 i1 repI h1.2⟩
theorem de_met (hK : X.K = K) (calm : X.calm = true) (hm : X.mg "len" = none) (hm2 : X.mg "set" = none) (ha : DE K S c X e ta a) (hg : Gl X "len" := by rfl) (hg2 : Gl X "set" := by rfl) (na : starEach [e] X.env = (false, eval e X.env) :: starEach [] X.env := by rfl) :
    DE K S c X (.Call (.Name "len" p1) [.Call (.Name "set" p2) [e] [] p3] [] pos) (tMet K ta) (dMet a) := by
  subst hK
  exact ⟨pe_met calm hg hm hg2 hm2 ha.pe na, we_met ha.we⟩
theorem de_globE {d : D} (hat : d.atom = true) (h : ∃ u, X.mg x = some u ∧ RelV d.v u) (hg : Gl X x := by rfl) (hd : (x == ("__debug__" : Str)) = false := by decide) : DE K S c X (.Name x pos) (tC d.v) (dC d) := by
  obtain ⟨u, hm, r⟩ := h
  exact de_glob hat hm r hg hd
theorem room64 {k : Nat} {A : Around} (r : Room k A) : A.units + 64 < cLine := by have := r.un; omega
theorem opK_eq (hK : X.K = K) (hu : X.A.units + 64 < cLine) : OpR X (compareOp .Eq) (rEqD K) := by subst hK; exact op_eqD hu
theorem opK_ne (hK : X.K = K) (hu : X.A.units + 64 < cLine) : OpR X (compareOp .NotEq) (rNeD K) := by subst hK; exact op_neD hu
theorem opK_in (hK : X.K = K) : OpR X (compareOp .In) (rIn K false) := by subst hK; exact op_in_seq
theorem call_lenK (hK : X.K = K) : CallR X (.builtin "len") (fun xs H Q => (∃ p ys, xs = [.ref p] ∧ (SqL K H p ys ∨ SqT K H p ys) ∧ Q (.int ys.length) H) ∨ ∃ z, xs = [.str z] ∧ z.length ≤ sizeLine ∧ Q (.int z.length) H) := by
  subst hK
  exact CallR.or call_len_seq call_len_str
theorem crK_all (hK : X.K = K) (hc : X.calm = true) : CallR X (.builtin "all") (rAll K) := by subst hK; exact cr_all hc
theorem ctK_tuple (hK : X.K = K) : CallR X (.type "tuple") (fun xs H Q => ∃ p ys, xs = [.ref p] ∧ ((SqL K H p ys ∧ ∀ l, H l = none → Q (.ref l) (upd H l (.tup ys))) ∨ (SqT K H p ys ∧ Q (.ref p) H))) := by subst hK; exact call_tuple_of
theorem de_isi {T : String} {y : Str} (hK : X.K = K) (k : KitT T) (hm : X.mg "isinstance" = none) (hm2 : X.mg y = none) (hv : bootBuiltins y = some (.type T)) (ha : DE K S c X e ta a) (hg : Gl X "isinstance" := by rfl) (hg2 : Gl X y := by rfl)
    (hn : y ≠ "__name__" := by decide) (hd : (y == ("__debug__" : Str)) = false := by decide)
    (he : starEach (e :: [.Name y p2]) X.env = (false, eval e X.env) :: starEach [.Name y p2] X.env := by rfl) (he2 : starEach (.Name y p2 :: []) X.env = (false, eval (.Name y p2) X.env) :: starEach [] X.env := by rfl)
    (hpl : (backTo pos (starEach [.Name y p2] X.env)).any (·.1) = false := by rfl) :
    DE K S c X (.Call (.Name "isinstance" p1) [e, .Name y p2] [] pos) (tCB (rIsi K) (tCons ta (tCons (tC (.ty T)) tNil))) (dIsi T a) := by
  subst hK
  exact ⟨pe_callB call_isi hg hm PyProof.Rows.boot_isinstance (pa_cons ha.pe (pa_cons (pe_bltn hg2 hm2 hv rfl hn hd) pa_nil he2) he) (by decide) (by decide) he hpl, we_isi k ha.we⟩
theorem di_rng2 {tg : Expr} (hm : X.mg "range" = none) (hs : DA K S c X [e1, e2] ts as) (hg : Gl X "range" := by rfl) (h : starEach [e1, e2] X.env = [(false, eval e1 X.env), (false, eval e2 X.env)] := by rfl) (h2 : starEach [e2] X.env = [(false, eval e2 X.env)] := by rfl) : DI K S c X tg (.Call (.Name "range" p1) [e1, e2] [] pos) (iRng2 ts) (iRng2D as) := ⟨pi_range2 hg hm hs.pa h h2, wi_rng2 hs.wa⟩
theorem di_str {tg : Expr} (ha : DE K S c X e ta a) : DI K S c X tg e (iStr ta) (iStrD a) := ⟨pi_str ha.pe, wi_str ha.we⟩
theorem di_enumL {elts : List Expr} {kk : Nat} (hK : X.K = K) (hm : X.mg "enumerate" = none) (hs : DA K S c X [e] ts as) (hg : Gl X "enumerate" := by rfl) (h : starEach [e] X.env = [(false, eval e X.env)] := by rfl) : DI K S c X (.Tuple elts kk tpos) (.Call (.Name "enumerate" p1) [e] [] pos) (iEnum K ts) (iEnumLD as) := by
  subst hK
  exact ⟨pi_enum hg hm hs.pa h, wi_enumL hs.wa⟩
theorem di_enumT {elts : List Expr} {kk : Nat} (hK : X.K = K) (hm : X.mg "enumerate" = none) (hs : DA K S c X [e] ts as) (hg : Gl X "enumerate" := by rfl) (h : starEach [e] X.env = [(false, eval e X.env)] := by rfl) : DI K S c X (.Tuple elts kk tpos) (.Call (.Name "enumerate" p1) [e] [] pos) (iEnT K ts) (iEnumTD as) := by
  subst hK
  exact ⟨pi_enT hg hm hs.pa h, wi_enumT hs.wa⟩
section
variable {wi : TI} {it : TAD} {g : TG} {gd : TGD} {ix : List Nat} {tt : TT} {p : TTD} {elt tg iter : Expr} {ifs : List Expr} {scope : Scope} {own : List (Str × Nat)} {py lpos : Pos}
theorem ds_setLc (i : Nat) (hc : X.calm = true) (hN : X.N.Nodup) (hi : DI K S c X tg iter wi it) (ok : BlkOk X.N X.env.scope scope own)
    (hg : ∀ (s : Shared) (H : Hp) (C : Addr) (cl : List (Str × Addr)) (fp : List Addr), DG K (X.blk s H scope (compEnvC scope cl C X.env) fp) tg g gd ix) (ht : ∀ (s : Shared) (H : Hp) (C : Addr) (cl : List (Str × Addr)) (fp : List Addr), DTs K S c (X.blk s H scope (compEnvC scope cl C X.env) fp) ifs tt p)
    (he : ∀ (s : Shared) (H : Hp) (C : Addr) (cl : List (Str × Addr)) (fp : List Addr), DE K S c (X.blk s H scope (compEnvC scope cl C X.env) fp) elt te t) (hix : ∀ i ∈ ix, i ∈ own.map (·.2)) (hy : X.N[i]? = some x := by rfl) (hyl : X.env.scope.names.lookup x = some .local := by rfl)
    (hsw : swapsWith (.ListComp elt [⟨tg, iter, ifs, 0⟩] scope lpos) (some (.Name x py)) pos.line X.env = pure true := by exact sw_true rfl rfl rfl rfl) (hs : ∀ x, foldedSetIterable iter X.env x = pure x := by intro _; rfl) :
    DS K S c X (.Assign [.Name x py] (.ListComp elt [⟨tg, iter, ifs, 0⟩] scope lpos) pos) (tAsg (tLc wi g tt te (own.map (·.2))) (gName i)) (dSet i (dOfN (nLc it gd p t (own.map (·.2))))) :=
  ⟨ps_setLc hc hN hy hyl hsw hi.pi ok (fun s H C cl fp => (hg s H C cl fp).pg) (fun s H C cl fp => (ht s H C cl fp).pts) (fun s H C cl fp => (he s H C cl fp).pe) hs,
    ws_set (we_of_wn (wn_lc hi.wi (hg X.s_0 (fun _ => none) 0 [] []).wg hix (ht X.s_0 (fun _ => none) 0 [] []).wt (he X.s_0 (fun _ => none) 0 [] []).we))⟩
end
end
end DL
end
section
namespace DL
open PySem PySem.Spec PyProof.Rows L2
section
variable {K : PySem.W.Frag} {S : Sit} {c : Cl} {X : Cx} {ta : TE} {a : TED} {e : Expr} {pos p1 p2 : Pos} {x : Str} {C : Addr} {E : XK} {xd : XD} {ind : InD} {CX : CXT} {k : Nat} {fi : Addr} {sp : Sp}
end
end DL
end
section
namespace DL
open PySem PySem.Spec PyProof.Rows L2
theorem drop_cons {α : Type} {xs : List α} {i : Nat} {x : α} (h : xs[i]? = some x) : xs.drop i = x :: xs.drop (i + 1) := by
  obtain ⟨hi, rfl⟩ := List.getElem?_eq_some_iff.mp h
  exact List.drop_eq_getElem_cons hi
theorem loop_of {α : Type} {xs : List α} {enc : α → D} {gd : TGD} {body : TSD} {Dd : EndsD} {ρ : EnvD} (J : List α → EnvD → Prop) (h0 : J xs ρ)
    (hs : ∀ x r ρ', J (x :: r) ρ' → ∀ (N B : EnvD → Prop) (R : D → Prop), (∀ ρ', J r ρ' → N ρ') → B = Dd.nx → R = Dd.rt → gd (enc x) ρ' fun ρ2 => body { nx := N, ct := N, bk := B, rt := R } ρ2) (he : ∀ ρ', J [] ρ' → Dd.nx ρ') : loopD (xs.map enc) gd body Dd ρ := by
  unfold loopD
  refine ⟨fun i ρ' => J (xs.drop i) ρ', h0, fun i d ρ' hi hj => ?_, fun ρ' hj => he ρ' ?_⟩
  · rw [List.getElem?_map] at hi
    cases hx : xs[i]? with
    | none => rw [hx] at hi; cases hi
    | some x =>
      rw [hx] at hi
      cases hi
      rw [drop_cons hx] at hj
      exact hs x _ ρ' hj _ _ _ (fun _ h => h) rfl rfl
  · rw [List.length_map, List.drop_length] at hj
    exact hj
theorem comp_of {α : Type} {xs : List α} {enc f : α → D} {gd : TGD} {e : TED} {ρ : EnvD} {P : List D → Prop} (hz : xs.length ≤ 1000000)
    (h : ∀ x ∈ xs, ∀ Q : D → Prop, Q (f x) → gd (enc x) ρ fun ρ2 => e ρ2 Q) (hp : P (xs.map f)) : compD (xs.map enc) gd dYes e ρ P := by
  unfold compD
  refine ⟨fun i acc => acc = (xs.take i).map f, by simp, fun i d acc hi hj => ?_, fun acc hj => ?_⟩
  · rw [List.getElem?_map] at hi
    cases hx : xs[i]? with
    | none => rw [hx] at hi; cases hi
    | some x =>
      rw [hx] at hi
      cases hi
      have lt := (List.getElem?_eq_some_iff.mp hx).1
      subst hj
      refine ⟨by rw [List.length_map, List.length_take]; omega, h x (List.mem_of_getElem? hx) _ ?_⟩
      show _ = List.map f (xs.take (i + 1))
      rw [List.take_succ, hx]
      simp
  · rw [List.length_map, List.take_length] at hj
    subst hj
    exact hp
theorem comp_if {α : Type} {xs : List α} {enc f : α → D} {p : α → Bool} {gd : TGD} {t : TTD} {e : TED} {ρ : EnvD} {P : List D → Prop} (hz : xs.length ≤ 1000000)
    (h : ∀ x ∈ xs, ∀ (Q : D → Prop) (N : Prop), (if p x = true then Q (f x) else N) → gd (enc x) ρ fun ρ2 => t ρ2 fun b => if b = true then e ρ2 Q else N) (hp : P ((xs.filter p).map f)) : compD (xs.map enc) gd t e ρ P := by
  unfold compD
  refine ⟨fun i acc => acc = ((xs.take i).filter p).map f, by simp, fun i d acc hi hj => ?_, fun acc hj => ?_⟩
  · rw [List.getElem?_map] at hi
    cases hx : xs[i]? with
    | none => rw [hx] at hi; cases hi
    | some x =>
      rw [hx] at hi
      cases hi
      have lt := (List.getElem?_eq_some_iff.mp hx).1
      subst hj
      have le := List.length_filter_le p (xs.take i)
      refine ⟨by rw [List.length_map]; rw [List.length_take] at le; omega, h x (List.mem_of_getElem? hx) _ _ ?_⟩
      by_cases e : p x = true
      · rw [if_pos e]
        show _ = List.map f ((xs.take (i + 1)).filter p)
        rw [List.take_succ, hx]
        simp [List.filter_append, e]
      · rw [if_neg e]
        show _ = List.map f ((xs.take (i + 1)).filter p)
        rw [List.take_succ, hx]
        simp [List.filter_append, e]
  · rw [List.length_map, List.take_length] at hj
    subst hj
    exact hp
theorem enD_map {α : Type} (xs : List α) (enc : α → D) : enD (xs.map enc) = xs.zipIdx.map fun q => .tup [.int (q.2 : Nat), enc q.1] := by
  unfold enD
  apply List.ext_getElem?
  intro i
  rw [List.getElem?_mapIdx, List.getElem?_map, List.getElem?_map, List.getElem?_zipIdx]
  cases xs[i]? <;> simp
theorem rngD_map (lo : Int) (n : Nat) : rngD lo n = ((List.range n).map fun k : Nat => lo + (k : Int)).map D.int := by
  unfold rngD
  rw [List.map_map]
  rfl
theorem strD_map (x : Str) : strD x = x.cps.toList.map fun k => .str ⟨#[k]⟩ := rfl
theorem eqv_int (i j : Int) : PyData.eqv (D.py (.int i)) (D.py (.int j)) = decide (i = j) := by
  show (i == j) = _
  by_cases e : i = j
  · subst e; simp
  · simp [e]
theorem eqv_str (i j : Str) : PyData.eqv (D.py (.str i)) (D.py (.str j)) = decide (i = j) := by
  show (i == j) = _
  by_cases e : i = j
  · subst e; simp
  · rw [decide_eq_false e]; exact beq_eq_false_iff_ne.mpr e
theorem atoms_strs (xs : List Str) : (xs.map D.str).all D.atom = true := by
  rw [List.all_map]; exact List.all_eq_true.mpr fun _ _ => rfl
theorem in_strs (x : Str) (xs : List Str) : inV (D.str x).v ((xs.map D.str).map D.v) = decide (x ∈ xs) := by
  induction xs with
  | nil => simp [inV]
  | cons y ys ih =>
    unfold inV at ih ⊢
    rw [List.map_cons, List.map_cons, List.any_cons, ih]
    show ((y == x) || _) = _
    by_cases e : x = y
    · subst e; simp
    · have e' : (y == x) = false := beq_eq_false_iff_ne.mpr fun q => e q.symm
      rw [e']
      simp [e]
theorem metN_nodup {xs : List Str} (h : xs.Nodup) : ∀ i, i ≤ xs.length → metN xs i = i
  | 0, _ => rfl
  | i + 1, hi => by
    have lt : i < xs.length := hi
    unfold metN
    have no : ¬ (xs.take i).any (· == xs.getD i Str.empty) = true := fun q => by
      obtain ⟨y, hy, e⟩ := List.any_eq_true.mp q
      rw [List.getD_eq_getElem?_getD, List.getElem?_eq_getElem lt, Option.getD_some] at e
      have ey : y = xs[i] := by
        by_cases e' : y = xs[i]
        · exact e'
        · have e'' : (y == xs[i]) = false := beq_eq_false_iff_ne.mpr e'
          rw [e''] at e; cases e
      obtain ⟨j, hj, e2⟩ := List.getElem_of_mem hy
      have hj' : j < i := by rw [List.length_take] at hj; omega
      rw [List.getElem_take] at e2
      exact List.pairwise_iff_getElem.mp h j i (Nat.lt_trans hj' lt) lt hj' (by rw [e2, ey])
    rw [if_neg no, metN_nodup h i (Nat.le_of_lt lt)]
theorem cut_map {α : Type} (xs : List α) (f : α → D) (lo hi : Option Int) : cutD (xs.map f) lo hi = ((xs.drop (HT.sIx xs.length 0 lo)).take (HT.sIx xs.length xs.length hi - HT.sIx xs.length 0 lo)).map f := by
  unfold cutD
  rw [List.length_map, List.map_take, List.map_drop]
theorem cut_to {α : Type} {xs : List α} (f : α → D) {i : Int} {k : Nat} (e : i = (k : Int)) (h : k ≤ xs.length) : cutD (xs.map f) none (some i) = (xs.take k).map f := by
  subst e
  rw [cut_map, HT.sIx_nat, HT.sIx_none, Nat.min_eq_left h, Nat.sub_zero, List.drop_zero]
theorem cut_from {α : Type} {xs : List α} (f : α → D) {i : Int} {k : Nat} (e : i = (k : Int)) (h : k ≤ xs.length) : cutD (xs.map f) (some i) none = (xs.drop k).map f := by
  subst e
  rw [cut_map, HT.sIx_nat, HT.sIx_none, Nat.min_eq_left h, ← List.length_drop, List.take_length]
theorem atI_map {α : Type} {xs : List α} {f : α → D} {i : Int} {x : α} (h0 : 0 ≤ i) (h : xs[i.toNat]? = some x) : atI (xs.map f) i = some (f x) := by
  have lt := (List.getElem?_eq_some_iff.mp h).1
  have e : ixN (xs.map f).length i = some i.toNat := by
    unfold ixN
    rw [if_pos h0, List.length_map, if_pos (by omega)]
  unfold atI
  rw [e]
  show (xs.map f)[i.toNat]? = _
  rw [List.getElem?_map, h]
  rfl
theorem at_lst {α : Type} {xs : List α} {f : α → D} {i : Int} {x : α} {P : D → Prop} (h0 : 0 ≤ i) (h : xs[i.toNat]? = some x) (hp : P (f x)) : rIxD (.lst (xs.map f)) (.int i) P := by
  unfold rIxD
  show match atI (xs.map f) i with
    | some d => P d
    | none => False
  rw [atI_map h0 h]
  exact hp
theorem at_tup {α : Type} {xs : List α} {f : α → D} {i : Int} {x : α} {P : D → Prop} (h0 : 0 ≤ i) (h : xs[i.toNat]? = some x) (hp : P (f x)) : rIxD (.tup (xs.map f)) (.int i) P := by
  unfold rIxD
  show match atI (xs.map f) i with
    | some d => P d
    | none => False
  rw [atI_map h0 h]
  exact hp
theorem in_str {x : Str} {xs : List Str} {P : D → Prop} (neg : Bool) {y : D} (hy : y.items = some (xs.map D.str)) (hp : P (.bl (if neg then !decide (x ∈ xs) else decide (x ∈ xs)))) : rInD neg (.str x) y P := by
  unfold rInD
  rw [hy]
  refine ⟨⟨rfl, atoms_strs xs⟩, ?_⟩
  rw [in_strs]
  exact hp
theorem eq_int {i j : Int} {P : D → Prop} (hp : P (.bl (decide (i = j)))) : rEqDD (.int i) (.int j) P := by unfold rEqDD; exact ⟨⟨rfl, rfl⟩, by rw [eqv_int]; exact hp⟩
theorem eq_str {i j : Str} {P : D → Prop} (h1 : PyData.strOk i = true) (h2 : PyData.strOk j = true) (hp : P (.bl (decide (i = j)))) : rEqDD (.str i) (.str j) P := by unfold rEqDD; exact ⟨⟨by unfold D.flat; exact h1, by unfold D.flat; exact h2⟩, by rw [eqv_str]; exact hp⟩
theorem ne_int {i j : Int} {P : D → Prop} (hp : P (.bl (!decide (i = j)))) : rNeDD (.int i) (.int j) P := by unfold rNeDD; exact ⟨⟨rfl, rfl⟩, by rw [eqv_int]; exact hp⟩
theorem ne_str {i j : Str} {P : D → Prop} (h1 : PyData.strOk i = true) (h2 : PyData.strOk j = true) (hp : P (.bl (!decide (i = j)))) : rNeDD (.str i) (.str j) P := by unfold rNeDD; exact ⟨⟨by unfold D.flat; exact h1, by unfold D.flat; exact h2⟩, by rw [eqv_str]; exact hp⟩
end DL
end
section
namespace DL
open PySem PySem.Spec PyProof.Rows L2
def spDrawn (l : Addr) : SpD := fun ds P _ => ∃ c : Int, ds = [.adr l, .int c] ∧ (0 < c ∧ c < 1073741824) ∧ ∀ r : Int, 0 ≤ r → r < c → P (.int r)
section
variable {K : PySem.W.Frag}
def tSt (K : PySem.W.Frag) (k : Int) : TE := tOp (rIx K) (tVar 0) (tC (.int k))
theorem st_at {σ : L2.St} {H : Hp} {Q : VK} {l : Addr} {xs : List V} {k : Int} {v : V} (h0 : σ[0]? = some (some (.ref l))) (h : H l = some (.lst xs)) (ha : atI xs k = some v) (q : Q v H) : tSt K k σ H Q :=
  ⟨_, h0, .inl ⟨l, xs, k, v, rfl, rfl, .inl (.inl h), ha, q⟩⟩
theorem st_put {σ : L2.St} {H : Hp} {Q : L2.St → Hp → Prop} {l : Addr} {xs : List V} {k : Int} {j : Nat} {v : V} (h0 : σ[0]? = some (some (.ref l))) (h : H l = some (.lst xs)) (ha : ixN xs.length k = some j) (q : Q σ (upd H l (.lst (xs.set j v)))) : gSub (tVar 0) (tC (.int k)) rSetL v σ H Q :=
  ⟨_, h0, l, xs, k, j, rfl, rfl, h, ha, q⟩
abbrev xMod : R2 := rI (fun _ j => 0 < j) fun i j => .int (i % j)
abbrev xFdv : R2 := rI CDiv fun i j => .int (i / j)
abbrev xAdd : R2 := rI0 fun i j => .int (i + j)
abbrev xMul : R2 := rI CMul fun i j => .int (i * j)
abbrev xPow : R2 := rI CPow fun i j => .int (i ^ j.toNat)
abbrev xGt : R2 := rI0 fun i j => .bl (decide (j < i))
abbrev xGe : R2 := rI0 fun i j => .bl (decide (j ≤ i))
abbrev xLen (K : PySem.W.Frag) : List V → Hp → VK → Prop := fun xs H Q => ∃ p ys, xs = [.ref p] ∧ (SqL K H p ys ∨ SqT K H p ys) ∧ Q (.int ys.length) H
end
end DL
end
section
namespace DL
open PySem PySem.Spec PyProof.Rows L2
section
variable {K : PySem.W.Frag} {S : Sit} {c : Cl} {X : Cx} {ta tb te tk : TE} {a b t : TED} {ts : TA} {as bs : TAD} {e e1 e2 e3 : Expr} {es : List Expr} {pos p1 p2 p3 p4 p5 p6 : Pos} {x y z : Str}
def dParN (i j : Nat) (as bs : TAD) : TSD := fun Dd ρ => as ρ fun ds => bs ρ fun es => Dd.nx ((ρ.set i (some (.own .lst ds))).set j (some (.own .lst es)))
def dParN3 (i j l : Nat) (as bs : TAD) (t : TED) : TSD := fun Dd ρ => as ρ fun ds => bs ρ fun es => t ρ fun d => Dd.nx (((ρ.set i (some (.own .lst ds))).set j (some (.own .lst es))).set l (some d))
def popD (j : Nat) (n : D) (P : D → EnvD → Prop) (ρ : EnvD) : Prop := match ρ[j]?, n with
  | some (some (.own .lst ds)), .int n => (0 ≤ n ∧ n < ds.length ∧ ds.length ≤ 1000000) ∧ match ds[n.toNat]? with
    | some d => P d (ρ.set j (some (.own .lst (ds.eraseIdx n.toNat))))
    | none => False
  | _, _ => False
theorem RepL.erase {H : Hp} : ∀ {ds : List D} {vs : List V} (n : Nat), RepL K H ds vs → RepL K H (ds.eraseIdx n) (vs.eraseIdx n)
  | [], vs, n, r => by
    unfold RepL at r
    subst r
    exact RepL.nil
  | d :: ds, vs, n, r => by
    unfold RepL at r
    obtain ⟨v, us, rfl, h1, h2⟩ := r
    cases n with
    | zero => exact h2
    | succ n => exact RepL.cons h1 (RepL.erase n h2)
theorem pop_step {j : Nat} (hb : WE K S c tb b) {B : Hp} {Z : Addr → Prop} {σ : L2.St} {H : Hp} {ρ : EnvD} {P : D → EnvD → Prop} {Q : VK} (r : RZ K S c B Z σ H ρ) (hown : ∃ ds, ρ[j]? = some (some (.own .lst ds))) (h : b (view ρ) fun n => popD j n P ρ)
    (q : ∀ v H' d ρ', RZ K S c B Z σ H' ρ' → Rep K (hide H' Z) d v → P d ρ' → Q v H') : tBM K "list" rPopAt (tVar j) (tCons tb tNil) σ H Q := by
  obtain ⟨ds, hi⟩ := hown
  obtain ⟨l, xs, e1, z, h0, e2, _, q0⟩ := r.own j .lst ds hi
  refine ⟨_, e1, .inl ⟨rfl, xs, .inl (.inl e2)⟩, ?_⟩
  refine hb c.Z0 σ H (view ρ) _ r.view h _ fun u H2 n k2 i2 q2 hj => ?_
  have r2 := r.step k2 i2
  unfold popD at hj
  rw [hi] at hj
  cases n <;> try exact hj.elim
  rename_i n
  unfold Rep at q2
  simp only at hj
  obtain ⟨⟨b0, b1, b2⟩, hj⟩ := hj
  obtain ⟨l', xs', e1', z', _, e2', _, q0'⟩ := r2.own j .lst ds hi
  rw [e1] at e1'
  cases e1'
  split at hj
  · rename_i d em
    obtain ⟨y, hy, ry⟩ := q0'.get em
    have hl := q0'.len
    refine ⟨l, xs', n, n.toNat, y, rfl, by rw [q2], e2', by omega, by omega, ?_, hy, ?_⟩
    · unfold seqIndex?
      simp only
      rw [if_neg (show ¬ n < 0 by omega)]
      have e1 : (decide (0 ≤ n) && decide (n < (xs'.length : Int))) = true := by
        rw [decide_eq_true b0, decide_eq_true (show n < (xs'.length : Int) by omega)]
        rfl
      rw [e1]
      rfl
    · have r3 := r2.write (kd' := .lst) hi e1 trivial (q0'.erase n.toNat)
      refine q y _ d _ r3 ?_ hj
      rw [hide_upd z']
      exact ry
  · exact hj.elim
theorem app_step {i : Nat} {B : Hp} {Z : Addr → Prop} {σ : L2.St} {H : Hp} {ρ : EnvD} {ds : List D} {d : D} {l : Addr} {v : V} {Q : VK} (r : RZ K S c B Z σ H ρ) (hi : ρ[i]? = some (some (.own .lst ds))) (hl : σ[i]? = some (some (.ref l))) (hz : ds.length < 1000000) (rv : Rep K (hide H Z) d v)
    (q : ∀ H', RZ K S c B Z σ H' (ρ.set i (some (.own .lst (ds ++ [d])))) → Q .non H') : rAppend (.ref l) [v] H Q := by
  obtain ⟨l', xs, e1, z, h0, e2, _, q0⟩ := r.own i .lst ds hi
  rw [hl] at e1
  cases e1
  exact ⟨l, xs, v, rfl, rfl, e2, szl (by rw [← q0.len]; exact hz), q _ (r.write (kd' := .lst) hi hl trivial (q0.append (RepL.cons rv RepL.nil)))⟩
def endD (i : Nat) (d : D) (P : EnvD → Prop) (ρ : EnvD) : Prop := match ρ[i]? with
  | some (some (.own .lst ds)) => ds.length < 1000000 ∧ P (ρ.set i (some (.own .lst (ds ++ [d]))))
  | _ => False
def dAppPop (i j : Nat) (b : TED) : TSD := fun Dd ρ => ((∃ ds, ρ[i]? = some (some (.own .lst ds))) ∧ ∃ ds, ρ[j]? = some (some (.own .lst ds))) ∧ b (view ρ) fun n => popD j n (fun d ρ' => endD i d Dd.nx ρ') ρ
theorem ws_appPop {i j : Nat} (hb : WE K S c tb b) : WS K S c (tDrop (tBM K "list" rAppend (tVar i) (tCons (tBM K "list" rPopAt (tVar j) (tCons tb tNil)) tNil))) (dAppPop i j b) := by
  rintro B σ H ρ Dd De ⟨Z, r⟩ ⟨⟨⟨ds, hi⟩, hj⟩, h⟩ f
  obtain ⟨l, xs, e1, z, h0, e2, _, q0⟩ := r.own i .lst ds hi
  refine ⟨_, e1, .inl ⟨rfl, xs, .inl (.inl e2)⟩, ?_⟩
  refine pop_step hb r hj h fun v H' d ρ' r' rv hd => ?_
  unfold endD at hd
  split at hd
  · rename_i es he
    exact app_step (Q := fun _ H' => De.nx σ H') r' he e1 hd.1 rv fun H'' r'' => f.nx σ H'' _ ⟨Z, r''⟩ hd.2
  · exact hd.elim
theorem pe_popE (j : Nat) (hK : X.K = K) (hb : PE X e tb) (hN : X.N[j]? = some x := by rfl) (hv : Vis X.env.scope x := by first | exact Or.inl rfl | exact Or.inr (Or.inl rfl) | exact Or.inr (Or.inr rfl)) (hd : (x == ("__debug__" : Str)) = false := by decide) (hcd : (x == ("__classdict__" : Str)) = false := by decide)
    (he : starEach (e :: []) X.env = (false, eval e X.env) :: starEach [] X.env := by rfl) (hbase : attributeBase (.Name x p1) "pop" X.env (eval (.Name x p1) X.env) = eval (.Name x p1) X.env := by rfl)
    (hfew : ((backTo p3 (starEach (e :: []) X.env)).all (fun x => !x.1) && (backToKw p3 (keywordEach [] X.env)).all (fun x => x.1.isSome) && decide ((e :: ([] : List Expr)).length + ([] : List Keyword).length + (if ([] : List Keyword).isEmpty then 0 else 1) < 30)) = true := by rfl)
    (hline : (p2.endLine == p3.line) = true := by rfl) (hpl : (backTo p3 (starEach [] X.env)).any (·.1) = false := by rfl) :
    PE X (.Call (.Attribute (.Name x p1) "pop" p2) [e] [] p3) (tBM K "list" rPopAt (tVar j) (tCons tb tNil)) := by
  subst hK
  exact pe_bm PySem.F.plainAttrs_list PySem.F.slot_list_pop PySem.F.type_list_pop mt_popAt (pe_var hN hv hd hcd) (pa_cons hb pa_nil he) hbase hfew hline he hpl
theorem ps_appE (i : Nat) (hK : X.K = K) (ha : PE X e ta) (hN : X.N[i]? = some x := by rfl) (hv : Vis X.env.scope x := by first | exact Or.inl rfl | exact Or.inr (Or.inl rfl) | exact Or.inr (Or.inr rfl)) (hd : (x == ("__debug__" : Str)) = false := by decide) (hcd : (x == ("__classdict__" : Str)) = false := by decide)
    (he : starEach (e :: []) X.env = (false, eval e X.env) :: starEach [] X.env := by rfl) (hbase : attributeBase (.Name x p1) "append" X.env (eval (.Name x p1) X.env) = eval (.Name x p1) X.env := by rfl)
    (hfew : ((backTo p3 (starEach (e :: []) X.env)).all (fun x => !x.1) && (backToKw p3 (keywordEach [] X.env)).all (fun x => x.1.isSome) && decide ((e :: ([] : List Expr)).length + ([] : List Keyword).length + (if ([] : List Keyword).isEmpty then 0 else 1) < 30)) = true := by rfl)
    (hline : (p2.endLine == p3.line) = true := by rfl) (hpl : (backTo p3 (starEach [] X.env)).any (·.1) = false := by rfl) (hs : swapsWith (.Call (.Attribute (.Name x p1) "append" p2) [e] [] p3) none pos.line X.env = pure false := by rfl) :
    PS X (.Expr (.Call (.Attribute (.Name x p1) "append" p2) [e] [] p3) pos) (tDrop (tBM K "list" rAppend (tVar i) (tCons ta tNil))) := by
  subst hK
  exact ps_expr (pe_bm PySem.F.plainAttrs_list PySem.F.slot_list_append PySem.F.type_list_append mt_append (pe_var hN hv hd hcd) (pa_cons ha pa_nil he) hbase hfew hline he hpl) hs
end
end DL
end
section
namespace DL
open PySem PySem.Spec PyProof.Rows L2
section
variable {K : PySem.W.Frag} {H : Hp}
end
section
variable {K : PySem.W.Frag} {S : Sit} {c : Cl} {X : Cx} {ta tb te : TE} {a b t : TED} {ts : TA} {as : TAD} {e e2 : Expr} {es : List Expr} {pos p1 p2 p3 pos' : Pos} {x y : Str}
end
end DL
end
section
namespace DL
open PySem PySem.Spec PyProof.Rows L2
section
variable {K : PySem.W.Frag} {S : Sit} {c : Cl} {X : Cx} {te ta : TE} {a : TED} {e : Expr} {pos p1 p2 : Pos} {x y : Str} {C : Addr}
theorem dp_pop {tb : TE} {b : TED} {p3 : Pos} (j : Nat) (hK : X.K = K) (hb : DE K S c X e tb b) (hN : X.N[j]? = some x := by rfl) (hv : Vis X.env.scope x := by first | exact Or.inl rfl | exact Or.inr (Or.inl rfl) | exact Or.inr (Or.inr rfl)) (hd : (x == ("__debug__" : Str)) = false := by decide) (hcd : (x == ("__classdict__" : Str)) = false := by decide)
    (he : starEach (e :: []) X.env = (false, eval e X.env) :: starEach [] X.env := by rfl) (hbase : attributeBase (.Name x p1) "pop" X.env (eval (.Name x p1) X.env) = eval (.Name x p1) X.env := by rfl)
    (hfew : ((backTo p3 (starEach (e :: []) X.env)).all (fun x => !x.1) && (backToKw p3 (keywordEach [] X.env)).all (fun x => x.1.isSome) && decide ((e :: ([] : List Expr)).length + ([] : List Keyword).length + (if ([] : List Keyword).isEmpty then 0 else 1) < 30)) = true := by rfl)
    (hline : (p2.endLine == p3.line) = true := by rfl) (hpl : (backTo p3 (starEach [] X.env)).any (·.1) = false := by rfl) :
    DPop K S c X j (.Call (.Attribute (.Name x p1) "pop" p2) [e] [] p3) tb b := ⟨pe_popE j hK hb.pe hN hv hd hcd he hbase hfew hline hpl, hb.we⟩
theorem ds_appPop {tb : TE} {b : TED} {p3 : Pos} {j : Nat} (i : Nat) (hK : X.K = K) (hp : DPop K S c X j e tb b) (hN : X.N[i]? = some x := by rfl) (hv : Vis X.env.scope x := by first | exact Or.inl rfl | exact Or.inr (Or.inl rfl) | exact Or.inr (Or.inr rfl)) (hd : (x == ("__debug__" : Str)) = false := by decide) (hcd : (x == ("__classdict__" : Str)) = false := by decide)
    (he : starEach (e :: []) X.env = (false, eval e X.env) :: starEach [] X.env := by rfl) (hbase : attributeBase (.Name x p1) "append" X.env (eval (.Name x p1) X.env) = eval (.Name x p1) X.env := by rfl)
    (hfew : ((backTo p3 (starEach (e :: []) X.env)).all (fun x => !x.1) && (backToKw p3 (keywordEach [] X.env)).all (fun x => x.1.isSome) && decide ((e :: ([] : List Expr)).length + ([] : List Keyword).length + (if ([] : List Keyword).isEmpty then 0 else 1) < 30)) = true := by rfl)
    (hline : (p2.endLine == p3.line) = true := by rfl) (hpl : (backTo p3 (starEach [] X.env)).any (·.1) = false := by rfl)
    (hs : swapsWith (.Call (.Attribute (.Name x p1) "append" p2) [e] [] p3) none pos.line X.env = pure false := by rfl) :
    DS K S c X (.Expr (.Call (.Attribute (.Name x p1) "append" p2) [e] [] p3) pos) (tDrop (tBM K "list" rAppend (tVar i) (tCons (tBM K "list" rPopAt (tVar j) (tCons tb tNil)) tNil))) (dAppPop i j b) :=
  ⟨ps_appE i hK hp.pe hN hv hd hcd he hbase hfew hline hpl hs, ws_appPop hp.we⟩
end
end DL
end
section
namespace DL
open PySem PySem.Spec PyProof.Rows L2
section
variable {K : PySem.W.Frag} {S : Sit} {c : Cl} {X : Cx} {e : Expr} {pos p1 p2 p3 p4 p5 p6 : Pos} {x y : Str}
end
end DL
end
section
namespace DL
open PySem PySem.Spec PyProof.Rows L2
section
variable {K : PySem.W.Frag} {S : Sit} {c : Cl} {X : Cx} {ta tb te : TE} {a b t : TED} {ts : TA} {as : TAD} {e e1 e2 e3 e4 : Expr} {pos p1 p2 p3 p4 : Pos} {x : Str}
end
section
variable {K : PySem.W.Frag}
end
theorem pss_ex {ι : Type} {X : Cx} {st : List Stmt} {t : ι → TS} (h : ∀ i, PSs X st (t i)) : PSs X st (fun D σ H => ∃ i, t i D σ H) := ⟨fun pins s σ H D I ⟨i, hi⟩ => (h i).run pins s σ H D I hi⟩
end DL
namespace DL
open PySem PySem.Spec PyProof.Rows L2
section
variable {X : Cx} {x : Str} {pos p1 p2 : Pos} {j : Nat}
theorem xv (i : Nat) (hN : X.N[i]? = some x := by rfl) (hv : Vis X.env.scope x := by first | exact Or.inl rfl | exact Or.inr (Or.inl rfl)) (hd : (x == ("__debug__" : Str)) = false := by decide) (hcd : (x == ("__classdict__" : Str)) = false := by decide) : PE X (.Name x pos) (tVar i) := pe_var hN hv hd hcd
theorem xix (k : Int) (hN : X.N[0]? = some x := by rfl) (hv : Vis X.env.scope x := by exact Or.inl rfl) (hd : (x == ("__debug__" : Str)) = false := by decide) (hcd : (x == ("__classdict__" : Str)) = false := by decide) :
    PE X (.Subscript (.Name x p1) (.Constant (.int k) j p2) pos) (tSt X.K k) := pe_ix ix_seq (pe_var hN hv hd hcd) pe_int (fun _ _ => rfl)
theorem xput (k : Int) (hN : X.N[0]? = some x := by rfl) (hv : Vis X.env.scope x := by exact Or.inl rfl) (hd : (x == ("__debug__" : Str)) = false := by decide) (hcd : (x == ("__classdict__" : Str)) = false := by decide)
    (ha : ∀ v, assign (.Subscript (.Name x p1) (.Constant (.int k) j p2) pos) X.env v = (do
      let ov ← holding [v] (eval (.Name x p1) X.env); let iv ← holding [v, ov] (eval (.Constant (.int k) j p2) X.env)
      standAt pos; holding [v, ov, iv] (setItem ov iv v); release [v, ov, iv] []) := by intro _; rfl) :
    PG X (.Subscript (.Name x p1) (.Constant (.int k) j p2) pos) (gSub (tVar 0) (tC (.int k)) rSetL) := pg_sub (pe_var hN hv hd hcd) pe_int set_list ha
end
end DL
namespace DL
open PySem PySem.Spec PyProof.Rows L2
section
variable {K : PySem.W.Frag} {S : Sit} {c : Cl} {X : Cx} {ta : TA} {as : TAD} {e1 e2 : Expr} {pos : Pos} {x y : Str}
end
end DL
end
section
namespace DL
open PySem PySem.Spec PyProof.Rows L2
theorem DefX.fun_ {K : PySem.W.Frag} {d : DefX} (e : d.look K = d.want) (c : d.ok K = true) : ∃ fd, Fun K d.name d.qual d.st (d.at_.ad K) fd := by
  obtain ⟨kp, c2⟩ := He.ba c
  unfold DefX.look at e
  cases q : K.lookup (d.at_.ad K) with
  | none =>
    rw [q] at c2
    cases c2
  | some o =>
    obtain ⟨oc, od, dt, osl⟩ := o
    rw [q] at c2 e
    cases dt with
    | func fd =>
      obtain ⟨n1, n2, n3, n4, n5, n6, n7, n8, n9, n10, n11, n12, n13, n14, n15⟩ := fd
      have e2 : (some (n1, n2, n3, n4, n5, n6, n7, n8, n15) : He.FnV) = some (d.name, d.qual, defArgs d.st, .stmts (defBody d.st), defScope d.st, mainGlobals, [], .none, builtinsNs) := e
      simp only [Option.some.injEq, Prod.mk.injEq] at e2
      obtain ⟨h1, h2, h3, h4, h5, h6, h7, h8, h9⟩ := e2
      subst h1 h2 h3 h4 h5 h6 h7 h8 h9
      exact ⟨_, ⟨oc, od, n9, n10, n11, n12, n13, n14, osl, rfl, q, c2⟩, kp⟩
    | _ => cases c2
section
variable {K : PySem.W.Frag} {h : Heap} {mg : Str → Option Value}
theorem fb_prop {C f : Str} (c : (Fb.prop C f).ok K = true) : PropOf K (He.ga K C) f (He.ma K (He.ga K C) f) (At.ad K (.prop C f)) := by
  obtain ⟨c1, c⟩ := He.ba c
  obtain ⟨c2, c⟩ := He.ba c
  obtain ⟨c3, c4⟩ := He.ba c
  refine ⟨He.eqO_ok c1, He.eqO_ok c2, of_decide_eq_true c3, ?_⟩
  show ∃ rest, _ = some (Value.ref (getterA K (He.ma K (He.ga K C) f)) :: rest)
  unfold getterA
  cases e : PySem.W.recIn K (He.ma K (He.ga K C) f) "property" with
  | none => rw [e] at c4; cases c4
  | some l =>
    cases l with
    | nil => rw [e] at c4; cases c4
    | cons v r =>
      cases v with
      | ref g => exact ⟨r, rfl⟩
      | _ => rw [e] at c4; cases c4
theorem fb_int (X : K.In h) (G : h.Ns mainGlobals mg) {x : Str} {i : Int} (c : (Fb.a (.int x i)).ok K = true) : ∃ u, mg x = some u ∧ RelV (V.int i) u := by
  obtain ⟨t, e⟩ := He.int_ok X G c
  exact ⟨_, e, ⟨t, rfl⟩⟩
theorem fb_str (X : K.In h) (G : h.Ns mainGlobals mg) {x z : Str} (c : (Fb.a (.str x z)).ok K = true) : ∃ u, mg x = some u ∧ RelV (V.str z) u := by
  obtain ⟨t, e⟩ := He.str_ok X G c
  exact ⟨_, e, ⟨t, rfl⟩⟩
end
def lookX (fa : List Fb) (fn : List DefX) (K : PySem.W.Frag) : AlX := ((fa.all fun f => f.ok K) && fn.all fun d => d.ok K, fn.map fun d => d.look K)
def wantX (fn : List DefX) : AlX := (true, fn.map DefX.want)
def SaysX (fa : List Fb) (fn : List DefX) (K : PySem.W.Frag) : Prop := lookX fa fn K = wantX fn
section
variable {fa : List Fb} {fn : List DefX} {K : PySem.W.Frag}
theorem SaysX.fact (c : SaysX fa fn K) (i : Nat) {f : Fb} (h : fa[i]? = some f := by rfl) : f.ok K = true := by
  have c1 := (He.ba (show ((fa.all fun f => f.ok K) && fn.all fun d => d.ok K) = true from congrArg (fun z : AlX => z.1) c)).1
  exact List.all_eq_true.mp c1 f (List.mem_of_getElem? h)
theorem SaysX.def_ (c : SaysX fa fn K) (i : Nat) {d : DefX} (h : fn[i]? = some d := by rfl) : ∃ fd, Fun K d.name d.qual d.st (d.at_.ad K) fd := by
  have c2 := (He.ba (show ((fa.all fun f => f.ok K) && fn.all fun d => d.ok K) = true from congrArg (fun z : AlX => z.1) c)).2
  have e : fn.map (fun d => d.look K) = fn.map DefX.want := congrArg (fun z : AlX => z.2) c
  have e2 : (fn.map fun d => d.look K)[i]? = (fn.map DefX.want)[i]? := by rw [e]
  rw [List.getElem?_map, List.getElem?_map, h] at e2
  exact DefX.fun_ (Option.some.inj e2) (List.all_eq_true.mp c2 d (List.mem_of_getElem? h))
end
end DL
end
section
namespace DL
open PySem PySem.Spec PyProof.Rows L2
theorem seq_of {d1 d2 : TSD} {Dd : EndsD} {ρ : EnvD} (G : EnvD → Prop) (h : ∀ N : EnvD → Prop, (∀ ρ', G ρ' → N ρ') → d1 { Dd with nx := N } ρ) (h2 : ∀ ρ', G ρ' → d2 Dd ρ') : dSeq d1 d2 Dd ρ := h _ h2
theorem flat_str' {n : Nat} {x : Str} (h : PyData.strOk x = true) : D.flat n (.str x) = true := by cases n <;> (unfold D.flat; exact h)
theorem flat_int' {n : Nat} {x : Int} : D.flat n (.int x) = true := by cases n <;> (unfold D.flat; rfl)
theorem flat_tup' {n : Nat} {ds : List D} (h : D.flatL n ds = true) : D.flat (n + 1) (.tup ds) = true := by unfold D.flat; exact h
theorem flat_lst' {n : Nat} {ds : List D} (h : D.flatL n ds = true) : D.flat (n + 1) (.lst ds) = true := by unfold D.flat; exact h
theorem flatL_map {α : Type} {n : Nat} {f : α → D} : ∀ {xs : List α}, (∀ x ∈ xs, D.flat n (f x) = true) → D.flatL n (xs.map f) = true
  | [], _ => by unfold List.map D.flatL; rfl
  | x :: xs, h => by
    rw [List.map_cons]
    unfold D.flatL
    rw [h x List.mem_cons_self, flatL_map fun y hy => h y (List.mem_cons_of_mem _ hy)]
    rfl
theorem flatL_cons {n : Nat} {d : D} {ds : List D} (h1 : D.flat n d = true) (h2 : D.flatL n ds = true) : D.flatL n (d :: ds) = true := by unfold D.flatL; rw [h1, h2]; rfl
theorem flatL_nil {n : Nat} : D.flatL n [] = true := by unfold D.flatL; rfl
theorem eqv_same {d : D} (h : D.flat 60 d = true) : PyData.eqv d.py d.py = true := PySem.SeqAt.eqv_refl _ (flat_lay 60 d h).1
theorem ne_same {d : D} {P : D → Prop} (h : D.flat 60 d = true) (hp : P (.bl false)) : rNeDD d d P := by
  unfold rNeDD
  rw [eqv_same h]
  exact ⟨⟨h, h⟩, hp⟩
theorem eq_same {d : D} {P : D → Prop} (h : D.flat 60 d = true) (hp : P (.bl true)) : rEqDD d d P := by
  unfold rEqDD
  rw [eqv_same h]
  exact ⟨⟨h, h⟩, hp⟩
theorem at_lstD' {ds : List D} {i : Int} {x : D} {P : D → Prop} (h0 : 0 ≤ i) (h : ds[i.toNat]? = some x) (hp : P x) : rIxD (.lst ds) (.int i) P := by
  have e : ds = ds.map fun d => d := by simp
  rw [e]
  exact at_lst (xs := ds) (f := fun d => d) h0 h hp
end DL
end
section
namespace DL
open PySem PySem.Spec PyProof.Rows L2
section
variable {K : PySem.W.Frag} {S : Sit} {c : Cl} {X : Cx} {te ta tb : TE} {a b t : TED} {as : TAD}
theorem rep_own {H : Hp} {Z : Addr → Prop} {H0 : Hp} {d : D} {v : V} (r : Rep K (hide H Z) d v) : Own K H (fun a => Z a ∨ a ∈ ([] : List Addr)) H0 d v [] := by
  have no : d.isOwn = false := by cases d <;> first | rfl | (unfold Rep at r; exact r.elim)
  refine (own_plain no).mpr ⟨rfl, Rep.mono (hide_weak fun a z => ?_) d v r⟩
  rcases z with z | z
  · exact z
  · cases z
theorem RV.fresh0 {Z : Addr → Prop} {σ : L2.St} {H : Hp} {ρ : EnvD} (r : RV K S c Z σ H ρ) {p : Addr} (hp : H p = none) : c.H0 p = none := by
  cases e : c.H0 p with
  | none => rfl
  | some o =>
    have hw : ¬ S.W p := fun w => by
      obtain ⟨u, e'⟩ := S.there H p r.wd.inv w
      rw [hp] at e'; cases e'
    have := r.kp p o e hw
    rw [hp] at this; cases this
theorem wx_e (h : WE K S c te a) : WX K S c te a := fun Z σ H ρ P r hp Q q =>
  h Z σ H ρ P r hp Q fun v H' d k i rd hd => q v H' d [] k i (fun _ z => nomatch z) List.nodup_nil (rep_own rd) hd
def xN (as : TAD) : TXD := fun ρ P => as ρ fun ds => P (.own .lst ds)
variable {e e1 e2 e3 : Expr} {t1 t2 t3 : TE} {a1 a2 a3 : TXD} {x y z : Str} {pos pos' p1 p2 p3 p4 p5 p6 : Pos}
theorem dx_e (h : DE K S c X e te a) : DX K S c X e te a := ⟨h.pe, wx_e h.we⟩
theorem RV.beside {Z : Addr → Prop} {σ : L2.St} {H H' : Hp} {ρ : EnvD} (r : RV K S c Z σ H ρ) {d : D} {v : V} {ft : List Addr} (k : Kp S H H') (iv : S.I H') (hn : ∀ a ∈ ft, H a = none) (q : Own K H' (fun a => Z a ∨ a ∈ ft) c.H0 d v ft) :
    RV K S c (fun a => Z a ∨ a ∈ ft) σ H' ρ := by
  have r1 := r.step k iv
  refine ⟨⟨fun b u e => ⟨(r1.wd.base b u e).1, fun z => z.elim (r1.wd.base b u e).2 fun hm => by have q9 := (r.wd.base b u e).1; rw [hn b hm] at q9; cases q9⟩, fun a w => .inl (r1.wd.wz a w), fun a z => ?_, fun a o z e => z.elim (fun z => r1.wd.zx a o z e) (fun z => q.noX a z o e), iv⟩, r1.kp, fun a z => .inl (r1.zz a z), r1.len, fun j e h n => ?_⟩
  · rcases z with z | z
    · exact r1.wd.zin a z
    · exact (q.in_ a z).2.2
  · obtain ⟨u, e1, q1⟩ := r.sl j e h n
    refine ⟨u, e1, Rep.mono (fun a o e => ?_) _ u q1⟩
    obtain ⟨nz, e⟩ := hide_some.mp e
    refine hide_some.mpr ⟨fun z => ?_, (hide_some.mp (r.wd.ex k a o (hide_some.mpr ⟨nz, e⟩))).2⟩
    rcases z with z | z
    · exact nz z
    · rw [hn a z] at e; cases e
def dParX (i j : Nat) (a b : TXD) : TSD := fun Dd ρ => a ρ fun d => b ρ fun e => Dd.nx ((ρ.set i (some d)).set j (some e))
def dParX3 (i j l : Nat) (a b t : TXD) : TSD := fun Dd ρ => a ρ fun d => b ρ fun e => t ρ fun g => Dd.nx (((ρ.set i (some d)).set j (some e)).set l (some g))
theorem ws_parX3 {i j l : Nat} (h1 : WX K S c t1 a1) (h2 : WX K S c t2 a2) (h3 : WX K S c t3 a3) : WS K S c (tPar3 i j l (tCons t1 (tCons t2 (tCons t3 tNil)))) (dParX3 i j l a1 a2 a3) := by
  rintro B σ H ρ Dd De ⟨Z, r⟩ h f
  refine h1 Z σ H ρ _ r.rv h _ fun v H1 d ft k iv hn nd q hd => ?_
  have rm := r.rv.beside k iv hn q
  have r1 := r.put i k iv hn nd q
  refine h2 _ σ H1 ρ _ rm hd _ fun u H2 e ft2 k2 iv2 hn2 nd2 q2 he => ?_
  have rm2 := rm.beside k2 iv2 hn2 q2
  have r2 := r1.put j k2 iv2 hn2 nd2 q2
  refine h3 _ σ H2 ρ _ rm2 he _ fun w H3 g ft3 k3 iv3 hn3 nd3 q3 hg => ?_
  exact ⟨_, _, _, rfl, f.nx _ H3 _ ⟨_, r2.put l k3 iv3 hn3 nd3 q3⟩ hg⟩
theorem ds_parX3 {kt k2 : Nat} {px py pz pt pt2 : Pos} (i j l : Nat) (calm : X.calm = true) (hN : X.N.Nodup) (ha : DX K S c X e1 t1 a1) (hb : DX K S c X e2 t2 a2) (ht : DX K S c X e3 t3 a3) (hij : i ≠ j := by decide) (hil : i ≠ l := by decide) (hjl : j ≠ l := by decide)
    (hi : X.N[i]? = some x := by rfl) (hj : X.N[j]? = some y := by rfl) (hl : X.N[l]? = some z := by rfl) (hx : X.env.scope.names.lookup x = some .local := by rfl) (hy : X.env.scope.names.lookup y = some .local := by rfl) (hz : X.env.scope.names.lookup z = some .local := by rfl)
    (he1 : starEach (e1 :: [e2, e3]) X.env = (false, eval e1 X.env) :: starEach [e2, e3] X.env := by rfl) (he2 : starEach (e2 :: [e3]) X.env = (false, eval e2 X.env) :: starEach [e3] X.env := by rfl) (he3 : starEach (e3 :: []) X.env = (false, eval e3 X.env) :: starEach [] X.env := by rfl)
    (hw : swappedStores [.Tuple [.Name x px, .Name y py, .Name z pz] kt pt] (.Tuple [e1, e2, e3] k2 pt2) X.env = pure (some [x, y, z]) := by rfl) (hsw : swapsWithSole [.Tuple [.Name x px, .Name y py, .Name z pz] kt pt] (.Tuple [e1, e2, e3] k2 pt2) pos.line X.env = pure false := by rfl) :
    DS K S c X (.Assign [.Tuple [.Name x px, .Name y py, .Name z pz] kt pt] (.Tuple [e1, e2, e3] k2 pt2) pos) (tPar3 i j l (tCons t1 (tCons t2 (tCons t3 tNil)))) (dParX3 i j l a1 a2 a3) :=
  ⟨ps_par3 calm hN hi hj hl hij hil hjl hx hy hz (pa_cons ha.pe (pa_cons hb.pe (pa_cons ht.pe pa_nil he3) he2) he1) hw hsw, ws_parX3 ha.wx hb.wx ht.wx⟩
end
section
variable {K : PySem.W.Frag} {S : Sit} {c : Cl} {X : Cx} {ta : TE} {a : TED} {ts : TA} {as : TAD} {o e : Expr} {es : List Expr} {apos cpos pos p : Pos} {T id : String} {name : Str} {r : V → List V → Hp → VK → Prop}
def tyD (T : String) : D → Prop
  | .str _ => T = "str"
  | .lst _ => T = "list"
  | .dic _ _ => T = "dict"
  | _ => False
theorem ty_of {H : Hp} {Z : Addr → Prop} {d : D} {x : V} (h : tyD T d) (rd : Rep K (hide H Z) d x) : tyV K T x H := by
  cases d <;> try exact h.elim
  · unfold Rep at rd; subst rd; exact h
  · unfold Rep at rd
    obtain ⟨p, xs, rfl, h1, _⟩ := rd
    exact .inl ⟨h, xs, .inl (.inl (hide_ex _ _ h1))⟩
  · unfold Rep at rd
    obtain ⟨p, xs, rfl, h1, _⟩ := rd
    exact .inr (.inr (.inl ⟨h, .inl ⟨_, hide_ex _ _ h1⟩⟩))
abbrev RMD := D → List D → (D → Prop) → Prop
def WM (K : PySem.W.Frag) (S : Sit) (r : V → List V → Hp → VK → Prop) (rd : RMD) : Prop := ∀ Z H x xs d ds (P : D → Prop), Wd S Z H → Rep K (hide H Z) d x → RepL K (hide H Z) ds xs → rd d ds P →
  ∀ Q : VK, (∀ v H' d, Kp S H H' → S.I H' → Rep K (hide H' Z) d v → P d → Q v H') → r x xs H Q
def dBM (T : String) (rd : RMD) (a : TED) (as : TAD) : TED := fun ρ P => a ρ fun x => tyD T x ∧ as ρ fun ds => rd x ds P
theorem we_bm {rd : RMD} (hr : WM K S r rd) (ha : WE K S c ta a) (hs : WA K S c ts as) : WE K S c (tBM K T r ta ts) (dBM T rd a as) := by
  intro Z σ H ρ P rv h Q q
  refine ha Z σ H ρ _ rv h _ fun x H1 d k1 i1 r1 ⟨ht, h1⟩ => ⟨ty_of ht r1, ?_⟩
  have rv1 := rv.step k1 i1
  refine hs Z σ H1 ρ _ rv1 h1 _ fun xs H2 ds k2 i2 r2 h2 => ?_
  have rv2 := rv1.step k2 i2
  exact hr Z H2 x xs d ds P rv2.wd (Rep.mono (rv1.wd.ex k2) d x r1) r2 h2 Q fun v H3 d3 k3 i3 r3 h3 => q v H3 d3 ((k1.trans k2).trans k3) i3 r3 h3
theorem de_bm {rd : RMD} (hK : X.K = K) (pa : PlainAttrs T) (slot : Slot T name id) (hty : typeOf (.builtin id) = pure (.type "method_descriptor")) (hm : MtR X id r) (hr : WM K S r rd) (ha : DE K S c X o ta a) (hs : DA K S c X (e :: es) ts as)
    (hbase : attributeBase o name X.env (eval o X.env) = eval o X.env := by rfl)
    (hfew : ((backTo cpos (starEach (e :: es) X.env)).all (fun x => !x.1) && (backToKw cpos (keywordEach [] X.env)).all (fun x => x.1.isSome)
      && decide ((e :: es).length + ([] : List Keyword).length + (if ([] : List Keyword).isEmpty then 0 else 1) < 30)) = true := by rfl)
    (hline : (apos.endLine == cpos.line) = true := by rfl) (he : starEach (e :: es) X.env = (false, eval e X.env) :: starEach es X.env := by rfl) (hpl : (backTo cpos (starEach es X.env)).any (·.1) = false := by rfl) :
    DE K S c X (.Call (.Attribute o name apos) (e :: es) [] cpos) (tBM K T r ta ts) (dBM T rd a as) := by
  subst hK
  exact ⟨pe_bm pa slot hty hm ha.pe hs.pa hbase hfew hline he hpl, we_bm hr ha.we hs.wa⟩
def rJoinD : RMD := fun x ds P => match x, ds with
  | .str a, [y] => ∃ ys : List Str, y.items = some (ys.map D.str) ∧ (ys.map (·.length)).sum + ys.length * a.length ≤ 16777216 ∧ P (.str (Txt.join a ys))
  | _, _ => False
theorem wm_join : WM K S (fun x xs H Q => ∃ a p, ∃ ys : List Str, x = .str a ∧ xs = [.ref p] ∧ (SqL K H p (ys.map V.str) ∨ SqT K H p (ys.map V.str)) ∧ (ys.map (·.length)).sum + ys.length * a.length ≤ 16777216 ∧ Q (.str (Txt.join a ys)) H) rJoinD := by
  intro Z H x xs d ds P w r1 r2 hp Q q
  unfold rJoinD at hp
  split at hp
  · obtain ⟨v, rfl, r3⟩ := repL1 r2
    unfold Rep at r1
    subst r1
    obtain ⟨ys, ey, hz, hp⟩ := hp
    obtain ⟨p, xs, rfl, h1, h2⟩ := items_rep ey r3
    have e := RepL.of_strs h2
    subst e
    exact ⟨_, p, ys, rfl, rfl, sq_hide h1, hz, q _ H _ (Kp.refl H) w.inv repS hp⟩
  · exact hp.elim
def rMinD : RCD := fun ds P => match ds with
  | [.lst xs] => ∃ ns : List Int, xs = ns.map D.int ∧ 0 < ns.length ∧ ∀ m, m ∈ ns → (∀ y, y ∈ ns → m ≤ y) → P (.int m)
  | _ => False
theorem wc_min : WC K S (rMin K) rMinD := by
  intro Z H xs ds P w r hp Q q
  unfold rMinD at hp
  split at hp
  · obtain ⟨v, rfl, r1⟩ := repL1 r
    obtain ⟨ns, rfl, h0, h⟩ := hp
    unfold Rep at r1
    obtain ⟨p, ys, rfl, h1, h2⟩ := r1
    have e := RepL.of_ints h2
    subst e
    exact ⟨p, ns, rfl, .inl (.inl (hide_ex _ _ h1)), h0, fun m hm hle => q _ H _ (Kp.refl H) w.inv repI (h m hm hle)⟩
  · exact hp.elim
theorem crK_min (hK : X.K = K) (hc : X.calm = true) : CallR X (.builtin "min") (rMin K) := by subst hK; exact cr_min hc
end
section
variable {K : PySem.W.Frag} {S : Sit} {c : Cl} {X : Cx} {te ta tb : TE} {a b t : TED} {as : TAD} {e e1 e2 : Expr} {x y : Str} {pos pos' p1 p2 p3 p4 p5 p6 : Pos}
def dExt (i : Nat) (a : TED) : TSD := fun Dd ρ => (∃ ds, ρ[i]? = some (some (.own .lst ds))) ∧ a ρ fun d => match ρ[i]?, d with
  | some (some (.own .lst ds)), .lst es => ds.length + es.length ≤ 1000000 ∧ Dd.nx (ρ.set i (some (.own .lst (ds ++ es))))
  | _, _ => False
theorem ws_ext {i : Nat} (ha : WE K S c te a) : WS K S c (tDrop (tBM K "list" rExtend (tVar i) (tCons te tNil))) (dExt i a) := by
  rintro B σ H ρ Dd D ⟨Z, r⟩ ⟨⟨ds, hi⟩, h⟩ f
  obtain ⟨l, xs, e1, z, h0, e2, _, q0⟩ := r.own i .lst ds hi
  refine ⟨_, e1, .inl ⟨rfl, xs, .inl (.inl e2)⟩, ?_⟩
  refine ha Z σ H ρ _ r.rv h _ fun v H' d k iv q hd => ?_
  rw [hi] at hd
  cases d <;> try exact hd.elim
  rename_i es
  obtain ⟨hz, hd⟩ := hd
  have r1 := r.step k iv
  obtain ⟨l', xs', e1', z', _, e2', _, q0'⟩ := r1.own i .lst ds hi
  rw [e1] at e1'
  cases e1'
  unfold Rep at q
  obtain ⟨b, ys, rfl, g1, g2⟩ := q
  refine ⟨l, b, xs', ys, rfl, rfl, e2', hide_ex _ _ g1, sz (by rw [← q0'.len, ← g2.len]; exact hz), ?_⟩
  exact f.nx σ _ _ ⟨Z, r1.write (kd' := .lst) hi e1 trivial (q0'.append g2)⟩ hd
theorem ds_ext (i : Nat) (hK : X.K = K) (ha : DE K S c X e ta a) (hN : X.N[i]? = some x := by rfl) (hv : Vis X.env.scope x := by first | exact Or.inl rfl | exact Or.inr (Or.inl rfl) | exact Or.inr (Or.inr rfl)) (hd : (x == ("__debug__" : Str)) = false := by decide)
    (hcd : (x == ("__classdict__" : Str)) = false := by decide)
    (he : starEach (e :: []) X.env = (false, eval e X.env) :: starEach [] X.env := by rfl)
    (hbase : attributeBase (.Name x p1) "extend" X.env (eval (.Name x p1) X.env) = eval (.Name x p1) X.env := by rfl)
    (hfew : ((backTo p3 (starEach (e :: []) X.env)).all (fun x => !x.1) && (backToKw p3 (keywordEach [] X.env)).all (fun x => x.1.isSome)
      && decide ((e :: ([] : List Expr)).length + ([] : List Keyword).length + (if ([] : List Keyword).isEmpty then 0 else 1) < 30)) = true := by rfl) (hline : (p2.endLine == p3.line) = true := by rfl)
    (hpl : (backTo p3 (starEach [] X.env)).any (·.1) = false := by rfl)
    (hs : swapsWith (.Call (.Attribute (.Name x p1) "extend" p2) [e] [] p3) none pos.line X.env = pure false := by rfl) :
    DS K S c X (.Expr (.Call (.Attribute (.Name x p1) "extend" p2) [e] [] p3) pos) (tDrop (tBM K "list" rExtend (tVar i) (tCons ta tNil))) (dExt i a) := by
  subst hK
  exact ⟨ps_expr (pe_bm PySem.F.plainAttrs_list PySem.F.slot_list_extend PySem.F.type_list_extend mt_extend (pe_var hN hv hd hcd) (pa_cons ha.pe pa_nil he) hbase hfew hline he hpl) hs, ws_ext ha.we⟩
theorem RepL.dropLast {H : Hp} : ∀ {ds : List D} {vs : List V}, RepL K H ds vs → RepL K H ds.dropLast vs.dropLast
  | [], _, h => by unfold RepL at h; subst h; exact RepL.nil
  | [d], _, h => by
    obtain ⟨v, rfl, _⟩ := repL1 h
    exact RepL.nil
  | d :: e :: ds, _, h => by
    unfold RepL at h
    obtain ⟨v, vs, rfl, h1, h2⟩ := h
    have ih := RepL.dropLast h2
    unfold RepL at h2
    obtain ⟨u, us, rfl, h3, h4⟩ := h2
    exact RepL.cons h1 ih
end
section
variable {P : Program} {w : World} {K : PySem.W.Frag} {S : Sit} {c : Cl} {X : Cx} {mg : Str → Option Value} {base : Heap} {te ta : TE} {ts : TA} {as : TAD} {e : Expr} {es : List Expr} {x : Str} {p pos : Pos}
end
end DL
end
section
namespace DL
open PySem PySem.Spec PyProof.Rows L2
def RnI (l : Addr) (H : Hp) : Prop := ∃ xs : List Int, H l = some (.lst (xs.map V.int)) ∧ 2 ≤ xs.length ∧ xs.length ≤ 1000 ∧ ∀ x ∈ xs, 0 ≤ x
def RnSit (Hs : Hp) (l : Addr) : Sit where
  Hs := Hs
  W := fun a => a = l
  I := RnI l
  stab := fun H H' h ⟨xs, e, r⟩ => ⟨xs, h l _ e (.inl rfl), r⟩
  there := fun H a ⟨xs, e, _⟩ w => ⟨_, w ▸ e⟩
  nox := fun H a o ⟨xs, e, _⟩ w h => by
    have w : a = l := w
    rw [w, e] at h; cases h; rfl
section
variable {K : PySem.W.Frag}
abbrev xEq : R2 := rI0 fun i j => .bl (decide (i = j))
theorem op_eqI0 {X : Cx} : OpR X (compareOp .Eq) xEq := by
  intro pins s σ H x y v u Q I rx ry h
  obtain ⟨i, j, rfl, rfl, q⟩ := h
  refine op_eq pins s σ H _ _ v u Q I rx ry ⟨rfl, ?_⟩
  rw [dec_int, Bool.beq_eq_decide_eq]
  exact q
def tBelow2 (K : PySem.W.Frag) : TS :=
  tSeq (tIfS (tTest (tOp xGt (tSt K 1) (tC (.int 0))))
    (tSeq (tAsg (tOp xMod (tSt K 1) (tVar 1)) (gName 2)) (tSeq (tAsg (tOp xFdv (tSt K 1) (tVar 1)) (gSub (tVar 0) (tC (.int 1)) rSetL)) (tRet (tVar 2)))) tNext)
  (tSeq (tAsg (tOp xMod (tOp xAdd (tOp xMul (tSt K 0) (tC (.int 48271))) (tC (.int 11))) (tC (.int 2147483647))) (gSub (tVar 0) (tC (.int 0)) rSetL))
    (tRet (tOp xMod (tOp xFdv (tSt K 0) (tC (.int 64))) (tVar 1))))
def tBelow (K : PySem.W.Frag) : TS :=
  tSeq (tIfS (tAnd (tTest (tOp xEq (tSt K 1) (tC (.int 0)))) (tTest (tOp xGt (tCB (xLen K) (tCons (tVar 0) tNil)) (tC (.int 2)))))
    (tAsg (tBM K "list" rPopAt (tVar 0) (tCons (tC (.int 2)) tNil)) (gSub (tVar 0) (tC (.int 1)) rSetL)) tNext)
  (tBelow2 K)
theorem below_run {H : Hp} {l : Addr} {xs : List Int} {c : Int} {Q : VK} {nx : L2.St → Hp → Prop} (hl : H l = some (.lst (xs.map V.int))) (h2 : 2 ≤ xs.length) (hz : xs.length ≤ 1000) (h0 : ∀ x ∈ xs, 0 ≤ x) (hc : 0 < c) (hc2 : c < 1073741824)
    (q : ∀ (r : Int) (ys : List Int), 0 ≤ r → r < c → 2 ≤ ys.length → ys.length ≤ 1000 → (∀ y ∈ ys, 0 ≤ y) → Q (.int r) (upd H l (.lst (ys.map V.int)))) :
    tBelow K { nx := nx, rt := Q } (L2.start ["_law_d", "_law_limit", "_law_result"] [.ref l, .int c]) H := by
  have uu : ∀ o o' : HO, upd (upd H l o) l o' = upd H l o' := fun o o' => by
    funext b
    by_cases e : b = l
    · subst e; rw [upd_same, upd_same]
    · rw [upd_ne e, upd_ne e, upd_ne e]
  have us : upd H l (.lst (xs.map V.int)) = H := by
    funext b
    by_cases e : b = l
    · subst e; rw [upd_same, hl]
    · rw [upd_ne e]
  have modc : ∀ x : Int, 0 ≤ x % c ∧ x % c < c := fun x => ⟨Int.emod_nonneg x (by omega), Int.emod_lt_of_pos x hc⟩
  have at_ : ∀ (ys : List Int) (k : Nat) (h : k < ys.length), atI (ys.map V.int) (k : Int) = some (.int ys[k]) := fun ys k h => by
    unfold atI
    have e : ixN (ys.map V.int).length (k : Int) = some k := by
      unfold ixN
      rw [List.length_map, if_pos (by omega), if_pos (by omega)]
      simp
    rw [e]
    show (ys.map V.int)[k]? = _
    rw [List.getElem?_map, List.getElem?_eq_getElem h]
    rfl
  have ixn : ∀ (ys : List Int) (k : Nat) (h : k < ys.length), ixN (ys.map V.int).length (k : Int) = some k := fun ys k h => by
    unfold ixN
    rw [List.length_map, if_pos (by omega), if_pos (by omega)]
    simp
  have nn : ∀ (ys : List Int) (k : Nat) (v : Int), (∀ y ∈ ys, 0 ≤ y) → 0 ≤ v → ∀ y ∈ ys.set k v, 0 ≤ y := fun ys k v h hv y hy => by
    rcases List.mem_or_eq_of_mem_set hy with hy | hy
    · exact h y hy
    · rw [hy]; exact hv
  -- what follows the first statement
  have rest : ∀ (ys : List Int), 2 ≤ ys.length → ys.length ≤ 1000 → (∀ y ∈ ys, 0 ≤ y) → tBelow2 K { nx := nx, rt := Q } [some (.ref l), some (.int c), none] (upd H l (.lst (ys.map V.int))) := by
    intro ys hy2 hyz hy0
    have l1 : 1 < ys.length := by omega
    have l0 : 0 < ys.length := by omega
    refine st_at rfl upd_same (at_ ys 1 l1) ⟨ys[1], 0, rfl, rfl, decide (0 < ys[1]), rfl, ?_⟩
    by_cases h1 : 0 < ys[1]
    · rw [decide_eq_true h1]
      refine st_at rfl upd_same (at_ ys 1 l1) ⟨_, rfl, ys[1], c, rfl, rfl, hc, ?_⟩
      refine st_at rfl upd_same (at_ ys 1 l1) ⟨_, rfl, ys[1], c, rfl, rfl, ⟨hc, hc2⟩, ?_⟩
      refine st_put rfl upd_same (ixn ys 1 l1) ⟨_, rfl, ?_⟩
      rw [uu, ← List.map_set]
      exact q _ _ (modc _).1 (modc _).2 (by rw [List.length_set]; exact hy2) (by rw [List.length_set]; exact hyz) (nn ys 1 _ hy0 (Int.ediv_nonneg (hy0 _ (List.getElem_mem l1)) (by omega)))
    · rw [decide_eq_false h1]
      refine st_at rfl upd_same (at_ ys 0 l0) ⟨ys[0], 48271, rfl, rfl, .inr ⟨by decide, by decide⟩, _, 11, rfl, rfl, _, 2147483647, rfl, rfl, (by decide : (0 : Int) < 2147483647), ?_⟩
      refine st_put rfl upd_same (ixn ys 0 l0) ?_
      rw [uu, ← List.map_set]
      have l0' : 0 < (ys.set 0 ((ys[0] * 48271 + 11) % 2147483647)).length := by rw [List.length_set]; exact l0
      refine st_at rfl upd_same (at_ _ 0 l0') ⟨_, 64, rfl, rfl, ⟨by decide, by decide⟩, _, rfl, _, c, rfl, rfl, hc, ?_⟩
      exact q _ _ (modc _).1 (modc _).2 (by rw [List.length_set]; exact hy2) (by rw [List.length_set]; exact hyz) (nn ys 0 _ hy0 (Int.emod_nonneg _ (by decide)))
  have l1 : 1 < xs.length := by omega
  refine st_at rfl hl (at_ xs 1 l1) ⟨xs[1], 0, rfl, rfl, decide (xs[1] = 0), rfl, ?_⟩
  by_cases e1 : xs[1] = 0
  · rw [decide_eq_true e1]
    refine ⟨.ref l, rfl, l, _, rfl, .inl (.inl (.inl hl)), ((xs.map V.int).length : Nat), 2, rfl, rfl, decide ((2 : Int) < ((xs.map V.int).length : Nat)), rfl, ?_⟩
    rw [List.length_map]
    by_cases e2 : 2 < xs.length
    · rw [decide_eq_true (show (2 : Int) < (xs.length : Nat) by omega)]
      refine ⟨.ref l, rfl, .inl ⟨rfl, _, .inl (.inl hl)⟩, l, xs.map V.int, 2, 2, .int xs[2], rfl, rfl, hl, by decide, by decide, ?_, ?_, ?_⟩
      · unfold seqIndex?
        simp only
        rw [if_neg (show ¬ (2 : Int) < 0 by decide), List.length_map, decide_eq_true (show (0 : Int) ≤ 2 by decide), decide_eq_true (show (2 : Int) < (xs.length : Nat) by omega)]
        rfl
      · rw [List.getElem?_map, List.getElem?_eq_getElem e2]; rfl
      · have em : (xs.map V.int).eraseIdx 2 = (xs.eraseIdx 2).map V.int := by
          rw [List.eraseIdx_eq_take_drop_succ, List.eraseIdx_eq_take_drop_succ, List.map_append, List.map_take, List.map_drop]
        rw [em]
        have le : (xs.eraseIdx 2).length = xs.length - 1 := List.length_eraseIdx_of_lt e2
        have l1' : 1 < (xs.eraseIdx 2).length := by omega
        refine st_put rfl upd_same (ixn _ 1 l1') ?_
        rw [uu, ← List.map_set]
        refine rest _ (by rw [List.length_set]; omega) (by rw [List.length_set]; omega) (nn _ 1 _ (fun y hy => h0 y (List.mem_of_mem_eraseIdx hy)) (h0 _ (List.getElem_mem e2)))
    · rw [decide_eq_false (show ¬ (2 : Int) < (xs.length : Nat) by omega)]
      have := rest xs h2 hz h0
      rw [us] at this
      exact this
  · rw [decide_eq_false e1]
    have := rest xs h2 hz h0
    rw [us] at this
    exact this
theorem below_ok {P : Program} {w : World} {mg : Str → Option Value} {base : Heap} {qual : Str} {st : Stmt} {f l : Addr} {fd : FuncData} {Hs : Hp} (F : Fun K "_law_below" qual st f fd)
    (sc : FnScope ["_law_d", "_law_limit", "_law_result"] ["_law_d", "_law_limit"] (defScope st))
    (hbody : ∀ (cdv : Value) (A : Around) (outer : List Env) (s : Shared) (H : Hp) (E : XK), PSs (cxOf CX0 P w K mg base ["_law_d", "_law_limit", "_law_result"] qual (defScope st) f cdv A outer s H E).nox (defBody st) (tBelow K)) :
    FnOk P w K mg base CX0 1 f fd ["_law_d", "_law_limit"] (liftSp K (RnSit Hs l) (spDrawn l)) := by
  refine F.ok sc (fun vs H Q E h => ?_) (fun cdv A outer s H vs Q E hr h => ⟨tBelow K, hbody cdv A outer s H E, ?_⟩)
  · obtain ⟨Z, ds, Pd, x, wd, r, ⟨c, rfl, _⟩, _⟩ := h
    rw [← r.len]
    rfl
  · obtain ⟨Z, ds, Pd, x, wd, r, ⟨c, rfl, ⟨hc, hc2⟩, hP⟩, hq, _⟩ := h
    obtain ⟨v, u, rfl, r1, r2⟩ := repL2 r
    unfold Rep at r1 r2
    subst r1 r2
    obtain ⟨xs, hl, h2, hz, h0⟩ := wd.inv
    refine below_run hl h2 hz h0 hc hc2 fun r ys h1 h3 h4 h5 h6 => hq _ _ (.int r) (fun b o e n => ?_) ⟨ys, upd_same, h4, h5, h6⟩ repI (hP r h1 h3)
    rw [upd_ne (show b ≠ l from n)]
    exact e
def spRandom (K : PySem.W.Frag) : Sp := fun vs H Q _ => ∃ (a : Addr) (ns : List Int) (k : Int), vs = [.ref a, .int k] ∧ SqL K H a (ns.map V.int) ∧ ns.length ≤ 63 ∧ 0 ≤ k ∧
  ∀ (H' : Hp) (l : Addr) (xs : List Int), (∀ b o, H b = some o → H' b = some o) → H l = none → H' l = some (.lst (xs.map V.int)) → 2 ≤ xs.length → xs.length ≤ 1000 → (∀ x ∈ xs, 0 ≤ x) → Q (.ref l) H'
abbrev xAbs : List V → Hp → VK → Prop := fun xs H Q => ∃ i, xs = [.int i] ∧ Q (.int (if i < 0 then -i else i)) H
def tRandom (K : PySem.W.Frag) : TS :=
  tSeq (tAsg (tVar 1) (gName 2)) (tSeq (tFor (iList K (tVar 0)) (gName 3) (tAsg (tOp xMod (tOp xAdd (tOp xMul (tVar 2) (tC (.int 31))) (tCB xAbs (tCons (tVar 3) tNil))) (tC (.int 2147483647))) (gName 2)))
    (tRet (tOp rCat (tLst (tCons (tVar 2) (tCons (tC (.int 0)) tNil))) (tLc (iList K (tVar 0)) (gName 3) (tTest (tOp xGe (tVar 3) (tOp xPow (tC (.int 10)) (tC (.int 18))))) (tVar 3) [3]))))
theorem random_run {H : Hp} {a : Addr} {ns : List Int} {salt : Int} {Q : VK} {nx : L2.St → Hp → Prop} (hS : SqL K H a (ns.map V.int)) (hn : ns.length ≤ 63) (hk : 0 ≤ salt)
    (q : ∀ (H' : Hp) (l : Addr) (xs : List Int), (∀ b o, H b = some o → H' b = some o) → H l = none → H' l = some (.lst (xs.map V.int)) → 2 ≤ xs.length → xs.length ≤ 1000 → (∀ x ∈ xs, 0 ≤ x) → Q (.ref l) H') :
    tRandom K { nx := nx, rt := Q } (L2.start ["_law_script", "_law_salt", "_law_seed", "_law_cell"] [.ref a, .int salt]) H := by
  refine ⟨_, rfl, .ref a, rfl, a, rfl, ⟨_, hS⟩, fun i m σ H' => H' = H ∧ i + m = ns.length ∧ ∃ (t : Int) (y : Option V), 0 ≤ t ∧ σ = [some (.ref a), some (.int salt), some (.int t), y], ⟨ns.length, rfl, by omega, salt, none, hk, rfl⟩, ?_⟩
  rintro i m σ H' ⟨eH, hm, t, y, h0, rfl⟩
  have eH' := eH.symm
  subst eH'
  by_cases hi : i < ns.length
  · have ex : (ns.map V.int)[i]? = some (V.int ns[i]) := by rw [List.getElem?_map, List.getElem?_eq_getElem hi]; rfl
    refine .inr ⟨⟨_, .int ns[i], hS, ex⟩, fun σ' H'' => H'' = H ∧ i + 1 + (m - 1) = ns.length ∧ ∃ (t : Int) (y : Option V), 0 ≤ t ∧ σ' = [some (.ref a), some (.int salt), some (.int t), y], fun σ' H'' hw => ⟨m - 1, by omega, hw⟩, fun x H2 ⟨e1, e2⟩ => ?_⟩
    subst e1
    have e3 := e2 _ hS
    rw [ex] at e3
    cases e3
    refine ⟨.int t, rfl, t, 31, rfl, rfl, .inr ⟨by decide, by decide⟩, _, rfl, _, rfl, _, _, rfl, rfl, _, 2147483647, rfl, rfl, (by decide : (0 : Int) < 2147483647), ?_⟩
    exact ⟨rfl, by omega, _, _, Int.emod_nonneg _ (by decide), rfl⟩
  · refine .inl ⟨⟨_, hS, by rw [List.length_map]; omega⟩, ?_⟩
    refine ⟨.int t, rfl, by show 2 ≤ sizeLine; decide, fun p hp => ?_⟩
    have S1 : ∀ {H' : Hp}, (∀ b o, H b = some o → H' b = some o) → SqL K H' a (ns.map V.int) := fun e => ex_l e hS
    have n1 : ∀ b o, H b = some o → upd H p (.lst [.int t, .int 0]) b = some o := fun b o e => by rw [upd_ne (ne_of_none e hp)]; exact e
    refine ⟨.ref a, rfl, a, rfl, ⟨_, S1 n1⟩, fun D hD => ?_⟩
    have hDp : p ≠ D := fun e => by rw [← e, upd_same] at hD; cases hD
    have hD0 : H D = none := by rw [upd_ne (Ne.symm hDp)] at hD; exact hD
    have n2 : ∀ (o' : HO) b o, H b = some o → upd (upd H p (.lst [.int t, .int 0])) D o' b = some o := fun o' b o e => by rw [upd_ne (ne_of_none e hD0)]; exact n1 b o e
    refine ⟨fun i m H' => i + m = ns.length ∧ ∃ ys : List Int, (∀ y ∈ ys, 0 ≤ y) ∧ ys.length ≤ i ∧ H' = upd (upd H p (.lst [.int t, .int 0])) D (.lst (ys.map V.int)), ⟨ns.length, by omega, [], (fun _ z => nomatch z), Nat.le_refl _, rfl⟩, ?_⟩
    rintro j m2 H' ⟨hm2, ys, y0, yl, rfl⟩
    by_cases hj : j < ns.length
    · have ex : (ns.map V.int)[j]? = some (V.int ns[j]) := by rw [List.getElem?_map, List.getElem?_eq_getElem hj]; rfl
      have Sj := S1 (n2 (.lst (ys.map V.int)))
      refine .inr ⟨⟨_, .int ns[j], Sj, ex⟩, fun H'' => j + 1 + (m2 - 1) = ns.length ∧ ∃ ys : List Int, (∀ y ∈ ys, 0 ≤ y) ∧ ys.length ≤ j + 1 ∧ H'' = upd (upd H p (.lst [.int t, .int 0])) D (.lst (ys.map V.int)), fun H'' hw => ⟨m2 - 1, by omega, hw⟩, fun x H2 ⟨e1, e2⟩ => ?_⟩
      subst e1
      have e3 := e2 _ Sj
      rw [ex] at e3
      cases e3
      refine ⟨rfl, _, rfl, 10, 18, rfl, rfl, ⟨by decide, by decide, by decide⟩, ns[j], _, rfl, rfl, decide ((10 : Int) ^ (18 : Int).toNat ≤ ns[j]), rfl, ?_⟩
      by_cases hb : (10 : Int) ^ (18 : Int).toNat ≤ ns[j]
      · dsimp only
        rw [if_pos (decide_eq_true hb)]
        refine ⟨_, rfl, ys.map V.int, upd_same, ?_, by omega, ys ++ [ns[j]], fun y hy => ?_, by rw [List.length_append]; simp; omega, ?_⟩
        · rw [List.length_map]
          exact szl (by omega)
        · rcases List.mem_append.mp hy with hy | hy
          · exact y0 y hy
          · rw [List.mem_singleton.mp hy]
            have : (0 : Int) ≤ (10 : Int) ^ (18 : Int).toNat := by decide
            omega
        · rw [List.map_append]
          funext b
          by_cases e : b = D
          · subst e; rw [upd_same, upd_same]; rfl
          · rw [upd_ne e, upd_ne e, upd_ne e]
      · dsimp only
        rw [if_neg (by rw [decide_eq_false hb]; exact Bool.false_ne_true)]
        exact ⟨by omega, ys, y0, by omega, rfl⟩
    · refine .inl ⟨⟨_, S1 (n2 _), by rw [List.length_map]; omega⟩, p, D, [.int t, .int 0], ys.map V.int, rfl, rfl, by rw [upd_ne hDp, upd_same], upd_same, sz (by rw [List.length_map]; simp; omega), fun l hl => ?_⟩
      have hl0 : H l = none := by
        cases e : H l with
        | none => rfl
        | some o => have := n2 (.lst (ys.map V.int)) l o e; rw [hl] at this; cases this
      refine q _ l (t :: 0 :: ys) (fun b o e => by rw [upd_ne (ne_of_none e hl0)]; exact n2 _ b o e) hl0 upd_same (by simp) (by simp; omega) fun x hx => ?_
      rcases List.mem_cons.mp hx with rfl | hx
      · exact h0
      · rcases List.mem_cons.mp hx with rfl | hx
        · decide
        · exact y0 x hx
theorem random_ok {P : Program} {w : World} {mg : Str → Option Value} {base : Heap} {qual : Str} {st : Stmt} {f : Addr} {fd : FuncData} (F : Fun K "_law_random" qual st f fd)
    (sc : FnScope ["_law_script", "_law_salt", "_law_seed", "_law_cell"] ["_law_script", "_law_salt"] (defScope st))
    (hbody : ∀ (cdv : Value) (A : Around) (outer : List Env) (s : Shared) (H : Hp) (E : XK), PSs (cxOf CX0 P w K mg base ["_law_script", "_law_salt", "_law_seed", "_law_cell"] qual (defScope st) f cdv A outer s H E).nox (defBody st) (tRandom K)) :
    FnOk P w K mg base CX0 1 f fd ["_law_script", "_law_salt"] (spRandom K) := by
  refine F.ok sc (fun vs H Q E h => ?_) (fun cdv A outer s H vs Q E hr h => ⟨tRandom K, hbody cdv A outer s H E, ?_⟩)
  · obtain ⟨a, ns, k, rfl, _⟩ := h
    rfl
  · obtain ⟨a, ns, k, rfl, hS, hn, hk, q⟩ := h
    exact random_run hS hn hk q
end
end DL
end
section
namespace DL
open PySem PySem.Spec PyProof.Rows L2
end DL
end
section
namespace EXK
open PySem PySem.W PySem.Calls PyProof.Rows PySem.HandSPX
open Builtin Builtin.ObjectAttr
section
variable {P : Program} {w : World} {M : Model} {Ar : Around} {Er : Value → Shared → Prop} {Rr : Result → Shared → Prop} {hh : Heap} {gs : Array GenState} {dr : Drawn} {tk : Nat} {oss : OsState}
variable {cn cq : Str} {C Nc : Addr} {bs bm bmB : List Value} {hdct : Bool} {sn : List Str} {sub : List Value} {ab : Bool} {col : Option Bool} {dd : Option Addr} {k0 k1 k2 k3 k5 : Option Value} {B newId initId : String} {kw : List (Str × Value)}
theorem chk_new (F : ExcBaseFacts B newId initId bmB) (hT : ∀ X : String, bm.contains (.type X) = bmB.contains (.type X)) {rest : List Value} {Qn : Unit → Shared → Prop}
    (hC : hh.get? C = some (excClassObj cn cq C Nc bs bm hdct sn sub ab col dd k0 k1 k2 k3 k5 newId)) (hq : Qn () ⟨hh, gs, dr, tk, oss⟩) : wpAny M Ar (checkBuiltinCall newId ⟨.ref C :: rest, kw⟩) Qn Er ⟨hh, gs, dr, tk, oss⟩ := by
  have isB : (Value.ref C :: bm).contains (.type B) = true := by
    rw [List.contains_cons, hT, F.hasB]; exact Bool.or_true _
  have ns := F.noStar
  simp only [checkBuiltinCall, F.newKind, F.newSplit, F.newRow]
  repeat (first | refine wpAny_loadPart_at hC ?_ | (refine wpAny_isSubtype_exc hC ?_; rw [isB]) | refine wpAny_staticBase_exc hC ?_ | refine wpAny_madeBy_exc hC ?_ | (simp only [bne_self_eq_false, Bool.false_eq_true, if_false]) | wp_step)
  exact hq
theorem new_kw (F : ExcBaseFacts B newId initId bmB) (hT : ∀ X : String, bm.contains (.type X) = bmB.contains (.type X)) {rest : List Value} (hl : rest.length ≤ sizeLine)
    (hC : hh.get? C = some (excClassObj cn cq C Nc bs bm hdct sn sub ab col dd k0 k1 k2 k3 k5 newId))
    (hq : Rr (.ok (.ret (.ref (hh.objs.size + 1)))) ⟨(hh.push (kdv_tup rest)).push (excO C hh.objs.size), gs, dr, tk, oss⟩) :
    codeAny (model P w) Ar (.builtin newId ⟨.ref C :: rest, kw⟩) Rr ⟨hh, gs, dr, tk, oss⟩ := by
  have en := F.ends
  have isB : (Value.ref C :: bm).contains (.type B) = true := by
    rw [List.contains_cons, hT, F.hasB]; exact Bool.or_true _
  have noA : (Value.ref C :: bm).contains (.type "AttributeError") = false := by
    rw [List.contains_cons, hT, F.noAttr] <;> rfl
  have noN : (Value.ref C :: bm).contains (.type "NameError") = false := by
    rw [List.contains_cons, hT, F.noName] <;> rfl
  refine codeAny_builtinAt F.entry ?_
  unfold Builtin.«BaseException.__new__»
  refine PySem.wpAt_bind ?_
  show PySem.wpAt _ _ _ (stack >>= _) _ _ _
  refine PySem.wpAt_bind (PySem.wpAt_stack fun pp bl => PySem.wpAt_of_wpAny ?_)
  wp_walk
  refine PySem.wpAt_of_wpAny ?_
  rw [F.owner]
  repeat (first | (with_reducible refine wpAny_madeHere_exc F.canon hC ?_) | (with_reducible refine wpAny_loadPart_at hC ?_) | (with_reducible refine wpAny_isSubtype_exc hC ?_; first | rw [isB] | rw [noA] | rw [noN]) | wp_step)
  have zz : (hh.push ({ cls := .type "tuple", data := Data.seq rest.toArray } : Obj)).objs.size = hh.objs.size + 1 := Heap.size_push ..
  show Rr _ _
  rw [zz]
  exact hq
theorem tc_kw (F : ExcBaseFacts B newId initId bmB) (hT : ∀ X : String, bm.contains (.type X) = bmB.contains (.type X)) {rest : List Value} {fI : Addr} {Qf : Fin → Shared → Prop} (hl : rest.length ≤ sizeLine)
    (hC : hh.get? C = some (excClassObj cn cq C Nc bs bm hdct sn sub ab col dd k0 k1 k2 k3 k5 newId))
    (li : W.Looks (model P w) hh (typeLookup (.ref C) "__init__") (some (.ref fI))) (lb : ∀ self, W.Looks (model P w) hh (bindSpecial (.ref fI) self) (.ref fI, [self]))
    (hq : codeAny (model P w) Ar (.call (.ref fI) ⟨.ref (hh.objs.size + 1) :: rest, kw⟩)
      (fun r s' => match r with | .ok (.ret v) => v = .none ∧ Qf (.done (.ret (.ref (hh.objs.size + 1)))) s' | .ok _ => False | .error e => Er e s') ⟨(hh.push (kdv_tup rest)).push (excO C hh.objs.size), gs, dr, tk, oss⟩) :
    wpAny (model P w) Ar (Builtin.«type.__call__» ⟨.ref C :: rest, kw⟩) Qf Er ⟨hh, gs, dr, tk, oss⟩ := by
  repeat (first | (with_reducible refine wpAny_loadPart_at hC ?_) | (with_reducible refine wpAny_madeBy_exc hC ?_) | wp_step)
  refine codeAny_call_builtin_code (Code.quiet_builtin _ F.quiet) (chk_new F hT hC ?_)
  refine new_kw F hT hl hC ?_
  show wpAny _ _ _ _ _ _
  have kk : ∀ b o, hh.get? b = some o → ((hh.push (kdv_tup rest)).push (excO C hh.objs.size)).get? b = some o := fun b o e => Heap.get?_push_of_some (excO C hh.objs.size) (Heap.get?_push_of_some (kdv_tup rest) e)
  have eC := kk _ _ hC
  have ex : ((hh.push (kdv_tup rest)).push (excO C hh.objs.size)).get? (hh.objs.size + 1) = some (excO C hh.objs.size) := by heap_get
  have isC : (Value.ref C :: bm).contains (.ref C) = true := by simp
  have l1 := li.keeps kk
  have l2 := (lb (.ref (hh.objs.size + 1))).keeps kk
  unfold isInstance
  repeat (first | (with_reducible refine wpAny_loadPart_at ex ?_) | (with_reducible refine wpAny_isSubtype_exc eC ?_; rw [isC]) | wp_step)
  show wpAny _ _ (typeLookup (.ref C) _) _ _ _
  refine l1.at ?_
  refine wpAny_holding (wpAny_bind (l2.at ?_))
  refine wpAny_bind (wpAny_call (codeAny_mono hq fun r s' z => ?_))
  rcases r with e | (v | _ | _ | _) <;> first | exact z | exact z.elim | skip
  obtain ⟨rfl, z⟩ := z
  first
    | exact wpAny_pure (wpAny_pure z)
    | (wp_walk; exact z)
theorem call_kw (F : ExcBaseFacts B newId initId bmB) (hT : ∀ X : String, bm.contains (.type X) = bmB.contains (.type X)) {rest : List Value} {fI : Addr} (hl : rest.length ≤ sizeLine)
    (hC : hh.get? C = some (excClassObj cn cq C Nc bs bm hdct sn sub ab col dd k0 k1 k2 k3 k5 newId))
    (li : W.Looks (model P w) hh (typeLookup (.ref C) "__init__") (some (.ref fI))) (lb : ∀ self, W.Looks (model P w) hh (bindSpecial (.ref fI) self) (.ref fI, [self]))
    (hq : codeAny (model P w) (Ar.under (.builtin "type.__call__" ⟨.ref C :: rest, kw⟩)) (.call (.ref fI) ⟨.ref (hh.objs.size + 1) :: rest, kw⟩) (W.InitBack (hh.objs.size + 1) Rr)
      ⟨(hh.push (kdv_tup rest)).push (excO C hh.objs.size), gs, dr, tk, oss⟩) : codeAny (model P w) Ar (.call (.ref C) ⟨rest, kw⟩) Rr ⟨hh, gs, dr, tk, oss⟩ := by
  have f1 := tc_lookup
  have f2 := tc_bind (.ref C)
  have ty : (⟨hh, gs, dr, tk, oss⟩ : Shared).TypeIs (.ref C) "type" := ⟨_, hC, rfl⟩
  refine codeAny_of_tree ?_
  show wpAny _ _ (callAny (.ref C) _) _ _ _
  repeat (any_goals (first | assumption | (with_reducible refine wpAny_loadPart_at hC ?_) | wp_step))
  refine ⟨rfl, ?_⟩
  refine codeAny_call_builtin_at (Code.quiet_builtin _ (by decide +kernel)) entry_typeCall (wpAny_check_type_call_sub hC (tc_kw F hT hl hC li lb ?_))
  refine codeAny_mono hq fun r s' z => ?_
  rcases r with e | (v | _ | _ | _) <;> exact z
end
end EXK
end
section
namespace DL
open PySem PySem.Spec PyProof.Rows L2
section
variable {X : Cx} {pins : List (Addr × Obj)} {σ : L2.St} {H : Hp} {s : Shared} {C D a : Addr}
theorem inv_pin1 {o : Obj} {h' : Heap} {t' : Nat} {q : Addr} (I : Inv X pins σ H s) (k : ∀ b u, s.heap.get? b = some u → h'.get? b = some u) (hq : q = s.heap.objs.size) (ho : h'.get? q = some o) (hc : ∀ v, o.data ≠ .cell v) :
    Inv X (pins ++ [(q, o)]) σ H { s with heap := h', toks := t' } := by
  have J : Inv X pins σ H { s with heap := h', toks := t' } := I.kept k
  refine J.pins_of fun p hp => ?_
  rcases List.mem_append.mp hp with hp | hp
  · exact J.pin p (List.mem_append_right _ hp)
  · rw [List.mem_singleton] at hp
    subst hp
    obtain ⟨m, ⟨oL, es, ep, hL, _⟩, _⟩ := I.loc
    refine ⟨ho, I.hok.fresh (by rw [hq]; exact Nat.le_refl _), fun e => ?_, fun e => ?_, hc⟩
    · have z := Heap.lt_size hL
      rw [show q = X.env.locals from e] at hq
      rw [hq] at z
      exact absurd z (Nat.lt_irrefl _)
    · obtain ⟨_, u, hu, _⟩ := I.ok.funs.mem (show q ∈ frs X.outer from e)
      have z1 := Heap.lt_size hu
      have z2 := Heap.lt_size hL
      have z3 := I.ok.above
      rw [hq] at z1
      exact absurd (Nat.lt_of_lt_of_le z1 (Nat.le_trans z3 (Nat.le_of_lt z2))) (Nat.lt_irrefl _)
theorem su_base {body : List Stmt} {p0 p1 : Pos} {attr : Str} {whole : Sem Value} {Q : Value → Shared → Prop} {ox : Obj} (I : Inv X pins σ H s) (U : SupX X C D) (hat : (attr == ("__class__" : Str)) = false) (hσ : σ[0]? = some (some (.ref a)))
    (hx : s.heap.get? a = some ox) (hxc : ox.cls = .ref C) (hnc : ∀ c, ox.data ≠ .cls c)
    (h : ∀ so s', Inv X (pins ++ [(so, PySem.W.ks_superObj D a C)]) σ H s' → s'.heap.get? so = some (PySem.W.ks_superObj D a C) → s'.heap.get? a = some ox → Q (.ref so) s') :
    PySem.wpAt (model X.prog X.w) X.A (.func body X.env) (attributeBase (.Call (.Name "super" p0) [] [] p1) attr X.env whole) Q X.xe s := by
  obtain ⟨f, oc, od, fd, osl, ar, hf, lf, har, ear⟩ := U.fn
  obtain ⟨cda, ccl, cdd, vs, ccs, file, tf, hco, lco, hvs, hfile⟩ := U.code
  obtain ⟨cc, cl, cld, csl, hcc, lcc⟩ := U.cell
  obtain ⟨cdD, hD⟩ := U.clsD
  have KI := I.kIn
  obtain ⟨oD, hD1, hD2⟩ : ∃ oD, s.heap.get? D = some oD ∧ oD.data = .cls cdD := by
    unfold PySem.W.clsIn at hD
    split at hD
    · rename_i c d cd' sl ho
      cases hD
      exact ⟨_, KI _ _ ho, rfl⟩
    · cases hD
  obtain ⟨m, hn, hl⟩ := I.loc
  refine PySem.ks_wpAt_super_base (env := X.env) U.ks U.kc hat hf (KI _ _ lf) rfl har hco (KI _ _ lco) rfl hvs hfile U.top ?_
  obtain ⟨mb, g1, g2⟩ := I.mod.blt
  refine PySem.W.ks_loadName_global I.ok.kind U.ks (PySem.Calls.loadGlobal_builtin (by rw [I.ok.glob]; exact I.mod.glob.keeps I.bk) U.mg (by rw [I.ok.blt]; exact g1.keeps I.bk) ((g2 "super" (by decide)).trans PyProof.Rows.Boot.«super») ⟨rfl, ?_⟩)
  refine wpAny_loadName_free I.ok.kind U.kc hcc ⟨_, KI _ _ lcc, rfl⟩ ?_
  obtain ⟨u, r, lk⟩ := hl 0 "self" (.ref a) U.n0 hσ (.inl U.k0)
  obtain rfl : u = Value.ref a := r
  have hms : m "self" = some (.ref a) := by
    rcases lk with ⟨_, e⟩ | ⟨k, _⟩
    · exact e
    · rw [U.k0] at k
      rcases k with k | k <;> cases k
  rw [ear]
  refine wpAny_loadName_local I.ok.kind U.k0 hn hms ?_
  refine PySem.ks_wpAny_isType_cls hD1 hD2 ⟨rfl, ?_⟩
  refine PySem.ks_wpAny_call_super hD1 hD2 hx hxc hnc (PySem.W.looks_mroIn KI U.sub) (fun h' e k => ?_)
  exact h _ _ (inv_pin1 (t' := s.toks) I k rfl e (fun v z => nomatch z)) e (k _ _ hx)
end
end DL
end
section
namespace DL
open PySem PySem.Spec PyProof.Rows L2
section
open PySem.W PySem.Calls
variable {P : Program} {w : World} {Ar : Around} {Er : Value → Shared → Prop} {hh : Heap} {gs : Array GenState} {dr : Drawn} {tk : Nat} {oss : OsState}
variable {cn cq : Str} {C Nc : Addr} {bs bm bmB : List Value} {hdct : Bool} {sn : List Str} {sub : List Value} {ab : Bool} {col : Option Bool} {dd : Option Addr} {k0 k1 k2 k3 k5 : Option Value} {B i newId : String}
theorem call_mw (FB : ExcBaseFacts B newId i bmB) {u e t0 : Addr} {dv : Option Addr} {c2 c3 b4 : Value} {rest : List Value} {Qr : Value → Shared → Prop} (hC : hh.get? C = some (excClassObj cn cq C Nc bs bm hdct sn sub ab col dd k0 k1 k2 k3 k5 newId))
    (he : hh.get? e = some (excRec (.ref C) t0 dv c2 c3 b4)) (hu : hh.get? u = some (kxs_mw i e)) (hl : rest.length ≤ sizeLine)
    (hq : ∀ h' t1, (∀ b o, b ≠ e → hh.get? b = some o → h'.get? b = some o) → h'.get? e = some (excRec (.ref C) t1 dv c2 c3 b4) → Qr .none ⟨h', gs, dr, tk, oss⟩) : wpAny (model P w) Ar (call (.ref u) rest) Qr Er ⟨hh, gs, dr, tk, oss⟩ := by
  refine wpAny_call (codeAny_of_tree ?_)
  show wpAny _ Ar.in1 (callAny (.ref u) ⟨rest, []⟩) _ _ _
  simp only [callAny]
  refine wpAny_bind (wpAny_load hu ?_)
  have d1 : (Value.type "method-wrapper" == Value.type "method" || Value.type "method-wrapper" == Value.type "builtin_function_or_method" || Value.type "method-wrapper" == Value.type "method-wrapper") = true := by decide
  simp only [kxs_mw, d1, if_true]
  refine KFB.if_so (by decide) ?_
  refine wpAny_bind (check_bound_init FB.toExcCallFacts hC he rfl (wpAny_bind (wpAny_pure (wpAny_pure ⟨plainId_quiet FB.init.plain _, ?_⟩))))
  refine codeAny_builtin FB.initEntry (exc_init_tree (cls := .ref C) (t0 := t0) (dv := dv) (c2 := c2) (c3 := c3) (b4 := b4) he hl fun h' k e' _ => ?_)
  exact hq h' _ k e'
end
section
variable {X : Cx} {pins : List (Addr × Obj)} {σ : L2.St} {H : Hp} {s : Shared} {C D a : Addr} {e : Expr} {es : List Expr} {ta : TA} {body : List Stmt} {p0 p1 p2 p3 pos : Pos} {Dn : Ends}
def tSuE (C : Addr) (ta : TA) : TS := fun D σ H => ∃ a, σ[0]? = some (some (.ref a)) ∧ H a = some (exo a C none) ∧ ta σ H fun vs H1 => vs.length ≤ 1000 ∧ H1 a = some (exo a C none) ∧ D.nx σ H1
theorem at_sue (U : SupX X C D) (T : OexC X.K C) (hm : PySem.W.ks_superIn X.K C D "__init__" = some (some (.builtin "ValueError.__init__"))) (hB : PySem.W.subIn X.K (.ref C) (.type "ValueError") = some true) (ha : PA X (e :: es) ta) {pl : Sem Bool}
    (hev : eval (.Call (.Attribute (.Call (.Name "super" p0) [] [] p1) "__init__" p2) (e :: es) [] pos) X.env = (do
      let ov ← attributeBase (.Call (.Name "super" p0) [] [] p1) "__init__" X.env (eval (.Call (.Name "super" p0) [] [] p1) X.env)
      standAt p2.atName
      let (f, first) ← holding [ov] (getMethod ov "__init__" pl)
      callWith pos f first (backTo pos (starEach (e :: es) X.env)) []))
    (hi : interactive X.env = false) (hs : swapsWith (.Call (.Attribute (.Call (.Name "super" p0) [] [] p1) "__init__" p2) (e :: es) [] pos) none p3.line X.env = pure false)
    (he : starEach (e :: es) X.env = (false, eval e X.env) :: starEach es X.env) (hpl : (backTo pos (starEach es X.env)).any (·.1) = false)
    (I : Inv X pins σ H s) (h : tSuE C ta Dn σ H) :
    PySem.wpAt (model X.prog X.w) X.A (.func body X.env) (exec (.Expr (.Call (.Attribute (.Call (.Name "super" p0) [] [] p1) "__init__" p2) (e :: es) [] pos) p3) X.env) (SP X pins Dn) X.xe s := by
  obtain ⟨a, hσ, hH, ht⟩ := h
  obtain ⟨t1, hx⟩ := exo_at I.hok hH
  refine PySem.ks_wpAt_Expr_any (PySem.ks_wpAt_MethodCall (pl := pl) ?_ hev) hi hs
  refine su_base I U (by decide) hσ hx rfl (fun c z => nomatch z) fun so s1 I1 hso hx1 => ?_
  obtain ⟨cd, hcd⟩ := U.clsC
  have hm' := hm
  unfold PySem.W.ks_superIn at hm'
  rw [hcd] at hm'
  have KI := I1.kIn
  have In1 : PySem.W.InstAt s1.heap a _ C none := ⟨hx1, rfl, rfl, trivial⟩
  have isB : PySem.W.Looks (model X.prog X.w) s1.heap (isInstance (.ref a) (.type "ValueError")) true := In1.type.andThen (PySem.W.looks_subIn KI hB)
  obtain ⟨h1, g1, d1, t2, os1⟩ := s1
  refine PySem.W.kxs_getMethod PySem.W.kxs_ValueError hso (PySem.W.looks_opaque KI U.opq) (l₀ := cd.mro) (fun A Q E s k q => wpAny_bind ((PySem.W.looks_clsIn KI hcd) A _ E s k (wpAny_pure q))) rfl KI hm' isB (PySem.W.ks_ne KI In1 hcd) (by decide) ?_
  have I2 := inv_pin1 (o := PySem.W.kxs_mw "ValueError.__init__" a) (h' := h1.push (PySem.W.kxs_mw "ValueError.__init__" a)) (t' := t2 + 1) (q := h1.objs.size) I1 (fun b u z => Heap.get?_push_of_some _ z) rfl (Heap.get?_push_at rfl rfl) (fun v z => nomatch z)
  have hplain : ((false, eval e X.env) :: backTo pos (starEach es X.env)).any (·.1) = false := by
    show (false || (backTo pos (starEach es X.env)).any (·.1)) = false
    rw [hpl] <;> rfl
  rw [he]
  refine PySem.W.kxs_callWith (i := "ValueError.__init__") (x := a) hplain (PySem.Calls.evalArgs_plain ?_)
  have run := ha.run pos _ _ σ H _ I2 ht
  rw [he] at run
  refine thn run fun us s3 ⟨vs, H3, I3, r3, hz, e3, q3⟩ => ?_
  have pin := I3.pin (h1.objs.size, PySem.W.kxs_mw "ValueError.__init__" a) (by simp)
  obtain ⟨t3, hx3⟩ := exo_at I3.hok e3
  refine ⟨pin.1, ?_⟩
  obtain ⟨nm, qn, N, bs, bm, sn, sub, ab, col, dd, k0, k1, k2, k3, k5, hC, hbm⟩ := T.cls
  have hlen : us.length ≤ sizeLine := by
    rw [← Paired.length r3, sizeLine_eq]
    omega
  obtain ⟨h3, g3, d3, t4, os3⟩ := s3
  refine call_mw F.excBase_ValueError (I3.kIn _ _ hC) hx3 pin.1 hlen fun h' t5 k hx' => ?_
  have J := I3.write (t' := t4) (x := a) (e := a) (o := exo a C none) (by rw [e3]; exact True.intro) (.inl rfl) k ⟨_, hx'⟩ (exo_ok hx')
  have eu : upd H3 a (exo a C none) = H3 := funext fun b => by
    by_cases hb : b = a
    · rw [hb, upd_same, e3]
    · rw [upd_ne hb]
  rw [eu] at J
  exact ⟨σ, H3, J.unpinned.unpinned, q3⟩
end
end DL
end
section
namespace DL
open PySem PySem.Spec PyProof.Rows L2
abbrev supNF (x qual : Str) (st : Stmt) (cda cc : Addr) : NdefX.NF := ⟨x, qual, defArgs st, defBody st, defScope st, [("__class__", cc)], cda⟩
section
variable {P : Program} {w : World} {K : PySem.W.Frag} {mg : Str → Option Value} {base : Heap} {CX : CXT} {x qual : Str} {st : Stmt} {C D f : Addr} {fd : FuncData} {N ps : List Str} {k : Nat} {sp : Sp}
theorem sup_ncx {A : Around} {outer : List Env} {s : Shared} {H : Hp} {E : XK} {cda cc : Addr} {oc cl : Value} {od cld : Option Addr} {kV doc pm ct : Value} {an : Option Addr} {osl csl : Array (Option Value)} {ar : Arg} (U : SupK P K mg C D)
    (lk : K.lookup f = some ⟨oc, od, .func (PySem.W.ksFn x qual (defArgs st) (defBody st) (defScope st) .none kV doc pm an (.ref cda) ct cc), osl⟩)
    (co : ∃ (ccl : Value) (cdd : Option Addr) (vs : Array Value) (ccs : Array (Option Value)) (file : Str) (tf : Tok), K.lookup cda = some ⟨ccl, cdd, .fields vs, ccs⟩ ∧ vs[2]? = some (.str file tf) ∧ ((P.main.file : Str) == file) = true)
    (lc : K.lookup cc = some ⟨cl, cld, .cell (some (.ref D)), csl⟩) (h1 : (defScope st).names.lookup ("super" : Str) = some .globalImplicit) (h2 : (defScope st).names.lookup ("__class__" : Str) = some .free) (h3 : (defScope st).names.lookup ("self" : Str) = some .local)
    (h4 : N[0]? = some ("self" : Str)) (h5 : ((defArgs st).posonlyargs ++ (defArgs st).args).head? = some ar) (h6 : ar.arg = ("self" : Str)) : SupX (NdefX.ncx CX P w K mg base N (supNF x qual st cda cc) f A outer s H E) C D := by
  obtain ⟨ccl, cdd, vs, ccs, file, tf, lco, hvs, hfile⟩ := co
  exact ⟨h1, h2, h3, h4, ⟨f, oc, od, _, osl, ar, rfl, lk, h5, h6⟩, ⟨cda, ccl, cdd, vs, ccs, file, tf, rfl, lco, hvs, hfile⟩, U.top, U.mg, ⟨cc, cl, cld, csl, rfl, lc⟩, U.clsD, U.clsC, U.sub, U.opq⟩
theorem fn_sup {st0 : Stmt} {rest : List Stmt} {ar : Arg} (F : FunS P K x qual st D f fd) (U : SupK P K mg C D) (S : NdefX.NScope N ps ["__class__"] (defScope st)) (len : ∀ vs H Q E, sp vs H Q E → vs.length = ps.length) (hbd : defBody st = st0 :: rest)
    (h1 : (defScope st).names.lookup ("super" : Str) = some .globalImplicit) (h3 : (defScope st).names.lookup ("self" : Str) = some .local) (h4 : N[0]? = some ("self" : Str)) (h5 : ((defArgs st).posonlyargs ++ (defArgs st).args).head? = some ar) (h6 : ar.arg = ("self" : Str))
    (hbody : ∀ (cda cc : Addr) (A : Around) (outer : List Env) (s : Shared) (H : Hp) (vs : List V) (Q : VK) (E : XK), Room k (A.deeper (NdefX.envF (supNF x qual st cda cc) f s.heap.objs.size)) → SupX (NdefX.ncx CX P w K mg base N (supNF x qual st cda cc) f A outer s H E) C D → sp vs H Q E →
      ∃ t0 t : TS, (∀ (pins : List (Addr × Obj)) (s' : Shared) (σ : L2.St) (H' : Hp) (Dn : Ends), Inv (NdefX.ncx CX P w K mg base N (supNF x qual st cda cc) f A outer s H E) pins σ H' s' → t0 Dn σ H' →
          PySem.wpAt (model P w) (A.deeper (NdefX.envF (supNF x qual st cda cc) f s.heap.objs.size)) (.func (defBody st) (NdefX.envF (supNF x qual st cda cc) f s.heap.objs.size)) (exec st0 (NdefX.envF (supNF x qual st cda cc) f s.heap.objs.size))
            (SP (NdefX.ncx CX P w K mg base N (supNF x qual st cda cc) f A outer s H E) pins Dn) (NdefX.ncx CX P w K mg base N (supNF x qual st cda cc) f A outer s H E).xe s') ∧
        PSs (NdefX.ncx CX P w K mg base N (supNF x qual st cda cc) f A outer s H E) rest t ∧
        t0 { nx := fun σ' H' => t { nx := fun _ H' => Q .non H', rt := Q } σ' H', rt := Q } (NdefX.startF N vs [some (.ref D)]) H) : FnOk P w K mg base CX (k + 1) f fd ps sp := by
  obtain ⟨oc, od, kV, doc, pm, an, cda, ct, osl, cc, rfl, lk, hcd, co, cl, cld, csl, lc⟩ := F.ex
  refine ⟨len, fun A outer s H args us vs Q E hr e0 hb r hsp => ?_⟩
  have KX : K.In s.heap := e0.mod.kin.keeps fun b o e => (e0.bs b o e).1
  have lim : s.heap.NoLimit := e0.mod.nolimit.keeps fun b o e => (e0.bs b o e).1
  have hl := len _ _ _ _ hsp
  have h2 : (defScope st).names.lookup ("__class__" : Str) = some .free := S.frk _ List.mem_cons_self
  refine PySem.ks_codeAny_call_defAt (fd := PySem.W.ksFn x qual (defArgs st) (defBody st) (defScope st) .none kV doc pm an (.ref cda) ct cc) (body := defBody st) (binds := ps.zip us) hr.depth (KX _ _ lk) rfl lim (PySem.W.codeRec_of KX hcd) rfl hb S.nocell
    (fun y hy => S.par y.1 (List.of_mem_zip hy).1) (fun h₁ hns hk => ?_) S.co S.gen S.kind
  obtain ⟨t0, t, H0, H1, H2⟩ := hbody cda cc A outer s H vs Q E (hr.deeper _) (sup_ncx U lk co lc h1 h2 h3 h4 h5 h6) hsp
  have cells : NdefX.CellsAt [(("__class__" : Str), cc)] ["__class__"] [some (V.ref D)] s.heap H := by
    have kb := e0.bs cc _ (e0.mod.kin _ _ lc)
    have only : ∀ {y : Str} {c : Addr}, List.lookup y [(("__class__" : Str), cc)] = some c → y = "__class__" ∧ c = cc := fun {y c} e => by
      by_cases hy : y = "__class__"
      · subst hy
        simp [List.lookup] at e
        exact ⟨rfl, e.symm⟩
      · have q : (y == ("__class__" : Str)) = false := by simpa using hy
        simp [List.lookup, q] at e
    refine ⟨rfl, fun y c e => ?_, fun y z c e1 e2 => ?_, fun i y e => ?_⟩
    · obtain ⟨rfl, rfl⟩ := only e
      exact ⟨kb.2, _, _, kb.1, rfl⟩
    · rw [(only e1).1, (only e2).1]
    · cases i with
      | zero =>
        obtain rfl : ("__class__" : Str) = y := by simpa using e
        exact ⟨cc, by simp [List.lookup], fun v ev => ⟨.ref D, by obtain rfl : V.ref D = v := by simpa using ev
                                                                  exact rfl, _, kb.1, rfl⟩⟩
      | succ i => simp at e
  have I : Inv (NdefX.ncx CX P w K mg base N (supNF x qual st cda cc) f A outer s H E) [] (NdefX.startF N vs [some (.ref D)]) H { s with heap := h₁, toks := s.toks + (ps.zip us).length } := NdefX.inv_startN S hr.hd e0 hl r cells hns hk
  have fin : ∀ {σ' : L2.St} {H' : Hp} {v : V} {u : Value} {s' : Shared}, Inv (NdefX.ncx CX P w K mg base N (supNF x qual st cda cc) f A outer s H E) [] σ' H' s' → L2.RelV v u → Q v H' → CE outer P w H s Q u s' :=
    fun {σ' H' v u s'} J rv q => ⟨v, H', J.os, J.bare, J.base, J.hok, rv, q⟩
  have ends : ∀ {fl : Flow} {s' : Shared}, SP (NdefX.ncx CX P w K mg base N (supNF x qual st cda cc) f A outer s H E) [] { nx := fun _ H' => Q .non H', rt := Q } fl s' → CR CX outer P w H s Q E (.ok (.ret (match fl with | .ret v => v | _ => .none))) s' := fun {fl s'} hs => by
    cases fl with
    | ret u =>
      obtain ⟨v, σ', H', J, rv, q⟩ := hs
      exact fin J rv q
    | next =>
      obtain ⟨σ', H', J, q⟩ := hs
      exact fin (v := V.non) (u := Value.none) J rfl q
    | brk =>
      obtain ⟨_, _, _, q⟩ := hs
      exact False.elim q
    | cont =>
      obtain ⟨_, _, _, q⟩ := hs
      exact False.elim q
  have run0 := H0 [] _ _ _ _ I H2
  rw [hbd] at run0 ⊢
  refine PySem.ks_wpAt_execs_cons (PySem.wpAt_mono run0 (fun fl s' hs => ?_) fun e s' hs => hs)
  cases fl with
  | next =>
    obtain ⟨σ', H', J, q⟩ := hs
    exact PySem.wpAt_of_wpAny (wpAny_mono (H1.run [] _ _ _ _ J q) (fun fl s2 hs2 => ends hs2) fun e s2 hs2 => hs2)
  | ret u => exact ends (fl := .ret u) hs
  | brk => exact ends (fl := .brk) hs
  | cont => exact ends (fl := .cont) hs
end
end DL
end
section
namespace DL
open PySem PySem.Spec PyProof.Rows L2
def TxP (te : TE) (σ : L2.St) : Prop := ∀ H, ∃ y : Str, y.length ≤ 100000 ∧ ∀ Q : VK, Q (.str y) H → te σ H Q
theorem txp_c {y : Str} {σ : L2.St} (h : y.length ≤ 100000) : TxP (tC (.str y)) σ := fun H => ⟨y, h, fun Q q => q⟩
theorem int_len {i : Int} (h : i.natAbs.log2 < 1920) : (toString i : Str).length ≤ 100000 := by
  have e := int_text_length_le (k := 1920) (by decide) h
  show (Str.ofString (toString i)).length ≤ 100000
  rw [PySem.ofString_length]
  omega
theorem txp_fmt {i : Nat} {σ : L2.St} {v : V} (h : σ[i]? = some (some v)) (f : Fm v) : TxP (tFmt (tVar i)) σ := fun H => by
  rcases f with ⟨n, rfl, hn⟩ | ⟨y, rfl, hy, _⟩
  · exact ⟨toString n, int_len hn, fun Q q => ⟨_, h, .inr ⟨n, rfl, hn, q⟩⟩⟩
  · exact ⟨y, hy, fun Q q => ⟨_, h, .inl ⟨y, rfl, by rw [sizeLine_eq]; omega, q⟩⟩⟩
theorem tJs_of {σ : L2.St} : ∀ {ts : List TE} {acc : Str} {n : Nat}, (∀ t ∈ ts, TxP t σ) → acc.length ≤ n → n + 100000 * ts.length ≤ 10000000 → ∀ H (Q : Str → Hp → Prop), (∀ out, Q out H) → tJs ts acc σ H Q
  | [], acc, n, _, _, _, H, Q, q => q acc
  | t :: ts, acc, n, h, ha, hn, H, Q, q => by
    obtain ⟨y, hy, k⟩ := h t List.mem_cons_self H
    refine k _ ⟨y, rfl, ?_, tJs_of (n := n + 100000) (fun t ht => h t (List.mem_cons_of_mem _ ht)) ?_ ?_ H Q q⟩
    · rw [Str.length_append, sizeLine_eq]
      rw [List.length_cons] at hn
      omega
    · rw [Str.length_append]; omega
    · rw [List.length_cons] at hn; omega
section
variable {P : Program} {w : World} {K : PySem.W.Frag} {mg : Str → Option Value} {base : Heap} {CX : CXT} {qual : Str} {st : Stmt} {C f : Addr} {fd : FuncData} {k : Nat}
abbrev SupEv (p0 p1 p2 pos : Pos) (e : Expr) (pl : Env → Sem Bool) : Prop := ∀ env : Env, eval (.Call (.Attribute (.Call (.Name "super" p0) [] [] p1) "__init__" p2) [e] [] pos) env = (do
      let ov ← attributeBase (.Call (.Name "super" p0) [] [] p1) "__init__" env (eval (.Call (.Name "super" p0) [] [] p1) env)
      standAt p2.atName
      let (f, first) ← holding [ov] (getMethod ov "__init__" (pl env))
      callWith pos f first (backTo pos (starEach [e] env)) [])
abbrev supCall (p0 p1 p2 pos : Pos) (es : List Expr) : Expr := .Call (.Attribute (.Call (.Name "super" p0) [] [] p1) "__init__" p2) es [] pos
theorem fn_xi1 {N : List Str} {g : Str} {pl : Env → Sem Bool} {parts : List Expr} {v1 v2 : Expr} {p0 p1 p2 p3 p4 p5 p6 p7 p8 pos : Pos} {ar : Arg} (F : FunS P K "__init__" qual st C f fd) (U : SupK P K mg C C) (T : OexC K C)
    (hm : PySem.W.ks_superIn K C C "__init__" = some (some (.builtin "ValueError.__init__"))) (hB : PySem.W.subIn K (.ref C) (.type "ValueError") = some true) (hg : PySem.W.findIn K (.ref C) g = some none)
    (hbd : defBody st = [.Expr (supCall p0 p1 p2 pos [.JoinedStr (v1 :: v2 :: parts) p4]) p3, .Assign [.Attribute (.Name "self" p5) g p6] (.Name g p7) p8])
    (S : NdefX.NScope N ["self", g] ["__class__"] (defScope st)) (h1 : (defScope st).names.lookup ("super" : Str) = some .globalImplicit) (hN : N = [("self" : Str), g, ("__class__" : Str)]) (h5 : ((defArgs st).posonlyargs ++ (defArgs st).args).head? = some ar) (h6 : ar.arg = ("self" : Str))
    (hd1 : (g == ("__debug__" : Str)) = false) (hd2 : (g == ("__classdict__" : Str)) = false)
    (hev : SupEv p0 p1 p2 pos (.JoinedStr (v1 :: v2 :: parts) p4) pl)
    (hj : ∀ X : Cx, X.N[1]? = some g → Vis X.env.scope g → ∃ ts : List TE, PJ X (v1 :: v2 :: parts) ts ∧ ts.length ≤ 10 ∧ ∀ (σ : L2.St) (y : V), σ[1]? = some (some y) → Fm y → ∀ t ∈ ts, TxP t σ) : FnOk P w K mg base CX (k + 1) f fd [("self" : Str), g] (spXI C [g]) := by
  have l0 : (defScope st).names.lookup ("self" : Str) = some .local := S.par _ List.mem_cons_self
  have l1 : (defScope st).names.lookup g = some .local := S.par _ (List.mem_cons_of_mem _ List.mem_cons_self)
  subst hN
  refine fn_sup F U S (fun vs H Q E ⟨a, ys, e, l, _⟩ => by rw [e, List.length_cons, l] <;> rfl) hbd h1 l0 rfl h5 h6 fun cda cc A outer s H vs Q E hr SX hsp => ?_
  obtain ⟨a, ys, rfl, hl, hf, hH, hq⟩ := hsp
  obtain ⟨y, rfl⟩ : ∃ y, ys = [y] := by
    cases ys with
    | nil => cases hl
    | cons y r =>
      cases r with
      | nil => exact ⟨y, rfl⟩
      | cons _ _ => cases hl
  obtain ⟨ts, pj, hts, htx⟩ := hj (NdefX.ncx CX P w K mg base [("self" : Str), g, ("__class__" : Str)] (supNF "__init__" qual st cda cc) f A outer s H E) rfl (.inl l1)
  refine ⟨_, _, fun pins s' σ H' Dn I h => at_sue SX T hm hB (pa_cons (pe_joined pj) pa_nil) (hev _) I.quiet rfl rfl rfl I h, pss_one (ps_ost (pe_var (i := 0) rfl (.inl l0)) (pe_var (i := 1) rfl (.inl l1) hd1 hd2)), ?_⟩
  refine ⟨a, rfl, hH, tJs_of (n := 0) (fun t ht => htx _ y rfl (hf y List.mem_cons_self) t ht) (Nat.le_refl _) (by omega) H _ fun out => ⟨by simp, hH, y, rfl, .ref a, rfl, a, C, rfl, T, hg, .inl ⟨hH, fun dx hn hne => ?_⟩⟩⟩
  exact hq dx _ hn hne upd_same (by rw [upd_ne hne, upd_same] <;> rfl) fun b ha hd => by rw [upd_ne ha, upd_ne hd]
theorem fn_xi2 {N : List Str} {g g2 : Str} {pl : Env → Sem Bool} {parts : List Expr} {v1 v2 : Expr} {p0 p1 p2 p3 p4 p5 p6 p7 p8 p9 q1 q2 q3 pos : Pos} {ar : Arg} (F : FunS P K "__init__" qual st C f fd) (U : SupK P K mg C C) (T : OexC K C)
    (hm : PySem.W.ks_superIn K C C "__init__" = some (some (.builtin "ValueError.__init__"))) (hB : PySem.W.subIn K (.ref C) (.type "ValueError") = some true) (hg : PySem.W.findIn K (.ref C) g = some none) (hg2 : PySem.W.findIn K (.ref C) g2 = some none)
    (hbd : defBody st = [.Expr (supCall p0 p1 p2 pos [.JoinedStr (v1 :: v2 :: parts) p4]) p3, .Assign [.Attribute (.Name "self" p5) g p6] (.Name g p7) p8, .Assign [.Attribute (.Name "self" p9) g2 q1] (.Name g2 q2) q3])
    (S : NdefX.NScope N ["self", g, g2] ["__class__"] (defScope st)) (h1 : (defScope st).names.lookup ("super" : Str) = some .globalImplicit) (hN : N = [("self" : Str), g, g2, ("__class__" : Str)]) (h5 : ((defArgs st).posonlyargs ++ (defArgs st).args).head? = some ar) (h6 : ar.arg = ("self" : Str))
    (hd1 : (g == ("__debug__" : Str)) = false) (hd2 : (g == ("__classdict__" : Str)) = false) (hd3 : (g2 == ("__debug__" : Str)) = false) (hd4 : (g2 == ("__classdict__" : Str)) = false)
    (hev : SupEv p0 p1 p2 pos (.JoinedStr (v1 :: v2 :: parts) p4) pl)
    (hj : ∀ X : Cx, X.N[1]? = some g → X.N[2]? = some g2 → Vis X.env.scope g → Vis X.env.scope g2 → ∃ ts : List TE, PJ X (v1 :: v2 :: parts) ts ∧ ts.length ≤ 10 ∧ ∀ (σ : L2.St) (y z : V), σ[1]? = some (some y) → σ[2]? = some (some z) → Fm y → Fm z → ∀ t ∈ ts, TxP t σ) :
    FnOk P w K mg base CX (k + 1) f fd [("self" : Str), g, g2] (spXI C [g, g2]) := by
  have l0 : (defScope st).names.lookup ("self" : Str) = some .local := S.par _ List.mem_cons_self
  have l1 : (defScope st).names.lookup g = some .local := S.par _ (List.mem_cons_of_mem _ List.mem_cons_self)
  have l2 : (defScope st).names.lookup g2 = some .local := S.par _ (List.mem_cons_of_mem _ (List.mem_cons_of_mem _ List.mem_cons_self))
  subst hN
  refine fn_sup F U S (fun vs H Q E ⟨a, ys, e, l, _⟩ => by rw [e, List.length_cons, l] <;> rfl) hbd h1 l0 rfl h5 h6 fun cda cc A outer s H vs Q E hr SX hsp => ?_
  obtain ⟨a, ys, rfl, hl, hf, hH, hq⟩ := hsp
  obtain ⟨y, z, rfl⟩ : ∃ y z, ys = [y, z] := by
    cases ys with
    | nil => cases hl
    | cons y r =>
      cases r with
      | nil => cases hl
      | cons z r =>
        cases r with
        | nil => exact ⟨y, z, rfl⟩
        | cons _ _ => cases hl
  obtain ⟨ts, pj, hts, htx⟩ := hj (NdefX.ncx CX P w K mg base [("self" : Str), g, g2, ("__class__" : Str)] (supNF "__init__" qual st cda cc) f A outer s H E) rfl rfl (.inl l1) (.inl l2)
  refine ⟨_, _, fun pins s' σ H' Dn I h => at_sue SX T hm hB (pa_cons (pe_joined pj) pa_nil) (hev _) I.quiet rfl rfl rfl I h,
    pss_cons (ps_ost (pe_var (i := 0) rfl (.inl l0)) (pe_var (i := 1) rfl (.inl l1) hd1 hd2)) (pss_one (ps_ost (pe_var (i := 0) rfl (.inl l0)) (pe_var (i := 2) rfl (.inl l2) hd3 hd4))), ?_⟩
  refine ⟨a, rfl, hH, tJs_of (n := 0) (fun t ht => htx _ y z rfl rfl (hf y List.mem_cons_self) (hf z (List.mem_cons_of_mem _ List.mem_cons_self)) t ht) (Nat.le_refl _) (by omega) H _ fun out => ⟨by simp, hH, y, rfl, .ref a, rfl, a, C, rfl, T, hg, .inl ⟨hH, fun dx hn hne => ?_⟩⟩⟩
  refine ⟨z, rfl, .ref a, rfl, a, C, rfl, T, hg2, .inr ⟨dx, [(g, y)], upd_same, by rw [upd_ne hne, upd_same] <;> rfl, by simp, ?_⟩⟩
  exact hq dx _ hn hne (by rw [upd_ne (Ne.symm hne), upd_same]) upd_same fun b ha hd => by rw [upd_ne hd, upd_ne ha, upd_ne hd]
end
section
variable {X : Cx} {CX : CXT} {x : Str} {C fI : Addr} {k : Nat} {fd : FuncData} {ps ks : List Str} {sp : Sp} {kws : List Keyword} {tk : TA} {p pos : Pos} {g : List Value → List Value → List Value} {gV : List V → List V → List V}
def tMkK (C : Addr) (n : Nat) (sp : Sp) (gV : List V → List V → List V) (tk : TA) : L2.St → Hp → XK → Prop := fun σ H Q => tk σ H fun zs H1 => zs.length = n ∧ ∀ a, H1 a = none → sp (gV [.ref a] zs) (upd H1 a (exo a C none))
  (fun v H2 => v = .non ∧ ∃ (d : Addr) (fs : List (Str × V)), H2 a = some (exo a C (some d)) ∧ H2 d = some (exd d fs) ∧ H1 d = none ∧ Q (.ref C) (some d) (upd (del H2 a) d (.xd fs))) (fun _ _ _ => False)
theorem pmk_kw (T : OexC X.K C) (iC : PySem.W.findIn X.K (.ref C) "__init__" = some (some (.ref fI))) (tI : PySem.W.typeIn X.K (.ref fI) = some (.type "function")) (F1 : FnOk X.prog X.w X.K X.mg X.base CX k fI fd ps sp) (hr : Room (k + 1) X.A) (hb : KBn X.K fd ps 1 ks g gV)
    (hx : Passes CX X (fun _ _ _ => False)) (hg : Gl X x) (hm : X.mg x = some (.ref C)) (hkw : PK X kws tk) (hall : (backToKw pos (keywordEach kws X.env)).all (·.1.isSome) = true := by rfl) (hks : (backToKw pos (keywordEach kws X.env)).filterMap (·.1) = ks := by rfl)
    (hdb : (x == ("__debug__" : Str)) = false := by decide) (hpl : ((backTo pos (starEach [] X.env)).any (·.1) || (backToKw pos (keywordEach kws X.env)).any (·.1.isNone)) = false := by rfl) : PMk X (.Call (.Name x p) [] kws pos) (tMkK C ks.length sp gV tk) := by
  intro pins s σ H Q I h
  obtain ⟨nm, q, N, bs, bm, sn, sub, ab, col, dd, k0, k1, k2, k3, k5, hC, hbm⟩ := T.cls
  refine wpAny_Call_Name_kw (ld_glob I hg hm ?_ hdb)
  refine PySem.W.callWith_KW0 (h₀ := X.base) I.ok.mod.kin T.kC hall ?_ hpl
  refine thn (hkw.run pos pins s σ H _ I h) fun ws s1 ⟨zs, H1, I1, rz, hz, q1⟩ => ⟨I1.kIn, ?_⟩
  rw [hks]
  show wpAny _ _ (call (.ref C) [] (ks.zip ws)) _ _ _
  obtain ⟨hp, gg, dr, tk', os⟩ := s1
  have up1 : hp.objs.size ≤ hp.objs.size + 1 := Nat.le_succ _
  have na : H1 (hp.objs.size + 1) = none := I1.hok.fresh up1
  have hq := q1 (hp.objs.size + 1) na
  have kk : ∀ b o, hp.get? b = some o → ((hp.push (PySem.W.kdv_tup [])).push (PySem.HandSPX.excO C hp.objs.size)).get? b = some o := fun b o e => Heap.get?_push_of_some _ (Heap.get?_push_of_some (PySem.W.kdv_tup []) e)
  have ex : ((hp.push (PySem.W.kdv_tup [])).push (PySem.HandSPX.excO C hp.objs.size)).get? (hp.objs.size + 1) = some (PySem.HandSPX.excO C hp.objs.size) := by heap_get
  have I2 : Inv X pins σ (upd H1 (hp.objs.size + 1) (exo (hp.objs.size + 1) C none)) ⟨(hp.push (PySem.W.kdv_tup [])).push (PySem.HandSPX.excO C hp.objs.size), gg, dr, tk', os⟩ :=
    I1.laid (t' := tk') (o := exo (hp.objs.size + 1) C none) (a := hp.objs.size + 1) (h' := (hp.push (PySem.W.kdv_tup [])).push (PySem.HandSPX.excO C hp.objs.size)) kk up1 (exo_ok ex)
  have r1 : Vals [V.ref (hp.objs.size + 1)] [Value.ref (hp.objs.size + 1)] := .cons rfl .nil
  have r2 := hb.rel r1 rz
  have step := F1.run _ X.stack _ _ ⟨[Value.ref (hp.objs.size + 1)], ks.zip ws⟩ (g [Value.ref (hp.objs.size + 1)] ws) _ _ (fun _ _ _ => False) (hr.make C [] (ks.zip ws)) (I2.env0.make C [] (ks.zip ws)) (hb.to _ _ ws I2.kIn rfl (rz.length.symm.trans hz)) r2 hq
  refine wpAny_call (EXK.call_kw F.excBase_ValueError (fun Y => PySem.HandSPX.refsVE_contains Y bm hbm) (Nat.zero_le _) (I1.kIn _ _ hC) (PySem.W.looks_findIn I1.kIn iC) (fun self => PySem.W.bind_fn I1.kIn self tI) (codeAny_mono step fun r s' hq' => ?_))
  cases r with
  | error er => exact hx pins σ _ _ er s' I2 hq'
  | ok fl =>
    cases fl with
    | ret u =>
      obtain ⟨v, H2, os2, bare2, un2, hok2, rv, ev, d, fs, ea, ed, hd1, q2⟩ := hq'
      subst ev
      obtain ⟨h2, g2, d2, t2, os'⟩ := s'
      exact ⟨rv, mk_end (raises_own T.exC T.tyC) I1 up1 kk un2 hok2 os2 bare2 ea ed hd1 q2⟩
    | next => exact False.elim hq'
    | brk => exact False.elim hq'
    | cont => exact False.elim hq'
end
end DL
end
section
namespace LMX
open PySem PySem.Spec PyProof.Rows L2 LamX
section
variable {M : Model} {A : Around} {E : Value → Shared → Prop} {s : Shared} {q : Str} {pr : Arguments} {bd : Expr} {sc : Scope} {env : Env} {c P : Addr} {ps : Array Value} {pos : Pos} {ln : Nat} {mg : Str → Option Value} {cl : List (Str × Addr)} {dV : Value} {Qv : Value → Shared → Prop}
theorem tail_new (e1 : closureFor sc env = pure cl) (e2 : env.globals = mainGlobals) (gs : s.heap.Ns mainGlobals mg) (e3 : env.code = .ref c) (CH : PySem.W.CodeHd s.heap c P) (tP : s.heap.get? P = some (PySem.W.tabObj ps)) (tr : TriplesOk ps.toList)
    (no : codeAmong pos ps.toList = none) (gP : mainGlobals ≠ P) (bl : s.heap.BuiltinsAt mg P)
    (h : ∀ c' ctv h' tk, Heap.ExtBut P s.heap h' → s.heap.objs.size ≤ c' → c' < h'.objs.size → h'.CodeRec (.ref c') q → h'.get? P = some (PySem.W.tabObj (ps ++ #[rawInt pos.line, rawInt pos.col, .ref c'])) →
      Qv (.ref h'.objs.size) { s with heap := h'.push { cls := .type "function", data := .func (fdL q pr bd sc cl dV ((mg "__name__").getD .none) (.ref c') ctv) }, toks := tk }) :
    wpAny M A (makeTail "<lambda>" q pr (.expr bd) sc env dV .none none pos ln) Qv E s := by
  obtain ⟨bm, ob, k1, k2, _, k3, k4, k5, k6, k7⟩ := bl
  unfold makeTail
  rw [e1, e2]
  refine wpAny_bind (wpAny_pure ?_)
  by_cases hcl : cl.isEmpty = true
  · rw [if_pos hcl]
    refine wpAny_bind (wpAny_pure (wpAny_bind (wpAny_functionCodeX e3 (CH.code tP tr) (CH.tab tP) no fun c' h' tk x1 x2 x3 _ x4 x5 _ => ?_)))
    have gs' := gs.extBut x1 gP
    refine wpAny_bind (wpAny_builtinsFor gs' k1 k2 (x1 _ _ k3 k4) k5 k6 k7 (wpAny_bind (wpAny_nsGet gs' (wpAny_bind (wpAny_pure ?_)))))
    exact wpAny_newObj_type (h c' .none h' tk x1 x2 x3 x4 x5.2) (by size_fits)
  · rw [if_neg hcl]
    refine wpAny_bind (wpAny_newTextTuple ?_)
    have up : ∀ (oT : Obj) b o, s.heap.get? b = some o → (s.heap.push oT).get? b = some o := fun oT b o e => Heap.get?_push_of_some oT e
    have CH' := CH.keeps (up ({ cls := .type "tuple", data := .seq ((cl.mergeSort fun a b => a.1.cps.toList ≤ b.1.cps.toList).map (Value.ref ·.2)).toArray } : Obj))
    have tP' := up ({ cls := .type "tuple", data := .seq ((cl.mergeSort fun a b => a.1.cps.toList ≤ b.1.cps.toList).map (Value.ref ·.2)).toArray } : Obj) _ _ tP
    refine wpAny_bind (wpAny_functionCodeX e3 (CH'.code tP' tr) (CH'.tab tP') no fun c' h' tk x1 x2 x3 _ x4 x5 _ => ?_)
    have gs' := (gs.push _).extBut x1 gP
    have x1' : Heap.ExtBut P s.heap h' := fun b o hb e => x1 b o hb (up _ _ _ e)
    have x2' : s.heap.objs.size ≤ c' := Nat.le_trans (by rw [Heap.size_push]; exact Nat.le_succ _) x2
    refine wpAny_bind (wpAny_builtinsFor gs' k1 k2 (x1' _ _ k3 k4) k5 k6 k7 (wpAny_bind (wpAny_nsGet gs' (wpAny_bind (wpAny_pure ?_)))))
    exact wpAny_newObj_type (h c' _ h' tk x1' x2' x3 x4 x5.2) (by size_fits)
theorem tail_hit {cv : Value} (e1 : closureFor sc env = pure cl) (e2 : env.globals = mainGlobals) (gs : s.heap.Ns mainGlobals mg) (e3 : env.code = .ref c) (CH : PySem.W.CodeHd s.heap c P) (tP : s.heap.get? P = some (PySem.W.tabObj ps)) (tr : TriplesOk ps.toList)
    (yes : codeAmong pos ps.toList = some cv) (bl : s.heap.BuiltinsAt mg P)
    (h : ∀ (ctv : Value) (h' : Heap) (tk : Tok), (∀ b o, s.heap.get? b = some o → h'.get? b = some o) → s.heap.objs.size ≤ h'.objs.size →
      Qv (.ref h'.objs.size) { s with heap := h'.push { cls := .type "function", data := .func (fdL q pr bd sc cl dV ((mg "__name__").getD .none) cv ctv) }, toks := tk }) :
    wpAny M A (makeTail "<lambda>" q pr (.expr bd) sc env dV .none none pos ln) Qv E s := by
  obtain ⟨bm, ob, k1, k2, _, k3, k4, k5, k6, k7⟩ := bl
  unfold makeTail
  rw [e1, e2]
  refine wpAny_bind (wpAny_pure ?_)
  by_cases hcl : cl.isEmpty = true
  · rw [if_pos hcl]
    refine wpAny_bind (wpAny_pure (wpAny_bind (wpAny_functionCode_hit e3 (CH.code tP tr) yes ?_)))
    refine wpAny_bind (wpAny_builtinsFor gs k1 k2 k4 k5 k6 k7 (wpAny_bind (wpAny_nsGet gs (wpAny_bind (wpAny_pure ?_)))))
    exact wpAny_newObj_type (h .none s.heap s.toks (fun _ _ e => e) (Nat.le_refl _)) (by size_fits)
  · rw [if_neg hcl]
    refine wpAny_bind (wpAny_newTextTuple ?_)
    have up : ∀ (oT : Obj) b o, s.heap.get? b = some o → (s.heap.push oT).get? b = some o := fun oT b o e => Heap.get?_push_of_some oT e
    refine wpAny_bind (wpAny_functionCode_hit e3 ((CH.keeps (up _)).code (up _ _ _ tP) tr) yes ?_)
    refine wpAny_bind (wpAny_builtinsFor (gs.push _) k1 k2 (up _ _ _ k4) k5 k6 k7 (wpAny_bind (wpAny_nsGet (gs.push _) (wpAny_bind (wpAny_pure ?_)))))
    exact wpAny_newObj_type (h _ _ s.toks (up _) (by rw [Heap.size_push]; exact Nat.le_succ _)) (by size_fits)
end
end LMX
end
section
namespace LMX
open PySem PySem.Spec PyProof.Rows L2 LamX
theorem lamO_at {P : Program} {w : World} {H : Hp} {h : Heap} {f : Addr} {F : LF} (hok : HOk P w H h) (e : H f = some (LamO f F)) :
    ∃ (od : Option Addr) (sl : Array (Option Value)) (pm ctv : Value), h.get? f = some (⟨.type "function", od, .func (fdL F.qual F.params F.body F.scope F.cl F.dV pm (.ref F.c) ctv), sl⟩ : Obj) := by
  obtain ⟨z, _, _⟩ := hok f _ e
  exact z
section
variable {X : Cx} {pins : List (Addr × Obj)} {σ : L2.St} {H : Hp} {s : Shared}
theorem inv_lam {F : LF} {o : Obj} {t' : Nat} {pm ctv : Value} (I : Inv X pins σ H s) (ho : o = { cls := .type "function", data := .func (fdL F.qual F.params F.body F.scope F.cl F.dV pm (.ref F.c) ctv) }) :
    Inv X pins σ (upd H s.heap.objs.size (LamO s.heap.objs.size F)) { s with heap := s.heap.push o, toks := t' } := by
  subst ho
  refine I.laid (a := s.heap.objs.size) (fun b u e => Heap.get?_push_of_some _ e) (Nat.le_refl _) ?_
  have e : (s.heap.push ({ cls := .type "function", data := .func (fdL F.qual F.params F.body F.scope F.cl F.dV pm (.ref F.c) ctv) } : Obj)).get? s.heap.objs.size = some ({ cls := .type "function", data := .func (fdL F.qual F.params F.body F.scope F.cl F.dV pm (.ref F.c) ctv) } : Obj) := Heap.get?_push_size _ rfl
  exact ⟨⟨_, _, pm, ctv, e⟩, ⟨_, e⟩, fun h1 h2 ⟨od, sl, p, t, z⟩ st => ⟨od, sl, p, t, st _ z⟩⟩
theorem lam_tail {c P : Addr} {params : Arguments} {body : Expr} {scope : Scope} {pos : Pos} {ln : Nat} {dv : Option Addr} {E : Value → Shared → Prop} {Q : Value → Shared → Prop} (hln : ln = pos.line) (I : Inv X pins σ H s) (TB : TabB X.base X.mg c P) (hcode : X.env.code = .ref c)
    (hT : TabS H P (X.env.qual ++ "<lambda>")) (hfree : ∀ y ∈ scope.names, y.2 = .free → ∃ c, X.env.cells.lookup y.1 = some c)
    (h : ∀ (f c' : Addr) (H1 : Hp) (s' : Shared), Inv X pins σ H1 s' → (∀ b o, b ≠ P → H b = some o → H1 b = some o) → TabS H1 P (X.env.qual ++ "<lambda>") → H f = none → (∀ b, H1 b = none → H b = none) →
      H1 f = some (LamO f ⟨X.env.qual ++ "<lambda>", params, body, scope, cloFrom X.env.cells scope.names [], c', dv⟩) → H1 c' = some (CodeO c' (X.env.qual ++ "<lambda>")) → Q (.ref f) s') :
    wpAny (model X.prog X.w) X.A (makeTail "<lambda>" (X.env.qual ++ "<lambda>") params (.expr body) scope X.env (LF.dV ⟨X.env.qual ++ "<lambda>", params, body, scope, cloFrom X.env.cells scope.names [], 0, dv⟩) .none none pos ln) Q E s := by
  subst hln
  obtain ⟨ps, hP, ht, ha⟩ := id hT
  have bP : s.heap.BuiltinsAt X.mg P := TB.bm.keeps I.bk
  have hP' : s.heap.get? P = some { cls := .none, data := .fields ps } := I.hok P _ hP
  cases hc : codeAmong pos ps.toList with
  | none =>
    refine tail_new (mg := X.mg) (c := c) (P := P) (ps := ps) (closure_ok hfree) I.ok.glob (I.mod.glob.keeps I.bk) hcode (TB.code.keeps I.bk) hP' ht hc TB.gP bP fun c' ctv h' tk hx hge hlt hrec htb => ?_
    obtain ⟨c2, oc, vs, t, e2, hoc, hd, hv⟩ := hrec
    cases e2
    have nC : H c' = none := I.hok.fresh hge
    have I1 := inv_table (t' := tk) (more := #[rawInt pos.line, rawInt pos.col, .ref c']) (h' := h') I hP (fun b o hb e => hx b o hb e) htb hge ⟨oc, vs, t, hoc, hd, hv⟩
    have hE : ∀ b o, b ≠ P → H b = some o → upd (upd H P (.tbl (ps ++ #[rawInt pos.line, rawInt pos.col, .ref c']))) c' (CodeO c' (X.env.qual ++ "<lambda>")) b = some o := fun b o n e => by
      rw [upd_ne (ne_of_none e nC), upd_ne n]
      exact e
    have eL : (ps ++ #[rawInt pos.line, rawInt pos.col, .ref c']).toList = ps.toList ++ [rawInt pos.line, rawInt pos.col, .ref c'] := by simp
    have T1 : TabS (upd (upd H P (.tbl (ps ++ #[rawInt pos.line, rawInt pos.col, .ref c']))) c' (CodeO c' (X.env.qual ++ "<lambda>"))) P (X.env.qual ++ "<lambda>") := by
      refine ⟨_, by rw [upd_ne (ne_of_none hP nC), upd_same], by rw [eL]; exact PySem.TriplesOk_snoc _ _ _ _ ht, fun p' cv hcv => ?_⟩
      rw [eL] at hcv
      rcases among_app _ ht hcv with z | z
      · obtain ⟨c0, e1, e2⟩ := ha p' cv z
        exact ⟨c0, e1, hE _ _ (fun y => by rw [y, hP] at e2; exact codeO_ne ps (Option.some.inj e2).symm) e2⟩
      · exact ⟨c', z, upd_same⟩
    have nF := I1.hok.fresh (Nat.le_refl _)
    have I2 := inv_lam (F := ⟨X.env.qual ++ "<lambda>", params, body, scope, cloFrom X.env.cells scope.names [], c', dv⟩) (t' := tk) (pm := (X.mg "__name__").getD .none) (ctv := ctv) I1 rfl
    refine h h'.objs.size c' _ _ I2 (fun b o n e => (upd_ne (ne_of_none (hE b o n e) nF)).trans (hE b o n e)) (T1.ext fun b o e => (upd_ne (ne_of_none e nF)).trans e) (I.hok.fresh (Nat.le_trans hge (Nat.le_of_lt hlt)))
      (fun b e => NdefX.upd_none (NdefX.upd_none (NdefX.upd_none e))) upd_same ((upd_ne (Nat.ne_of_lt hlt)).trans upd_same)
  | some cv =>
    obtain ⟨c', e, hco⟩ := ha pos cv hc
    subst e
    refine tail_hit (mg := X.mg) (c := c) (P := P) (ps := ps) (closure_ok hfree) I.ok.glob (I.mod.glob.keeps I.bk) hcode (TB.code.keeps I.bk) hP' ht hc bP fun ctv h' tk hx hsz => ?_
    have I1 : Inv X pins σ H { s with heap := h', toks := tk } := I.kept hx
    have nF : H h'.objs.size = none := I1.hok.fresh (Nat.le_refl _)
    have I2 := inv_lam (F := ⟨X.env.qual ++ "<lambda>", params, body, scope, cloFrom X.env.cells scope.names [], c', dv⟩) (t' := tk) (pm := (X.mg "__name__").getD .none) (ctv := ctv) I1 rfl
    refine h h'.objs.size c' _ _ I2 (fun b o n e => (upd_ne (ne_of_none e nF)).trans e) (hT.ext fun b o e => (upd_ne (ne_of_none e nF)).trans e) nF (fun b e => NdefX.upd_none e) upd_same ((upd_ne (ne_of_none hco nF)).trans hco)
def tLamV (P : Addr) (q : Str) (at_ : Hp → Addr → Prop) : TE := fun _ H Q => TabS H P q ∧ ∀ f H1, (∀ b o, b ≠ P → H b = some o → H1 b = some o) → TabS H1 P q → H f = none → at_ H1 f → Q (.ref f) H1
theorem pe_lam0 {c P : Addr} {params : Arguments} {body : Expr} {scope : Scope} {pos : Pos} (TB : TabB X.base X.mg c P) (hcode : X.env.code = .ref c) (hfree : X.Ok → ∀ y ∈ scope.names, y.2 = .free → ∃ c, X.env.cells.lookup y.1 = some c) (hdef : defaultsOf params X.env = ([], [])) :
    PE X (.Lambda params body scope pos) (tLamV P (X.env.qual ++ "<lambda>") (LamAt (X.env.qual ++ "<lambda>") params body scope (cloFrom X.env.cells scope.names []) false)) := by
  refine ⟨fun pins s σ H Q I h => ?_⟩
  obtain ⟨hT, h⟩ := h
  refine PySem.W.kla_eval hdef ?_
  rw [makeFunction_eq]
  simp only [List.zip_nil_right, List.filterMap_nil, List.isEmpty_nil, if_true, pure_bind]
  exact lam_tail (dv := none) rfl I TB hcode hT (hfree I.ok) fun f c' H1 s' I1 e1 T1 f0 _ f1 c1 => ⟨.ref f, H1, I1, rfl, h f H1 e1 T1 f0 ⟨c', none, f1, c1, rfl, fun t z => nomatch z⟩⟩
end
end LMX
end
section
namespace LMX
open PySem PySem.Spec PyProof.Rows L2 LamX
section
variable {X : Cx} {pins : List (Addr × Obj)} {σ : L2.St} {H : Hp} {s : Shared}
def CellsIn (X : Cx) (h B : Heap) : Prop := ∀ y c o, X.env.cells.lookup y = some c → h.get? c = some o → B.get? c = some o
theorem mod_ext {K : PySem.W.Frag} {mg : Str → Option Value} {base B : Heap} (m : Mod K mg base) (k : ∀ b o, base.get? b = some o → B.get? b = some o) : Mod K mg B := by
  obtain ⟨h1, h2, ⟨mb, h3, h4⟩, h5⟩ := m
  exact ⟨h1.keeps k, h2.keeps k, ⟨mb, h3.keeps k, h4⟩, h5.keeps k⟩
theorem base_cells (I : Inv X pins σ H s) (hf : ∀ y c, X.env.cells.lookup y = some c → c ∉ X.fs) :
    ∃ B : Heap, (∀ b o, X.base.get? b = some o → B.get? b = some o) ∧ CellsIn X s.heap B ∧ Env0 X.prog X.w X.K X.mg B X.A X.stack s H := by
  let keep : Addr → Bool := fun b => (X.base.get? b).isSome || (X.env.cells.map (·.1)).any fun y => decide (X.env.cells.lookup y = some b)
  let l : List Addr := (List.range s.heap.objs.size).filter fun b => !keep b
  have inl : ∀ b, b ∈ l → keep b = false := fun b hb => by
    have z := (List.mem_filter.mp hb).2
    simpa using z
  have old : ∀ b o, (PySem.W.hideAll s.heap l).get? b = some o → s.heap.get? b = some o ∧ keep b = true := fun b o e => by
    have e1 := PySem.W.of_hideAll l e
    refine ⟨e1, ?_⟩
    cases q : keep b with
    | true => rfl
    | false =>
      have hm : b ∈ l := List.mem_filter.mpr ⟨List.mem_range.mpr (Heap.lt_size e1), by simp [q]⟩
      rw [PySem.W.hideAll_none l hm] at e
      cases e
  have kb : ∀ b o, X.base.get? b = some o → (PySem.W.hideAll s.heap l).get? b = some o := fun b o e => PySem.W.hideAll_get l (I.bk b o e) fun hm => by
    have z := inl b hm
    have z1 : keep b = true := by
      show ((X.base.get? b).isSome || _) = true
      rw [e] <;> rfl
    rw [z1] at z; cases z
  have keepC : ∀ b, keep b = true → (∃ o, X.base.get? b = some o) ∨ ∃ y, X.env.cells.lookup y = some b := fun b q => by
    have q' : ((X.base.get? b).isSome || (X.env.cells.map (·.1)).any fun y => decide (X.env.cells.lookup y = some b)) = true := q
    rcases Bool.or_eq_true_iff.mp q' with z | z
    · exact .inl (Option.isSome_iff_exists.mp z)
    · obtain ⟨y, _, hy⟩ := List.any_eq_true.mp z
      exact .inr ⟨y, of_decide_eq_true hy⟩
  refine ⟨PySem.W.hideAll s.heap l, kb, fun y c o e1 e2 => PySem.W.hideAll_get l e2 fun hm => ?_, ⟨I.ok.frames, mod_ext I.mod kb, fun b o e => ?_, by rw [PySem.W.hideAll_size]; exact Nat.le_refl _, funFrames_none I.stack fun L hL => ?_, I.stkFree, I.hok, I.bare⟩⟩
  · have z := inl c hm
    have z1 : keep c = true := by
      show (_ || (X.env.cells.map (·.1)).any fun y => decide (X.env.cells.lookup y = some c)) = true
      have : ((X.env.cells.map (·.1)).any fun y => decide (X.env.cells.lookup y = some c)) = true := List.any_eq_true.mpr ⟨y, List.mem_map.mpr ⟨(y, c), PySem.mem_of_lookup e1, rfl⟩, decide_eq_true e1⟩
      rw [this, Bool.or_true]
    rw [z1] at z; cases z
  · obtain ⟨e1, q⟩ := old b o e
    rcases keepC b q with ⟨u, z⟩ | ⟨y, z⟩
    · exact ⟨e1, (I.bs b u z).2⟩
    · exact ⟨e1, I.freeC y b z⟩
  · cases e : (PySem.W.hideAll s.heap l).get? L with
    | none => rfl
    | some o =>
      obtain ⟨e1, q⟩ := old L o e
      rcases keepC L q with ⟨u, z⟩ | ⟨y, z⟩
      · rw [(I.stack.mem hL).1] at z; cases z
      · rcases List.mem_cons.mp (I.stkSub L hL) with z2 | z2
        · exact absurd z2 (I.cne y L z)
        · exact absurd z2 (hf y L z)
theorem cells_own (hfn : ∀ x, X.fn x = true) (I : Inv X pins σ H s) : ∀ y c, X.env.cells.lookup y = some c → c ∉ X.fs := fun y c e hm => by
  obtain ⟨_, o, ho, _⟩ := I.ok.funs.mem hm
  exact absurd (Heap.lt_size ho) (Nat.not_lt.mpr (I.ok.cab y c (hfn y) e))
end
abbrev envL (F : LF) (f L : Addr) : Env := PySem.W.envX F.qual F.scope L f (.ref F.c) F.cl
def lcx (P : Program) (w : World) (K : PySem.W.Frag) (mg : Str → Option Value) (base : Heap) (N : List Str) (F : LF) (f : Addr) (A : Around) (outer : List Env) (s : Shared) (H : Hp) (E : XK) : Cx where
  prog := P
  w := w
  K := K
  mg := mg
  base := base
  A := A.deeper (envL F f s.heap.objs.size)
  N := N
  s_0 := s
  H_0 := H
  env := envL F f s.heap.objs.size
  outer := outer
  stack := envL F f s.heap.objs.size :: outer
  ex := []
  calm := true
  fn := fun _ => false
  pn := []
  xe := fun e s' => wpAny (model P w) (A.deeper (envL F f s.heap.objs.size)) (leaving (envL F f s.heap.objs.size) e) (fun _ s'' => L2.CX P w outer H s E e s'') (fun e' s'' => L2.CX P w outer H s E e' s'') s'
def lscB (ps : List Str) (sc : Scope) : Bool := decide (sc.kind = .function) && !sc.isCoroutine && !sc.isGenerator && sc.names.all (fun y => !decide (y.2 = .cell)) && ps.all fun x => decide (sc.names.lookup x = some .local)
theorem lscope_by {ps : List Str} {sc : Scope} (h : lscB ps sc = true) : LScope ps sc := by
  unfold lscB at h
  simp only [Bool.and_eq_true, Bool.not_eq_true', decide_eq_true_eq, List.all_eq_true, decide_eq_false_iff_not] at h
  obtain ⟨⟨⟨⟨h1, h2⟩, h3⟩, h4⟩, h5⟩ := h
  exact ⟨h1, h2, h3, h4, h5⟩
def seen (N : List Str) (sc : Scope) (σ : List (Option α)) : List (Option α) := (N.zip σ).map fun q => if sc.names.lookup q.1 = some .free then q.2 else none
theorem seen_len {N : List Str} {sc : Scope} {σ : List (Option α)} (h : σ.length = N.length) : (seen N sc σ).length = N.length := by
  unfold seen
  rw [List.length_map, List.length_zip, h, Nat.min_self]
theorem seen_get {N : List Str} {sc : Scope} {σ : List (Option α)} {i : Nat} {v : α} (h : (seen N sc σ)[i]? = some (some v)) : σ[i]? = some (some v) ∧ ∃ y, N[i]? = some y ∧ sc.names.lookup y = some .free := by
  unfold seen at h
  rw [List.getElem?_map] at h
  cases e : (N.zip σ)[i]? with
  | none => rw [e] at h; cases h
  | some q =>
    rw [e] at h
    have h' : (if sc.names.lookup q.1 = some .free then q.2 else none) = some v := Option.some.inj h
    obtain ⟨e1, e2⟩ := List.getElem?_zip_eq_some.mp e
    by_cases hq : sc.names.lookup q.1 = some .free
    · rw [if_pos hq] at h'
      exact ⟨by rw [e2, h'], q.1, e1, hq⟩
    · rw [if_neg hq] at h'; cases h'
section
variable {P : Program} {w : World} {K : PySem.W.Frag} {mg : Str → Option Value} {base : Heap} {N ps : List Str} {F : LF} {f : Addr} {A : Around} {outer : List Env} {s : Shared} {H : Hp} {E : XK} {us : List Value} {σ : L2.St}
theorem inv_startL {h₁ : Heap} {tk : Nat} (S : LScope ps F.scope) (hd : A.handled = none) (e0 : Env0 P w K mg base A outer s H) (hns : h₁.Ns s.heap.objs.size fun y => (ps.zip us).reverse.lookup y) (kp : ∀ b o, s.heap.get? b = some o → h₁.get? b = some o)
    (cell : ∀ y c, F.cl.lookup y = some c → ∃ v, base.IsCell c v) (inj : ∀ x y c, F.cl.lookup x = some c → F.cl.lookup y = some c → x = y) (has : ∀ y, F.scope.names.lookup y = some .free → ∃ c, F.cl.lookup y = some c)
    (val : ∀ (i : Nat) y v, N[i]? = some y → σ[i]? = some (some v) → F.scope.names.lookup y = some .free → ∃ c u, F.cl.lookup y = some c ∧ L2.RelV v u ∧ base.IsCell c (some u)) (hl : σ.length = N.length) :
    Inv (lcx P w K mg base N F f A outer s H E) [] (seen N F.scope σ) H { s with heap := h₁, toks := tk } := by
  have noA : ∀ b : Addr, b ∉ (lcx P w K mg base N F f A outer s H E).ex := fun b z => absurd (show b ∈ ([] : List Addr) from z) (by simp)
  have cb : ∀ {c : Addr} {v : Option Value}, base.IsCell c v → h₁.IsCell c v ∧ H c = none := fun {c v} ⟨o, ho, hdt⟩ => ⟨⟨o, kp _ _ (e0.bs c o ho).1, hdt⟩, (e0.bs c o ho).2⟩
  refine ⟨⟨e0.mod, S.kind, rfl, rfl, Nat.le_refl _, inj, fun y hy => ?_, fun y c z _ => ?_, fun _ => hd, Around.frames_deeper e0.frames, .inr ⟨rfl, rfl⟩, fun b z => absurd z (noA b), e0.bs, e0.bsz, fun b _ _ => noA b,
      fun b z => absurd z (noA b), e0.funs, e0.frf⟩,
    rfl, e0.bare, Un.kept kp, ⟨_, hns, fun i y v e1 e2 e3 => ?_⟩, fun y c e => ?_, e0.hok.fresh (Nat.le_refl _), fun y c e => ?_, fun q hq => absurd (show q ∈ ([] : List (Addr × Obj)) ++ [] from hq) (by simp), e0.hok.kept kp, seen_len hl⟩
  · have hy : F.scope.names.lookup y = some .cell ∨ F.scope.names.lookup y = some .free := hy
    rcases hy with hy | hy
    · exact absurd rfl (S.nocell _ (PySem.mem_of_lookup hy))
    · exact has y hy
  · have z : false = true := z
    cases z
  · have e1 : N[i]? = some y := e1
    obtain ⟨e4, y', e5, hf⟩ := seen_get e2
    rw [e1] at e5
    cases e5
    obtain ⟨c, u, h1, h2, h3⟩ := val i y v e1 e4 hf
    exact ⟨u, h2, .inr ⟨.inr hf, c, h1, (cb h3).1⟩⟩
  · obtain ⟨v, z⟩ := cell y c e
    exact ⟨v, (cb z).1⟩
  · obtain ⟨v, z⟩ := cell y c e
    exact (cb z).2
end
end LMX
end
section
namespace DL
open PySem PySem.Spec PyProof.Rows L2 LamX LMX
abbrev spT (T : SpT) : SpD := fun ds Pd x => ds = [] ∧ T Pd x
def ActOk (P : Program) (w : World) (K : PySem.W.Frag) (mg : Str → Option Value) (base : Heap) (S : Sit) (k : Nat) (p : Hp → Addr → Prop) (T : SpT) : Prop :=
  ∀ (G : Hp) (f : Addr), p G f → ∀ (A : Around) (outer : List Env) (s : Shared) (H : Hp) (Q : VK) (E : XK), Env0 P w K mg base A outer s H → (∀ b o, G b = some o → H b = some o) →
    PySem.W.FnAt f s.heap ∧ (Room k A → liftSp K S (spT T) [] H Q E → codeAny (model P w) A (.call (.ref f) ⟨[], []⟩) (CR (L2.CX P w) outer P w H s Q E) s)
def tAct (P : Program) (w : World) (K : PySem.W.Frag) (mg : Str → Option Value) (base : Heap) (S : Sit) (k i : Nat) (E : XK) : TE := fun σ H Q => ∃ (f : Addr) (G : Hp) (p : Hp → Addr → Prop) (T : SpT),
  σ[i]? = some (some (.ref f)) ∧ p G f ∧ (∀ b o, G b = some o → H b = some o) ∧ ActOk P w K mg base S k p T ∧ liftSp K S (spT T) [] H Q E
def dAct (Act : (Hp → Addr → Prop) → SpT → Prop) (i : Nat) (x : XD) : TED := fun ρ P => match ρ[i]? with
  | some (some (.sem p)) => ∃ T, Act p T ∧ T P x
  | _ => False
section
variable {K : PySem.W.Frag} {S : Sit} {c : Cl} {X : Cx} {E : XK} {xd : XD} {k i : Nat} {x : Str} {p1 p2 : Pos} {Act : (Hp → Addr → Prop) → SpT → Prop}
theorem pe_act (hr : Room k X.A) (hx : Passes (L2.CX X.prog X.w) X E) (hN : X.N[i]? = some x) (hv : Vis X.env.scope x) (hd : (x == ("__debug__" : Str)) = false) (hcd : (x == ("__classdict__" : Str)) = false) :
    PE X (.Call (.Name x p1) [] [] p2) (tAct X.prog X.w X.K X.mg X.base S k i E) := by
  refine ⟨fun pins s σ H Q I h => ?_⟩
  obtain ⟨f, G, p, T, hs, hp, hG, hA, hq⟩ := h
  refine wpAny_Call_Name_kw (thn ((pe_var (pos := p1) hN hv hd hcd).run pins s σ H (fun v H1 => v = .ref f ∧ H1 = H) I ⟨.ref f, hs, rfl, rfl⟩) fun u s1 ⟨v, H1, I1, r1, q1⟩ => ?_)
  obtain ⟨ev, eH⟩ := q1
  subst ev
  rw [eH] at I1
  obtain rfl : u = Value.ref f := r1
  obtain ⟨fa, run⟩ := hA G f hp X.A X.stack s1 H Q E I1.env0 hG
  refine PySem.W.callWith_F0 (first := []) fa ?_
  show wpAny _ _ (call (.ref f) []) _ _ _
  refine wpAny_call (codeAny_mono (run hr hq) fun r s' hq' => ?_)
  cases r with
  | error e => exact hx pins σ H s1 e s' I1 hq'
  | ok fl =>
    cases fl with
    | ret u => exact I1.after hq'
    | next => exact False.elim hq'
    | brk => exact False.elim hq'
    | cont => exact False.elim hq'
theorem we_actv (hE : XOk K S c E xd) (hA : ∀ p T, Act p T → ActOk X.prog X.w X.K X.mg X.base S k p T) (hK : X.K = K) : WE K S c (tAct X.prog X.w X.K X.mg X.base S k i E) (dAct Act i xd) := by
  subst hK
  intro Z σ H ρ P rv h Q q
  unfold dAct at h
  split at h
  · rename_i p e
    obtain ⟨v, e1, r⟩ := rv.sl i _ e rfl
    unfold Rep at r
    obtain ⟨f, G, rfl, hG, hp⟩ := r
    obtain ⟨T, ha, ht⟩ := h
    refine ⟨f, G, p, T, e1, hp, fun b o z => hide_ex b o (hG b o z), hA p T ha, Z, [], P, xd, rv.wd, RepL.nil, ⟨rfl, ht⟩, q, hE.at rv⟩
  · exact h.elim
theorem de_actv (i : Nat) (hK : X.K = K) (hr : Room k X.A) (hx : Passes (L2.CX X.prog X.w) X E) (hE : XOk K S c E xd) (hA : ∀ p T, Act p T → ActOk X.prog X.w X.K X.mg X.base S k p T) (hN : X.N[i]? = some x := by rfl)
    (hv : Vis X.env.scope x := by first | exact Or.inl rfl | exact Or.inr (Or.inl rfl) | exact Or.inr (Or.inr rfl)) (hd : (x == ("__debug__" : Str)) = false := by decide) (hcd : (x == ("__classdict__" : Str)) = false := by decide) :
    DE K S c X (.Call (.Name x p1) [] [] p2) (tAct X.prog X.w X.K X.mg X.base S k i E) (dAct Act i xd) := ⟨pe_act hr hx hN hv hd hcd, we_actv hE hA hK⟩
end
def BindsL (params : Arguments) (ps : List Str) (hasD : Bool) : Prop :=
  (hasD = false ∧ ps = [] ∧ ∀ (qual : Str) (body : Expr) (scope : Scope) (cl : List (Str × Addr)) (pm cv ctv : Value), bindArgs (fdL qual params body scope cl .none pm cv ctv) ⟨[], []⟩ = pure []) ∨
  (hasD = true ∧ ∃ x, ps = [x] ∧ ∀ (qual : Str) (body : Expr) (scope : Scope) (cl : List (Str × Addr)) (t : Addr) (pm cv ctv : Value), ∃ k : Option (Array Value) → Sem (List (Str × Value)),
    bindArgs (fdL qual params body scope cl (.ref t) pm cv ctv) ⟨[], []⟩ = seqItems? (.ref t) >>= k ∧ ∀ v : Value, k (some #[v]) = pure [(x, v)])
section
variable {P : Program} {w : World} {K : PySem.W.Frag} {mg : Str → Option Value} {S : Sit} {c : Cl} {X : Cx}
theorem act_ok {pins : List (Addr × Obj)} {σ : L2.St} {H : Hp} {s : Shared} {ρ : EnvD} {Z : Addr → Prop} {B : Heap} {params : Arguments} {body : Expr} {scope : Scope} {ps : List Str} {hasD : Bool} {k : Nat} {t : XD → TED}
    (I : Inv X pins σ H s) (rv : RV K S c Z σ H ρ) (hK : X.K = K) (hC : CellsIn X s.heap B) (L : LScope ps scope) (hfree : ∀ y ∈ scope.names, y.2 = .free → X.env.scope.names.lookup y.1 = some .cell ∨ X.env.scope.names.lookup y.1 = some .free) (hb : BindsL params ps hasD)
    (hbody : ∀ (c' : Cl) (F : LF) (f : Addr) (A : Around) (outer : List Env) (s : Shared) (H' : Hp) (E : XK), F.scope = scope → Room k (A.deeper (envL F f s.heap.objs.size)) → c'.E = E → XFit K { S with Hs := hide H Z } c' →
      ∃ te, DE K { S with Hs := hide H Z } c' (lcx X.prog X.w K X.mg B X.N F f A outer s H' E) body te (t c'.x)) :
    ActOk X.prog X.w K X.mg B { S with Hs := hide H Z } (k + 1) (LamAt (X.env.qual ++ "<lambda>") params body scope (cloFrom X.env.cells scope.names []) hasD) (fun Pd x => t x (seen X.N scope ρ) Pd) := by
  subst hK
  intro G f hp A outer s1 HZ Q E e0 hG
  obtain ⟨c', dv, h1, h2, h3, h4⟩ := hp
  obtain ⟨od, sl, pm, ctv, ho⟩ := lamO_at e0.hok (hG _ _ h1)
  refine ⟨⟨_, _, _, _, ho⟩, fun hr hsp => ?_⟩
  obtain ⟨Z1, ds, Pd, x, w1, r1, ⟨rfl, ht⟩, hq, hx⟩ := hsp
  have lim : s1.heap.NoLimit := e0.mod.nolimit.keeps fun b o e => (e0.bs b o e).1
  have hfr : ∀ y ∈ scope.names, y.2 = .free → ∃ c, X.env.cells.lookup y.1 = some c := fun y hy e => (hfree y hy e).elim (fun z => I.ok.has _ (.inl z)) fun z => I.ok.has _ (.inr z)
  have cm : ∀ {y : Str} {a : Addr}, (cloFrom X.env.cells scope.names []).lookup y = some a → X.env.cells.lookup y = some a := fun {y a} e => NdefX.clo_cm hfr e
  have cellB : ∀ {a : Addr} {v : Option Value} {y : Str}, X.env.cells.lookup y = some a → s.heap.IsCell a v → B.IsCell a v := fun {a v y} e ⟨o, ho, hdt⟩ => ⟨o, hC y a o e ho, hdt⟩
  obtain ⟨m, hn, hl⟩ := I.loc
  -- the frame's start
  have start : ∀ (us : List Value) (h₁ : Heap) (tk : Nat), (h₁.Ns s1.heap.objs.size fun y => (ps.zip us).reverse.lookup y) → (∀ b o, s1.heap.get? b = some o → h₁.get? b = some o) →
      Inv (lcx X.prog X.w X.K X.mg B X.N ⟨X.env.qual ++ "<lambda>", params, body, scope, cloFrom X.env.cells scope.names [], c', dv⟩ f A outer s1 HZ E) [] (seen X.N scope σ) HZ { s1 with heap := h₁, toks := tk } := fun us h₁ tk hns kp => by
    refine inv_startL (F := ⟨X.env.qual ++ "<lambda>", params, body, scope, cloFrom X.env.cells scope.names [], c', dv⟩) (us := us) L hr.hd e0 hns kp (fun y a e => ?_) (fun y z a e1 e2 => I.ok.inj y z a (cm e1) (cm e2)) (fun y hy => ?_) (fun i y v e1 e2 hf => ?_) I.len
    · obtain ⟨v, z⟩ := I.cell y a (cm e)
      exact ⟨v, cellB (cm e) z⟩
    · obtain ⟨a, ha⟩ := hfr _ (PySem.mem_of_lookup hy) rfl
      exact ⟨a, NdefX.clo_has hfr (PySem.mem_of_lookup hy) ha⟩
    · obtain ⟨a, ha⟩ := hfr _ (PySem.mem_of_lookup hf) rfl
      have k := hfree _ (PySem.mem_of_lookup hf) rfl
      obtain ⟨u, r, q⟩ := hl i y v e1 e2 (k.elim (fun z => .inr (.inl z)) fun z => .inr (.inr z))
      rcases q with ⟨z, _⟩ | ⟨_, a2, h2, h3⟩
      · have z : X.env.scope.names.lookup y = some .local := z
        rcases k with k | k <;> rw [show X.env.scope.names.lookup y = _ from k] at z <;> cases z
      · exact ⟨a2, u, NdefX.clo_has hfr (PySem.mem_of_lookup hf) h2, r, cellB h2 h3⟩
  -- the deep start
  have exZ : Ex (hide H Z) (hide HZ Z1) := fun a o e => by
    obtain ⟨k1, k2⟩ := w1.base a o e
    exact hide_some.mpr ⟨k2, k1⟩
  have rv1 : RV X.K { S with Hs := hide H Z } ⟨Z1, HZ, E, x⟩ Z1 (seen X.N scope σ) HZ (seen X.N scope ρ) := by
    have hlen : ρ.length = X.N.length := rv.len.symm.trans I.len
    refine ⟨w1, Kp.refl HZ, fun _ z => z, (seen_len I.len).trans (seen_len hlen).symm, fun i d e no => ?_⟩
    obtain ⟨e4, y, e5, hf⟩ := seen_get e
    obtain ⟨v, e6, q⟩ := rv.sl i d e4 no
    refine ⟨v, ?_, Rep.mono exZ d v q⟩
    unfold LMX.seen
    have ez : (X.N.zip σ)[i]? = some (y, some v) := List.getElem?_zip_eq_some.mpr ⟨e5, e6⟩
    rw [List.getElem?_map, ez]
    show some (if scope.names.lookup y = some .free then some v else none) = _
    rw [if_pos hf]
  have fit : XFit X.K { S with Hs := hide H Z } ⟨Z1, HZ, E, x⟩ := fun cls dd H' fs k i xr h => hx cls dd H' fs k i xr h
  obtain ⟨te, de⟩ := hbody ⟨Z1, HZ, E, x⟩ ⟨X.env.qual ++ "<lambda>", params, body, scope, cloFrom X.env.cells scope.names [], c', dv⟩ f A outer s1 HZ E rfl (hr.deeper _) rfl fit
  have hte := de.we Z1 _ HZ _ Pd rv1 ht Q hq
  have bodyrun : ∀ (us : List Value) (h₁ : Heap) (tk : Nat), (h₁.Ns s1.heap.objs.size fun y => (ps.zip us).reverse.lookup y) → (∀ b o, s1.heap.get? b = some o → h₁.get? b = some o) →
      codeAny (model X.prog X.w) A (.expr body (envL ⟨X.env.qual ++ "<lambda>", params, body, scope, cloFrom X.env.cells scope.names [], c', dv⟩ f s1.heap.objs.size)) (CR (L2.CX X.prog X.w) outer X.prog X.w HZ s1 Q E) { s1 with heap := h₁, toks := tk } := fun us h₁ tk hns kp => by
    refine PySem.W.kla_codeExpr (wpAny_mono (de.pe.run [] _ _ HZ Q (start us h₁ tk hns kp) hte) (fun v s' hq' => ?_) fun e s' hq' => hq')
    obtain ⟨w', H', J, rv', q'⟩ := hq'
    exact ⟨w', H', J.os, J.bare, J.base, J.hok, rv', q'⟩
  refine PySem.W.kla_callFunE hr.depth ho rfl L.co L.gen rfl (NdefX.codeO_at e0.hok (hG _ _ h2)) ?_
  rcases hb with ⟨hd, rfl, hb⟩ | ⟨hd, xn, rfl, hb⟩
  · rw [hd] at h3
    obtain rfl : dv = none := by
      cases dv with
      | none => rfl
      | some t => cases h3
    show wpAny _ _ (bindArgs (fdL _ params body scope _ .none pm (.ref c') ctv) ⟨[], []⟩) _ _ _
    rw [hb]
    exact wpAny_pure (wpAny_newFunctionEnv L.nocell (fun y hy => absurd hy (by simp)) (fun h₁ hns hsb => ⟨lim.fresh _ hsb, bodyrun [] h₁ _ hns fun b o e => hsb.extBut b o (Nat.ne_of_lt (Heap.lt_size e)) (Heap.get?_push_of_some _ e)⟩) L.kind)
  · rw [hd] at h3
    obtain ⟨t, rfl⟩ : ∃ t, dv = some t := by
      cases dv with
      | none => cases h3
      | some t => exact ⟨t, rfl⟩
    have htup := hG _ _ (h4 t rfl)
    obtain ⟨_, its, rvs, oT, eT, dT⟩ := e0.hok t _ htup
    obtain ⟨u, rfl, _⟩ : ∃ u, its = [u] ∧ L2.RelV (.int 0) u := by
      cases rvs with
      | cons r rr => cases rr; exact ⟨_, rfl, r⟩
    obtain ⟨kk, e1, e2⟩ := hb (X.env.qual ++ "<lambda>") body scope (cloFrom X.env.cells scope.names []) t pm (.ref c') ctv
    show wpAny _ _ (bindArgs (fdL _ params body scope _ (.ref t) pm (.ref c') ctv) ⟨[], []⟩) _ _ _
    rw [e1]
    refine wpAny_bind (wpAny_seqItems eT dT.2.choose_spec ?_)
    rw [e2]
    refine wpAny_pure (wpAny_newFunctionEnv L.nocell (fun y hy => ?_) (fun h₁ hns hsb => ⟨lim.fresh _ hsb, bodyrun [u] h₁ _ hns fun b o e => hsb.extBut b o (Nat.ne_of_lt (Heap.lt_size e)) (Heap.get?_push_of_some _ e)⟩) L.kind)
    rw [List.mem_singleton] at hy
    subst hy
    exact L.par _ List.mem_cons_self
end
end DL
end
section
namespace DL
open PySem PySem.Spec PyProof.Rows L2 LamX LMX
def maskD (m : List Bool) (ρ : EnvD) : EnvD := (m.zip ρ).map fun q => if q.1 then q.2 else none
theorem mask_eq {N : List Str} {sc : Scope} {m : List Bool} {ρ : EnvD} (h : N.map (fun y => decide (sc.names.lookup y = some .free)) = m) : LMX.seen N sc ρ = maskD m ρ := by
  subst h
  unfold LMX.seen maskD
  rw [List.zip_map_left, List.map_map]
  refine List.map_congr_left fun q _ => ?_
  show (if sc.names.lookup q.1 = some .free then q.2 else none) = if decide (sc.names.lookup q.1 = some .free) = true then q.2 else none
  by_cases hq : sc.names.lookup q.1 = some .free
  · rw [if_pos hq, if_pos (decide_eq_true hq)]
  · rw [if_neg hq, if_neg (by simpa using hq)]
def LamOk (K : PySem.W.Frag) (S : Sit) (c : Cl) (X : Cx) (k : Nat) (O : Hp → Addr → Prop) (t : XD → TED) (m : List Bool) : Prop :=
  ∀ (pins : List (Addr × Obj)) (s1 : Shared) (H1 : Hp) (Z : Addr → Prop) (σ : L2.St) (ρ : EnvD) (B : Heap), Inv X pins σ H1 s1 → RV K S c Z σ H1 ρ → CellsIn X s1.heap B →
    ActOk X.prog X.w K X.mg B { S with Hs := hide H1 Z } k O (fun P x => t x (maskD m ρ) P)
section
variable {K : PySem.W.Frag} {S : Sit} {c : Cl} {X : Cx}
theorem lam_ok {params : Arguments} {body : Expr} {scope : Scope} {ps : List Str} {hasD : Bool} {k : Nat} {t : XD → TED} {m : List Bool} {SF : Hp → Sit} (hSF : ∀ Hs, ({ S with Hs := Hs } : Sit) = SF Hs) (hK : X.K = K) (L : LScope ps scope) (hfree : ∀ y ∈ scope.names, y.2 = .free → X.env.scope.names.lookup y.1 = some .cell ∨ X.env.scope.names.lookup y.1 = some .free)
    (hb : BindsL params ps hasD) (hm : X.N.map (fun y => decide (scope.names.lookup y = some .free)) = m)
    (hbody : ∀ (Hs : Hp) (B : Heap) (c' : Cl) (F : LF) (f : Addr) (A : Around) (outer : List Env) (s : Shared) (H' : Hp) (E : XK), F.scope = scope → Room k (A.deeper (envL F f s.heap.objs.size)) → c'.E = E → XFit K (SF Hs) c' →
      ∃ te, DE K (SF Hs) c' (lcx X.prog X.w K X.mg B X.N F f A outer s H' E) body te (t c'.x)) :
    LamOk K S c X (k + 1) (LamAt (X.env.qual ++ "<lambda>") params body scope (cloFrom X.env.cells scope.names []) hasD) t m := fun pins s1 H1 Z σ ρ B I rv hC => by
  have q := act_ok (B := B) (ps := ps) (k := k) (t := t) I rv hK hC L hfree hb fun c' F f A outer s H' E e hr eE fit => by
    have z := hbody (hide H1 Z) B c' F f A outer s H' E e hr eE
    rw [← hSF] at z
    exact z fit
  rw [mask_eq hm] at q
  exact q
def tCallA (X : Cx) (k : Nat) (spA : ActT → SpD) (E : XK) (t : TA) : TE := fun σ H Q => t σ H fun vs H1 => ∀ (pins : List (Addr × Obj)) (s1 : Shared) (B : Heap), Inv X pins σ H1 s1 → CellsIn X s1.heap B →
  ∃ S' : Sit, liftSp X.K S' (spA (ActOk X.prog X.w X.K X.mg B S' k)) vs H1 Q E
def dCallA (spA : ActT → SpD) (tab : List ((Hp → Addr → Prop) × (XD → TED) × List Bool)) (xd : XD) (as : TAD) : TED := fun ρ P => as ρ fun ds => ∀ Act : ActT, (∀ q ∈ tab, Act q.1 fun P x => q.2.1 x (maskD q.2.2 ρ) P) → spA Act ds P xd
variable {CX : CXT} {k j : Nat} {g : Addr} {fd : FuncData} {ps : List Str} {spA : ActT → SpD} {E : XK} {xd : XD} {x : Str} {p pos : Pos} {e : Expr} {es : List Expr} {ts : TA} {as : TAD} {tab : List ((Hp → Addr → Prop) × (XD → TED) × List Bool)}
theorem pe_callA (F : ∀ (B : Heap) (S : Sit), FnOk X.prog X.w X.K X.mg B CX j g fd ps (liftSp X.K S (spA (ActOk X.prog X.w X.K X.mg B S k)))) (hr : Room j X.A) (hg : Gl X x) (hm : X.mg x = some (.ref g)) (hk : PySem.W.keepIn X.K (.ref g) = true) (hb : L2.Binds X.K fd ps [])
    (hx : Passes CX X E) (hcf : ∀ (pins : List (Addr × Obj)) (σ : L2.St) (H : Hp) (s : Shared), Inv X pins σ H s → ∀ y c, X.env.cells.lookup y = some c → c ∉ X.fs) (ha : PA X (e :: es) ts)
    (hdb : (x == ("__debug__" : Str)) = false := by decide) (he : starEach (e :: es) X.env = (false, eval e X.env) :: starEach es X.env := by rfl) (hpl : (backTo pos (starEach es X.env)).any (·.1) = false := by rfl) :
    PE X (.Call (.Name x p) (e :: es) [] pos) (tCallA X k spA E ts) := by
  refine ⟨fun pins s σ H Q I h => ?_⟩
  refine wpAny_Call_Name_kw (ld_glob I hg hm ?_ hdb)
  refine PySem.W.callWith_K (h₀ := X.base) I.ok.mod.kin hk (thn (ha.run pos pins s σ H _ I h) fun us s1 ⟨vs, H1, I1, r, q⟩ => ⟨I1.kIn, ?_⟩) he hpl
  obtain ⟨B, _, hC, e0⟩ := base_cells I1 (hcf pins σ H1 s1 I1)
  obtain ⟨S', hsp⟩ := q pins s1 B I1 hC
  show wpAny _ _ (call (.ref g) us) _ _ _
  have hl : us.length = ps.length := by rw [← r.length]; exact (F B S').len _ _ _ _ hsp
  have hbs := hb s1 us I1.kIn (by rw [List.append_nil]; exact hl)
  rw [List.append_nil] at hbs
  refine wpAny_call (codeAny_mono ((F B S').run X.A X.stack s1 H1 ⟨us, []⟩ us vs Q E hr e0 hbs r hsp) fun r s' hq => ?_)
  cases r with
  | error er => exact hx pins σ H1 s1 er s' I1 hq
  | ok fl =>
    cases fl with
    | ret u => exact I1.after hq
    | next => exact False.elim hq
    | brk => exact False.elim hq
    | cont => exact False.elim hq
theorem we_callA (hK : X.K = K) (hE : XOk K S c E xd) (hT : ∀ q ∈ tab, LamOk K S c X k q.1 q.2.1 q.2.2) (hs : WA K S c ts as) : WE K S c (tCallA X k spA E ts) (dCallA spA tab xd as) := by
  subst hK
  intro Z σ H ρ P rv h Q q
  refine hs Z σ H ρ _ rv h _ fun vs H1 ds k1 iv r hd => ?_
  have rv1 := rv.step k1 iv
  intro pins s1 B I hC
  refine ⟨{ S with Hs := hide H1 Z }, Z, ds, P, xd, ⟨fun b o e => (hide_some.mp e).symm, rv1.wd.wz, rv1.wd.zin, rv1.wd.zx, rv1.wd.inv⟩, r, hd _ fun q hq => hT q hq pins s1 H1 Z σ ρ B I rv1 hC, fun v H' d k' i' r' h' => q v H' d (k1.trans k') i' r' h', fun cls dd H' fs k' i' xr hx => hE.at rv1 cls dd H' fs k' i' xr hx⟩
theorem de_callA (hK : X.K = K) (F : ∀ (B : Heap) (S : Sit), FnOk X.prog X.w X.K X.mg B CX0 j g fd ps (liftSp X.K S (spA (ActOk X.prog X.w X.K X.mg B S k)))) (hr : Room j X.A) (hm : X.mg x = some (.ref g)) (hk : PySem.W.keepIn X.K (.ref g) = true) (hb : L2.Binds X.K fd ps [])
    (hfn : ∀ y, X.fn y = true) (hT : ∀ q ∈ tab, LamOk K S c X k q.1 q.2.1 q.2.2) (hs : DA K S c X (e :: es) ts as) (hg : Gl X x := by rfl) (hdb : (x == ("__debug__" : Str)) = false := by decide)
    (he : starEach (e :: es) X.env = (false, eval e X.env) :: starEach es X.env := by rfl) (hpl : (backTo pos (starEach es X.env)).any (·.1) = false := by rfl) :
    DE K S c X (.Call (.Name x p) (e :: es) [] pos) (tCallA X k spA E0 ts) (dCallA spA tab x0 as) :=
  ⟨pe_callA F hr hg hm hk hb passE0 (fun pins σ H s I => cells_own hfn I) hs.pa hdb he hpl, we_callA hK xok0 hT hs.wa⟩
def dLam (O : Hp → Addr → Prop) : TED := fun _ P => P (.sem O)
def VisO (O : Hp → Addr → Prop) : Prop := ∀ (H1 : Hp) (Z : Addr → Prop) (f : Addr), O H1 f → (∀ a o, Z a → H1 a = some o → isX o = false) → O (hide H1 Z) f
theorem lamAt_vis {qual : Str} {params : Arguments} {body : Expr} {scope : Scope} {cl : List (Str × Addr)} {hasD : Bool} : VisO (LamAt qual params body scope cl hasD) := by
  rintro H1 Z f ⟨c', dv, h1, h2, h3, h4⟩ zx
  refine ⟨c', dv, hide_some.mpr ⟨fun z => ?_, h1⟩, hide_some.mpr ⟨fun z => ?_, h2⟩, h3, fun t ht => hide_some.mpr ⟨fun z => ?_, h4 t ht⟩⟩
  · have q := zx f _ z h1
    cases q
  · have q := zx c' _ z h2
    cases q
  · have q := zx t _ z (h4 t ht)
    cases q
theorem we_lam {P : Addr} {q : Str} {T : List (Addr × Str)} {O : Hp → Addr → Prop} (hS : TabIn S T) (hm : (P, q) ∈ T) (hO : VisO O) : WE K S c (tLamV P q O) (dLam O) := by
  intro Z σ H ρ Pd rv h Q qk
  refine ⟨hS.i H rv.wd.inv _ hm, fun f H1 e1 t1 f0 hOf => ?_⟩
  have wP : S.W P := hS.w _ hm
  have k1 : Kp S H H1 := fun b o e n => e1 b o (fun z => n (by rw [z]; exact wP)) e
  have i1 := hS.put H H1 P q hm rv.wd.inv e1 t1
  have w1 := rv.wd.step k1 i1
  refine qk _ H1 (.sem O) k1 i1 ?_ h
  unfold Rep
  refine ⟨f, hide H1 Z, rfl, fun b o e => e, hO H1 Z f hOf w1.zx⟩
end
end DL
end
section
namespace DL
open PySem PySem.Spec PyProof.Rows L2 LamX LMX
theorem noTab_rn {Hs : Hp} {l : Addr} : NoTab (RnSit Hs l) := fun H a ps ⟨xs, e, _⟩ w h => by
  have w : a = l := w
  rw [w, e] at h; cases h
theorem tab_in {S : Sit} {T : List (Addr × Str)} (nt : NoTab S) (hu : ∀ p ∈ T, ∀ q ∈ T, p.1 = q.1 → p.2 = q.2) : TabIn (tabSit S T) T where
  w := fun p hp => .inr ⟨p.2, hp⟩
  i := fun H h => h.2
  put := fun H H' P q hm ⟨i, t⟩ k tP => by
    obtain ⟨ps, hP, _, _⟩ := t _ hm
    have hP : H P = some (.tbl ps) := hP
    refine ⟨S.stab H H' (fun a o e w => k a o (fun z => ?_) e) i, fun p hp => ?_⟩
    · rcases w with w | w
      · exact nt H a ps i w (by rw [z]; exact hP)
      · rw [z, hP] at e
        cases e
        cases w
    · by_cases hb : p.1 = P
      · rw [hb, hu p hp (P, q) hm hb]
        exact tP
      · obtain ⟨qs, h1, h2, h3⟩ := t p hp
        refine ⟨qs, k _ _ hb h1, h2, fun pos cv hc => ?_⟩
        obtain ⟨c, e1, e2⟩ := h3 pos cv hc
        exact ⟨c, e1, k _ _ (fun z => by rw [z, hP] at e2; exact codeO_ne ps (Option.some.inj e2).symm) e2⟩
section
variable {P : Program} {w : World} {K : PySem.W.Frag} {mg : Str → Option Value} {base : Heap} {CX : CXT} {k : Nat} {f : Addr} {fd : FuncData} {ps : List Str} {S : Sit} {T : List (Addr × Str)}
end
def CodeAt (K : PySem.W.Frag) (f c : Addr) : Prop := ∀ (oc : Value) (od : Option Addr) (fd : FuncData) (osl : Array (Option Value)), K.lookup f = some ⟨oc, od, .func fd, osl⟩ → fd.code = .ref c
def spLawT (K : PySem.W.Frag) (n : Nat) (T : List (Addr × Str)) : Sp := fun vs H Q _ => ∃ (a : Addr) (ns : List Int), vs = [.ref a] ∧ SqL K H a (ns.map V.int) ∧ ns.length ≤ n ∧ (∀ p ∈ T, H p.1 = some (.tbl #[])) ∧ ∀ H', Q (.bl true) H'
open Classical in
noncomputable def cutT (T : List (Addr × Str)) (H : Hp) : Hp := fun b => if ∃ q, (b, q) ∈ T then none else H b
theorem cutT_some {T : List (Addr × Str)} {H : Hp} {b : Addr} {o : HO} (h : cutT T H b = some o) : H b = some o ∧ ¬ ∃ q, (b, q) ∈ T := by
  unfold cutT at h
  by_cases e : ∃ q, (b, q) ∈ T
  · rw [if_pos e] at h; cases h
  · rw [if_neg e] at h; exact ⟨h, e⟩
theorem law_deepRT {P : Program} {w : World} {K : PySem.W.Frag} {mg : Str → Option Value} {base : Heap} {qual x : Str} {st s1 : Stmt} {rest : List Stmt} {f c0 : Addr} {fd : FuncData} {N' : List Str} {k : Nat} {salt : Int} {T : List (Addr × Str)} {tD : (Nat → Hp → Addr → Prop) → Addr → TSD} (F : Fun K x qual st f fd)
    (sc : FnScope ("_law_script" :: "_law_d" :: N') ["_law_script"] (defScope st)) (hb : defBody st = s1 :: rest) (hsalt : 0 ≤ salt) (cd : CodeAt K f c0)
    (h1 : ∀ (A : Around) (outer : List Env) (s : Shared) (H : Hp) (E : XK), Room k (A.deeper (envOfC qual (defScope st) s.heap.objs.size f (.ref c0))) → PS (cxOf CX0 P w K mg base ("_law_script" :: "_law_d" :: N') qual (defScope st) f (.ref c0) A outer s H E).nox s1 (tAsg (tCall (spRandom K) [] E0 (tCons (tVar 0) (tCons (tC (.int salt)) tNil))) (gName 1)))
    (h2 : ∀ (c : Cl) (Hs : Hp) (l : Addr), ∀ (A : Around) (outer : List Env) (s : Shared) (H : Hp) (E : XK), Room k (A.deeper (envOfC qual (defScope st) s.heap.objs.size f (.ref c0))) →
      ∃ (O : Nat → Hp → Addr → Prop) (ts : TS), DSs K (tabSit (RnSit Hs l) T) c (cxOf CX0 P w K mg base ("_law_script" :: "_law_d" :: N') qual (defScope st) f (.ref c0) A outer s H E).nox rest ts (tD O l))
    (hpure : ∀ O a l, tD O l { nx := fun _ => False, rt := fun d => d = .bl true } (some (.adr a) :: some (.adr l) :: List.replicate N'.length none)) : FnOk P w K mg base CX0 (k + 1) f fd ["_law_script"] (spLawT K 63 T) := by
  obtain ⟨oc, od, kV, doc, pm, an, cdv, ct, osl, rfl, lk, hcd⟩ := F.ex
  obtain rfl : cdv = .ref c0 := cd oc od _ osl lk
  refine fn_of lk hcd sc (fun vs H Q E h => ?_) fun A outer s H vs Q E hr h => ?_
  · obtain ⟨a, ns, rfl, _⟩ := h
    rfl
  · obtain ⟨a, ns, rfl, hS, hn, hT, q⟩ := h
    have g : ∀ i : Cl × Hp × Addr, ∃ (Ots : (Nat → Hp → Addr → Prop) × TS), DSs K (tabSit (RnSit i.2.1 i.2.2) T) i.1 (cxOf CX0 P w K mg base ("_law_script" :: "_law_d" :: N') qual (defScope st) f (.ref c0) A outer s H E).nox rest Ots.2 (tD Ots.1 i.2.2) := fun i => by
      obtain ⟨O, ts, d⟩ := h2 i.1 i.2.1 i.2.2 A outer s H E hr
      exact ⟨(O, ts), d⟩
    refine ⟨_, by rw [hb]; exact (pss_cons (h1 A outer s H E hr) (pss_ex fun i => (g i).choose_spec.pss)).nox, ?_⟩
    refine ⟨.ref a, rfl, a, ns, salt, rfl, hS, hn, hsalt, fun H' l xs hx hl0 hl x2 xz x0 => ?_⟩
    let Z0 : Addr → Prop := fun b => b = l ∨ ∃ q, (b, q) ∈ T
    let c : Cl := ⟨Z0, H', E, DL.x0⟩
    refine ⟨⟨c, cutT T H, l⟩, ?_⟩
    have nz : ∀ {o : HO} {b : Addr}, H b = some o → b ≠ l := fun {o b} e q => by rw [q, hl0] at e; cases e
    have inv : (tabSit (RnSit (cutT T H) l) T).I H' := ⟨⟨xs, hl, x2, xz, x0⟩, fun p hp => TabS.nil (hx _ _ (hT p hp))⟩
    have wd : Wd (tabSit (RnSit (cutT T H) l) T) Z0 H' := by
      refine ⟨fun b o e => ?_, fun _ e => e, fun b e => (tabSit (RnSit (cutT T H) l) T).there H' b inv e, fun b o e h => (tabSit (RnSit (cutT T H) l) T).nox H' b o inv e h, inv⟩
      obtain ⟨e1, e2⟩ := cutT_some e
      exact ⟨hx b o e1, fun z => z.elim (nz e1) e2⟩
    have rv : RV K (tabSit (RnSit (cutT T H) l) T) c Z0 ([some (.ref a), some (.ref l)] ++ List.replicate N'.length none) H' (some (.adr a) :: some (.adr l) :: List.replicate N'.length none) := by
      refine ⟨wd, Kp.refl _, fun _ e => e, by simp, fun i d h n => ?_⟩
      match i, h with
      | 0, h => cases h; exact ⟨.ref a, rfl, by unfold Rep; rfl⟩
      | 1, h => cases h; exact ⟨.ref l, rfl, by unfold Rep; rfl⟩
      | i + 2, h =>
        have h' : (List.replicate N'.length (none : Option D))[i]? = some (some d) := h
        have := List.mem_of_getElem? h'
        rw [List.mem_replicate] at this
        exact nomatch this.2
    have noOwn : ∀ (i : Nat) d, (some (D.adr a) :: some (D.adr l) :: List.replicate N'.length none)[i]? = some (some d) → d.isOwn = true → False := fun i d h o => by
      match i, h with
      | 0, h => cases h; cases o
      | 1, h => cases h; cases o
      | i + 2, h =>
        have h' : (List.replicate N'.length (none : Option D))[i]? = some (some d) := h
        have := List.mem_of_getElem? h'
        rw [List.mem_replicate] at this
        exact nomatch this.2
    have rz : RZ K (tabSit (RnSit (cutT T H) l) T) c (fun _ => none) Z0 ([some (.ref a), some (.ref l)] ++ List.replicate N'.length none) H' (some (.adr a) :: some (.adr l) :: List.replicate N'.length none) :=
      ⟨rv, wd, (fun _ _ h => nomatch h), fun _ => [], (fun i d h o => (noOwn i d h o).elim), (fun i j d e a h o _ _ _ _ => (noOwn i d h o).elim)⟩
    have hσ : (L2.start ("_law_script" :: "_law_d" :: N') [.ref a]).set 1 (some (.ref l)) = [some (.ref a), some (.ref l)] ++ List.replicate N'.length none := by
      unfold L2.start
      simp [List.replicate_succ]
    show (g ⟨c, cutT T H, l⟩).choose.2 _ ((L2.start ("_law_script" :: "_law_d" :: N') [.ref a]).set 1 (some (.ref l))) _
    rw [hσ]
    exact (g ⟨c, cutT T H, l⟩).choose_spec.ws (fun _ => none) _ _ _ _ _ ⟨_, rz⟩ (hpure _ a l) ⟨fun _ _ _ _ h => h.elim, fun v H' d _ _ r e => by subst e; unfold Rep at r; subst r; exact q H', fun _ _ _ _ h => h.elim, fun _ _ _ _ h => h.elim⟩
end DL
end
section
namespace DL
open PySem PySem.Spec PyProof.Rows L2 LamX LMX
section
variable {K : PySem.W.Frag} {S : Sit} {c : Cl} {X : Cx}
end
section
variable {P : Program} {w : World} {K : PySem.W.Frag} {S : Sit} {mg : Str → Option Value} {base : Heap}
theorem xc_cx {c : Cl} {N : List Str} {qual : Str} {sc : Scope} {f : Addr} {cdv : Value} {A : Around} {outer : List Env} {s : Shared} {H : Hp} {E : XK} (h : XFit K S c) (e : c.E = E) : XC K S c (cxOf (L2.CX P w) P w K mg base N qual sc f cdv A outer s H E) := by
  subst e
  exact ⟨h, takes_of rfl rfl rfl rfl, passes_of rfl⟩
theorem xc_l {c : Cl} {N : List Str} {F : LF} {f : Addr} {A : Around} {outer : List Env} {s : Shared} {H : Hp} {E : XK} (h : XFit K S c) (e : c.E = E) : XC K S c (lcx P w K mg base N F f A outer s H E) := by
  subst e
  exact ⟨h, takes_of rfl rfl rfl rfl, passes_of rfl⟩
theorem fn_deepX {x qual : Str} {st : Stmt} {f : Addr} {fd : FuncData} {N ps : List Str} {k : Nat} {spd : SpD} {tD : XD → TSD} (F : Fun K x qual st f fd) (sc : FnScope N ps (defScope st)) (hlen : ∀ ds P x, spd ds P x → ds.length = ps.length)
    (hpure : ∀ ds P x, spd ds P x → tD x { nx := fun _ => P .non, rt := P } (startD N ds))
    (hbody : ∀ (c : Cl) (cdv : Value) (A : Around) (outer : List Env) (s : Shared) (H : Hp), Room k (A.deeper (envOfC qual (defScope st) s.heap.objs.size f cdv)) → XC K S c (cxOf (L2.CX P w) P w K mg base N qual (defScope st) f cdv A outer s H c.E) →
      ∃ ts, DSs K S c (cxOf (L2.CX P w) P w K mg base N qual (defScope st) f cdv A outer s H c.E) (defBody st) ts (tD c.x)) : FnOk P w K mg base (L2.CX P w) (k + 1) f fd ps (liftSp K S spd) := by
  obtain ⟨oc, od, kV, doc, pm, an, cdv, ct, osl, rfl, lk, hcd⟩ := F.ex
  refine fn_of lk hcd sc (fun vs H Q E h => ?_) fun A outer s H vs Q E hr h => ?_
  · obtain ⟨Z, ds, Pd, x, w, r, hs, _⟩ := h
    rw [← r.len]
    exact hlen ds Pd x hs
  · obtain ⟨Z, ds, Pd, x, w, r, hs, hq, hx⟩ := h
    have fit : XFit K S ⟨Z, H, E, x⟩ := fun cls dd H' fs k i xr h => hx cls dd H' fs k i xr h
    obtain ⟨ts, d⟩ := hbody ⟨Z, H, E, x⟩ cdv A outer s H hr (xc_cx fit rfl)
    exact ⟨ts, d.pss, d.ws (fun _ => none) _ H _ _ _ ⟨Z, rz_start w r⟩ (hpure ds Pd x hs) (fit_of hq)⟩
theorem fit_cut {Z : Addr → Prop} {H : Hp} {p : Addr} {E : XK} {x : XD} (hx : ∀ cls dd H' fs, (∀ b o, H b = some o → b ≠ p → ¬ S.W b → H' b = some o) → S.I H' → XRep K (hide H' (fun a => Z a ∧ a ≠ p)) dd fs → x cls fs → E (.ref cls) dd H') :
    XFit K S ⟨fun a => Z a ∧ a ≠ p, cutP H p, E, x⟩ := fun cls dd H' fs k i xr h => hx cls dd H' fs (fun b o e n nw => k b o (by show cutP H p b = some o; rw [cutP_ne n]; exact e) nw) i xr h
theorem fn_initKX {qual pv kn : Str} {st : Stmt} {f C : Addr} {fd : FuncData} {N : List Str} {k : Nat} {ind : InD} {tD : XD → TSD} (F : Fun K "__init__" qual st f fd) (sc : FnScope N ["self", kn, pv] (defScope st))
    (h0 : ∀ (kV doc pm : Value) (an : Option Addr) (cdv ct a z : Value), bindArgs (PySem.W.fnOf "__init__" qual (defArgs st) (defBody st) (defScope st) .none kV doc pm an cdv ct) ⟨[a], [(kn, z)]⟩ = (newTuple [] >>= fun t => pure [(("self" : Str), a), (kn, z), (pv, t)]))
    (h1 : ∀ (kV doc pm : Value) (an : Option Addr) (cdv ct a z r : Value) (rs : List Value), bindArgs (PySem.W.fnOf "__init__" qual (defArgs st) (defBody st) (defScope st) .none kV doc pm an cdv ct) ⟨a :: r :: rs, [(kn, z)]⟩ = (newTuple (r :: rs) >>= fun t => pure [(("self" : Str), a), (kn, z), (pv, t)]))
    (hpure : ∀ p dx ds Pd x, ind ds Pd x → tD x (InitEnds C p dx Pd) (startD N (.own (.ins C p dx []) [] :: ds)))
    (hbody : ∀ (c : Cl) (cdv : Value) (A : Around) (outer : List PySem.Env) (s : Shared) (H : Hp), Room k (A.deeper (envOfC qual (defScope st) s.heap.objs.size f cdv)) → XC K S c (cxOf (L2.CX P w) P w K mg base N qual (defScope st) f cdv A outer s H c.E) →
      ∃ ts, DSs K S c (cxOf (L2.CX P w) P w K mg base N qual (defScope st) f cdv A outer s H c.E) (defBody st) ts (tD c.x)) : FnKw P w K mg base (L2.CX P w) (k + 1) f kn (spInK K S C ind) := by
  obtain ⟨oc, od, kV, doc, pm, an, cdv, ct, osl, rfl, lk, hcd⟩ := F.ex
  refine fn_starko (sp := liftIn K S C ind) lk hcd sc StX.cxUp (h0 kV doc pm an cdv ct) (h1 kV doc pm an cdv ct) fun A outer s H vs Q E hr h => ?_
  obtain ⟨p, dx, us, Z, ds, Pd, x, rfl, hp, wd, zp, np, hs, r, hi, hq, hx⟩ := h
  obtain ⟨ts, d⟩ := hbody ⟨fun a => Z a ∧ a ≠ p, cutP H p, E, x⟩ cdv A outer s H hr (xc_cx (fit_cut hx) rfl)
  exact ⟨ts, d.pss, d.ws (fun _ => none) _ H _ _ _ ⟨Z, rz_init wd hp zp np hs r⟩ (hpure p dx ds Pd x hi) (fit_init zp hq)⟩
end
def FmD (d : D) : Prop := (∃ i : Int, d = .int i ∧ i.natAbs.log2 < 1920) ∨ ∃ y : Str, d = .str y ∧ y.length ≤ 100000 ∧ (reprText y).length ≤ 100000
theorem fm_rep {K : PySem.W.Frag} {H : Hp} {d : D} {v : V} (h : FmD d) (r : Rep K H d v) : Fm v := by
  rcases h with ⟨i, rfl, hi⟩ | ⟨y, rfl, hy⟩
  · unfold Rep at r
    exact .inl ⟨i, r, hi⟩
  · unfold Rep at r
    exact .inr ⟨y, r, hy⟩
def dRaiseK (x : XD) (C : Addr) (fs : List Str) (as : TAD) : TSD := fun _ ρ => as (view ρ) fun ds => (ds.length = fs.length ∧ ∀ d ∈ ds, FmD d) ∧ x C (fs.zip ds).reverse
section
variable {K : PySem.W.Frag} {S : Sit} {c : Cl} {X : Cx} {C : Addr} {te : TE} {a : TED} {ts : TA} {as : TAD} {fs : List Str} {E : XK} {xd : XD}
theorem zip_fst {α β : Type} : ∀ {l : List α} {r : List β}, l.length = r.length → (l.zip r).map (·.1) = l
  | [], _, _ => by simp
  | a :: l, [], h => by cases h
  | a :: l, b :: r, h => by simp [zip_fst (l := l) (r := r) (by simpa using h)]
theorem zip_snd {α β : Type} : ∀ {l : List α} {r : List β}, l.length = r.length → (l.zip r).map (·.2) = r
  | [], [], _ => by simp
  | a :: l, [], h => by cases h
  | [], b :: r, h => by cases h
  | a :: l, b :: r, h => by simp [zip_snd (l := l) (r := r) (by simpa using h)]
theorem zip_rev {α β : Type} {l : List α} {r : List β} (h : l.length = r.length) : (l.zip r).reverse = l.reverse.zip r.reverse := by
  induction l generalizing r with
  | nil => simp
  | cons a l ih =>
    cases r with
    | nil => cases h
    | cons b r =>
      have h' : l.length = r.length := by simpa using h
      rw [List.zip_cons_cons, List.reverse_cons, ih h', List.reverse_cons, List.reverse_cons]
      rw [List.zip_append (by simpa using h')] <;> rfl
theorem ws_raiseK (hE : XOk K S c E xd) (hs : WA K S c ts as) : WS K S c (fun _ σ H => tMkK C fs.length (spXI C fs) (fun us zs => us ++ zs) ts σ H fun cls d H' => E cls d H') (dRaiseK xd C fs as) := by
  rintro B σ H ρ Dd De ⟨Z, r⟩ h f
  refine hs c.Z0 σ H (view ρ) _ r.view h _ fun zs H1 ds k i q ⟨⟨hl, hfm⟩, hx⟩ => ?_
  have rv1 := r.view.step k i
  have hzs : zs.length = fs.length := q.len.symm.trans hl
  refine ⟨hzs, fun a na => ⟨a, zs, rfl, hzs, fun y hy => ?_, upd_same, fun dx H' hdx hne ea ed keep => ?_⟩⟩
  · obtain ⟨j, hj⟩ := List.mem_iff_getElem?.mp hy
    obtain ⟨d, hd, rd⟩ := q.get' hj
    exact fm_rep (hfm d (List.mem_of_getElem? hd)) rd
  · have h1 : H1 dx = none := by rw [upd_ne hne] at hdx; exact hdx
    refine ⟨rfl, dx, (fs.zip zs).reverse, ea, ed, h1, ?_⟩
    have same : ∀ b o, H1 b = some o → upd (del H' a) dx (.xd (fs.zip zs).reverse) b = some o := fun b o e => by
      have n1 : b ≠ a := ne_of_none e na
      have n2 : b ≠ dx := ne_of_none e h1
      rw [upd_ne n2, del_ne n1, keep b n1 n2, upd_ne n1]
      exact e
    refine hE C (some dx) _ (fs.zip ds).reverse (fun b o e n => same b o ((r.rv.kp.trans k) b o e n)) (S.stab H1 _ (fun b o e _ => same b o e) i) (.inr ⟨dx, zs.reverse, rfl, hide_some.mpr ⟨rv1.wd.fresh h1, ?_⟩, ?_⟩) hx
    · rw [upd_same, List.map_reverse, zip_fst hl.symm, zip_rev hzs.symm]
    · rw [List.map_reverse, zip_snd hl.symm]
      exact RepL.reverse (RepL.mono (fun b o e => by
        obtain ⟨n, e⟩ := hide_some.mp e
        exact hide_some.mpr ⟨n, same b o e⟩) ds zs q)
variable {x : Str} {e : Expr} {p pos rpos : Pos} {fI : Addr} {k : Nat} {fd : FuncData} {ps ks : List Str} {kws : List Keyword} {CX : CXT}
theorem dk_nil : DK K S c X [] tNil dNil := ⟨pk_nil, wa_nil⟩
theorem dk_cons {nm : Option Str} {kpos : Pos} (ha : DE K S c X e te a) (hs : DK K S c X kws ts as) : DK K S c X (⟨nm, e, kpos⟩ :: kws) (tCons te ts) (dCons a as) := ⟨pk_cons ha.pe hs.pk, wa_cons ha.we hs.wa⟩
theorem ds_raiseK (hK : X.K = K) (calm : X.calm = true) (xc : XC K S c X) (T : XCls X.prog X.w X.K X.mg X.base k x C fs) (hr : Room (k + 1) X.A) (hkw : DK K S c X kws ts as) (hg : Gl X x := by rfl)
    (hall : (backToKw pos (keywordEach kws X.env)).all (·.1.isSome) = true := by rfl) (hks : (backToKw pos (keywordEach kws X.env)).filterMap (·.1) = fs := by rfl) (hdb : (x == ("__debug__" : Str)) = false := by decide)
    (hpl : ((backTo pos (starEach [] X.env)).any (·.1) || (backToKw pos (keywordEach kws X.env)).any (·.1.isNone)) = false := by rfl) :
    DS K S c X (.Raise (some (.Call (.Name x p) [] kws pos)) none rpos) (fun _ σ H => tMkK C fs.length (spXI C fs) (fun us zs => us ++ zs) ts σ H fun cls d H' => c.E cls d H') (dRaiseK c.x C fs as) := by
  subst hK
  obtain ⟨fI, fd, ps, i1, i2, i3, i4⟩ := T.ex
  exact ⟨ps_raise calm xc.tk (pmk_kw T.T i1 i2 i3 hr i4 pass0 hg T.m hkw.pk hall hks hdb hpl), ws_raiseK xc.ok hkw.wa⟩
end
end DL
end
section
namespace DL
open PySem PySem.Spec PyProof.Rows L2 LamX LMX
section
variable {X : Cx} {pins : List (Addr × Obj)} {σ : L2.St} {H : Hp} {a : Addr} {cls : Value} {d : Option Addr} {B : Heap} {sI s : Shared}
end
theorem sp_of_try {X : Cx} {pins pn' : List (Addr × Obj)} {xe : Value → Shared → Prop} {D : Ends} {f : Flow} {s : Shared} (ok : X.Ok) (h : SP (X.tr (X.pn ++ pins) xe) pn' D f s) : SP X pins D f s := by
  cases f with
  | next => obtain ⟨σ', H', J', q⟩ := h; exact ⟨σ', H', J'.ofTry ok, q⟩
  | brk => obtain ⟨σ', H', J', q⟩ := h; exact ⟨σ', H', J'.ofTry ok, q⟩
  | cont => obtain ⟨σ', H', J', q⟩ := h; exact ⟨σ', H', J'.ofTry ok, q⟩
  | ret u => obtain ⟨v, σ', H', J', r, q⟩ := h; exact ⟨v, σ', H', J'.ofTry ok, r, q⟩
theorem ps_try_mix {X : Cx} {body : List Stmt} {h₀ : ExceptHandler} {hds : List ExceptHandler} {l : List Cls1} {pos : Pos} {tb : L2.WX → TS} {Wout : L2.WX} (hs : X.stack = X.env :: X.outer) (hf : X.env.frame = some X.env.locals) (tk : Takes X Wout)
    (hb : ∀ (W : L2.WX) (pn : List (Addr × Obj)) (xe : Value → Shared → Prop), Takes (X.tr pn xe) W → PassesOwn (model X.prog X.w) X.A X.env xe → PSs (X.tr pn xe) body (tb W))
    (hh : ClssOk X (h₀ :: hds) l) : PS X (.Try body (h₀ :: hds) [] [] pos) (fun D σ H => tb (wMix X.K Wout D l) D σ H) := by
  refine ⟨fun pins s σ H D I h => ?_⟩
  have ok := I.ok
  have fr : X.A.frames = some (X.env :: X.outer) := by rw [ok.frames, hs]
  let xe : Value → Shared → Prop := fun e s₁ => wpAny (model X.prog X.w) X.A (noteFrame e X.env) (fun _ s₂ => wpAny (model X.prog X.w) X.A (setFlight e none) (fun _ s₃ => wpAny (model X.prog X.w) X.A (handleBy e X.env (h₀ :: hds)) (SP X pins D) X.xe s₃) X.xe s₂) X.xe s₁
  have takes : Takes (X.tr (X.pn ++ pins) xe) (wMix X.K Wout D l) := fun u s' xx => by
    obtain ⟨a, B, sI, pins', σ', H', cls, d, rfl, J', nb, up, sky, na, os, ag, w⟩ := xx
    have sky' : Sky B (X.env :: X.outer) a (Zc cls d) X.env.locals s'.heap := by rw [← hs]; exact sky
    show wpAny (model X.prog X.w) X.A (noteFrame (.ref a) X.env) _ _ _
    refine Sky.land Zc.steady fr hf sky' fun h3 fl3 up3 => ?_
    exact HeldX.run (sI := sI) (B := B) hs hf tk hh ⟨J'.ofTry ok, nb, fl3, up.trans up3, os, ag, na⟩ w
  refine wpAny_Try_except (wpAny_mono ((hb _ (X.pn ++ pins) xe takes PassesOwn.looking).run [] s σ H D (I.toTry _) h) (fun f s1 hsp => ?_) (fun e s1 he => he))
  have sp := sp_of_try ok hsp
  cases f with
  | next => exact wpAny_execs_nil sp
  | brk => exact sp
  | cont => exact sp
  | ret u => exact sp
end DL
end
section
namespace EXK
open PySem PySem.W PySem.Spec PySem.Calls PyProof.Rows L2
section
variable {prog : Program} {w : World} {Ar : Around} {Er : Value → Shared → Prop} {s : Shared} {K : Frag} {x D : Addr} {ox : Obj} {od : Option Obj}
theorem find_cls (C : ExcC K D) : findObj K D od "__class__" = some (.bind (.builtin "getset_descriptor.__get__") (.builtin "object.__class__")) := by
  obtain ⟨cd, hc, _⟩ := any_some C.hd
  unfold findObj
  rw [hc, Option.bind_some, C.ha, Option.bind_some]
  simp [C.hn, C.ht]
theorem ask_cls (C : ExcC K D) {Qo : Option Value → Shared → Prop} (KI : K.In s.heap) (In : InstAt s.heap x ox D od) (h : Qo (some (.ref D)) { s with toks := s.toks + 1 }) : wpAny (model prog w) Ar (getAttr? (.ref x) "__class__") Qo Er s := by
  have ff := find_cls (od := od) C
  obtain ⟨hp, g, d, t, os⟩ := s
  have l0 := In.type (M := model prog w)
  have l1 := looks_findIn (M := model prog w) KI C.hg
  have l2 := looks_findIn (M := model prog w) KI C.hk
  have l3 := looks_find (M := model prog w) KI In ff
  have isB : Looks (model prog w) hp (isInstance (.ref x) (.type "BaseException")) true := l0.andThen (looks_subIn KI C.hs)
  have n2 : (Value.builtin "BaseException.__getattribute__" == Value.builtin "object.__getattribute__") = false := by decide +kernel
  have n1 : (onTheHeap (Value.ref D) && Value.builtin "BaseException.__getattribute__" == Value.builtin "object.__getattribute__") = false := by rw [n2] <;> rfl
  have n0 : (false && onTheHeap (Value.builtin "BaseException.__getattribute__")) = false := by rfl
  unfold getAttr?
  unfold getAttrBy?
  unfold getAttrBy
  refine wpAny_bind (wpAny_mkText (wpAny_bind (wpAny_attempt (wpAny_holding (wpAny_bind (l0.at (wpAny_bind (l1.at ?_))))))))
  show wpAny _ Ar (if (onTheHeap (Value.ref D) && Value.builtin "BaseException.__getattribute__" == Value.builtin "object.__getattribute__") = true then _ else _) _ _ _
  rw [n1, if_neg Bool.false_ne_true]
  unfold getAttrByItsOwn
  unfold hookBefore
  refine wpAny_bind ?_
  have on : onTheHeap (Value.ref D) = true := by rfl
  rw [if_pos on]
  refine l2.at (wpAny_bind (wpAny_attempt (wpAny_holding ?_)))
  unfold callGetattribute
  rw [n0, if_neg Bool.false_ne_true]
  unfold boundAndCalled
  have SF := PySem.F.excAttr_ValueError.ga
  rw [SF.bind (.ref x)]
  refine wpAny_bind (wpAny_pure ?_)
  show wpAny _ Ar (call (.builtin "BaseException.__getattribute__") [.ref x, .str "__class__" t]) _ _ _
  refine wpAny_call (codeAny_call_builtin SF.plain PySem.F.entry_bexc_ga ?_)
  refine @check_slot (model prog w) _ _ ⟨hp, g, d, t + 1, os⟩ "BaseException.__getattribute__" "BaseException" "__getattribute__" (.ref x) [.str "__class__" t] [] _ (by decide +kernel) (by decide +kernel) isB (PySem.F.args_bexc_ga (.ref x) (.str "__class__" t)) ?_
  unfold Builtin.«object.__getattribute__»

  refine wpAny_bind (wpAny_of_eq (a := (Value.ref x, [Value.str "__class__" t])) (by first | rfl | (simp only [slotArgs] <;> rfl)) (wpAny_bind (wpAny_pure (wpAny_bind (l0.at (wpAny_bind (l3.at ?_)))))))
  show wpAny _ Ar.in1 (holding [Value.builtin "object.__class__"] (call (.builtin "getset_descriptor.__get__") [.builtin "object.__class__", .ref x, .ref D]) >>= ret) _ _ _
  refine wpAny_bind (wpAny_holding (wpAny_call (class_get (s := ⟨hp, g, d, t + 1, os⟩) (ox := ox) (od := od) KI In C.hm (wpAny_pure ?_))))
  show wpAny _ Ar (handedOut (.ref D)) _ _ _
  rw [handedOut_of (v := Value.ref D) rfl]
  first
    | exact wpAny_pure h
    | exact wpAny_pure (wpAny_pure h)
    | exact wpAny_pure (wpAny_bind (wpAny_pure (wpAny_pure h)))
theorem kitx (C : ExcC K D) : KitX K (.ref x) (.ref D) (fun h => ∃ od, InstAt h x ox D od) where
  ty := fun _ _ _ I => I.choose_spec.type
  it := fun _ _ KI _ => by
    obtain ⟨cdD, hcD, _⟩ := any_some C.hd
    unfold clsIn at hcD
    split at hcD
    · rename_i c' d' cd' sl' ho
      intro A' Q' E' s' k q
      unfold isType
      unfold loadHead
      exact wpAny_bind (wpAny_loadPart (k _ _ (KI _ _ ho)) (wpAny_pure q))
    · cases hcD
  ne := fun h tp dd its n sl KI htp => by
    obtain ⟨cdD, hcD, _⟩ := any_some C.hd
    refine Bool.eq_false_iff.mpr fun q => ?_
    obtain rfl : D = tp := Value.ref.inj (beq_iff_eq.mp q)
    unfold clsIn at hcD
    split at hcD
    · rename_i c' d' cd' sl' ho
      have z := (KI _ _ ho).symm.trans htp
      cases z
    · cases hcD
  ca := fun KI ⟨od, I⟩ k => ask_cls C KI I k
end
end EXK
namespace DL
open PySem PySem.Spec PyProof.Rows L2 LamX LMX
theorem inst_x {P : Program} {w : World} {K : PySem.W.Frag} {H : Hp} {h : Heap} {a D : Addr} {d : Option Addr} {oe : Obj} {fl : List (Str × DL.D)} {H' : Hp} (hok : HOk P w H h) (ha : h.get? a = some oe) (hz : Zc (.ref D) d oe) (hf : ∃ vs, oe.data = .fields vs)
    (xr : XRep K H' d fl) (ex : Ex H' H) : ∃ od, PySem.W.InstAt h a oe D od := by
  obtain ⟨oc, odict, oda, osl⟩ := oe
  obtain ⟨h1, h2⟩ := hz
  obtain ⟨vs, hv⟩ := hf
  dsimp only at h1 h2 hv
  subst h1 h2 hv
  rcases xr with ⟨_, rfl⟩ | ⟨b, ws, rfl, e, _⟩
  · exact ⟨none, ha, rfl, rfl, trivial⟩
  · obtain ⟨mA, hns, _⟩ := hok b _ (ex _ _ e)
    obtain ⟨od, _, _, ho, _⟩ := hns
    exact ⟨some od, ha, rfl, rfl, ho⟩
end DL
end
section
namespace DL
open PySem PySem.Spec PyProof.Rows L2 LamX LMX
def catchX (xo : XD) (n : Nat) (Dd : EndsD) : List HdR → XD
  | [] => xo
  | h :: r => fun cls fs => ∃ b, h.sub cls = some b ∧ (b = true → ∀ p, h.t cls fs p { nx := fun _ => False, rt := Dd.rt } (h.env n p)) ∧ (b = false → catchX xo n Dd r cls fs)
def dTry (xo : XD) (bD : XD → TSD) (hs : List HdR) : TSD := fun Dd ρ => bD (catchX xo ρ.length Dd hs) Dd ρ
section
variable {K : PySem.W.Frag} {S : Sit} {c : Cl} {X : Cx} {E : XK} {xo : XD}
theorem takes_len {W W' : L2.WX} (tk : Takes X W) (h : ∀ cls d σ H, σ.length = X.N.length → W' cls d σ H → W cls d σ H) : Takes X W' := fun u s' ⟨a, B, sI, pins, σ, H, cls, d, e, I, nb, up, sky, na, os, ag, w⟩ =>
  tk u s' ⟨a, B, sI, pins, σ, H, cls, d, e, I, nb, up, sky, na, os, ag, h cls d σ H I.len w⟩
def clsT (X : Cx) (suite : List Stmt) : Addr → Value → Option Addr → TS := fun a cls d D σ H => ∀ (oe : Obj) (pn : List (Addr × Obj)), Zc cls d oe → (∃ vs, oe.data = .fields vs) → ∃ t : TS, PSs (X.suite a ((a, oe) :: pn)) suite t ∧ t D σ H
theorem cls_pss {suite : List Stmt} {a : Addr} {cls : Value} {d : Option Addr} {oe : Obj} {pn : List (Addr × Obj)} (hz : Zc cls d oe) (hf : ∃ vs, oe.data = .fields vs) : PSs (X.suite a ((a, oe) :: pn)) suite (clsT X suite a cls d) := by
  refine ⟨fun pins s σ H D I h => ?_⟩
  obtain ⟨t, h1, h2⟩ := h oe pn hz hf
  exact h1.run pins s σ H D I h2
theorem hds_wish (hE : XOk K S c E xo) : ∀ {hs : List ExceptHandler} {rs : List HdR}, HdsOk' K S c X hs rs → ∃ l : List Cls1, ClssOk X hs l ∧
    ∀ (Dd : EndsD) (D : Ends), (∀ v H d, Kp S c.H0 H → S.I H → Rep K (hide H c.Z0) d v → Dd.rt d → D.rt v H) → ∀ (cls : Addr) (dd : Option Addr) (H' : Hp) (fs : List (Str × DL.D)) (σ : L2.St), Wd S c.Z0 c.H0 → Kp S c.H0 H' → S.I H' → XRep K (hide H' c.Z0) dd fs →
      σ.length = X.N.length → catchX xo X.N.length Dd rs cls fs → wMix X.K (fun cls d _ H => E cls d H) D l (.ref cls) dd σ H'
  | _, _, .nil => ⟨[], .nil, fun Dd D hrt cls dd H' fs σ w k i xr hl h => hE cls dd H' fs k i xr h⟩
  | _, _, .cons (h := h) (r := r) a b => by
    obtain ⟨l, hl, ih⟩ := hds_wish hE b
    obtain ⟨x, np, pos, on, b₀, suite, C, rfl, hc, hexm, hsu, hn⟩ := a.ex
    refine ⟨⟨C, r.i, clsT X (b₀ :: suite)⟩ :: l, .cons ⟨x, np, pos, on, b₀, suite, rfl, hc, fun a oe cls d pn hz hf => cls_pss hz hf, hn⟩ hl, fun Dd D hrt cls dd H' fs σ w k i xr hlen hx => ?_⟩
    obtain ⟨b, hs, hyes, hno⟩ := hx
    refine ⟨b, hexm cls b hs, fun hb a na oe pn hz hf => ?_, fun hb => ih Dd D hrt cls dd H' fs σ w k i xr hlen (hno hb)⟩
    obtain ⟨t, ds⟩ := hsu a oe cls dd fs pn hz hf ⟨b, hs⟩
    have slen : (Cls1.slots ⟨C, r.i, clsT X (b₀ :: suite)⟩ a σ).length = (r.env X.N.length (ExP K a dd fs)).length := by
      unfold Cls1.slots HdR.env
      cases r.i with
      | none => simpa using hlen
      | some i => simpa using hlen
    have get : ∀ (j : Nat) (d : DL.D), (r.env X.N.length (ExP K a dd fs))[j]? = some (some d) → d = .sem (ExP K a dd fs) ∧ (Cls1.slots ⟨C, r.i, clsT X (b₀ :: suite)⟩ a σ)[j]? = some (some (.ref a)) := fun j d e => by
      unfold HdR.env at e
      unfold Cls1.slots
      cases hi : r.i with
      | none =>
        rw [hi] at e
        have := List.mem_of_getElem? e
        rw [List.mem_replicate] at this
        exact nomatch this.2
      | some i =>
        rw [hi] at e
        have e : ((List.replicate X.N.length (none : Option DL.D)).set i (some (.sem (ExP K a dd fs))))[j]? = some (some d) := e
        rcases set_cases e with ⟨rfl, rfl, hb⟩ | ⟨_, e⟩
        · refine ⟨rfl, ?_⟩
          show (σ.set j (some (.ref a)))[j]? = _
          rw [List.getElem?_set_self (by rw [hlen]; simpa using hb)]
        · have := List.mem_of_getElem? e
          rw [List.mem_replicate] at this
          exact nomatch this.2
    have rv : RV K S c c.Z0 (Cls1.slots ⟨C, r.i, clsT X (b₀ :: suite)⟩ a σ) H' (r.env X.N.length (ExP K a dd fs)) := by
      refine ⟨w.step k i, k, fun _ z => z, slen, fun j d e n => ?_⟩
      obtain ⟨rfl, e2⟩ := get j d e
      refine ⟨_, e2, ?_⟩
      unfold Rep
      exact ⟨a, hide H' c.Z0, rfl, fun _ _ q => q, rfl, xr⟩
    have noOwn : ∀ (j : Nat) d, (r.env X.N.length (ExP K a dd fs))[j]? = some (some d) → d.isOwn = true → False := fun j d e o => by
      obtain ⟨rfl, _⟩ := get j d e
      cases o
    refine ⟨t, ds.pss, ds.ws (fun _ => none) _ H' _ _ _ ⟨c.Z0, rv, w, (fun _ _ q => nomatch q), fun _ => [], (fun j d e o => (noOwn j d e o).elim), (fun j l d e' a e o _ _ _ _ => (noOwn j d e o).elim)⟩ (hyes hb (ExP K a dd fs)) ⟨fun _ _ _ _ z => z.elim, fun v H2 d k2 i2 rp hd => ?_, fun _ _ _ _ z => z.elim, fun _ _ _ _ z => z.elim⟩⟩
    have z := hrt v H2 d k2 i2 rp hd
    unfold Cls1.ends
    cases r.i with
    | none => exact z
    | some i => exact z
def tTry (X : Cx) (body : List Stmt) (Wout : L2.WX) (l : List Cls1) : TS := fun D σ H => σ.length = X.N.length → ∀ (pn : List (Addr × Obj)) (xe : Value → Shared → Prop), Takes (X.tr pn xe) (wMix X.K Wout D l) → PassesOwn (model X.prog X.w) X.A X.env xe → ∃ ts : TS, PSs (X.tr pn xe) body ts ∧ ts D σ H
theorem ds_try {body : List Stmt} {h₀ : ExceptHandler} {hds : List ExceptHandler} {rs : List HdR} {bD : XD → TSD} {pos : Pos} (hs : X.stack = X.env :: X.outer) (hf : X.env.frame = some X.env.locals) (hE : XOk K S c E xo) (tk : Takes X fun cls d _ H => E cls d H)
    (hb : ∀ (c' : Cl) (pn : List (Addr × Obj)) (xe : Value → Shared → Prop), XC K S c' (X.tr pn xe) → ∃ ts, DSs K S c' (X.tr pn xe) body ts (bD c'.x)) (hh : HdsOk' K S c X (h₀ :: hds) rs) :
    DS K S c X (.Try body (h₀ :: hds) [] [] pos) (tTry X body (fun cls d _ H => E cls d H) (hds_wish hE hh).choose) (dTry xo bD rs) := by
  obtain ⟨hok, wish⟩ := (hds_wish hE hh).choose_spec
  constructor
  · have q := ps_try_mix (body := body) (tb := fun W D σ H => σ.length = X.N.length → ∀ (pn : List (Addr × Obj)) (xe : Value → Shared → Prop), Takes (X.tr pn xe) W → PassesOwn (model X.prog X.w) X.A X.env xe → ∃ ts : TS, PSs (X.tr pn xe) body ts ∧ ts D σ H) (pos := pos) hs hf tk (fun W pn xe t own => ?_) hok
    · exact q
    · refine ⟨fun pins s σ H D I h => ?_⟩
      obtain ⟨ts, h1, h2⟩ := h I.len pn xe t own
      exact h1.run pins s σ H D I h2
  · rintro B σ H ρ Dd D ⟨Z, r⟩ h f
    intro hlen pn xe t own
    have hρ : ρ.length = X.N.length := r.rv.len.symm.trans hlen
    unfold dTry at h
    rw [hρ] at h
    let c' : Cl := ⟨c.Z0, c.H0, fun clsV dd H' => ∀ σ' : L2.St, σ'.length = X.N.length → wMix X.K (fun cls d _ H => E cls d H) D (hds_wish hE hh).choose clsV dd σ' H', catchX xo X.N.length Dd rs⟩
    have fit : XFit K S c' := fun cls dd H' fs k i xr hx σ' hl => wish Dd D f.rt cls dd H' fs σ' r.w0 k i xr hl hx
    have xc : XC K S c' (X.tr pn xe) := ⟨fit, takes_len t fun cls d σ H hl h => h σ hl, own⟩
    obtain ⟨ts, ds⟩ := hb c' pn xe xc
    refine ⟨ts, ds.pss, ds.ws B σ H ρ Dd D ⟨Z, ⟨r.rv.wd, r.rv.kp, r.rv.zz, r.rv.len, r.rv.sl⟩, r.w0, r.ex, r.fp⟩ h ⟨fun σ H ρ ⟨Z, r⟩ h => f.nx σ H ρ ⟨Z, ⟨r.rv.wd, r.rv.kp, r.rv.zz, r.rv.len, r.rv.sl⟩, r.w0, r.ex, r.fp⟩ h, f.rt, fun σ H ρ ⟨Z, r⟩ h => f.bk σ H ρ ⟨Z, ⟨r.rv.wd, r.rv.kp, r.rv.zz, r.rv.len, r.rv.sl⟩, r.w0, r.ex, r.fp⟩ h,
      fun σ H ρ ⟨Z, r⟩ h => f.ct σ H ρ ⟨Z, ⟨r.rv.wd, r.rv.kp, r.rv.zz, r.rv.len, r.rv.sl⟩, r.w0, r.ex, r.fp⟩ h⟩⟩
end
end DL
end
section
namespace DL
open PySem PySem.Spec PyProof.Rows L2 LamX LMX
theorem XkOk.xf {K : PySem.W.Frag} {fs : List Str} {C : Addr} (h : XkOk K fs C) : XfC K C := ⟨h.xc.hg, h.xc.hk, h.xc.hs, h.xc.hd⟩
def dXf (i : Nat) (p : Hp → Addr → Prop) (fl : List (Str × D)) (f : Str) : TED := fun ρ P => ρ[i]? = some (some (.sem p)) ∧ match fl.lookup f with
  | some d => P d
  | none => False
def dIsX (i : Nat) (p : Hp → Addr → Prop) (ob : Option Bool) : TED := fun ρ P => ρ[i]? = some (some (.sem p)) ∧ match ob with
  | some b => P (.bl b)
  | none => False
theorem look_rep {K : PySem.W.Frag} {H : Hp} {f : Str} : ∀ {fl : List (Str × D)} {vs : List V} {d : D}, RepL K H (fl.map (·.2)) vs → fl.lookup f = some d → ∃ v, ((fl.map (·.1)).zip vs).lookup f = some v ∧ Rep K H d v
  | [], _, _, _, h => by cases h
  | (g, d) :: fl, vs, d', r, h => by
    simp only [List.map_cons] at r
    unfold RepL at r
    obtain ⟨v, vs', rfl, r1, r2⟩ := r
    by_cases e : f = g
    · subst e
      simp [List.lookup] at h
      subst h
      exact ⟨v, by simp [List.lookup], r1⟩
    · have q : (f == g) = false := by simpa using e
      simp [List.lookup, q] at h
      obtain ⟨u, e1, e2⟩ := look_rep r2 h
      exact ⟨u, by simp [List.lookup, q]; exact e1, e2⟩
section
variable {K : PySem.W.Frag} {S : Sit} {c : Cl} {X : Cx} {a cls C : Addr} {d : Option Addr} {oe : Obj} {fl : List (Str × D)} {pn : List (Addr × Obj)} {en f y : Str} {p1 p2 p3 pos : Pos}
theorem we_xf {i : Nat} : WE K S c (tXf a (.ref cls) d cls f (tVar i)) (dXf i (ExP K a d fl) fl f) := by
  intro Z σ H ρ P rv ⟨hi, h⟩ Q q
  obtain ⟨v, e1, r⟩ := rv.sl i _ hi rfl
  unfold Rep at r
  obtain ⟨b, G, rfl, hG, rfl, xr⟩ := r
  refine ⟨_, e1, rfl, rfl, ?_⟩
  split at h
  · rename_i d' hl
    rcases xr with ⟨rfl, rfl⟩ | ⟨dd, vs, rfl, e2, rl⟩
    · cases hl
    · obtain ⟨v, e3, rd⟩ := look_rep rl hl
      exact ⟨dd, _, v, rfl, hide_ex _ _ (hG _ _ e2), e3, q v H d' (Kp.refl H) rv.wd.inv (Rep.mono hG d' v rd) h⟩
  · exact h.elim
theorem de_xf {fs : List Str} (i : Nat) (hK : X.K = K) (T : XkOk K fs cls) (hf : f ∈ fs) (hz : Zc (.ref cls) d oe) (hd : ∃ vs, oe.data = .fields vs) (hN : X.N[i]? = some en := by rfl) (hv : Vis X.env.scope en := by first | exact Or.inl rfl | exact Or.inr (Or.inl rfl))
    (hd1 : (en == ("__debug__" : Str)) = false := by decide) (hd2 : (en == ("__classdict__" : Str)) = false := by decide) (hb : attributeBase (.Name en p1) f X.env (eval (.Name en p1) X.env) = eval (.Name en p1) X.env := by rfl) :
    DE K S c (X.suite a ((a, oe) :: pn)) (.Attribute (.Name en p1) f pos) (tXf a (.ref cls) d cls f (tVar i)) (dXf i (ExP K a d fl) fl f) := by
  subst hK
  exact ⟨pe_xf T.xf (T.no f hf) hz hd (pe_var (X := X.suite a ((a, oe) :: pn)) hN hv hd1 hd2) hb, we_xf⟩
def rIsX (K : PySem.W.Frag) (cls a : Addr) (d : Option Addr) (fl : List (Str × D)) : List V → Hp → VK → Prop := fun xs H Q => ∃ (c : V) (cv : Value) (b : Bool) (G : Hp), xs = [.ref a, c] ∧ (∀ u, RelV c u → u = cv) ∧ PySem.W.kitOne K (.ref cls) cv = some b ∧ XRep K G d fl ∧ Ex G H ∧ Q (.bl b) H
theorem call_isX (T : ExcC X.K cls) (hz : Zc (.ref cls) d oe) (hf : ∃ vs, oe.data = .fields vs) : CallR (X.suite a ((a, oe) :: pn)) (.builtin "isinstance") (rIsX X.K cls a d fl) := by
  intro pins s σ H xs us Q I r h
  obtain ⟨cc, cv, b, G, rfl, hcv, e, xr, ex, q⟩ := h
  cases r with
  | cons rx rr =>
    cases rr with
    | cons rt rr =>
      cases rr
      cases rx
      have ec := hcv _ rt
      subst ec
      obtain ⟨ha, _⟩ := I.pin (a, oe) (List.mem_append.mpr (.inl List.mem_cons_self))
      have J := inst_x I.hok ha hz hf xr ex
      exact PySem.W.kia_one (EXK.kitx (ox := oe) T) I.kIn J e (fun z => nomatch z) fun tk => ⟨.bl b, H, I.kept (t' := tk) fun _ _ z => z, rfl, q⟩
theorem we_isx {i : Nat} {ob : Option Bool} {v : V} {cv : Value} (hv : ∀ u, RelV v u → u = cv) (hb : ∀ b, ob = some b → PySem.W.kitOne K (.ref cls) cv = some b) :
    WE K S c (tCB (rIsX K cls a d fl) (tCons (tVar i) (tCons (tC v) tNil))) (dIsX i (ExP K a d fl) ob) := by
  intro Z σ H ρ P rv ⟨hi, h⟩ Q q
  obtain ⟨u, e1, r⟩ := rv.sl i _ hi rfl
  unfold Rep at r
  obtain ⟨b, G, rfl, hG, rfl, xr⟩ := r
  split at h
  · rename_i b
    exact ⟨_, e1, v, cv, b, G, rfl, hv, hb b rfl, xr, fun _ _ z => hide_ex _ _ (hG _ _ z), q _ H _ (Kp.refl H) rv.wd.inv repB h⟩
  · exact h.elim
theorem de_isx {fs : List Str} {ob : Option Bool} (i : Nat) (hK : X.K = K) (T : XkOk K fs cls) (hb : ∀ b, ob = some b → PySem.W.kitOne K (.ref cls) (.ref C) = some b) (hz : Zc (.ref cls) d oe) (hd : ∃ vs, oe.data = .fields vs) (hm : X.mg "isinstance" = none) (hC : X.mg y = some (.ref C)) (hN : X.N[i]? = some en := by rfl)
    (hg : Gl X "isinstance" := by rfl) (hg2 : Gl X y := by rfl) (hv : Vis X.env.scope en := by first | exact Or.inl rfl | exact Or.inr (Or.inl rfl)) (hd1 : (en == ("__debug__" : Str)) = false := by decide) (hd2 : (en == ("__classdict__" : Str)) = false := by decide) (hd3 : (y == ("__debug__" : Str)) = false := by decide)
    (he : starEach [.Name en p1, .Name y p2] X.env = (false, eval (.Name en p1) X.env) :: starEach [.Name y p2] X.env := by rfl) (he2 : starEach (.Name y p2 :: []) X.env = (false, eval (.Name y p2) X.env) :: starEach [] X.env := by rfl) (hpl : (backTo pos (starEach [.Name y p2] X.env)).any (·.1) = false := by rfl) :
    DE K S c (X.suite a ((a, oe) :: pn)) (.Call (.Name "isinstance" p3) [.Name en p1, .Name y p2] [] pos) (tCB (rIsX K cls a d fl) (tCons (tVar i) (tCons (tC (.ref C)) tNil))) (dIsX i (ExP K a d fl) ob) := by
  subst hK
  exact ⟨pe_callB (X := X.suite a ((a, oe) :: pn)) (call_isX T.xc hz hd) hg hm PyProof.Rows.boot_isinstance (pa_cons (pe_var (X := X.suite a ((a, oe) :: pn)) hN hv hd1 hd2) (pa_cons (pe_glob (X := X.suite a ((a, oe) :: pn)) hg2 hC rfl hd3) pa_nil he2) he) (by decide) (by decide) he hpl, we_isx (fun u h => h) hb⟩
theorem de_isxT {fs : List Str} {ob : Option Bool} {T0 : String} (i : Nat) (hK : X.K = K) (T : XkOk K fs cls) (hb : ∀ b, ob = some b → PySem.W.kitOne K (.ref cls) (.type T0) = some b) (hz : Zc (.ref cls) d oe) (hd : ∃ vs, oe.data = .fields vs) (hm : X.mg "isinstance" = none) (hm2 : X.mg y = none) (hT : bootBuiltins y = some (.type T0)) (hN : X.N[i]? = some en := by rfl)
    (hg : Gl X "isinstance" := by rfl) (hg2 : Gl X y := by rfl) (hv : Vis X.env.scope en := by first | exact Or.inl rfl | exact Or.inr (Or.inl rfl)) (hn : y ≠ "__name__" := by decide) (hd1 : (en == ("__debug__" : Str)) = false := by decide) (hd2 : (en == ("__classdict__" : Str)) = false := by decide) (hd3 : (y == ("__debug__" : Str)) = false := by decide)
    (he : starEach [.Name en p1, .Name y p2] X.env = (false, eval (.Name en p1) X.env) :: starEach [.Name y p2] X.env := by rfl) (he2 : starEach (.Name y p2 :: []) X.env = (false, eval (.Name y p2) X.env) :: starEach [] X.env := by rfl) (hpl : (backTo pos (starEach [.Name y p2] X.env)).any (·.1) = false := by rfl) :
    DE K S c (X.suite a ((a, oe) :: pn)) (.Call (.Name "isinstance" p3) [.Name en p1, .Name y p2] [] pos) (tCB (rIsX K cls a d fl) (tCons (tVar i) (tCons (tC (.ty T0)) tNil))) (dIsX i (ExP K a d fl) ob) := by
  subst hK
  exact ⟨pe_callB (X := X.suite a ((a, oe) :: pn)) (call_isX T.xc hz hd) hg hm PyProof.Rows.boot_isinstance (pa_cons (pe_var (X := X.suite a ((a, oe) :: pn)) hN hv hd1 hd2) (pa_cons (pe_bltn (X := X.suite a ((a, oe) :: pn)) hg2 hm2 hT rfl hn hd3) pa_nil he2) he) (by decide) (by decide) he hpl, we_isx (fun u h => h) hb⟩
end
def rCntF (K : PySem.W.Frag) : V → List V → Hp → VK → Prop := fun x xs H Q => ∃ (p : Addr) (ys : List V) (y : V), x = .ref p ∧ xs = [y] ∧ SqL K H p ys ∧ flatV y = true ∧ ys.all flatV = true ∧ Q (.int (ys.countP (fun z => eqV z y) : Nat)) H
theorem cnt_eq {y : V} : ∀ {ys : List V} {us : List Value}, Vals ys us → ys.all flatV = true → us.countP (eqU y) = ys.countP (fun z => eqV z y)
  | _, _, .nil, _ => rfl
  | _, _, .cons (a := z) (b := u) r rr, f => by
    obtain ⟨f1, f2⟩ := Bool.and_eq_true_iff.mp (show (flatV z && (List.all _ flatV)) = true from f)
    rw [List.countP_cons, List.countP_cons, cnt_eq rr f2, eqU_of r f1]
theorem mt_lcountF {X : Cx} : MtR X "list.count" (rCntF X.K) := by
  intro pins s σ H x xs v us Q I rx rxs h
  obtain ⟨p, ys, y, rfl, rfl, hs, fy, fys, q⟩ := h
  cases rx
  obtain ⟨uy, rfl, ry⟩ := rxs.one
  obtain ⟨its, rv, ⟨⟨cls, dd, data, sl⟩, n, ho, hc, hdn, hd⟩, hlen⟩ := I.list hs
  simp only at hc hd
  subst hc hd
  refine call_meets PySem.F.slot_list_count ⟨_, ho, rfl⟩ PySem.F.entry_list_count (PySem.F.args_list_count_2 _ _) (SeqAt.list_countAt p its.toArray n dd sl uy (eqU y)) ⟨ho, fun u' hu' => mem_eqAt ry fy rv fys u' (by simpa using hu'), ?_⟩
  have ec : its.toArray.toList.countP (eqU y) = ys.countP (fun z => eqV z y) := cnt_eq rv fys
  refine ⟨.int (ys.countP (fun z => eqV z y) : Nat), H, I.tok _, ⟨s.toks, ?_⟩, q⟩
  rw [ec]
section
variable {K : PySem.W.Frag} {S : Sit}
def rLCntD : RMD := fun x ds P => match x, ds with
  | .lst xs, [d] => (xs.all D.atom = true ∧ d.atom = true) ∧ P (.int (xs.countP (fun z => eqV z.v d.v) : Nat))
  | _, _ => False
theorem wm_lcount : WM K S (rCntF K) rLCntD := by
  intro Z H x xs d ds P w r1 r2 hp Q q
  unfold rLCntD at hp
  split at hp
  · obtain ⟨v, rfl, r3⟩ := repL1 r2
    obtain ⟨⟨ha, hd⟩, hp⟩ := hp
    unfold Rep at r1
    obtain ⟨p, ys, rfl, h1, h2⟩ := r1
    have e := atoms_rep ha h2
    subst e
    have ev := atom_rep hd r3
    subst ev
    refine ⟨p, _, _, rfl, rfl, .inl (.inl (hide_ex _ _ h1)), atom_flat hd, atoms_flat ha, q _ H _ (Kp.refl H) w.inv ?_ hp⟩
    rw [List.countP_map]
    exact repI
  · exact hp.elim
def rLIdxD : RMD := fun x ds P => match x, ds with
  | .lst xs, [d] => (xs.all D.atom = true ∧ d.atom = true) ∧ ∃ (j : Nat) (z : D), xs[j]? = some z ∧ eqV z.v d.v = true ∧ (∀ m z', m < j → xs[m]? = some z' → eqV z'.v d.v = false) ∧ P (.int (j : Nat))
  | _, _ => False
theorem wm_lindex : WM K S (rIndex K) rLIdxD := by
  intro Z H x xs d ds P w r1 r2 hp Q q
  unfold rLIdxD at hp
  split at hp
  · obtain ⟨v, rfl, r3⟩ := repL1 r2
    obtain ⟨⟨ha, hd⟩, j, z, hz, e1, e2, hp⟩ := hp
    unfold Rep at r1
    obtain ⟨p, ys, rfl, h1, h2⟩ := r1
    have e := atoms_rep ha h2
    subst e
    have ev := atom_rep hd r3
    subst ev
    refine ⟨p, _, _, j, z.v, rfl, rfl, .inl (.inl (hide_ex _ _ h1)), atom_flat hd, atoms_flat ha, by rw [List.getElem?_map, hz] <;> rfl, e1, fun m z' hm hz' => ?_, q _ H _ (Kp.refl H) w.inv repI hp⟩
    rw [List.getElem?_map] at hz'
    obtain ⟨u, e3, rfl⟩ := Option.map_eq_some_iff.mp hz'
    exact e2 m u hm e3
  · exact hp.elim
end
def dFmt (a : TED) : TED := fun ρ P => a ρ fun d => match d with
  | .str y => y.length ≤ 100000 ∧ P (.str y)
  | .int i => i.natAbs.log2 < 1920 ∧ P (.str (toString i))
  | _ => False
def dJoin (ds : List TED) : TED := fun ρ P => dJs ds Str.empty ρ fun out => P (.str out)
section
variable {K : PySem.W.Frag} {S : Sit} {c : Cl} {X : Cx} {te : TE} {a : TED} {e : Expr} {pos : Pos}
theorem we_fmt (ha : WE K S c te a) : WE K S c (tFmt te) (dFmt a) := by
  intro Z σ H ρ P rv h Q q
  refine ha Z σ H ρ _ rv h _ fun v H1 d k i r h1 => ?_
  cases d <;> try exact h1.elim
  · unfold Rep at r
    exact .inr ⟨_, r, h1.1, q _ H1 _ k i repS h1.2⟩
  · unfold Rep at r
    exact .inl ⟨_, r, by rw [sizeLine_eq]; have := h1.1; omega, q _ H1 _ k i repS h1.2⟩
theorem de_fmt (ha : DE K S c X e te a) : DE K S c X (.FormattedValue e (-1) none pos) (tFmt te) (dFmt a) := ⟨pe_fmt ha.pe, we_fmt ha.we⟩
theorem DJ.pj {es : List Expr} {ts : List TE} {as : List TED} (h : DJ K S c X es ts as) : PJ X es ts := by
  induction h with
  | nil => exact .nil
  | cons h r ih => exact .cons h.pe ih
theorem de_join {v1 v2 : Expr} {rest : List Expr} {ts : List TE} {as : List TED} (h : DJ K S c X (v1 :: v2 :: rest) ts as) : DE K S c X (.JoinedStr (v1 :: v2 :: rest) pos) (fun σ H Q => tJs ts Str.empty σ H fun out H1 => Q (.str out) H1) (dJoin as) :=
  ⟨pe_joined h.pj, fun Z σ H ρ P rv hd Q q => h.run Z σ H ρ Str.empty (fun out => P (.str out)) rv hd _ fun out H' k i hp => q _ H' _ k i repS hp⟩
end
end DL
end
section
namespace DL
open PySem PySem.Spec PyProof.Rows L2 LamX LMX
theorem cellB_ok {K : PySem.W.Frag} {cl : List (Str × Addr)} {D : Addr} (h : cellB K cl D = true) : ∃ (cc : Addr) (v : Value) (d : Option Addr) (sl : Array (Option Value)), cl = [(("__class__" : Str), cc)] ∧ K.lookup cc = some ⟨v, d, .cell (some (.ref D)), sl⟩ := by
  unfold cellB at h
  split at h
  · rename_i x cc
    obtain ⟨h1, h2⟩ := He.ba h
    have h1 := of_decide_eq_true h1
    split at h2
    · rename_i v d D' sl lc
      have h2 := of_decide_eq_true h2
      subst h1 h2
      exact ⟨cc, v, d, sl, rfl, lc⟩
    · cases h2
  · cases h
theorem fileB_ok {K : PySem.W.Frag} {file : Str} {cd : Value} (h : fileB K file cd = true) : ∃ (c : Addr) (v : Value) (d : Option Addr) (vs : Array Value) (sl : Array (Option Value)) (f : Str) (tf : Tok), cd = .ref c ∧ K.lookup c = some ⟨v, d, .fields vs, sl⟩ ∧ vs[2]? = some (.str f tf) ∧ (file == f) = true := by
  unfold fileB at h
  split at h
  · rename_i c
    split at h
    · rename_i v d vs sl lc
      split at h
      · rename_i f tf hv
        exact ⟨c, v, d, vs, sl, f, tf, rfl, lc, hv, h⟩
      · cases h
    · cases h
  · cases h
theorem DefS.fun_ {P : Program} {K : PySem.W.Frag} {d : DefS} {file : Str} (hf : P.main.file = file) (e : d.look K = d.want) (c : d.ok file K = true) : ∃ fd, FunS P K d.name d.qual d.st (He.ga K d.C) (d.at_.ad K) fd := by
  obtain ⟨kp, c2⟩ := He.ba c
  unfold DefS.look at e
  cases q : K.lookup (d.at_.ad K) with
  | none =>
    rw [q] at c2
    cases c2
  | some o =>
    obtain ⟨oc, od, dt, osl⟩ := o
    rw [q] at c2 e
    cases dt with
    | func fd =>
      obtain ⟨n1, n2, n3, n4, n5, n6, n7, n8, n9, n10, n11, n12, n13, n14, n15⟩ := fd
      have e2 : (some (n1, n2, n3, n4, n5, n6, [], n8, n15) : He.FnV) = some (d.name, d.qual, defArgs d.st, .stmts (defBody d.st), defScope d.st, mainGlobals, [], .none, builtinsNs) := e
      simp only [Option.some.injEq, Prod.mk.injEq, true_and] at e2
      obtain ⟨h1, h2, h3, h4, h5, h6, h8, h9⟩ := e2
      subst h1 h2 h3 h4 h5 h6 h8 h9
      obtain ⟨c3, c4⟩ := He.ba c2
      obtain ⟨c5, c6⟩ := He.ba c4
      obtain ⟨cc, cl, cld, csl, rfl, lc⟩ := cellB_ok (show cellB K n7 (He.ga K d.C) = true from c5)
      obtain ⟨c0, ccl, cdd, vs, ccs, f, tf, rfl, lco, hvs, hfl⟩ := fileB_ok (show fileB K file n13 = true from c6)
      exact ⟨_, ⟨oc, od, n9, n10, n11, n12, c0, n14, osl, cc, rfl, q, c3, ⟨ccl, cdd, vs, ccs, f, tf, lco, hvs, by rw [hf]; exact hfl⟩, cl, cld, csl, lc⟩, kp⟩
    | _ => cases c2
theorem xkB_ok {K : PySem.W.Frag} {fs : List Str} {C : Addr} (h : xkB K fs C = true) : XkOk K fs C := by
  obtain ⟨h1, h⟩ := He.ba h
  obtain ⟨h2, h⟩ := He.ba h
  obtain ⟨h3, h⟩ := He.ba h
  obtain ⟨h4, h⟩ := He.ba h
  obtain ⟨h5, h⟩ := He.ba h
  obtain ⟨h6, h⟩ := He.ba h
  obtain ⟨h7, h⟩ := He.ba h
  obtain ⟨h8, h9⟩ := He.ba h
  exact ⟨⟨He.eqO_ok h1, He.eqO_ok h2, of_decide_eq_true h3, h4, He.eqO_ok h5, He.eqO_ok h6, of_decide_eq_true h7, of_decide_eq_true h8⟩, fun f hf => He.eqO_ok (List.all_eq_true.mp h9 f hf)⟩
theorem oexM_ok {C : Addr} {l : List Value} (h : oexM C l = true) : ∃ bm, l = .ref C :: bm ∧ PySem.HandSPX.refsVE bm = true := by
  unfold oexM at h
  split at h
  · rename_i C' bm
    obtain ⟨g5, g6⟩ := He.ba h
    have g5 := of_decide_eq_true g5
    subst g5
    exact ⟨bm, rfl, g6⟩
  · cases h
theorem oexL_ok {l : List (Option Value)} (h : oexL l = true) : ∃ k0 k1 k2 k3 k5, l = [k0, k1, k2, k3, some (.builtin "ValueError.__new__"), k5] := by
  unfold oexL at h
  split at h
  · rename_i k0 k1 k2 k3 n k5
    have g := of_decide_eq_true h
    exact ⟨k0, k1, k2, k3, k5, by rw [g]⟩
  · cases h
theorem oexV_ok {v : Value} (h : oexV v = true) : v = .type "type" := by
  unfold oexV at h
  split at h
  · rw [of_decide_eq_true h]
  · cases h
theorem oexD_ok {C : Addr} {d : Data} (h : oexD C d = true) : ∃ cd, d = .cls cd ∧ cd.hasDict = true ∧ cd.hasDel = false ∧ oexM C cd.mro = true := by
  unfold oexD at h
  split at h
  · rename_i cd
    obtain ⟨h1, h⟩ := He.ba h
    obtain ⟨h2, h3⟩ := He.ba h
    exact ⟨cd, rfl, h1, by simpa using h2, h3⟩
  · cases h
theorem oexB_ok {K : PySem.W.Frag} {C : Addr} (h : oexB K C = true) : OexC K C := by
  obtain ⟨h1, h⟩ := He.ba h
  obtain ⟨h2, h⟩ := He.ba h
  obtain ⟨h3, h⟩ := He.ba h
  obtain ⟨h4, h5⟩ := He.ba h
  refine ⟨?_, He.eqO_ok h2, of_decide_eq_true h3, of_decide_eq_true h4, h5⟩
  cases lk : K.lookup C with
  | none => rw [lk] at h1; cases h1
  | some o =>
    rw [lk] at h1
    obtain ⟨g1, g⟩ := He.ba (show (oexV o.cls && (oexL o.slots.toList && oexD C o.data)) = true from h1)
    obtain ⟨g2, g3⟩ := He.ba g
    obtain ⟨oc, od, dt, ⟨sl⟩⟩ := o
    have e1 : oc = .type "type" := oexV_ok g1
    obtain ⟨k0, k1, k2, k3, k5, e2⟩ := oexL_ok g2
    have e2 : sl = [k0, k1, k2, k3, some (.builtin "ValueError.__new__"), k5] := e2
    obtain ⟨cd, e3, e4, e5, g4⟩ := oexD_ok g3
    have e3 : dt = .cls cd := e3
    obtain ⟨bm, e6, g5⟩ := oexM_ok g4
    obtain ⟨nm, bs, mro, ns, qn, hd, sn, sub, ab, col, del⟩ := cd
    dsimp only at e4 e5 e6
    subst e1 e2 e3 e4 e5 e6
    exact ⟨nm, qn, ns, bs, bm, sn, sub, ab, col, od, k0, k1, k2, k3, k5, rfl, g5⟩
theorem supB_ok {P : Program} {K : PySem.W.Frag} {mg : Str → Option Value} {C D : Addr} (top : (P.main.scope.names.lookup ("super" : Str)).isSome = false) (m : mg "super" = none) (h : supB K C D = true) : SupK P K mg C D := by
  obtain ⟨h1, h⟩ := He.ba h
  obtain ⟨h2, h⟩ := He.ba h
  obtain ⟨h3, h4⟩ := He.ba h
  exact ⟨top, m, Option.isSome_iff_exists.mp h1, Option.isSome_iff_exists.mp h2, of_decide_eq_true h3, He.eqO_ok h4⟩
theorem xiB_ok {P : Program} {K : PySem.W.Frag} {mg : Str → Option Value} {C : Addr} {fs : List Str} (top : (P.main.scope.names.lookup ("super" : Str)).isSome = false) (m : mg "super" = none) (h : xiB K C fs = true) : XiOk P K mg C fs (He.ma K C "__init__") := by
  obtain ⟨h1, h⟩ := He.ba h
  obtain ⟨h2, h⟩ := He.ba h
  obtain ⟨h3, h⟩ := He.ba h
  obtain ⟨h4, h⟩ := He.ba h
  obtain ⟨h5, h⟩ := He.ba h
  obtain ⟨h6, h7⟩ := He.ba h
  exact ⟨oexB_ok h1, supB_ok top m h2, of_decide_eq_true h3, of_decide_eq_true h4, fun f hf => He.eqO_ok (List.all_eq_true.mp h5 f hf), He.eqO_ok h6, of_decide_eq_true h7⟩
theorem seeZ_eq {n : Nat} {fa : List Fc} {fn : List DefX} {fs : List DefS} {file : Str} {tf : List He.Defn} {g : Addr → Option Obj} {s : Shared} (h : ∀ a, g a = s.heap.get? a) : seeZ n fa fn fs file tf g = (hookZ n fa fn fs file tf).obs s := by
  have e : g = s.heap.get? := funext h
  rw [e] <;> rfl
section
variable {fa : List Fc} {fn : List DefX} {fs : List DefS} {file : Str} {tf : List He.Defn} {h : Heap} {K : PySem.W.Frag}
theorem SaysZ.fact (c : SaysZ fa fn fs file tf h K) (i : Nat) {f : Fb} (e : fa[i]? = some (.a f) := by rfl) : f.ok K = true := List.all_eq_true.mp c.alls.1 (.a f) (List.mem_of_getElem? e)
theorem SaysZ.looks (c : SaysZ fa fn fs file tf h K) : fn.map (fun d => d.look K) = fn.map DefX.want ∧ fs.map (fun d => d.look K) = fs.map DefS.want := by
  have e : fn.map (fun d => d.look K) ++ fs.map (fun d => d.look K) = fn.map DefX.want ++ fs.map DefS.want := congrArg (fun z : AlX => z.2) c.b
  exact List.append_inj e (by simp)
theorem SaysZ.def_ (c : SaysZ fa fn fs file tf h K) (i : Nat) {d : DefX} (e : fn[i]? = some d := by rfl) : ∃ fd, Fun K d.name d.qual d.st (d.at_.ad K) fd := by
  have e2 : (fn.map fun d => d.look K)[i]? = (fn.map DefX.want)[i]? := by rw [c.looks.1]
  rw [List.getElem?_map, List.getElem?_map, e] at e2
  exact DefX.fun_ (Option.some.inj e2) (List.all_eq_true.mp c.alls.2.1 d (List.mem_of_getElem? e))
theorem SaysZ.defS (c : SaysZ fa fn fs file tf h K) {P : Program} (hf : P.main.file = file) (i : Nat) {d : DefS} (e : fs[i]? = some d := by rfl) : ∃ fd, FunS P K d.name d.qual d.st (He.ga K d.C) (d.at_.ad K) fd := by
  have e2 : (fs.map fun d => d.look K)[i]? = (fs.map DefS.want)[i]? := by rw [c.looks.2]
  rw [List.getElem?_map, List.getElem?_map, e] at e2
  exact DefS.fun_ hf (Option.some.inj e2) (List.all_eq_true.mp c.alls.2.2 d (List.mem_of_getElem? e))
end
end DL
end
section
namespace DL
open PySem PySem.Spec PyProof.Rows L2 LamX LMX
theorem passX0 {P : Program} {w : World} {X : Cx} : Passes (L2.CX P w) X E0 := fun _ _ _ _ _ _ _ ⟨_, _, _, _, _, _, _, _, _, _, _, _, h⟩ => h.elim
section
variable {K : PySem.W.Frag} {S : Sit} {c : Cl} {X : Cx} {CX : CXT} {E : XK} {xd : XD} {k n : Nat} {x m kn : Str} {p p1 p2 p3 p0 pos : Pos} {e o : Expr} {es : List Expr} {kws : List Keyword} {ts tk : TA} {as ks : TAD} {te ta : TE} {a : TED} {fa fi C D1 : Addr} {fd : FuncData} {ps kn' : List Str} {spd : SpD} {ind : InD}
theorem we_callG (hE : XOk K S c E xd) (hs : WA K S c ts as) : WE K S c (tCall (liftSp K S spd) [] E ts) (dCall spd xd as) := by
  intro Z σ H ρ P rv h Q q
  refine hs Z σ H ρ _ rv h _ fun vs H1 ds k iv r hd => ?_
  rw [List.append_nil]
  exact ⟨Z, ds, P, xd, (rv.step k iv).wd, r, hd, fun v H' d k' i' r' h' => q v H' d (k.trans k') i' r' h', hE.at (rv.step k iv)⟩
theorem de_callG (F : FnOk X.prog X.w X.K X.mg X.base CX k fa fd ps (liftSp K S spd)) (hr : Room k X.A) (hm : X.mg x = some (.ref fa)) (hk : PySem.W.keepIn X.K (.ref fa) = true) (hb : L2.Binds X.K fd ps []) (hx : Passes CX X E) (hE : XOk K S c E xd) (hs : DA K S c X (e :: es) ts as) (hg : Gl X x := by rfl)
    (hdb : (x == ("__debug__" : Str)) = false := by decide) (he : starEach (e :: es) X.env = (false, eval e X.env) :: starEach es X.env := by rfl) (hpl : (backTo pos (starEach es X.env)).any (·.1) = false := by rfl) :
    DE K S c X (.Call (.Name x p1) (e :: es) [] pos) (tCall (liftSp K S spd) [] E ts) (dCall spd xd as) := ⟨pe_call F hr hg hm hk hb .nil hx hs.pa hdb he hpl, we_callG hE hs.wa⟩
end
section
variable {P : Program} {w : World} {K : PySem.W.Frag} {S : Sit} {mg : Str → Option Value} {base : Heap} {qual : Str} {st : Stmt} {f C D : Addr} {fd : FuncData} {N ps : List Str} {k : Nat} {ind : InD} {tD : XD → TSD}
end
end DL
end
section
namespace DL
open PySem PySem.Spec PyProof.Rows L2 LamX LMX
theorem takes0 {X : Cx} : Takes X fun cls d _ H => E0 cls d H := fun _ _ ⟨_, _, _, _, _, _, _, _, _, _, _, _, _, _, _, _, h⟩ => h.elim
def freeB (sc outer : Scope) : Bool := sc.names.all fun y => !decide (y.2 = .free) || (decide (outer.names.lookup y.1 = some .cell) || decide (outer.names.lookup y.1 = some .free))
theorem free_by {sc outer : Scope} (h : freeB sc outer = true) : ∀ y ∈ sc.names, y.2 = .free → outer.names.lookup y.1 = some .cell ∨ outer.names.lookup y.1 = some .free := fun y hy e => by
  have q := List.all_eq_true.mp h y hy
  rw [e] at q
  simpa using q
section
variable {K : PySem.W.Frag} {S : Sit} {c : Cl} {X : Cx} {te t1 t2 : TE} {a a1 a2 : TED} {e e1 e2 : Expr} {pos p0 p1 p2 : Pos} {x y : Str} {C c0 P : Addr} {T : List (Addr × Str)} {params : Arguments} {body : Expr} {scope : Scope}
theorem de_lam0 (hS : TabIn S T) (hm : (P, X.env.qual ++ "<lambda>") ∈ T) (TB : TabB X.base X.mg c0 P) (hcode : X.env.code = .ref c0) (hfree : freeB scope X.env.scope = true) (hdef : defaultsOf params X.env = ([], []) := by rfl) :
    DE K S c X (.Lambda params body scope pos) (tLamV P (X.env.qual ++ "<lambda>") (LamAt (X.env.qual ++ "<lambda>") params body scope (cloFrom X.env.cells scope.names []) false)) (dLam (LamAt (X.env.qual ++ "<lambda>") params body scope (cloFrom X.env.cells scope.names []) false)) :=
  ⟨pe_lam0 TB hcode (fun ok y hy e => (free_by hfree y hy e).elim (fun z => ok.has _ (.inl z)) fun z => ok.has _ (.inr z)) hdef, we_lam hS hm lamAt_vis⟩
end
end DL
end
section
namespace DL
open PySem PySem.Spec PyProof.Rows L2 LamX LMX
def stV : Stmt → Expr
  | .Assign _ v _ => v
  | .Expr v _ => v
  | .Return (some v) _ => v
  | .If t _ _ _ => t
  | .For _ t _ _ _ => t
  | _ => .Constant .none 0 ⟨0, 0, 0, 0⟩
def stB : Stmt → List Stmt
  | .If _ b _ _ => b
  | .For _ _ b _ _ => b
  | .While _ b _ _ => b
  | _ => []
def kids : Expr → List Expr
  | .List es _ => es
  | .Tuple es _ _ => es
  | .Call f as _ _ => f :: as
  | .BinOp a _ b _ => [a, b]
  | .UnaryOp _ a _ => [a]
  | .Attribute v _ _ => [v]
  | .Subscript a b _ => [a, b]
  | .IfExp a b c _ => [a, b, c]
  | .Compare l _ rs _ => l :: rs
  | .BoolOp _ es _ => es
  | _ => []
def kid (e : Expr) (i : Nat) : Expr := (kids e).getD i (.Constant .none 0 ⟨0, 0, 0, 0⟩)
def stAt (l : List Stmt) (i : Nat) : Stmt := l.getD i (.Pass ⟨0, 0, 0, 0⟩)
def lamP : Expr → Arguments
  | .Lambda p _ _ _ => p
  | _ => default
def lamB : Expr → Expr
  | .Lambda _ b _ _ => b
  | e => e
def lamS : Expr → Scope
  | .Lambda _ _ s _ => s
  | _ => default
theorem FunS.kbn {P : Program} {K : PySem.W.Frag} {x qual : Str} {st : Stmt} {D f : Addr} {fd : FuncData} {ps ks : List Str} {n : Nat} (F : FunS P K x qual st D f fd)
    (h : ∀ (kV doc pm : Value) (an : Option Addr) (cda : Addr) (ct : Value) (cc : Addr) (us ws : List Value), us.length = n → ws.length = ks.length → bindArgs (PySem.W.ksFn x qual (defArgs st) (defBody st) (defScope st) .none kV doc pm an (.ref cda) ct cc) ⟨us, ks.zip ws⟩ = pure (ps.zip (us ++ ws))) :
    KBn K fd ps n ks (fun us ws => us ++ ws) (fun us ws => us ++ ws) := by
  obtain ⟨oc, od, kV, doc, pm, an, cda, ct, osl, cc, rfl, _⟩ := F.ex
  exact ⟨fun s us ws _ l1 l2 => .of_eq (h kV doc pm an cda ct cc us ws l1 l2), fun r1 r2 => r1.append r2⟩
theorem xcls_of {P : Program} {w : World} {K : PySem.W.Frag} {mg : Str → Option Value} {base : Heap} {k : Nat} {x : Str} {C fI : Addr} {fs ps : List Str} {fd : FuncData} (T : XiOk P K mg C fs fI) (m : mg x = some (.ref C)) (F : FnOk P w K mg base CX0 k fI fd ps (spXI C fs))
    (hb : KBn K fd ps 1 fs (fun us ws => us ++ ws) (fun us ws => us ++ ws)) : XCls P w K mg base k x C fs := ⟨T.T, m, fI, fd, ps, T.i1, T.i2, F, hb⟩
open Classical in
noncomputable def exmT (K : PySem.W.Frag) (l : List Addr) (c d : Addr) : Option Bool := if c ∈ l then PySem.W.exmOne K (.ref c) (.ref d) else none
open Classical in
noncomputable def isaT (K : PySem.W.Frag) (l : List Addr) (c d : Addr) : Option Bool := if c ∈ l then PySem.W.kitOne K (.ref c) (.ref d) else none
open Classical in
noncomputable def isvT (K : PySem.W.Frag) (l : List Addr) (c : Addr) : Option Bool := if c ∈ l then PySem.W.kitOne K (.ref c) (.type "ValueError") else none
theorem exmT_some {K : PySem.W.Frag} {l : List Addr} {c d : Addr} {b : Bool} (h : exmT K l c d = some b) : c ∈ l ∧ PySem.W.exmOne K (.ref c) (.ref d) = some b := by
  unfold exmT at h
  split at h
  · rename_i m; exact ⟨m, h⟩
  · cases h
theorem isaT_some {K : PySem.W.Frag} {l : List Addr} {c d : Addr} {b : Bool} (h : isaT K l c d = some b) : c ∈ l ∧ PySem.W.kitOne K (.ref c) (.ref d) = some b := by
  unfold isaT at h
  split at h
  · rename_i m; exact ⟨m, h⟩
  · cases h
theorem isvT_some {K : PySem.W.Frag} {l : List Addr} {c : Addr} {b : Bool} (h : isvT K l c = some b) : c ∈ l ∧ PySem.W.kitOne K (.ref c) (.type "ValueError") = some b := by
  unfold isvT at h
  split at h
  · rename_i m; exact ⟨m, h⟩
  · cases h
end DL
end
section
namespace DL
open PySem PySem.Spec PyProof.Rows L2 LamX LMX
section
variable {K : PySem.W.Frag} {S : Sit} {c : Cl} {X : Cx} {CX : CXT} {E : XK} {xd : XD} {k : Nat} {p1 p2 p3 p0 pos : Pos} {e : Expr} {es : List Expr} {ts : TA} {as : TAD} {C f2 : Addr} {fd : FuncData} {ps : List Str} {ind : InD} {body : List Stmt}
end
section
variable {P : Program} {w : World} {K : PySem.W.Frag} {S : Sit} {mg : Str → Option Value} {base : Heap} {qual : Str} {st : Stmt} {f C D : Addr} {fd : FuncData} {N ps : List Str} {k : Nat} {ind : InD} {tD : XD → TSD}
end
theorem hd_ok {K : PySem.W.Frag} {S : Sit} {c : Cl} {X : Cx} {x : Str} {np pos : Pos} {on : Option Str} {b₀ : Stmt} {suite : List Stmt} {C : Value} {sub : Addr → Option Bool} {i : Option Nat} {t : Addr → List (Str × D) → (Hp → Addr → Prop) → TSD} (hn : Names X x C) (hs : ∀ cls b, sub cls = some b → PySem.W.exmOne X.K (.ref cls) C = some b)
    (hb : ∀ (a : Addr) (oe : Obj) (cls : Addr) (d : Option Addr) (fs : List (Str × D)) (pn : List (Addr × Obj)), Zc (.ref cls) d oe → (∃ vs, oe.data = .fields vs) → (∃ b, sub cls = some b) → ∃ ts, DSs K S c (X.suite a ((a, oe) :: pn)) (b₀ :: suite) ts (t cls fs (ExP K a d fs)))
    (ho : (on = none ∧ i = none) ∨ ∃ n j, on = some n ∧ i = some j ∧ X.N.Nodup ∧ X.N[j]? = some n ∧ X.env.kindOf n = some .local) : HdOk K S c X (.ExceptHandler (some (.Name x np)) on (b₀ :: suite) pos) ⟨sub, i, t⟩ :=
  ⟨⟨x, np, pos, on, b₀, suite, C, rfl, hn, hs, hb, ho⟩⟩
section
variable {K : PySem.W.Frag} {S : Sit} {c : Cl} {X : Cx} {CX : CXT} {E : XK} {xd : XD} {k n : Nat} {x : Str} {p pos : Pos} {e : Expr} {es : List Expr} {kws : List Keyword} {ts tk : TA} {as ks : TAD} {fi C : Addr} {fd : FuncData} {ps kn' : List Str} {ind : InD}
end
end DL
end
section
namespace Z
open PySem L2 DL
def eN (ns : Ns) : D := .tup (ns.map .str)
def eDs (ds : List Ns) : List D := ds.map eN
def ePlan (A : Cs) (ds : List Ns) (lead : Int) : D := .ins A.Plan ["_days", "_lead"] [.tup (eDs ds), .int lead]
def mPlace (day lead count : Int) : Int := if day < count then day else lead + (day - lead) % (count - lead)
def onDay (days : List Ns) (lead d : Int) : Ns := days.getD (mPlace d lead days.length).toNat []
def dryGo (days : List Ns) (lead : Int) (nm : Str) (lim : Int) : List Int → Int → List Int
  | [], _ => []
  | d :: r, k => let k' := if nm ∈ onDay days lead d then 0 else k + 1
    if lim ≤ k' then d :: dryGo days lead nm lim r k' else dryGo days lead nm lim r k'
def rngI (lo : Int) (n : Nat) : List Int := (List.range n).map fun k : Nat => lo + (k : Int)
def mDry (days : List Ns) (lead : Int) (f : Str × Int) (first last : Int) : List Int := dryGo days lead f.1 f.2 (rngI first (last + 1 - first).toNat) 0
def mAllDry (days : List Ns) (lead : Int) (f : Str × Int) : List Int := mDry days lead f 0 ((days.length : Int) + f.2 - 2)
def lim (fs : Fs) (n : Str) : Int := match fs.find? (fun f => f.1 == n) with
  | some f => f.2
  | none => 0
def sp_is_number (A : Cs) : SpD := fun ds P _ => ∃ v lo hi : Int, ds = [.int v, .int lo, .int hi] ∧ P (.bl (decide (lo ≤ v) && decide (v ≤ hi)))
def sp_is_name (A : Cs) : SpD := fun ds P _ => ∃ w, ds = [.str w] ∧ w.length ≤ 1000 ∧ P (.bl (isNm w))
def sp_Plan_days (A : Cs) : SpD := fun ds P _ => ∃ days lead, ds = [ePlan A days lead] ∧ P (.tup (eDs days))
def sp_Plan_lead (A : Cs) : SpD := fun ds P _ => ∃ days lead, ds = [ePlan A days lead] ∧ P (.int lead)
abbrev N_is_number : List Str := ["value", "low", "high"]
abbrev N_is_name : List Str := ["word", "letter"]
abbrev N_Plan_days : List Str := ["self"]
abbrev N_Plan_lead : List Str := ["self"]
def D_is_number (A : Cs) : TSD := (dRet (dAndV (dIsi "int" (dVar 0)) (dAndV (dNotV (dIsi "bool" (dVar 0))) (dChain rLeD rLeD (dVar 1) (dVar 0) (dVar 2)))))
def D_is_name (A : Cs) : TSD := (dRet (dAndV (dIsi "str" (dVar 0)) (dAndV (dChain rLeD rLeD (dC (.int 1)) (dCB rLenD (dCons (dVar 0) dNil)) (dC (.int 8))) (dCB rAllD (dCons (dOfN (nLc (iStrD (dVar 0)) (hName 1) dYes (dOp rInSD (dVar 1) (dC (.str "abcdefghijklmnopqrstuvwxyz"))) [1])) dNil)))))
def D_Plan_days (A : Cs) : TSD := (dRet (dFldC A.Plan "_days" (dVar 0)))
def D_Plan_lead (A : Cs) : TSD := (dRet (dFldC A.Plan "_lead" (dVar 0)))
end Z
end
section
namespace Z
open PySem PySem.Spec PyProof.Rows L2 DL
section
variable {K : PySem.W.Frag} {ks ds fs : List Str} {c d : Addr} {b : Bool}
theorem xtB_xk (h : xtB ks ds fs K = true) (hc : c ∈ ks.map (He.ga K)) : XkOk K fs c := by
  obtain ⟨k, hk, rfl⟩ := List.mem_map.mp hc
  obtain ⟨h1, _⟩ := He.ba h
  obtain ⟨h2, _⟩ := He.ba (List.all_eq_true.mp h1 k hk)
  exact xkB_ok h2
theorem xtab_of {A : Cs} (e1 : A.exm = exmT K (ks.map (He.ga K))) (e2 : A.isa = isaT K (ks.map (He.ga K))) (e3 : A.isv = isvT K (ks.map (He.ga K))) (e4 : A.FarmError = He.ga K "FarmError") (h : xtB ks ds fs K = true) (h2 : xeB (ks.map fun k => (k, "FarmError", true)) K = true) :
    XTab A (ks.map (He.ga K)) := by
  obtain ⟨g1, g2⟩ := He.ba h
  refine ⟨fun c hc => ?_, fun i j c d hc hd => ?_, fun c hc => ?_⟩
  · rw [e1, e4]
    unfold exmT
    rw [if_pos hc]
    obtain ⟨k, hk, rfl⟩ := List.mem_map.mp hc
    exact of_decide_eq_true (List.all_eq_true.mp h2 (k, "FarmError", true) (List.mem_map.mpr ⟨k, hk, rfl⟩))
  · rw [e2]
    unfold isaT
    rw [if_pos (List.mem_of_getElem? hc)]
    rw [List.getElem?_map] at hc hd
    obtain ⟨k, hk, rfl⟩ := Option.map_eq_some_iff.mp hc
    obtain ⟨k', hk', rfl⟩ := Option.map_eq_some_iff.mp hd
    have mem : ∀ {i : Nat} {k : Str}, ks[i]? = some k → (k, i) ∈ ks.zipIdx := fun {i k} e => by
      rw [List.mem_zipIdx_iff_getElem?]
      exact e
    exact of_decide_eq_true (List.all_eq_true.mp (List.all_eq_true.mp g2 (k, i) (mem hk)) (k', j) (mem hk'))
  · rw [e3]
    unfold isvT
    rw [if_pos hc]
    obtain ⟨k, hk, rfl⟩ := List.mem_map.mp hc
    obtain ⟨_, h3⟩ := He.ba (List.all_eq_true.mp g1 k hk)
    exact of_decide_eq_true h3
theorem code_at {x qual : Str} {st : Stmt} {f : Addr} {fd : FuncData} {p : He.Defn} (F : Fun K x qual st f fd) (e : f = He.fAd K p) : CodeAt K f (He.codeOf K p) := by
  intro oc od fd' osl lk
  obtain ⟨oc2, od2, kV, doc, pm, an, cdv, ct, osl2, rfl, lk2, hcd⟩ := F.ex
  rw [lk] at lk2
  obtain ⟨c, rfl⟩ := He.codeIn_ref hcd
  have e2 : fd' = PySem.W.fnOf x qual (defArgs st) (defBody st) (defScope st) .none kV doc pm an (.ref c) ct := by
    cases lk2
    rfl
  have e3 : fd'.code = .ref c := by rw [e2]
  rw [He.codeOf_eq (p := p) (by rw [← e]; exact lk) e3]
  exact e3
end
end Z
end
section
namespace Z
open PySem PySem.Spec PyProof.Rows L2 DL
end Z
end
section
namespace Z
open PySem PySem.Spec PyProof.Rows L2 DL LMX LamX
theorem ob_eq (s : PySem.W.SharedT) : ob s = hk.obs s.abs := seeZ_eq (HandSHeadRun.getT_eq s)
end Z
end
section
namespace DL
open PySem PySem.Spec PyProof.Rows L2
def rSplD : RMD := fun x ds P => match x, ds with
  | .str a, [.str b] => ((b.length == 0) = false ∧ a.length ≤ 1000000) ∧ P (.lst ((Txt.split a b).map .str))
  | _, _ => False
theorem lay_strs {K : PySem.W.Frag} {S : Sit} {Z : Addr → Prop} {H : Hp} {ys : List Str} {P : D → Prop} {Q : VK} (w : Wd S Z H) (hp : P (.lst (ys.map .str))) (q : ∀ v H' d, Kp S H H' → S.I H' → Rep K (hide H' Z) d v → P d → Q v H') : rNewStrs ys H Q :=
  fun l hl => q _ _ _ (Kp.new hl) (w.inew hl) (new_lst w hl (RepL.strs ys)) hp
theorem wm_split {K : PySem.W.Frag} {S : Sit} : WM K S (fun x xs H Q => ∃ a b, x = .str a ∧ xs = [.str b] ∧ (b.length == 0) = false ∧ a.length + 2 ≤ sizeLine ∧ rNewStrs (Txt.split a b) H Q) rSplD := by
  intro Z H x xs d ds P w r1 r2 hp Q q
  unfold rSplD at hp
  split at hp
  · obtain ⟨v, rfl, r3⟩ := repL1 r2
    unfold Rep at r1 r3
    exact ⟨_, _, r1, by rw [r3], hp.1.1, by rw [sizeLine_eq]; have := hp.1.2; omega, lay_strs w hp.2 q⟩
  · exact hp.elim
def rStrID : RCD := fun ds P => match ds with
  | [.int i] => i.natAbs.log2 < 1920 ∧ P (.str (toString i))
  | _ => False
theorem wc_strI {K : PySem.W.Frag} {S : Sit} : WC K S (fun xs H Q => ∃ i, xs = [.int i] ∧ i.natAbs.log2 < 1920 ∧ Q (.str (toString i)) H) rStrID := by
  intro Z H xs ds P w r hp Q q
  unfold rStrID at hp
  split at hp
  · obtain ⟨v, rfl, r3⟩ := repL1 r
    unfold Rep at r3
    exact ⟨_, by rw [r3], hp.1, q _ H _ (Kp.refl H) w.inv repS hp.2⟩
  · exact hp.elim
def rIntSD : RCD := fun ds P => match ds with
  | [.str a] => a.length ≤ 640 ∧ ∃ n, PySem.intText? a = some n ∧ P (.int n)
  | _ => False
theorem wc_intS {K : PySem.W.Frag} {S : Sit} : WC K S (fun xs H Q => ∃ a n, xs = [.str a] ∧ PySem.intText? a = some n ∧ a.length ≤ 640 ∧ Q (.int n) H) rIntSD := by
  intro Z H xs ds P w r hp Q q
  unfold rIntSD at hp
  split at hp
  · obtain ⟨v, rfl, r3⟩ := repL1 r
    unfold Rep at r3
    obtain ⟨hl, n, hn, hp⟩ := hp
    exact ⟨_, n, by rw [r3], hn, hl, q _ H _ (Kp.refl H) w.inv repI hp⟩
  · exact hp.elim
theorem dt_chain {K : PySem.W.Frag} {S : Sit} {c : Cl} {X : Cx} {ta tb tc : TE} {a b c' : TED} {e1 e2 e3 : Expr} {pos : Pos} {op op' : CmpOp} {r r' : R2} {rd rd' : R2D} (ho : OpR X (compareOp op) r) (hr : WR K S r rd) (ho' : OpR X (compareOp op') r') (hr' : WR K S r' rd') (ha : DE K S c X e1 ta a) (hb : DE K S c X e2 tb b) (hc : DE K S c X e3 tc c')
    (hm : lastMarks [op, op'] [e2, e3] = false := by rfl) : DT K S c X (.Compare e1 [op, op'] [e2, e3] pos) (tTest (tChain r r' ta tb tc)) (dTest (dChain rd rd' a b c')) :=
  ⟨pt_chain ho ho' ha.pe hb.pe hc.pe hm, wt_test (we_chain hr hr' ha.we hb.we hc.we)⟩
end DL
end
section
namespace Z
open PySem L2 DL
theorem len_is_number (A : Cs) : ∀ ds P x, sp_is_number A ds P x → ds.length = ["value", "low", "high"].length := by
  rintro ds P x ⟨_, _, _, rfl, _⟩
  rfl
theorem len_is_name (A : Cs) : ∀ ds P x, sp_is_name A ds P x → ds.length = ["word"].length := by
  rintro ds P x ⟨_, rfl, _⟩
  rfl
theorem len_Plan_days (A : Cs) : ∀ ds P x, sp_Plan_days A ds P x → ds.length = ["self"].length := by
  rintro ds P x ⟨_, _, rfl, _⟩
  rfl
theorem len_Plan_lead (A : Cs) : ∀ ds P x, sp_Plan_lead A ds P x → ds.length = ["self"].length := by
  rintro ds P x ⟨_, _, rfl, _⟩
  rfl
end Z
end
section
namespace Z
open PySem L2 DL
theorem pure_is_number (A : Cs) : ∀ ds P x, sp_is_number A ds P x → D_is_number A { nx := fun _ => P .non, rt := P } (startD N_is_number ds) := by
  rintro ds P x ⟨v, lo, hi, rfl, hp⟩
  refine ⟨rfl, rfl, ?_⟩
  show match (D.bl (decide (lo ≤ v))) with
    | .bl k => if k = true then _ else P (.bl false)
    | _ => False
  by_cases h : lo ≤ v
  · rw [decide_eq_true h] at hp ⊢
    exact hp
  · rw [decide_eq_false h] at hp ⊢
    exact hp
theorem pure_Plan_days (A : Cs) : ∀ ds P x, sp_Plan_days A ds P x → D_Plan_days A { nx := fun _ => P .non, rt := P } (startD N_Plan_days ds) := by
  rintro ds P x ⟨days, lead, rfl, hp⟩
  exact ⟨rfl, hp⟩
theorem pure_Plan_lead (A : Cs) : ∀ ds P x, sp_Plan_lead A ds P x → D_Plan_lead A { nx := fun _ => P .non, rt := P } (startD N_Plan_lead ds) := by
  rintro ds P x ⟨days, lead, rfl, hp⟩
  exact ⟨rfl, hp⟩
theorem pure_is_name (A : Cs) : ∀ ds P x, sp_is_name A ds P x → D_is_name A { nx := fun _ => P .non, rt := P } (startD N_is_name ds) := by
  rintro ds P x ⟨w, rfl, hz, hp⟩
  refine ⟨rfl, ?_⟩
  show w.length ≤ 1000000 ∧ _
  refine ⟨by omega, ?_⟩
  show if decide ((1 : Int) ≤ (w.length : Int)) = true then (if decide ((w.length : Int) ≤ 8) = true then (compD (strD w) (hName 1) dYes (dOp rInSD (dVar 1) (dC (.str "abcdefghijklmnopqrstuvwxyz"))) [some (.str w), none] fun ds => rAllD [.lst ds] P) else P (.bl false)) else P (.bl false)
  unfold isNm at hp
  by_cases h1 : 1 ≤ w.length
  · by_cases h2 : w.length ≤ 8
    · rw [if_pos (decide_eq_true (by omega)), if_pos (decide_eq_true (by omega))]
      rw [decide_eq_true h1, decide_eq_true h2] at hp
      rw [strD_map]
      refine comp_of (f := fun k => .bl (("abcdefghijklmnopqrstuvwxyz" : Str).cps.toList.contains k)) (by rw [Array.length_toList]; show w.length ≤ _; omega) (fun k hk Q q => ⟨k, rfl, ?_⟩) ⟨w.cps.toList.map fun k => ("abcdefghijklmnopqrstuvwxyz" : Str).cps.toList.contains k, by rw [List.map_map]; rfl, ?_⟩
      · rw [List.contains_eq_mem] at q
        exact q
      · rw [List.all_map]
        simpa using hp
    · rw [if_pos (decide_eq_true (by omega)), if_neg (by simp; omega)]
      rw [decide_eq_false h2, Bool.and_false, Bool.false_and] at hp
      exact hp
  · rw [if_neg (by simp; omega)]
    rw [decide_eq_false h1, Bool.false_and, Bool.false_and] at hp
    exact hp
theorem nm_ok {w : Str} (h : isNm w = true) : PyData.strOk w = true := by
  unfold isNm at h
  have h2 := (Bool.and_eq_true _ _ ▸ h).2
  unfold PyData.strOk
  rw [Array.all_eq_true']
  intro k hk
  have h3 := List.all_eq_true.mp h2 k (Array.mem_toList_iff.mpr hk)
  rw [List.contains_eq_mem] at h3
  have h4 : ∀ j ∈ ("abcdefghijklmnopqrstuvwxyz" : Str).cps.toList, j < 1114112 := by decide
  exact decide_eq_true (h4 k (by simpa using h3))
theorem rngI_len (lo : Int) (n : Nat) : (rngI lo n).length = n := by unfold rngI; simp
end Z
end
section
namespace Z
open PySem L2 DL
def chk (xs : List Int) : Int := xs.foldl (fun a b => (3 * a + b) % 233) 5
def encName (n : Str) : List Int := n.cps.toList.map fun c : Nat => (c : Int) - 97
def encF (f : Str × Int) : List Int := f.2 :: (f.1.length : Int) :: encName f.1
def encB (fs : Fs) : List Int := 72 :: (fs.length : Int) :: fs.flatMap encF
def enc (fs : Fs) : List Int := encB fs ++ [chk (encB fs)]
theorem idx_all : ∀ c ∈ ("abcdefghijklmnopqrstuvwxyz" : Str).cps.toList, 97 ≤ c ∧ c < 123 ∧ (Builtin.Str.occurrences ("abcdefghijklmnopqrstuvwxyz" : Str) ⟨#[c]⟩ 0 ("abcdefghijklmnopqrstuvwxyz" : Str).length 1).head? = some (c - 97) := by decide +kernel
theorem nm_let {n : Str} (h : isNm n = true) : ∀ c ∈ n.cps.toList, c ∈ ("abcdefghijklmnopqrstuvwxyz" : Str).cps.toList := by
  unfold isNm at h
  have h2 := (Bool.and_eq_true _ _ ▸ h).2
  intro c hc
  have h3 := List.all_eq_true.mp h2 c hc
  rw [List.contains_eq_mem] at h3
  simpa using h3
theorem nm_len {n : Str} (h : isNm n = true) : 1 ≤ n.length ∧ n.length ≤ 8 := by
  unfold isNm at h
  simp at h
  omega
theorem cps_len (n : Str) : n.cps.toList.length = n.length := by
  show n.cps.toList.length = n.cps.size
  simp
end Z
end
section
namespace Z
open PySem L2 DL
end Z
end
section
namespace Z
open PySem
end Z
end
section
namespace Z
open PySem
end Z
end
section
namespace Z
open PySem
end Z
end
section
namespace Z
open PySem
end Z
end
section
namespace Z
open PySem
end Z
end
section
namespace Z
open PySem L2 DL
end Z
end
section
namespace Z
open PySem L2 DL
def plainD : Nat → D → Bool
  | _, .non => true
  | _, .bl _ => true
  | _, .int _ => true
  | _, .str x => PyData.strOk x
  | n + 1, .lst ds => decide (ds.length ≤ 100000) && ds.all (plainD n)
  | n + 1, .tup ds => decide (ds.length ≤ 100000) && ds.all (plainD n)
  | _, _ => false
def spSame (n : Nat) : SpD := fun ds P _ => ∃ d, ds = [d, d] ∧ plainD n d = true ∧ P (.bl true)
end Z
end
section
namespace Z
open PySem L2 DL
theorem at_lstD {ds : List D} {i : Int} {x : D} {P : D → Prop} (h0 : 0 ≤ i) (h : ds[i.toNat]? = some x) (hp : P x) : rIxD (.lst ds) (.int i) P := by
  have e : ds = ds.map fun d => d := by simp
  rw [e]
  exact at_lst (xs := ds) (f := fun d => d) h0 h hp
theorem at_tupD {ds : List D} {i : Int} {x : D} {P : D → Prop} (h0 : 0 ≤ i) (h : ds[i.toNat]? = some x) (hp : P x) : rIxD (.tup ds) (.int i) P := by
  have e : ds = ds.map fun d => d := by simp
  rw [e]
  exact at_tup (xs := ds) (f := fun d => d) h0 h hp
section
theorem ne_bl_same {b : Bool} {P : D → Prop} (hp : P (.bl false)) : rNeDD (.bl b) (.bl b) P := by
  unfold rNeDD
  refine ⟨⟨rfl, rfl⟩, ?_⟩
  rw [show PyData.eqv (D.bl b).py (D.bl b).py = true from by show (b == b) = true; simp]
  exact hp
theorem eq_bl_same {b : Bool} {P : D → Prop} (hp : P (.bl true)) : rEqDD (.bl b) (.bl b) P := by
  unfold rEqDD
  refine ⟨⟨rfl, rfl⟩, ?_⟩
  rw [show PyData.eqv (D.bl b).py (D.bl b).py = true from by show (b == b) = true; simp]
  exact hp
theorem flat_strs : ∀ {xs : List Str}, (∀ x ∈ xs, PyData.strOk x = true) → D.flatL 59 (xs.map D.str) = true
  | [], _ => rfl
  | x :: xs, h => by
    rw [List.map_cons]
    unfold D.flatL
    rw [flat_strs fun y hy => h y (List.mem_cons_of_mem _ hy)]
    unfold D.flat
    rw [h x List.mem_cons_self]
    rfl
theorem ne_nil_strs {xs : List Str} {P : D → Prop} (h : ∀ x ∈ xs, PyData.strOk x = true) (hp : P (.bl (!xs.isEmpty))) : rNeDD (.lst (xs.map D.str)) (.lst []) P := by
  unfold rNeDD
  refine ⟨⟨flat_strs h, rfl⟩, ?_⟩
  cases xs with
  | nil => exact hp
  | cons x xs => exact hp
end
end Z
end
section
namespace Z
open PySem L2 DL
theorem erase_map {α : Type} (f : α → D) : ∀ (xs : List α) (n : Nat), (xs.map f).eraseIdx n = (xs.eraseIdx n).map f
  | [], _ => rfl
  | _ :: _, 0 => rfl
  | x :: xs, n + 1 => by
    show f x :: (xs.map f).eraseIdx n = f x :: (xs.eraseIdx n).map f
    rw [erase_map f xs n]
theorem erase_perm : ∀ {xs : List Str} {k : Nat} (h : k < xs.length), (xs[k] :: xs.eraseIdx k).Perm xs
  | _ :: _, 0, _ => List.Perm.refl _
  | x :: xs, k + 1, h => by
    have h' : k < xs.length := by simpa using h
    show (xs[k] :: x :: xs.eraseIdx k).Perm (x :: xs)
    exact (List.Perm.swap x xs[k] _).trans ((erase_perm h').cons x)
theorem pop_at {xs : List Str} {j : Nat} {r : Int} {N : D → EnvD → Prop} {ρ : EnvD} (hi : ρ[j]? = some (some (.own .lst (xs.map D.str)))) (h0 : 0 ≤ r) (h1 : r < xs.length) (hz : xs.length ≤ 1000000)
    (h : ∀ x, xs[r.toNat]? = some x → N (.str x) (ρ.set j (some (.own .lst ((xs.eraseIdx r.toNat).map D.str))))) : popD j (.int r) N ρ := by
  unfold popD
  rw [hi]
  have lt : r.toNat < xs.length := by omega
  refine ⟨⟨h0, by rw [List.length_map]; exact h1, by rw [List.length_map]; exact hz⟩, ?_⟩
  rw [List.getElem?_map, List.getElem?_eq_getElem lt, erase_map]
  exact h _ (List.getElem?_eq_getElem lt)
theorem end_at {α : Type} {xs : List α} {f : α → D} {i : Nat} {d : D} {N : EnvD → Prop} {ρ : EnvD} (hi : ρ[i]? = some (some (.own .lst (xs.map f)))) (hz : xs.length < 1000000) (h : N (ρ.set i (some (.own .lst (xs.map f ++ [d]))))) : endD i d N ρ := by
  unfold endD
  rw [hi]
  exact ⟨by rw [List.length_map]; exact hz, h⟩
theorem take_out {day left : List Str} {k : Nat} {x : Str} (h : left[k]? = some x) : ((day ++ [x]) ++ left.eraseIdx k).Perm (day ++ left) := by
  obtain ⟨hk, rfl⟩ := List.getElem?_eq_some_iff.mp h
  rw [List.append_assoc]
  exact List.Perm.append_left day (erase_perm hk)
def letters : List Str := ("abcdefgh" : Str).cps.toList.map fun k => ⟨#[k]⟩
structure SoFar (acc : Fs) (left : List Str) (st : Int) : Prop where
  pm : (acc.map (·.1) ++ left).Perm letters
  lm : ∀ f ∈ acc, 1 ≤ f.2 ∧ f.2 ≤ 30
  eq : st = acc.foldl (fun a f => a * f.2) 1
  lo : 1 ≤ st
  hi : st ≤ 4000
end Z
end
section
namespace Z
open PySem L2 DL
def sp_rlaw_shuffled (A : Cs) (l : Addr) : SpD := fun ds P _ => ∃ xs : Ns, ds = [.adr l, .lst (xs.map .str)] ∧ xs.length ≤ 1000 ∧ (∀ n ∈ xs, PyData.strOk n = true) ∧ ∀ ys : Ns, ys.Perm xs → P (.lst (ys.map .str))
abbrev N_rlaw_equal : List Str := ["_law_actual", "_law_expected", "_law_k"]
def D_rlaw_equal (A : Cs) (rc : SpD) : TSD := (dSeq (dIfS (dTest (dOp rIsND (dVar 1) (dC .non))) (dRet (dOp rIsND (dVar 0) (dC .non))) dNext) (dSeq (dIfS (dTest (dIsi "bool" (dVar 1))) (dRet (dAndV (dIsi "bool" (dVar 0)) (dOp rEqDD (dVar 0) (dVar 1)))) dNext) (dSeq (dIfS (dTest (dIsi "int" (dVar 1))) (dRet (dAndV (dIsi "int" (dVar 0)) (dAndV (dNotV (dIsi "bool" (dVar 0))) (dOp rEqDD (dVar 0) (dVar 1))))) dNext) (dSeq (dIfS (dTest (dIsi "str" (dVar 1))) (dRet (dAndV (dIsi "str" (dVar 0)) (dOp rEqDD (dVar 0) (dVar 1)))) dNext) (dSeq (dIfS (dTest (dOp rNeDD (dIsi "tuple" (dVar 1)) (dIsi "tuple" (dVar 0)))) (dRet (dC (.bl false))) dNext) (dSeq (dIfS (dTest (dOp rNeDD (dIsi "list" (dVar 1)) (dIsi "list" (dVar 0)))) (dRet (dC (.bl false))) dNext) (dSeq (dIfS (dTest (dOp rNeDD (dCB rLenD (dCons (dVar 0) dNil)) (dCB rLenD (dCons (dVar 1) dNil)))) (dRet (dC (.bl false))) dNext) (dRet (dCB rAllD (dCons (dOfN (nLc (iRng1D (dCons (dCB rLenD (dCons (dVar 1) dNil)) dNil)) (hName 2) dYes (dCall rc x0 (dCons (dOp rIxD (dVar 0) (dVar 2)) (dCons (dOp rIxD (dVar 1) (dVar 2)) dNil))) [2])) dNil))))))))))
abbrev N_rlaw_shuffled : List Str := ["_law_d", "_law_items", "_law_pool", "_law_result"]
def D_rlaw_shuffled (A : Cs) (l : Addr) : TSD := (dSeq (dSetN 2 (nList (dCons (dVar 1) dNil))) (dSeq (dSetN 3 (nLst dNil)) (dSeq (dWhile (dTest (dOp rNeDD (dVar 2) (dLst dNil))) (dAppPop 3 2 (dCall (spDrawn l) x0 (dCons (dVar 0) (dCons (dCB rLenD (dCons (dVar 2) dNil)) dNil))))) (dRet (dVar 3)))))
theorem len_rlaw_shuffled (A : Cs) (l : Addr) : ∀ ds P x, sp_rlaw_shuffled A l ds P x → ds.length = (["_law_d", "_law_items"] : List Str).length := by
  rintro ds P x ⟨_, rfl, _⟩
  rfl
theorem pure_equal (A : Cs) (n : Nat) : ∀ ds P x, spSame n ds P x → D_rlaw_equal A (match n with | 0 => fun _ _ _ => False | m + 1 => spSame m) { nx := fun _ => P .non, rt := P } (startD N_rlaw_equal ds) := by
  rintro ds P x ⟨d, rfl, hd, hp⟩
  have seq : ∀ (ds : List D) (m : Nat), n = m + 1 → ds.length ≤ 100000 → ds.all (plainD m) = true → ∀ (mk : List D → D) (hmk : mk = D.lst ∨ mk = D.tup), D_rlaw_equal A (match n with | 0 => fun _ _ _ => False | m + 1 => spSame m) { nx := fun _ => P .non, rt := P } (startD N_rlaw_equal [mk ds, mk ds]) := by
    intro ds m hm hz hall mk hmk
    subst hm
    rcases hmk with rfl | rfl
    all_goals
      refine ⟨rfl, rfl, rfl, rfl, rfl, ne_bl_same ?_⟩
      refine ⟨rfl, rfl, ne_bl_same ?_⟩
      refine ne_int ?_
      rw [decide_eq_true rfl]
      show (-1000000000 ≤ (ds.length : Int) ∧ (ds.length : Int) ≤ 1000000000000000000000 ∧ (ds.length : Int) < 2 ^ 62) ∧ compD (rngD 0 (ds.length : Int).toNat) _ _ _ _ _
      refine ⟨⟨by omega, by omega, by omega⟩, ?_⟩
      rw [Int.toNat_natCast]
      refine comp_of (xs := List.range ds.length) (enc := fun k : Nat => .int (0 + (k : Int))) (f := fun _ : Nat => D.bl true) (by rw [List.length_range]; omega) (fun k hk Q h => ?_) ?_
      · have hk' := List.mem_range.mp hk
        have eg : ds[(0 + (k : Int)).toNat]? = some ds[k] := by rw [show (0 + (k : Int)).toNat = k by omega]; exact List.getElem?_eq_getElem hk'
        have hpl := List.all_eq_true.mp hall ds[k] (List.getElem_mem hk')
        first
          | exact at_lstD (by omega) eg (at_lstD (by omega) eg ⟨ds[k], rfl, hpl, h⟩)
          | exact at_tupD (by omega) eg (at_tupD (by omega) eg ⟨ds[k], rfl, hpl, h⟩)
      · refine ⟨(List.range ds.length).map fun _ => true, by rw [List.map_map]; rfl, ?_⟩
        rw [show ((List.range ds.length).map fun _ => true).all id = true from by simp]
        exact hp
  cases d with
  | non => exact hp
  | bl b => exact ⟨rfl, rfl, eq_bl_same hp⟩
  | int i => exact ⟨rfl, rfl, rfl, rfl, eq_int (by rw [decide_eq_true rfl]; exact hp)⟩
  | str z =>
    have hz : PyData.strOk z = true := by unfold plainD at hd; exact hd
    exact ⟨rfl, rfl, rfl, rfl, eq_str hz hz (by rw [decide_eq_true rfl]; exact hp)⟩
  | lst ds =>
    cases n with
    | zero => unfold plainD at hd; cases hd
    | succ m =>
      unfold plainD at hd
      obtain ⟨h1, h2⟩ := Bool.and_eq_true_iff.mp hd
      exact seq ds m rfl (of_decide_eq_true h1) h2 D.lst (.inl rfl)
  | tup ds =>
    cases n with
    | zero => unfold plainD at hd; cases hd
    | succ m =>
      unfold plainD at hd
      obtain ⟨h1, h2⟩ := Bool.and_eq_true_iff.mp hd
      exact seq ds m rfl (of_decide_eq_true h1) h2 D.tup (.inr rfl)
  | _ => cases n <;> (unfold plainD at hd; cases hd)
theorem pure_rlaw_shuffled (A : Cs) (l : Addr) : ∀ ds P x, sp_rlaw_shuffled A l ds P x → D_rlaw_shuffled A l { nx := fun _ => P .non, rt := P } (startD N_rlaw_shuffled ds) := by
  rintro ds P x ⟨xs, rfl, hz, sok, hp⟩
  refine ⟨(by decide : (0 : Nat) ≤ 1000000), fun m ρ => ∃ pool res : Ns, ρ = [some (.adr l), some (.lst (xs.map .str)), some (.own .lst (pool.map .str)), some (.own .lst (res.map .str))] ∧ (res ++ pool).Perm xs ∧ m = pool.length, ⟨_, xs, [], rfl, List.Perm.refl _, rfl⟩, ?_⟩
  rintro m ρ ⟨pool, res, rfl, pm, rfl⟩
  have hlen := pm.length_eq
  rw [List.length_append] at hlen
  have lok : ∀ n ∈ pool, PyData.strOk n = true := fun n hn => sok n (pm.mem_iff.mp (List.mem_append_right _ hn))
  refine ⟨(by decide : (0 : Nat) ≤ 1000000), ne_nil_strs lok ?_⟩
  cases hl : pool.isEmpty with
  | true =>
    have e : pool = [] := by simpa using hl
    subst e
    rw [List.append_nil] at pm
    exact hp res pm
  | false =>
    have lpos : 0 < pool.length := by
      cases pool with
      | nil => cases hl
      | cons _ _ => exact Nat.succ_pos _
    refine ⟨⟨⟨_, rfl⟩, ⟨_, rfl⟩⟩, ((pool.map D.str).length : Int), rfl, ⟨by rw [List.length_map]; omega, by rw [List.length_map]; omega⟩, fun z z0 z1 => ?_⟩
    rw [List.length_map] at z1
    refine pop_at (xs := pool) rfl z0 z1 (by omega) fun n hn => ?_
    refine end_at (xs := res) (f := D.str) rfl (by omega) ?_
    refine ⟨_, ?_, pool.eraseIdx z.toNat, res ++ [n], ?_, (take_out hn).trans pm, rfl⟩
    · rw [List.length_eraseIdx_of_lt (by omega)]
      omega
    · rw [List.map_append]
      rfl
end Z
end
section
namespace Z
open PySem L2 DL
theorem ifp {c : Prop} [Decidable c] {a b : Prop} (h : c) (ha : a) : if c then a else b := by rw [if_pos h]; exact ha
theorem ifn {c : Prop} [Decidable c] {a b : Prop} (h : ¬ c) (hb : b) : if c then a else b := by rw [if_neg h]; exact hb
def Sm (v : Int) : Prop := -1000000000000000000000000 < v ∧ v < 1000000000000000000000000
theorem sm_fm {v : Int} (h : Sm v) : v.natAbs.log2 < 1920 := by
  unfold Sm at h
  by_cases e : v.natAbs = 0
  · rw [e]; decide
  · refine (Nat.log2_lt e).mpr (Nat.lt_of_lt_of_le (m := 2 ^ 80) ?_ (Nat.pow_le_pow_right (by decide) (by decide)))
    have : (2 : Nat) ^ 80 = 1208925819614629174706176 := by decide
    omega
theorem fm_int {v : Int} (h : Sm v) : FmD (.int v) := .inl ⟨v, rfl, sm_fm h⟩
inductive Cart where
  | steady (w : Str) | resting (w : Str) (e d : Int) | shift (w : Str) (a b : Int) | late (w : Str) (f : Int)
def Cart.enc (A : Cs) : Cart → D
  | .steady w => .ins A.Cart ["name"] [.str w]
  | .resting w e d => .ins A.RestingCart ["name", "every", "day"] [.str w, .int e, .int d]
  | .shift w a b => .ins A.ShiftCart ["name", "work", "pause"] [.str w, .int a, .int b]
  | .late w f => .ins A.LateCart ["name", "first"] [.str w, .int f]
def Cart.on : Cart → Int → Bool
  | .steady _, _ => true
  | .resting _ e d, n => !decide (n % e = d)
  | .shift _ a b, n => decide (n % (a + b) < a)
  | .late _ f, n => decide (f ≤ n)
def Cart.ok : Cart → Prop
  | .steady _ => True
  | .resting _ e _ => 0 < e
  | .shift _ a b => 0 < a + b
  | .late _ _ => True
def LAST : Int := 1000000000000000000
def ErrIs (A : Cs) (cls : Addr) (fs : List (Str × D)) (r : D) : Prop :=
  (cls = A.InvalidCart ∧ ∃ d, fs.lookup ("part" : Str) = some d ∧ r = .tup [.str "cart", d]) ∨ (cls = A.InvalidOperation ∧ ∃ d, fs.lookup ("index" : Str) = some d ∧ r = .tup [.str "operation", d]) ∨
  (cls = A.InvalidText ∧ ∃ d e, fs.lookup ("row" : Str) = some d ∧ fs.lookup ("word" : Str) = some e ∧ r = .tup [.str "text", .tup [d, e]]) ∨ (cls = A.DecodeError ∧ ∃ d, fs.lookup ("offset" : Str) = some d ∧ r = .tup [.str "decode", d]) ∨
  (cls = A.UnknownField ∧ ∃ d, fs.lookup ("name" : Str) = some d ∧ r = .tup [.str "field", d]) ∨ (cls = A.InvalidNumber ∧ r = .tup [.str "number", .int 0]) ∨ (cls = A.InvalidPlan ∧ ∃ d, fs.lookup ("index" : Str) = some d ∧ r = .tup [.str "plan", d])
def errX (A : Cs) (P : D → Prop) : XD := fun cls fs => ∃ r, ErrIs A cls fs r ∧ P r
def sp_rlaw_error_of (A : Cs) (Act : ActT) : SpD := fun ds P x => ∃ p T, ds = [.sem p] ∧ Act p T ∧ ∀ X : XD, (∀ cls fs, errX A P cls fs → X cls fs) → T (fun _ => P .non) X
theorem len_rlaw_error_of (A : Cs) (Act : ActT) : ∀ ds P x, sp_rlaw_error_of A Act ds P x → ds.length = (["_law_call"] : List Str).length := by
  rintro ds P x ⟨_, _, rfl, _⟩; rfl
abbrev N_rlaw_error_of : List Str := ["_law_call", "e", "_law_kinds", "_law_name"]
def D_rlaw_error_of (A : Cs) (Act : ActT) : TSD := (dSeq (dTry x0 (fun x => (dDrop (dAct Act 0 x))) [⟨fun cls => A.exm cls A.FarmError, some 1, fun cls fs p => (dSeq (dSet 2 (dLst (dCons (dIsX 1 p (A.isa cls A.InvalidCart)) (dCons (dIsX 1 p (A.isa cls A.InvalidOperation)) (dCons (dIsX 1 p (A.isa cls A.InvalidText)) dNil))))) (dSeq (dSet 2 (dOp rCatLD (dVar 2) (dLst (dCons (dIsX 1 p (A.isa cls A.DecodeError)) (dCons (dIsX 1 p (A.isa cls A.UnknownField)) (dCons (dIsX 1 p (A.isa cls A.InvalidNumber)) dNil)))))) (dSeq (dSet 2 (dOp rCatLD (dVar 2) (dLst (dCons (dIsX 1 p (A.isa cls A.InvalidPlan)) dNil)))) (dSeq (dIfS (dOr (dTest (dOp rNeDD (dBM "list" rLCntD (dVar 2) (dCons (dC (.bl true)) dNil)) (dC (.int 1)))) (dNot (dTest (dIsX 1 p (A.isv cls))))) (dRet (dTup (dCons (dC (.str "other")) (dCons (dC (.int 0)) dNil)))) dNext) (dSeq (dSet 3 (dOp rIxD (dLst (dCons (dC (.str "cart")) (dCons (dC (.str "operation")) (dCons (dC (.str "text")) (dCons (dC (.str "decode")) (dCons (dC (.str "field")) (dCons (dC (.str "number")) (dCons (dC (.str "plan")) dNil)))))))) (dBM "list" rLIdxD (dVar 2) (dCons (dC (.bl true)) dNil)))) (dSeq (dIfS (dTest (dOp (rInD false) (dVar 3) (dLst (dCons (dC (.str "operation")) (dCons (dC (.str "plan")) dNil))))) (dRet (dTup (dCons (dVar 3) (dCons (dXf 1 p fs "index") dNil)))) dNext) (dSeq (dIfS (dTest (dOp (rInD false) (dVar 3) (dLst (dCons (dC (.str "cart")) (dCons (dC (.str "field")) dNil))))) (dRet (dTup (dCons (dVar 3) (dCons (dIf (dTest (dOp rEqDD (dVar 3) (dC (.str "cart")))) (dXf 1 p fs "part") (dXf 1 p fs "name")) dNil)))) dNext) (dRet (dTup (dCons (dVar 3) (dCons (dIf (dTest (dOp rEqDD (dVar 3) (dC (.str "text")))) (dTup (dCons (dXf 1 p fs "row") (dCons (dXf 1 p fs "word") dNil))) (dIf (dTest (dOp rEqDD (dVar 3) (dC (.str "decode")))) (dXf 1 p fs "offset") (dC (.int 0)))) dNil)))))))))))⟩]) (dRet (dC .non)))
theorem xf_of {i : Nat} {p : Hp → Addr → Prop} {fl : List (Str × D)} {f : Str} {d : D} {ρ : EnvD} {P : D → Prop} (h : fl.lookup f = some d) (hr : ρ[i]? = some (some (.sem p))) (hp : P d) : dXf i p fl f ρ P := by
  refine ⟨hr, ?_⟩
  rw [h]
  exact hp
theorem idx_pre {xs : List D} {d : D} {j : Nat} (h : (xs.take j).all (fun z => !eqV z.v d.v) = true) : ∀ m z', m < j → xs[m]? = some z' → eqV z'.v d.v = false := by
  intro m z hm hz
  have := List.all_eq_true.mp h z (List.mem_of_getElem? (i := m) (by rw [List.getElem?_take_of_lt hm]; exact hz))
  simpa using this
abbrev xks7 (A : Cs) : List Addr := [A.InvalidCart, A.InvalidOperation, A.InvalidText, A.DecodeError, A.UnknownField, A.InvalidNumber, A.InvalidPlan]
theorem pure_rlaw_error_of (A : Cs) (xt : XTab A (xks7 A)) (Act : ActT) : ∀ ds P x, sp_rlaw_error_of A Act ds P x → D_rlaw_error_of A Act { nx := fun _ => P .non, rt := P } (startD N_rlaw_error_of ds) := by
  rintro ds P x ⟨p, T, rfl, hA, h⟩
  refine ⟨T, hA, h _ ?_⟩
  rintro cls fs ⟨r, he, hp⟩
  rcases he with ⟨rfl, d, hd, rfl⟩ | ⟨rfl, d, hd, rfl⟩ | ⟨rfl, d, e, hd, hd2, rfl⟩ | ⟨rfl, d, hd, rfl⟩ | ⟨rfl, d, hd, rfl⟩ | ⟨rfl, rfl⟩ | ⟨rfl, d, hd, rfl⟩
  · refine ⟨true, xt.exm _ (List.mem_of_getElem? (i := 0) rfl), fun _ p => ?_, fun h => nomatch h⟩
    refine ⟨rfl, ?_⟩
    rw [xt.isa 0 0 _ _ rfl rfl]
    refine ⟨rfl, ?_⟩
    rw [xt.isa 0 1 _ _ rfl rfl]
    refine ⟨rfl, ?_⟩
    rw [xt.isa 0 2 _ _ rfl rfl]
    refine ⟨by decide, ?_⟩
    refine ⟨rfl, ?_⟩
    rw [xt.isa 0 3 _ _ rfl rfl]
    refine ⟨rfl, ?_⟩
    rw [xt.isa 0 4 _ _ rfl rfl]
    refine ⟨rfl, ?_⟩
    rw [xt.isa 0 5 _ _ rfl rfl]
    refine ⟨by decide, by decide, ?_⟩
    refine ⟨rfl, ?_⟩
    rw [xt.isa 0 6 _ _ rfl rfl]
    refine ⟨by decide, by decide, ?_⟩
    refine ⟨rfl, ⟨rfl, rfl⟩, ne_int ?_⟩
    refine ifn (by decide) ?_
    refine ⟨rfl, ?_⟩
    rw [xt.isv _ (List.mem_of_getElem? (i := 0) rfl)]
    refine ifn (by decide) ?_
    refine ⟨by decide, rfl, ⟨rfl, rfl⟩, 0, .bl true, rfl, rfl, idx_pre rfl, ?_⟩
    refine at_lstD' (x := .str "cart") (by decide) rfl ?_
    refine ⟨by decide, in_str (xs := ["operation", "plan"]) false rfl ?_⟩
    refine ifn (by decide) ?_
    refine ⟨by decide, in_str (xs := ["cart", "field"]) false rfl ?_⟩
    refine ifp (by decide) ?_
    refine eq_str (by decide +kernel) (by decide +kernel) ?_
    refine ifp (by decide) ?_
    exact xf_of hd (by rfl) ⟨(by decide : (2 : Nat) ≤ 1000000), hp⟩
  · refine ⟨true, xt.exm _ (List.mem_of_getElem? (i := 1) rfl), fun _ p => ?_, fun h => nomatch h⟩
    refine ⟨rfl, ?_⟩
    rw [xt.isa 1 0 _ _ rfl rfl]
    refine ⟨rfl, ?_⟩
    rw [xt.isa 1 1 _ _ rfl rfl]
    refine ⟨rfl, ?_⟩
    rw [xt.isa 1 2 _ _ rfl rfl]
    refine ⟨by decide, ?_⟩
    refine ⟨rfl, ?_⟩
    rw [xt.isa 1 3 _ _ rfl rfl]
    refine ⟨rfl, ?_⟩
    rw [xt.isa 1 4 _ _ rfl rfl]
    refine ⟨rfl, ?_⟩
    rw [xt.isa 1 5 _ _ rfl rfl]
    refine ⟨by decide, by decide, ?_⟩
    refine ⟨rfl, ?_⟩
    rw [xt.isa 1 6 _ _ rfl rfl]
    refine ⟨by decide, by decide, ?_⟩
    refine ⟨rfl, ⟨rfl, rfl⟩, ne_int ?_⟩
    refine ifn (by decide) ?_
    refine ⟨rfl, ?_⟩
    rw [xt.isv _ (List.mem_of_getElem? (i := 1) rfl)]
    refine ifn (by decide) ?_
    refine ⟨by decide, rfl, ⟨rfl, rfl⟩, 1, .bl true, rfl, rfl, idx_pre rfl, ?_⟩
    refine at_lstD' (x := .str "operation") (by decide) rfl ?_
    refine ⟨by decide, in_str (xs := ["operation", "plan"]) false rfl ?_⟩
    refine ifp (by decide) ?_
    exact xf_of hd (by rfl) ⟨(by decide : (2 : Nat) ≤ 1000000), hp⟩
  · refine ⟨true, xt.exm _ (List.mem_of_getElem? (i := 2) rfl), fun _ p => ?_, fun h => nomatch h⟩
    refine ⟨rfl, ?_⟩
    rw [xt.isa 2 0 _ _ rfl rfl]
    refine ⟨rfl, ?_⟩
    rw [xt.isa 2 1 _ _ rfl rfl]
    refine ⟨rfl, ?_⟩
    rw [xt.isa 2 2 _ _ rfl rfl]
    refine ⟨by decide, ?_⟩
    refine ⟨rfl, ?_⟩
    rw [xt.isa 2 3 _ _ rfl rfl]
    refine ⟨rfl, ?_⟩
    rw [xt.isa 2 4 _ _ rfl rfl]
    refine ⟨rfl, ?_⟩
    rw [xt.isa 2 5 _ _ rfl rfl]
    refine ⟨by decide, by decide, ?_⟩
    refine ⟨rfl, ?_⟩
    rw [xt.isa 2 6 _ _ rfl rfl]
    refine ⟨by decide, by decide, ?_⟩
    refine ⟨rfl, ⟨rfl, rfl⟩, ne_int ?_⟩
    refine ifn (by decide) ?_
    refine ⟨rfl, ?_⟩
    rw [xt.isv _ (List.mem_of_getElem? (i := 2) rfl)]
    refine ifn (by decide) ?_
    refine ⟨by decide, rfl, ⟨rfl, rfl⟩, 2, .bl true, rfl, rfl, idx_pre rfl, ?_⟩
    refine at_lstD' (x := .str "text") (by decide) rfl ?_
    refine ⟨by decide, in_str (xs := ["operation", "plan"]) false rfl ?_⟩
    refine ifn (by decide) ?_
    refine ⟨by decide, in_str (xs := ["cart", "field"]) false rfl ?_⟩
    refine ifn (by decide) ?_
    refine eq_str (by decide +kernel) (by decide +kernel) ?_
    refine ifp (by decide) ?_
    exact xf_of hd (by rfl) (xf_of hd2 (by rfl) ⟨(by decide : (2 : Nat) ≤ 1000000), (by decide : (2 : Nat) ≤ 1000000), hp⟩)
  · refine ⟨true, xt.exm _ (List.mem_of_getElem? (i := 3) rfl), fun _ p => ?_, fun h => nomatch h⟩
    refine ⟨rfl, ?_⟩
    rw [xt.isa 3 0 _ _ rfl rfl]
    refine ⟨rfl, ?_⟩
    rw [xt.isa 3 1 _ _ rfl rfl]
    refine ⟨rfl, ?_⟩
    rw [xt.isa 3 2 _ _ rfl rfl]
    refine ⟨by decide, ?_⟩
    refine ⟨rfl, ?_⟩
    rw [xt.isa 3 3 _ _ rfl rfl]
    refine ⟨rfl, ?_⟩
    rw [xt.isa 3 4 _ _ rfl rfl]
    refine ⟨rfl, ?_⟩
    rw [xt.isa 3 5 _ _ rfl rfl]
    refine ⟨by decide, by decide, ?_⟩
    refine ⟨rfl, ?_⟩
    rw [xt.isa 3 6 _ _ rfl rfl]
    refine ⟨by decide, by decide, ?_⟩
    refine ⟨rfl, ⟨rfl, rfl⟩, ne_int ?_⟩
    refine ifn (by decide) ?_
    refine ⟨rfl, ?_⟩
    rw [xt.isv _ (List.mem_of_getElem? (i := 3) rfl)]
    refine ifn (by decide) ?_
    refine ⟨by decide, rfl, ⟨rfl, rfl⟩, 3, .bl true, rfl, rfl, idx_pre rfl, ?_⟩
    refine at_lstD' (x := .str "decode") (by decide) rfl ?_
    refine ⟨by decide, in_str (xs := ["operation", "plan"]) false rfl ?_⟩
    refine ifn (by decide) ?_
    refine ⟨by decide, in_str (xs := ["cart", "field"]) false rfl ?_⟩
    refine ifn (by decide) ?_
    refine eq_str (by decide +kernel) (by decide +kernel) ?_
    refine ifn (by decide) ?_
    refine eq_str (by decide +kernel) (by decide +kernel) ?_
    refine ifp (by decide) ?_
    exact xf_of hd (by rfl) ⟨(by decide : (2 : Nat) ≤ 1000000), hp⟩
  · refine ⟨true, xt.exm _ (List.mem_of_getElem? (i := 4) rfl), fun _ p => ?_, fun h => nomatch h⟩
    refine ⟨rfl, ?_⟩
    rw [xt.isa 4 0 _ _ rfl rfl]
    refine ⟨rfl, ?_⟩
    rw [xt.isa 4 1 _ _ rfl rfl]
    refine ⟨rfl, ?_⟩
    rw [xt.isa 4 2 _ _ rfl rfl]
    refine ⟨by decide, ?_⟩
    refine ⟨rfl, ?_⟩
    rw [xt.isa 4 3 _ _ rfl rfl]
    refine ⟨rfl, ?_⟩
    rw [xt.isa 4 4 _ _ rfl rfl]
    refine ⟨rfl, ?_⟩
    rw [xt.isa 4 5 _ _ rfl rfl]
    refine ⟨by decide, by decide, ?_⟩
    refine ⟨rfl, ?_⟩
    rw [xt.isa 4 6 _ _ rfl rfl]
    refine ⟨by decide, by decide, ?_⟩
    refine ⟨rfl, ⟨rfl, rfl⟩, ne_int ?_⟩
    refine ifn (by decide) ?_
    refine ⟨rfl, ?_⟩
    rw [xt.isv _ (List.mem_of_getElem? (i := 4) rfl)]
    refine ifn (by decide) ?_
    refine ⟨by decide, rfl, ⟨rfl, rfl⟩, 4, .bl true, rfl, rfl, idx_pre rfl, ?_⟩
    refine at_lstD' (x := .str "field") (by decide) rfl ?_
    refine ⟨by decide, in_str (xs := ["operation", "plan"]) false rfl ?_⟩
    refine ifn (by decide) ?_
    refine ⟨by decide, in_str (xs := ["cart", "field"]) false rfl ?_⟩
    refine ifp (by decide) ?_
    refine eq_str (by decide +kernel) (by decide +kernel) ?_
    refine ifn (by decide) ?_
    exact xf_of hd (by rfl) ⟨(by decide : (2 : Nat) ≤ 1000000), hp⟩
  · refine ⟨true, xt.exm _ (List.mem_of_getElem? (i := 5) rfl), fun _ p => ?_, fun h => nomatch h⟩
    refine ⟨rfl, ?_⟩
    rw [xt.isa 5 0 _ _ rfl rfl]
    refine ⟨rfl, ?_⟩
    rw [xt.isa 5 1 _ _ rfl rfl]
    refine ⟨rfl, ?_⟩
    rw [xt.isa 5 2 _ _ rfl rfl]
    refine ⟨by decide, ?_⟩
    refine ⟨rfl, ?_⟩
    rw [xt.isa 5 3 _ _ rfl rfl]
    refine ⟨rfl, ?_⟩
    rw [xt.isa 5 4 _ _ rfl rfl]
    refine ⟨rfl, ?_⟩
    rw [xt.isa 5 5 _ _ rfl rfl]
    refine ⟨by decide, by decide, ?_⟩
    refine ⟨rfl, ?_⟩
    rw [xt.isa 5 6 _ _ rfl rfl]
    refine ⟨by decide, by decide, ?_⟩
    refine ⟨rfl, ⟨rfl, rfl⟩, ne_int ?_⟩
    refine ifn (by decide) ?_
    refine ⟨rfl, ?_⟩
    rw [xt.isv _ (List.mem_of_getElem? (i := 5) rfl)]
    refine ifn (by decide) ?_
    refine ⟨by decide, rfl, ⟨rfl, rfl⟩, 5, .bl true, rfl, rfl, idx_pre rfl, ?_⟩
    refine at_lstD' (x := .str "number") (by decide) rfl ?_
    refine ⟨by decide, in_str (xs := ["operation", "plan"]) false rfl ?_⟩
    refine ifn (by decide) ?_
    refine ⟨by decide, in_str (xs := ["cart", "field"]) false rfl ?_⟩
    refine ifn (by decide) ?_
    refine eq_str (by decide +kernel) (by decide +kernel) ?_
    refine ifn (by decide) ?_
    refine eq_str (by decide +kernel) (by decide +kernel) ?_
    refine ifn (by decide) ?_
    exact ⟨by decide, hp⟩
  · refine ⟨true, xt.exm _ (List.mem_of_getElem? (i := 6) rfl), fun _ p => ?_, fun h => nomatch h⟩
    refine ⟨rfl, ?_⟩
    rw [xt.isa 6 0 _ _ rfl rfl]
    refine ⟨rfl, ?_⟩
    rw [xt.isa 6 1 _ _ rfl rfl]
    refine ⟨rfl, ?_⟩
    rw [xt.isa 6 2 _ _ rfl rfl]
    refine ⟨by decide, ?_⟩
    refine ⟨rfl, ?_⟩
    rw [xt.isa 6 3 _ _ rfl rfl]
    refine ⟨rfl, ?_⟩
    rw [xt.isa 6 4 _ _ rfl rfl]
    refine ⟨rfl, ?_⟩
    rw [xt.isa 6 5 _ _ rfl rfl]
    refine ⟨by decide, by decide, ?_⟩
    refine ⟨rfl, ?_⟩
    rw [xt.isa 6 6 _ _ rfl rfl]
    refine ⟨by decide, by decide, ?_⟩
    refine ⟨rfl, ⟨rfl, rfl⟩, ne_int ?_⟩
    refine ifn (by decide) ?_
    refine ⟨rfl, ?_⟩
    rw [xt.isv _ (List.mem_of_getElem? (i := 6) rfl)]
    refine ifn (by decide) ?_
    refine ⟨by decide, rfl, ⟨rfl, rfl⟩, 6, .bl true, rfl, rfl, idx_pre rfl, ?_⟩
    refine at_lstD' (x := .str "plan") (by decide) rfl ?_
    refine ⟨by decide, in_str (xs := ["operation", "plan"]) false rfl ?_⟩
    refine ifp (by decide) ?_
    exact xf_of hd (by rfl) ⟨(by decide : (2 : Nat) ≤ 1000000), hp⟩
theorem pick_of {ds : List D} {r : Int} {P : D → Prop} (h0 : 0 ≤ r) (h1 : r < ds.length) (h : ∀ d ∈ ds, P d) : rIxD (.lst ds) (.int r) P := by
  have hlt : r.toNat < ds.length := by omega
  exact at_lstD' h0 (List.getElem?_eq_getElem hlt) (h _ (List.getElem_mem hlt))
end Z
end
section
namespace Z
open PySem L2 DL
end Z
end
section
namespace Z
open PySem L2 DL
end Z
end
section
namespace Z
open PySem L2 DL
end Z
end
section
namespace Z
open PySem L2 DL
end Z
end
section
namespace Z
open PySem L2 DL TL
def numT (n : Int) : Str := Str.ofString (toString n)
def rowT (d : Ns) : Str := if d = [] then "-" else Txt.join " " d
def leadT (n : Int) : Str := "lead " ++ numT n
def wordsT (days : List Ns) (lead : Int) : Str := Txt.join "\n" (leadT lead :: days.map rowT)
structure TxOk (days : List Ns) : Prop where
  len : days.length ≤ 5000
  dl : ∀ d ∈ days, d.length ≤ 8
  nm : ∀ d ∈ days, ∀ n ∈ d, isNm n = true
theorem nm_tl {n : Str} (h : isNm n = true) : ∀ c ∈ tl n, 97 ≤ c ∧ c < 123 := fun c hc => by
  have := idx_all c (nm_let h c hc)
  omega
theorem mem_joinL {S : List Nat} {c : Nat} : ∀ {ls : List (List Nat)}, c ∈ joinL S ls → c ∈ S ∨ ∃ l ∈ ls, c ∈ l
  | [], h => nomatch h
  | [p], h => .inr ⟨p, List.mem_cons_self, h⟩
  | p :: q :: r, h => by
    have h : c ∈ p ++ (S ++ joinL S (q :: r)) := h
    rcases List.mem_append.mp h with h | h
    · exact .inr ⟨p, List.mem_cons_self, h⟩
    · rcases List.mem_append.mp h with h | h
      · exact .inl h
      · rcases mem_joinL h with h | ⟨l, hl, h⟩
        · exact .inl h
        · exact .inr ⟨l, List.mem_cons_of_mem _ hl, h⟩
theorem mem_join {y : Str} {ps : List Str} {c : Nat} (h : c ∈ tl (Txt.join y ps)) : c ∈ tl y ∨ ∃ p ∈ ps, c ∈ tl p := by
  rw [join_eq, tl_join] at h
  rcases mem_joinL h with h | ⟨l, hl, h⟩
  · exact .inl h
  · obtain ⟨p, hp, rfl⟩ := List.mem_map.mp hl
    exact .inr ⟨p, hp, h⟩
theorem sp_tl : tl (" " : Str) = [32] := by decide +kernel
theorem nl_tl : tl ("\n" : Str) = [10] := by decide +kernel
theorem lead_tl : tl ("lead" : Str) = [108, 101, 97, 100] := by decide +kernel
theorem leads_tl : tl ("lead " : Str) = [108, 101, 97, 100, 32] := by decide +kernel
theorem num_tl {n : Int} (h : 0 ≤ n) : ∀ c ∈ tl (numT n), 48 ≤ c ∧ c ≤ 57 := by
  obtain ⟨k, rfl⟩ : ∃ k : Nat, n = (k : Int) := ⟨n.toNat, by omega⟩
  unfold numT
  rw [tl_num]
  exact numL_digits k
theorem ok_of_tl {x : Str} {k : Nat} (hk : k ≤ 1114112) (h : ∀ c ∈ tl x, c < k) : PyData.strOk x = true := by
  unfold PyData.strOk
  rw [Array.all_eq_true']
  intro c hc
  have := h c (Array.mem_toList_iff.mpr hc)
  exact decide_eq_true (by omega)
theorem leadT_join (n : Int) : leadT n = Txt.join " " [("lead" : Str), numT n] := by
  have e : tl (leadT n) = tl (Txt.join " " [("lead" : Str), numT n]) := by
    unfold leadT
    rw [join_eq, tl_join, tl_append, leads_tl, sp_tl]
    show _ = tl ("lead" : Str) ++ ([32] ++ tl (numT n))
    rw [lead_tl]
    rfl
  rw [← mk_tl (leadT n), e, mk_tl]
theorem sum_le {xs : List Nat} {k : Nat} (h : ∀ x ∈ xs, x ≤ k) : xs.sum ≤ xs.length * k := by
  induction xs with
  | nil => simp
  | cons x r ih =>
    rw [List.sum_cons, List.length_cons, Nat.succ_mul]
    have := h x List.mem_cons_self
    have := ih fun y hy => h y (List.mem_cons_of_mem _ hy)
    omega
theorem join_le {y : Str} {ps : List Str} {k : Nat} (h : ∀ p ∈ ps, p.length ≤ k) : (Txt.join y ps).length ≤ ps.length * (k + y.length) := by
  have h1 := StrLaws.join_length_le y ps
  rw [← join_eq] at h1
  have h2 := sum_le (xs := ps.map (·.length)) (k := k) fun x hx => by
    obtain ⟨p, hp, rfl⟩ := List.mem_map.mp hx
    exact h p hp
  rw [List.length_map] at h2
  rw [Nat.mul_add]
  omega
theorem sp_len : (" " : Str).length = 1 := by decide +kernel
theorem nl_len : ("\n" : Str).length = 1 := by decide +kernel
theorem row_le {d : Ns} (h : ∀ n ∈ d, isNm n = true) (hl : d.length ≤ 8) : (rowT d).length ≤ 72 := by
  unfold rowT
  by_cases e : d = []
  · rw [if_pos e]
    decide +kernel
  · rw [if_neg e]
    have h1 := join_le (y := " ") (ps := d) (k := 8) fun p hp => (nm_len (h p hp)).2
    rw [sp_len] at h1
    omega
theorem num_le {n : Int} (h : 0 ≤ n) (h2 : n < 10000) : (numT n).length ≤ 4 := PyProof.Rows.toString_length_le h (k := 4) (by decide) (by omega)
theorem leadT_le {n : Int} (h : 0 ≤ n) (h2 : n < 10000) : (leadT n).length ≤ 9 := by
  unfold leadT
  rw [Str.length_append]
  have := num_le h h2
  have e : ("lead " : Str).length = 5 := by decide +kernel
  omega
theorem num_is {n : Int} (h : 0 ≤ n) (h2 : n < 10000) : intText? (numT n) = some n := by
  obtain ⟨k, rfl⟩ : ∃ k : Nat, n = (k : Int) := ⟨n.toNat, by omega⟩
  refine int_num ?_
  have := numL_len (n := k) (k := 4) (by decide) (by omega)
  omega
theorem num_head {n : Nat} : (numL n).head? = some 48 → n = 0 := by
  induction n using Nat.strongRecOn with
  | _ n ih =>
    intro h
    by_cases e : n < 10
    · rw [numL_lt e] at h
      have := Option.some.inj h
      omega
    · rw [numL_step (by omega)] at h
      have hne := numL_ne (n / 10)
      have h2 : (numL (n / 10)).head? = some 48 := by
        cases q : numL (n / 10) with
        | nil => exact (hne q).elim
        | cons a b => rw [q] at h; exact h
      have := ih (n / 10) (by omega) h2
      omega
theorem atI_cons {α : Type} {c : α} {r : List α} : atI (c :: r) 0 = some c := by
  unfold atI ixN
  simp
end Z
end
section
namespace Z
open PySem L2 DL TL
def sp_rlaw_days (A : Cs) (l : Addr) : SpD := fun ds P _ => ∃ (names : Ns) (most : Int), ds = [.adr l, .lst (names.map .str), .int most] ∧ names.Nodup ∧ 1 ≤ names.length ∧ names.length ≤ 8 ∧ (∀ n ∈ names, PyData.strOk n = true) ∧ 1 ≤ most ∧ most ≤ 100 ∧
  ∀ days : List Ns, 1 ≤ days.length → (days.length : Int) ≤ most → (∀ d ∈ days, d.Nodup ∧ d.length ≤ 3 ∧ ∀ n ∈ d, n ∈ names) → P (.lst (eDs days))
def sp_rlaw_words (A : Cs) : SpD := fun ds P _ => ∃ (days : List Ns) (lead : Int), ds = [.lst (eDs days), .int lead] ∧ 0 ≤ lead ∧ lead < 10000 ∧ TxOk days ∧ P (.str (wordsT days lead))
theorem len_rlaw_days (A : Cs) (l : Addr) : ∀ ds P x, sp_rlaw_days A l ds P x → ds.length = (["_law_d", "_law_names", "_law_most"] : List Str).length := by
  rintro ds P x ⟨_, _, rfl, _⟩; rfl
theorem len_rlaw_words (A : Cs) : ∀ ds P x, sp_rlaw_words A ds P x → ds.length = (["_law_days_here", "_law_lead"] : List Str).length := by
  rintro ds P x ⟨_, _, rfl, _⟩; rfl
abbrev N_rlaw_days : List Str := ["_law_d", "_law_names", "_law_most", "_law_found", "_law_k"]
def D_rlaw_days (A : Cs) (l : Addr) : TSD := (dSeq (dSetN 3 (nLst dNil)) (dSeq (dForV (iRng1D (dCons (dOp rAddD (dC (.int 1)) (dCall (spDrawn l) x0 (dCons (dVar 0) (dCons (dVar 2) dNil)))) dNil)) (hName 4) (dAppS 3 (dCB rTupleD (dCons (dSl slLD (dCall (sp_rlaw_shuffled A l) x0 (dCons (dVar 0) (dCons (dVar 1) dNil))) oNo (oYes (dCall (spDrawn l) x0 (dCons (dVar 0) (dCons (dOp rAddD (dCB rMinD (dCons (dLst (dCons (dC (.int 3)) (dCons (dCB rLenD (dCons (dVar 1) dNil)) dNil))) dNil)) (dC (.int 1))) dNil))))) dNil)))) (dRet (dVar 3))))
abbrev N_rlaw_words : List Str := ["_law_days_here", "_law_lead", "_law_day"]
def D_rlaw_words (A : Cs) : TSD := (dRet (dBM "str" rJoinD (dC (.str "\n")) (dCons (dOp rCatLD (dLst (dCons (dOp rAddSD (dC (.str "lead ")) (dCB rStrID (dCons (dVar 1) dNil))) dNil)) (dOfN (nLc (iLstD (dVar 0)) (hName 2) dYes (dIf (dTest (dOp rNeDD (dVar 2) (dTup dNil))) (dBM "str" rJoinD (dC (.str " ")) (dCons (dVar 2) dNil)) (dC (.str "-"))) [2]))) dNil)))
theorem eqv_nil {d : Ns} (h : d ≠ []) : PyData.eqv (eN d).py (D.tup []).py = false := by
  cases d with
  | nil => exact (h rfl).elim
  | cons n r => rfl
theorem eN_flat {d : Ns} (h : ∀ n ∈ d, PyData.strOk n = true) : D.flat 60 (eN d) = true := flat_tup' (flatL_map fun n hn => flat_str' (h n hn))
theorem pure_rlaw_words (A : Cs) : ∀ ds P x, sp_rlaw_words A ds P x → D_rlaw_words A { nx := fun _ => P .non, rt := P } (startD N_rlaw_words ds) := by
  rintro ds P x ⟨days, lead, rfl, h0, h1, tx, hp⟩
  have hl := leadT_le h0 h1
  have hn := num_le h0 h1
  have l5 : ("lead " : Str).length = 5 := by decide +kernel
  refine ⟨rfl, sm_fm (by unfold Sm; omega), ⟨by rw [l5]; show 5 + (numT lead).length ≤ _; omega, (by decide : (1 : Nat) ≤ 1000000), ?_⟩⟩
  show compD (days.map eN) _ _ _ _ _
  refine comp_of (f := fun d => .str (rowT d)) (by have := tx.len; omega) (fun d hd Q q => ?_) ?_
  · refine ⟨(by decide : (0 : Nat) ≤ 1000000), ?_⟩
    by_cases e : d = []
    · subst e
      exact ne_same (d := .tup []) (by decide +kernel) (ifn (by decide) q)
    · show rNeDD (eN d) (.tup []) _
      unfold rNeDD
      refine ⟨⟨eN_flat fun n hn => nm_ok (tx.nm d hd n hn), by decide +kernel⟩, ?_⟩
      rw [eqv_nil e]
      refine ifp rfl ⟨rfl, d, rfl, ?_, ?_⟩
      · have := sum_le (xs := d.map (·.length)) (k := 8) fun x hx => by
          obtain ⟨p, hp, rfl⟩ := List.mem_map.mp hx
          exact (nm_len (tx.nm d hd p hp)).2
        rw [List.length_map] at this
        have := tx.dl d hd
        rw [sp_len]
        omega
      · unfold rowT at q
        rw [if_neg e] at q
        exact q
  refine ⟨by rw [List.length_map]; have := tx.len; show 1 + days.length ≤ _; omega, leadT lead :: days.map rowT, ?_, ?_, hp⟩
  · show some ([D.str (leadT lead)] ++ days.map fun d => D.str (rowT d)) = some (D.str (leadT lead) :: (days.map rowT).map D.str)
    rw [List.map_map]
    rfl
  · have := sum_le (xs := (leadT lead :: days.map rowT).map (·.length)) (k := 72) fun x hx => by
      obtain ⟨p, hp, rfl⟩ := List.mem_map.mp hx
      rcases List.mem_cons.mp hp with rfl | hp
      · omega
      · obtain ⟨d, hd, rfl⟩ := List.mem_map.mp hp
        exact row_le (tx.nm d hd) (tx.dl d hd)
    rw [List.length_map, List.length_cons, List.length_map] at this
    have := tx.len
    rw [List.length_cons, List.length_map, nl_len]
    omega
theorem pure_rlaw_days (A : Cs) (l : Addr) : ∀ ds P x, sp_rlaw_days A l ds P x → D_rlaw_days A l { nx := fun _ => P .non, rt := P } (startD N_rlaw_days ds) := by
  rintro ds P x ⟨names, most, rfl, nd, l1, l8, hs, m1, m2, hp⟩
  refine ⟨(by decide : (0 : Nat) ≤ 1000000), most, rfl, ⟨by omega, by omega⟩, fun c c0 c1 => ?_⟩
  refine ⟨⟨by omega, by omega, by omega⟩, ?_⟩
  rw [rngD_map]
  refine loop_of (xs := rngI 0 (1 + c).toNat) (fun r ρ => ∃ (acc : List Ns) (y : Option D), ρ = [some (.adr l), some (.lst (names.map .str)), some (.int most), some (.own .lst (eDs acc)), y] ∧ acc.length + r.length = (1 + c).toNat ∧ (∀ d ∈ acc, d.Nodup ∧ d.length ≤ 3 ∧ ∀ n ∈ d, n ∈ names)) ⟨[], none, rfl, by rw [rngI_len]; simp, fun _ h => nomatch h⟩ ?_ ?_
  · rintro t r ρ ⟨acc, y, rfl, hl, hg⟩ N B R hN hB hR
    rw [List.length_cons] at hl
    refine ⟨⟨_, rfl⟩, names, rfl, by omega, hs, fun ys hy => ?_⟩
    refine ⟨(by decide : (2 : Nat) ≤ 1000000), [3, ((names.map D.str).length : Int)], rfl, (by decide : (0 : Nat) < 2), fun m hm hy2 => ?_⟩
    have k3 := hy2 3 (by simp)
    have kl := hy2 ((names.map D.str).length : Int) (by simp)
    rw [List.length_map] at kl
    have hm0 : 0 ≤ m := by
      simp only [List.mem_cons, List.not_mem_nil, or_false] at hm
      omega
    refine ⟨m + 1, rfl, ⟨by omega, by omega⟩, fun q q0 q1 => ?_⟩
    have ly := hy.length_eq
    obtain ⟨j, rfl⟩ : ∃ j : Nat, q = (j : Int) := ⟨q.toNat, by omega⟩
    have e : cutD (ys.map D.str) none (some (j : Int)) = (ys.take j).map D.str := cut_to D.str rfl (by omega)
    dsimp only [slLD, dNil, rTupleD]
    rw [e]
    refine ⟨by unfold eDs; rw [List.length_map]; omega, hN _ ⟨acc ++ [ys.take j], some (.int t), by unfold eDs; rw [List.map_append]; rfl, by rw [List.length_append, List.length_singleton]; omega, fun d hd => ?_⟩⟩
    rcases List.mem_append.mp hd with z | z
    · exact hg d z
    · rw [List.mem_singleton.mp z]
      refine ⟨(hy.nodup_iff.mpr nd).sublist (List.take_sublist _ _), ?_, fun n hn => hy.mem_iff.mp (List.mem_of_mem_take hn)⟩
      rw [List.length_take]
      omega
  · rintro ρ ⟨acc, y, rfl, hl, hg⟩
    have hl : acc.length = (1 + c).toNat := by simpa using hl
    exact hp acc (by omega) (by omega) hg
end Z
end
section
namespace Z
open PySem
def fd (days : List Ns) (lead : Int) (f : Str × Int) : Option Int := (mAllDry days lead f).head?
def lf (days : List Ns) (lead : Int) (f : Str × Int) : Nat → Int
  | 0 => f.2
  | k + 1 => if f.1 ∈ onDay days lead (k : Int) ∨ lf days lead f k = 1 then f.2 else lf days lead f k - 1
end Z
end
section
namespace Z
open PySem L2 DL
inductive Kd where
  | steady | resting | shift | late
def Kd.nm : Kd → Str
  | .steady => "steady"
  | .resting => "resting"
  | .shift => "shift"
  | .late => "late"
structure Sp4 where
  k : Kd
  w : Str
  a : Int
  b : Int
def Sp4.enc (s : Sp4) : D := .tup [.str s.k.nm, .str s.w, .int s.a, .int s.b]
def Sp4.cart (s : Sp4) : Cart := match s.k with
  | .steady => .steady s.w
  | .resting => .resting s.w s.a s.b
  | .shift => .shift s.w s.a s.b
  | .late => .late s.w s.a
def Sp4.ok (s : Sp4) : Prop := isNm s.w = true ∧ match s.k with
  | .steady => True
  | .resting => (2 ≤ s.a ∧ s.a ≤ 1000) ∧ 0 ≤ s.b ∧ s.b ≤ s.a - 1
  | .shift => (1 ≤ s.a ∧ s.a ≤ 1000) ∧ 1 ≤ s.b ∧ s.b ≤ 1000
  | .late => 0 ≤ s.a ∧ s.a ≤ LAST
end Z
end
section
namespace DL
open PySem PySem.Spec PyProof.Rows L2 LamX LMX
section
variable {X : Cx}
end
end DL
end
section
namespace DL
open PySem PySem.Spec PyProof.Rows L2 LamX LMX
section
variable {X : Cx}
end
end DL
end
section
namespace DL
open PySem PySem.Spec PyProof.Rows L2 LamX LMX
section
variable {K : PySem.W.Frag} {S : Sit} {c : Cl} {X : Cx} {wi : TI} {it : TAD} {g : TG} {gd : TGD} {ix vs : List Nat} {tt : TT} {p : TTD} {ts : TA} {as : TAD} {k : Nat} {spA : ActT → SpD} {tab : List ((Hp → Addr → Prop) × (XD → TED) × List Bool)}
variable {j : Nat} {fa : Addr} {fd : FuncData} {ps : List Str} {x : Str} {p1 pos pos' : Pos} {e : Expr} {es : List Expr} {tg iter : Expr} {ifs : List Expr} {sc : Scope} {own : List (Str × Nat)}
end
end DL
end
section
namespace DL
open PySem PySem.Spec PyProof.Rows L2 LamX LMX
section
variable {M : Model} {A : Around} {E : Value → Shared → Prop} {s : Shared} {env : Env}
def okPost (M : Model) (A : Around) (E : Value → Shared → Prop) (use : Option (Value → Sem Unit)) (Q : Value → Shared → Prop) (acc : Value) (C : Addr) (s' : Shared) : Prop :=
  match use with
  | none => ∃ m, s'.heap.Ns C m ∧ ∀ h', Heap.SameBut C s'.heap h' → Q acc { s' with heap := h' }
  | some f => wpAny M A (f acc) (fun _ z => ∃ m, z.heap.Ns C m ∧ ∀ h', Heap.SameBut C z.heap h' → Q .none { z with heap := h' }) E s'
def airPost (M : Model) (A : Around) (E : Value → Shared → Prop) (use : Option (Value → Sem Unit)) (Q : Value → Shared → Prop) (acc : Value) (ce : Env) : Result → Shared → Prop
  | .ok _, s' => okPost M A E use Q acc ce.locals s'
  | .error x, s' => ∃ m, s'.heap.Ns ce.locals m ∧ ∀ h', Heap.SameBut ce.locals s'.heap h' → wpAny M A (passOn "comprehension.variables-let-go" x ce : Sem Value) (fun _ _ => False) E { s' with heap := h' }
theorem comp_air {e : Expr} {sc : Scope} {pos : Pos} {mk first : Sem Value} {g : Comprehension} {gs : List Comprehension} {cl : List (Str × Addr)} {use : Option (Value → Sem Unit)} {Q : Value → Shared → Prop} (h1 : clausesOf e = g :: gs) (h2 : ∀ x, foldedSetIterable g.iter env x = pure x) (h3 : closureFor sc env = pure cl)
    (h4 : sc.kind = .function) (h5 : ∀ y ∈ sc.names, y.2 = .local → sc.names.lookup y.1 = some .local)
    (h : wpAny M A first (fun x s1 => wpAny M A (pyIter x) (fun it s2 => wpAny M A mk (fun acc s3 => wpAny M A (newFunctionEnv sc env.globals cl [] env.qual none .none (some env)) (fun ce s4 =>
      codeAny M A (.compStart e 0 it acc { ce with scope := relabel sc env }) (airPost M A E use Q acc { ce with scope := relabel sc env }) s4) E s3) E s2) E s1) E s) :
    wpAny M A (comprehension e sc env pos mk false first use) Q E s := by
  unfold comprehension
  rw [h3, h1]
  have go : ∀ {α : Type} {t : Sem α} {P P' : α → Shared → Prop} {z : Shared}, wpAny M A t P E z → (∀ a z, P a z → P' a z) → wpAny M A t P' E z := fun x y => wpAny_mono x y fun _ _ k => k
  refine wpAny_bind (go h fun x s1 k1 => wpAny_bind (wpAny_standAt (wpAny_bind (wpAny_of_eq (h2 x) (wpAny_bind (wpAny_holding (go k1 fun it s2 k2 => ?_)))))))
  refine wpAny_standIf (wpAny_bind (go k2 fun acc s3 k3 => wpAny_bind (wpAny_pure (wpAny_bind (go k3 fun ce s4 k4 => ?_)))))
  dsimp only
  have own : ∀ y ∈ (sc.names.filter fun y => (y.2 == .local || y.2 == .cell) && y.1 != (".0" : Str)).reverse, y.2 = .local → Env.kindOf { ce with scope := relabel sc env } y.1 = some .local := fun y hy hl =>
    lookup_relabel_local (h5 y (List.mem_filter.mp (List.mem_reverse.mp hy)).1 hl)
  have own2 : ∀ y ∈ (sc.names.filter fun y => (y.2 == .local || y.2 == .cell) && y.1 != (".0" : Str)).reverse.drop 1 ++ (sc.names.filter fun y => (y.2 == .local || y.2 == .cell) && y.1 != (".0" : Str)).reverse.take 1, y.2 = .local → Env.kindOf { ce with scope := relabel sc env } y.1 = some .local := fun y hy hl =>
    own y ((List.mem_append.mp hy).elim List.mem_of_mem_drop List.mem_of_mem_take) hl
  refine wpAny_holding (wpAny_bind (wpAny_attempt (wpAny_holding (wpAny_run (codeAny_mono k4 fun r s5 hr => ?_)))))
  cases r with
  | ok f =>
    cases use with
    | none =>
      obtain ⟨m, hn, q⟩ := hr
      exact wpAny_bind (wpAny_holding (wpAny_comp_letGo (cenv := { ce with scope := relabel sc env }) h4 _ s5 m own hn fun h' _ _ sb => wpAny_pure (q h' sb)))
    | some v =>
      refine wpAny_bind (wpAny_rule (wpAny_bind (wpAny_holding (go hr fun _ s6 ⟨m, hn, q⟩ => ?_))))
      exact wpAny_bind (wpAny_comp_letGo (cenv := { ce with scope := relabel sc env }) h4 _ s6 m own2 hn fun h' _ _ sb => wpAny_pure (q h' sb))
  | error x =>
    obtain ⟨m, hn, q⟩ : ∃ m, s5.heap.Ns ce.locals m ∧ ∀ h', Heap.SameBut ce.locals s5.heap h' → wpAny M A (passOn "comprehension.variables-let-go" x { ce with scope := relabel sc env } : Sem Value) (fun _ _ => False) E { s5 with heap := h' } := hr
    exact wpAny_bind (wpAny_holding (wpAny_comp_letGo (cenv := { ce with scope := relabel sc env }) h4 _ s5 m own hn fun h' _ _ sb => wpAny_mono (q h' sb) (fun _ _ z => z.elim) fun _ _ k => k))
end
theorem note_eq {e : Value} {a b : Env} (h : a.frame = b.frame) : noteFrame e a = noteFrame e b := by
  unfold noteFrame PySem.frameOf
  rw [h]
end DL
end
section
namespace DL
open PySem PySem.Spec PyProof.Rows L2 LamX LMX
theorem frames_but {B B0 h h' : Heap} {C : Addr} (sb : Heap.SameBut C h h') : ∀ {l : List Env}, h.FunFrames B l → C ∉ frs l → (∀ L ∈ frs l, B0.get? L = none) → h'.FunFrames B0 l
  | [], _, _, _ => trivial
  | env :: l, f, hC, hn => by
    obtain ⟨hk, ⟨L, o, hf, _, ho, hd⟩, hr⟩ := f
    have mL : L ∈ frs (env :: l) := List.mem_filterMap.mpr ⟨env, List.mem_cons_self, hf⟩
    have ne : L ≠ C := fun z => hC (z ▸ mL)
    have sub : ∀ b, b ∈ frs l → b ∈ frs (env :: l) := fun b hb => by
      obtain ⟨e, he, q⟩ := List.mem_filterMap.mp hb
      exact List.mem_filterMap.mpr ⟨e, List.mem_cons_of_mem _ he, q⟩
    exact ⟨hk, ⟨L, o, hf, hn L mL, (sb.2 L ne).trans ho, hd⟩, frames_but sb hr (fun z => hC (sub _ z)) fun b hb => hn b (sub b hb)⟩
section
variable {X : Cx} {pins : List (Addr × Obj)} {σ : L2.St} {H : Hp} {s : Shared}
theorem inv_xe {F : Value → Shared → Prop} (I : Inv X pins σ H s) : Inv { X with xe := F } pins σ H s :=
  ⟨⟨I.ok.mod, I.ok.kind, I.ok.glob, I.ok.blt, I.ok.above, I.ok.inj, I.ok.has, I.ok.cab, I.ok.hd, I.ok.frames, I.ok.stk, I.ok.exf, I.ok.bs, I.ok.bsz, I.ok.noex, I.ok.exfs, I.ok.funs, I.ok.frf⟩, I.os, I.bare, I.base, I.loc, I.cell, I.free, I.freeC, I.pin, I.hok, I.len⟩
theorem block_air {s3 s4 s' : Shared} {H3 H4 : Hp} {sc : Scope} {ce : Env} {fp : List Addr} {τ : L2.St} {pl : List (Addr × Obj)} {E : XK} {u : Value} {acc : Value} {use : Option (Value → Sem Unit)} {Q : Value → Shared → Prop} (I3 : Inv X pins σ H3 s3) (hs : X.stack = X.env :: X.outer) (hf : X.env.frame = some X.env.locals)
    (tk : Takes X fun cls d _ H => E cls d H) (cl : ce.locals = s3.heap.objs.size) (cf : ce.frame = X.env.frame) (F3 : ∀ b ∈ fp, FpOk X pins H3 b) (J : Inv (X.blk s3 H3 sc ce fp) pl τ H4 s4) (hx : L2.CX X.prog X.w X.stack H4 s4 E u s') :
    notedBy (model X.prog X.w) X.A ce (fun e s'' => airPost (model X.prog X.w) X.A X.xe use Q acc ce (.error e) s'') u s' := by
  obtain ⟨a, B, H', cls, d, rfl, fl, hok, ub, na, os, ag, hE⟩ := hx
  unfold notedBy
  rw [note_eq cf]
  have hfr : X.A.frames = some (X.env :: X.outer) := by rw [I3.ok.frames, hs]
  have Cfree : H4 ce.locals = none := J.free
  have Cfree' : H' ce.locals = none := by
    obtain ⟨m, ⟨o, _, _, ho, _⟩, _⟩ := J.loc
    exact ub.free _ o ho Cfree
  have Cfr : ce.locals ∉ frs X.stack := fun z => by
    rcases List.mem_cons.mp (I3.stkSub _ z) with q | q
    · rw [cl] at q
      have := I3.lt
      rw [← q] at this
      exact Nat.lt_irrefl _ this
    · rw [cl] at q
      exact I3.nofs (Nat.le_refl _) q
  have Ix : Inv X pins σ H4 s4 := I3.call' (ch := fp) J.os J.base J.hok J.bare fun b hb => ⟨(F3 b hb).2.2.2.1, (F3 b hb).2.1, (F3 b hb).2.2.2.2.1, (F3 b hb).2.2.2.2.2⟩
  have fl2 : HandSPX.FlyingZ B (X.env :: X.outer) a (Zc cls d) s'.heap := by rw [← hs]; exact fl
  refine HandSPX.looks_onZ Zc.steady hfr hf fl2 fun h1 held up1 => ?_
  obtain ⟨k1, k2, k3, oe, vs, T, oT, ts, he, hz, hd, hv1, hnT, hTe, hT, hdT, hts⟩ := held
  obtain ⟨m, ⟨oC, es, ep, hoC, hdC, hsk⟩, _⟩ := J.loc
  have atC : h1.get? ce.locals = some oC := k1 _ _ (ub.keep _ oC hoC Cfree Cfr)
  refine ⟨m, ⟨oC, es, ep, atC, hdC, hsk⟩, fun h2 sb => ?_⟩
  have naC : a ≠ ce.locals := fun z => by rw [z, atC] at he; cases he; rw [hdC] at hd; cases hd
  have nTC : T ≠ ce.locals := fun z => by rw [z, atC] at hT; cases hT; rw [hdC] at hdT; cases hdT
  obtain ⟨B0, g1, g2⟩ := restrict B fun b => !decide (b = ce.locals)
  have ofB0 : ∀ b o, B0.get? b = some o → B.get? b = some o ∧ b ≠ ce.locals := fun b o e => by
    by_cases q : b = ce.locals
    · rw [g2 b (by simp [q])] at e; cases e
    · rw [g1 b (by simp [q])] at e; exact ⟨e, q⟩
  have toB0 : ∀ b o, b ≠ ce.locals → B.get? b = some o → B0.get? b = some o := fun b o q e => by rw [g1 b (by simp [q])]; exact e
  have noneB0 : ∀ b, B.get? b = none → B0.get? b = none := fun b e => by
    cases q : B0.get? b with
    | none => rfl
    | some o => rw [(ofB0 b o q).1] at e; cases e
  have e2 : ∀ b, b ≠ ce.locals → h2.get? b = h1.get? b := sb.2
  have frames2 : h2.FunFrames B0 (X.env :: X.outer) := frames_but sb k3 (by rw [← hs]; exact Cfr) fun L hL => noneB0 L (by
    have := (k3.mem hL).1
    exact this)
  have held2 : HandSPX.HeldZ B0 (X.env :: X.outer) a (Zc cls d) X.env.locals h2 :=
    ⟨fun b o e => by rw [e2 b (ofB0 b o e).2]; exact k1 b o (ofB0 b o e).1, noneB0 a k2, frames2, oe, vs, T, oT, ts, by rw [e2 a naC]; exact he, hz, hd, hv1, noneB0 T hnT, hTe, by rw [e2 T nTC]; exact hT, hdT, hts⟩
  unfold PySem.passOn
  refine wpAny_bind (wpAny_field (by rw [e2 a naC]; exact he) hd hv1 ?_)
  rw [if_neg (show ¬ ((Value.ref T == Value.none) = true) from by simp), cf, hf]
  have fin : ∀ h3, HandSPX.HeldZ B0 (X.env :: X.outer) a (Zc cls d) X.env.locals h3 → h2.UpToSlots h3 → X.xe (.ref a) { s' with heap := h3 } := fun h3 held3 up3 => by
    obtain ⟨G, q1, q2⟩ := restrict h3 fun b => (B0.get? b).isSome || decide (b ∈ frs X.stack)
    have st : B0.StaysIn h3 := held3.1
    have gB : ∀ b o, B0.get? b = some o → G.get? b = some o := fun b o e => by
      rw [q1 b (by simp [e])]
      exact st b o e
    have gF : ∀ b, b ∈ frs X.stack → G.get? b = h3.get? b := fun b hb => q1 b (by simp [hb])
    have og : ∀ b o, G.get? b = some o → h3.get? b = some o ∧ ((B0.get? b).isSome = true ∨ b ∈ frs X.stack) := fun b o e => by
      cases q : ((B0.get? b).isSome || decide (b ∈ frs X.stack)) with
      | false => rw [q2 b q] at e; cases e
      | true =>
        rw [q1 b q] at e
        exact ⟨e, by simpa [Bool.or_eq_true] using q⟩
    have onF : ∀ b o, s4.heap.get? b = some o → b ∈ frs X.stack → ∃ sl, G.get? b = some { o with slots := sl } := fun b o e hb => by
      have hnf : ∀ vs, o.data ≠ .fields vs := by
        obtain ⟨_, o', e', hn⟩ := Ix.stack.mem hb
        rw [e] at e'; cases e'
        exact hn
      obtain ⟨s1, x1⟩ := ub.slot b o e hb
      obtain ⟨s2, x2⟩ := up1 b _ x1 hnf
      have x3 : h2.get? b = some _ := (e2 b fun z => Cfr (z ▸ hb)).trans x2
      obtain ⟨s3', x4⟩ := up3 b _ x3 hnf
      exact ⟨s3', by rw [gF b hb]; exact x4⟩
    refine tk _ _ ⟨a, B0, { s4 with heap := G, gens := s'.gens, drawn := s'.drawn, toks := s'.toks }, pins, σ, H', cls, d, rfl, ?_, fun b o e hb => ?_, Heap.UpToSlots.of_keeps fun b o e => (og b o e).1, .inr (.inr (by rw [hs]; exact held3)), na, os, ag, hE⟩
    · refine Ix.call (ch := [ce.locals]) ⟨fun b o e n hb hc => gB b o (toB0 b o (by simpa using hc) (ub.keep b o e n hb)), fun b o e n hb _ => onF b o e hb, fun b o e n _ => ub.free b o e n, fun b o e hc => ?_, ub.tups, ub.frzs, ub.tbls⟩ (fun b o q => ?_) ag fun b hb => ?_
      · by_cases hb : b ∈ frs X.stack
        · obtain ⟨sl, q⟩ := onF b o e hb
          exact ⟨_, q⟩
        · obtain ⟨o', q⟩ := ub.there b o e hb
          exact ⟨o', gB b o' (toB0 b o' (by simpa using hc) q)⟩
      · refine (hok b o q).stay (fun c v hc r => gB c v (toB0 c v (fun z => ?_) r)) (fun _ r => r) fun _ _ r => r
        rcases hc with hc | hc
        · rw [← hc, z, Cfree'] at q; cases q
        · rw [z, Cfree'] at hc; cases hc
      · obtain rfl : b = ce.locals := by simpa using hb
        have fo := I3.fpOk (H' := H3) (b := ce.locals) (by rw [cl]; exact Nat.le_refl _) (by rw [cl]; exact I3.hok.fresh (Nat.le_refl _))
        exact ⟨fo.2.2.2.1, fo.2.1, fo.2.2.2.2.1, fo.2.2.2.2.2⟩
    · obtain ⟨e', hb'⟩ := og b o e
      rcases hb' with hb' | hb'
      · obtain ⟨o', q⟩ := Option.isSome_iff_exists.mp hb'
        have z := st b o' q
        rw [e'] at z; cases z
        exact q
      · exact absurd hb' hb
  first
    | exact wpAny_bind (wpAny_pure (wpAny_bind (HandSPX.setFlight_onZ held2 fun h3 x y => wpAny_throw (fin h3 x y))))
    | exact wpAny_bind (HandSPX.setFlight_onZ held2 fun h3 x y => wpAny_throw (fin h3 x y))
end
end DL
end
section
namespace DL
open PySem PySem.Spec PyProof.Rows L2 LamX LMX
abbrev blkE (X : Cx) (s : Shared) (H : Hp) (sc : Scope) (ce : Env) (fp : List Addr) (F : Value → Shared → Prop) : Cx := { X.blk s H sc ce fp with xe := F }
def FromCall (X : Cx) (s : Shared) (H : Hp) (sc : Scope) (ce : Env) (fp : List Addr) (E : XK) (u : Value) (s' : Shared) : Prop :=
  ∃ (pl : List (Addr × Obj)) (τ : L2.St) (H4 : Hp) (s4 : Shared), Inv (X.blk s H sc ce fp) pl τ H4 s4 ∧ L2.CX X.prog X.w X.stack H4 s4 E u s'
abbrev blkX (X : Cx) (s : Shared) (H : Hp) (sc : Scope) (ce : Env) (fp : List Addr) (E : XK) : Cx := blkE X s H sc ce fp (FromCall X s H sc ce fp E)
section
variable {X : Cx}
theorem blk_pass {s : Shared} {H : Hp} {sc : Scope} {ce : Env} {fp : List Addr} {E : XK} : Passes (L2.CX X.prog X.w) (blkX X s H sc ce fp E) E := fun pl τ H4 s4 e s' I c =>
  ⟨pl, τ, H4, s4, inv_xe (X := blkX X s H sc ce fp E) (F := fun _ _ => False) I, c⟩
theorem lcX_core {pins : List (Addr × Obj)} {s0 : Shared} {σ : L2.St} {H : Hp} {Q : VK} {E : XK} {elt tg iter : Expr} {ifs : List Expr} {sc : Scope} {own : List (Str × Nat)} {pos pos' : Pos} {wi : TI} {g : TG} {tt : TT} {te : TE} {use : Option (Value → Sem Unit)} {Qf : Value → Shared → Prop} (I : Inv X pins σ H s0) (calm : X.calm = true) (nd : X.N.Nodup) (stk : X.stack = X.env :: X.outer) (fr : X.env.frame = some X.env.locals)
    (tk : Takes X fun cls d _ H => E cls d H) (hi : PI X tg iter wi) (bo : BlkOk X.N X.env.scope sc own) (hg : ∀ (s : Shared) (H : Hp) (a : Addr) (cl : List (Str × Addr)) (fp : List Addr), PG (blkX X s H sc (compEnvC sc cl a X.env) fp E) tg g)
    (ht : ∀ (s : Shared) (H : Hp) (a : Addr) (cl : List (Str × Addr)) (fp : List Addr), PTs (blkX X s H sc (compEnvC sc cl a X.env) fp E) ifs tt)
    (he : ∀ (s : Shared) (H : Hp) (a : Addr) (cl : List (Str × Addr)) (fp : List Addr), PE (blkX X s H sc (compEnvC sc cl a X.env) fp E) elt te)
    (fold : ∀ x, foldedSetIterable iter X.env x = pure x) (h : tLc wi g tt te (own.map (·.2)) σ H Q)
    (behind : ∀ l C s' m H', Inv X pins σ H' s' → Q (.ref l) H' → s'.heap.Ns C m → FpOk X pins H' C → okPost (model X.prog X.w) X.A X.xe use Qf (.ref l) C s') :
    wpAny (model X.prog X.w) X.A (comprehension (.ListComp elt [⟨tg, iter, ifs, 0⟩] sc pos) sc X.env pos' (newList []) false (eval iter X.env) use) Qf X.xe s0 := by
  have caught : ∀ y ∈ sc.names, y.2 = .free → ∃ c, X.env.cells.lookup y.1 = some c := fun y hy q =>
    (bo.free y hy q).elim (fun k => I.ok.has _ (.inl k)) fun k => I.ok.has _ (.inr k)
  refine comp_air rfl fold (closure_ok caught) bo.kind (fun y hy q => by rw [bo.uniq y hy, q]) (thn (hi.run pins s0 σ H _ I h) fun _ s1 k1 => thn k1 fun _ s2 k2 => ?_)
  obtain ⟨it, fp, tn, J, H2, rfl, I2, T, st2, f2, q⟩ := k2
  refine wpAny_newObj_type (newEnv_comp ?_) (by show 0 ≤ sizeLine; decide)
  generalize el : s2.heap.objs.size = l
  have ln : H2 l = none := I2.hok.fresh (Nat.le_of_eq el)
  obtain ⟨W, ⟨m0, w0⟩, turn⟩ := q l ln
  generalize e3 : ({ s2 with heap := s2.heap.push { cls := .type "list", data := .seq ([] : List Value).toArray } } : Shared) = s3
  have hp3 : s3.heap = s2.heap.push { cls := .type "list", data := .seq ([] : List Value).toArray } := by rw [← e3]
  have I3 : Inv X pins σ (upd H2 l (.lst [])) s3 := by
    rw [← e3]
    exact I2.laid (t' := s2.toks) (fun b o z => Heap.get?_push_of_some _ z) (Nat.le_of_eq el) ⟨Nat.zero_le _, [], 0, .nil, by rw [← el]; exact Heap.get?_push_size _ rfl⟩
  have below : ∀ b ∈ fp, b < s2.heap.objs.size := fun b hb => (T.obj _ _ st2 b hb).elim fun o z => Heap.lt_size z.1
  have F3 : ∀ b ∈ fp, FpOk X pins (upd H2 l (.lst [])) b ∧ b < s3.heap.objs.size := fun b hb => by
    have lt := below b hb
    refine ⟨⟨?_, (f2 b hb).2⟩, by rw [hp3, Heap.size_push]; exact Nat.lt_succ_of_lt lt⟩
    rw [upd_ne (by rw [← el]; exact Nat.ne_of_lt lt)]
    exact (f2 b hb).1
  have st3 : tn 0 s3.heap := T.keep _ _ _ st2 fun b _ o z => by rw [hp3]; exact Heap.get?_push_of_some _ z
  have bI := block_start I3 bo nd F3
  have pg := hg s3 (upd H2 l (.lst [])) s3.heap.objs.size (cellsFrom (s3.heap.objs.size + 1) sc.names (cloFrom X.env.cells sc.names [])) fp
  have pt := ht s3 (upd H2 l (.lst [])) s3.heap.objs.size (cellsFrom (s3.heap.objs.size + 1) sc.names (cloFrom X.env.cells sc.names [])) fp
  have pe := he s3 (upd H2 l (.lst [])) s3.heap.objs.size (cellsFrom (s3.heap.objs.size + 1) sc.names (cloFrom X.env.cells sc.names [])) fp
  show codeAny _ _ (.compStart (.ListComp elt [⟨tg, iter, ifs, 0⟩] sc pos) 0 (.ref it) (.ref l) (compEnvC sc (cellsFrom (s3.heap.objs.size + 1) sc.names (cloFrom X.env.cells sc.names [])) s3.heap.objs.size X.env)) (airPost (model X.prog X.w) X.A X.xe use Qf (.ref l) (compEnvC sc (cellsFrom (s3.heap.objs.size + 1) sc.names (cloFrom X.env.cells sc.names [])) s3.heap.objs.size X.env)) { s3 with heap := pushCells (s3.heap.push { cls := .type "dict", data := .dict #[] }) sc.names }
  generalize hH : upd H2 l (.lst []) = H3 at I3 pg pt pe w0 F3 bI turn
  generalize hc : compEnvC sc (cellsFrom (s3.heap.objs.size + 1) sc.names (cloFrom X.env.cells sc.names [])) s3.heap.objs.size X.env = ce at pg pt pe bI ⊢
  have cl : ce.locals = s3.heap.objs.size := by rw [← hc]; rfl
  have cf : ce.frame = X.env.frame := by rw [← hc]; rfl
  generalize hs : ({ s3 with heap := pushCells (s3.heap.push { cls := .type "dict", data := .dict #[] }) sc.names } : Shared) = s4 at bI ⊢
  have st4 : tn 0 s4.heap := T.keep _ _ _ st3 fun b _ o z => by rw [← hs]; exact pushCells_keeps _ _ _ _ (Heap.get?_push_of_some _ z)
  have I4 : Inv (blkX X s3 H3 sc ce fp E) [] (wipe σ (own.map (·.2))) H3 s4 := inv_xe (X := X.blk s3 H3 sc ce fp) (F := FromCall X s3 H3 sc ce fp E) bI
  have stand : ∀ {σ' : L2.St} {H' : Hp} {s' : Shared}, Inv (blkX X s3 H3 sc ce fp E) [] σ' H' s' → (∀ b ∈ fp, H' b = none) → ∀ b ∈ fp, FpOk (blkX X s3 H3 sc ce fp E) [] H' b := fun {σ' H' s'} J' z b hb =>
    ⟨z b hb, (J'.ok.exf b hb).1, J'.ok.exfs b hb, .inl hb, fun x c e => (J'.ok.exf b hb).2 x c e, fun p hp => by simp at hp⟩
  generalize hR : airPost (model X.prog X.w) X.A X.xe use Qf (.ref l) ce = R
  have air : ∀ u s', FromCall X s3 H3 sc ce fp E u s' → notedBy (model X.prog X.w) X.A ce (fun e s'' => R (.error e) s'') u s' := fun u s' ⟨pl, τ, H6, s6, J6, c6⟩ => by
    rw [← hR]
    exact block_air I3 stk fr tk cl cf (fun b hb => (F3 b hb).1) J6 c6
  let St : Nat → Shared → Prop := fun m s => ∃ i H, Inv (blkX X s3 H3 sc ce fp E) [] (wipe σ (own.map (·.2))) H s ∧ tn i s.heap ∧ (∀ b ∈ fp, H b = none) ∧ W i m H
  refine codeAny_compStart_list ?run (T.self X.A 0 _ _ _ st4 ?run)
  refine compLoop_any St (fun m s5 ⟨i, H5, I5, st5, z5, w5⟩ => ?_) m0 ⟨0, H3, I4, st4, fun b hb => (F3 b hb).1.1, w0⟩
  rcases turn i m H5 w5 with ⟨stop, fin⟩ | ⟨go, N, hN, step⟩
  · refine thnF (T.done (blkX X s3 H3 sc ce fp E) rfl rfl rfl calm i [] s5 _ H5 (fun _ _ => False) I5 (stand I5 z5) st5 stop) fun r s6 ⟨e6, I6⟩ => ?_
    subst e6
    have out : Inv X pins σ H5 s6 := I3.call' (ch := fp) I6.os I6.base I6.hok I6.bare fun b hb => ⟨(F3 b hb).1.2.2.2.1, (F3 b hb).1.2.1, (F3 b hb).1.2.2.2.2.1, (F3 b hb).1.2.2.2.2.2⟩
    have nC : H5 s3.heap.objs.size = none := by
      rw [← cl]
      exact I6.free
    obtain ⟨mm, hn, _⟩ := I6.loc
    have hn' : s6.heap.Ns s3.heap.objs.size mm := by rw [← cl]; exact hn
    rw [← hR]
    show okPost _ _ _ _ _ _ ce.locals _
    rw [cl]
    exact behind l s3.heap.objs.size s6 mm H5 out fin hn' (I3.fpOk (Nat.le_refl _) nC)
  · refine thnF (T.item (blkX X s3 H3 sc ce fp E) rfl rfl rfl calm i [] s5 _ H5 (fun _ _ => False) I5 (stand I5 z5) st5 go) fun r s6 ⟨u, e6, k6⟩ => ?_
    subst e6
    refine thnF k6 fun _ s7 ⟨x, H7, I7, r7, y7, st7, z7⟩ => ?_
    refine wpAny_mono (pg.run _ s7 _ H7 x u _ (I7.pinned (stand I7 z7) (T.obj _ _ st7)) r7 (step x H7 y7)) (fun _ s8 ⟨σ8, H8, I8, hw8, q8⟩ => ?_) air
    have next : ∀ {s' : Shared} {H' : Hp}, Inv (blkX X s3 H3 sc ce fp E) ([] ++ pinsAt fp s7.heap) σ8 H' s' → N H' → ∃ n, n < m ∧ St n s' := fun {s' H'} I' nx => by
      obtain ⟨n, hn, w'⟩ := hN H' nx
      have held : ∀ b ∈ fp, ∀ o, s7.heap.get? b = some o → s'.heap.get? b = some o ∧ H' b = none := fun b hb o e =>
        have z := I'.pin (b, o) (List.mem_append_right _ (List.mem_append_right _ (mem_pinsAt hb e)))
        ⟨z.1, z.2.1⟩
      refine ⟨n, hn, i + 1, H', (I'.unpinned (pins := [])).weak (by rw [← hw8, wipe_length]) (fun j v e => (wipe_some (by rw [hw8]; exact e)).1), T.keep _ _ _ st7 fun b hb o e => (held b hb o e).1, fun b hb => ?_, w'⟩
      obtain ⟨o, e, _⟩ := T.obj _ _ st7 b hb
      exact (held b hb o e).2
    refine wpAny_mono (pt.run _ s8 σ8 H8 _ I8 q8) (fun b s9 ⟨H9, I9, q9⟩ => ?_) air
    dsimp only at q9 ⊢
    by_cases hb : b = true
    · rw [if_pos hb] at q9 ⊢
      exact wpAny_mono (pe.run _ s9 σ8 H9 _ I9 q9) (fun v s10 ⟨y, H10, I10, r10, xs, a1, a2, a3⟩ => app_ok (X := blkX X s3 H3 sc ce fp E) I10 a1 a2 r10 fun s11 I11 => next I11 a3) air
    · rw [if_neg hb] at q9 ⊢
      exact next I9 q9
theorem ps_setLcX {E : XK} {i : Nat} {x : Str} {px : Pos} {elt tg iter : Expr} {ifs : List Expr} {sc : Scope} {own : List (Str × Nat)} {pos pos2 : Pos} {wi : TI} {g : TG} {tt : TT} {te : TE} (calm : X.calm = true) (nd : X.N.Nodup) (hx : X.N[i]? = some x) (hl : X.env.scope.names.lookup x = some .local)
    (sw : swapsWith (.ListComp elt [⟨tg, iter, ifs, 0⟩] sc pos) (some (.Name x px)) pos2.line X.env = pure true) (stk : X.stack = X.env :: X.outer) (fr : X.env.frame = some X.env.locals)
    (tk : Takes X fun cls d _ H => E cls d H) (hi : PI X tg iter wi) (bo : BlkOk X.N X.env.scope sc own) (hg : ∀ (s : Shared) (H : Hp) (a : Addr) (cl : List (Str × Addr)) (fp : List Addr), PG (blkX X s H sc (compEnvC sc cl a X.env) fp E) tg g)
    (ht : ∀ (s : Shared) (H : Hp) (a : Addr) (cl : List (Str × Addr)) (fp : List Addr), PTs (blkX X s H sc (compEnvC sc cl a X.env) fp E) ifs tt)
    (he : ∀ (s : Shared) (H : Hp) (a : Addr) (cl : List (Str × Addr)) (fp : List Addr), PE (blkX X s H sc (compEnvC sc cl a X.env) fp E) elt te)
    (fold : ∀ x, foldedSetIterable iter X.env x = pure x := by intro _; rfl) : PS X (.Assign [.Name x px] (.ListComp elt [⟨tg, iter, ifs, 0⟩] sc pos) pos2) (tAsg (tLc wi g tt te (own.map (·.2))) (gName i)) := by
  refine ⟨fun pins s σ H D I h => ?_⟩
  rw [exec_Assign_Name_used _ _ _ _ sw]
  refine wpAny_bind (wpAny_standAt (wpAny_bind ?_))
  have h0 : tLc wi g tt te (own.map (·.2)) σ H (fun y H1 => gName i y σ H1 D.nx) := h
  refine wpAny_bind (thn (lcX_core (Qf := fun _ z => SP X pins D .next z) (use := some (assign (.Name x px) X.env)) I calm nd stk fr tk hi bo hg ht he fold h0 fun l C s' m H' I' q hn f => ?_) fun _ _ z => wpAny_pure (wpAny_pure z))
  obtain ⟨f0, f1, _, f3, f4, f5⟩ := f
  show wpAny _ _ (assign (.Name x px) X.env (.ref l)) _ _ _
  refine wpAny_assign_Name (store_ok2 (v := V.ref l) I' nd hx (.inl hl) rfl (fun z I2 ⟨a, sb, ha⟩ => ?_) (.inr hl))
  have apart : C ≠ a := by
    rcases ha with w | w
    · rw [w]; exact f1
    · exact fun e => f4 x a w e.symm
  exact ⟨m, hn.sameBut sb apart, fun h3 sb3 => ⟨_, H', I2.turned (t' := z.toks) (fun b o hb e => (sb3.2 b hb).trans e) f0 f1 f3 f4 f5, q⟩⟩
end
end DL
end
section
namespace DL
open PySem PySem.Spec PyProof.Rows L2 LamX LMX
end DL
end
section
namespace DL
open PySem PySem.Spec PyProof.Rows L2 LamX LMX
section
variable {K : PySem.W.Frag} {S : Sit} {c : Cl} {X : Cx} {wi : TI} {it : TAD} {g : TG} {gd : TGD} {ix : List Nat} {tt : TT} {p : TTD} {te : TE} {t : TED}
def rNotInSD : R2D := fun x y P => match x, y with
  | .str s, .str z => ∃ ch, s = ⟨#[ch]⟩ ∧ P (.bl (!decide (ch ∈ z.cps.toList)))
  | _, _ => False
theorem wr_notInS : WR K S (fun x y H Q => ∃ (c : Nat) (z : Str), x = .str ⟨#[c]⟩ ∧ y = .str z ∧ Q (.bl (!decide (c ∈ z.cps.toList))) H) rNotInSD := by
  intro Z H x y d e P w r1 r2 hp Q q
  cases d <;> try exact hp.elim
  cases e <;> try exact hp.elim
  unfold Rep at r1 r2
  obtain ⟨ch, rfl, hp⟩ := hp
  exact ⟨ch, _, r1, r2, q _ H _ (Kp.refl H) w.inv repB hp⟩
theorem ds_setLcX {x : Str} {py pos2 pos : Pos} {elt tg iter : Expr} {ifs : List Expr} {sc : Scope} {own : List (Str × Nat)} (i : Nat) (xc : XC K S c X) (stk : X.stack = X.env :: X.outer) (fr : X.env.frame = some X.env.locals) (hc : X.calm = true) (hN : X.N.Nodup) (hi : DI K S c X tg iter wi it) (ok : BlkOk X.N X.env.scope sc own)
    (hg : ∀ (s : Shared) (H : Hp) (a : Addr) (cl : List (Str × Addr)) (fp : List Addr), DG K (blkX X s H sc (compEnvC sc cl a X.env) fp c.E) tg g gd ix)
    (ht : ∀ (s : Shared) (H : Hp) (a : Addr) (cl : List (Str × Addr)) (fp : List Addr), DTs K S c (blkX X s H sc (compEnvC sc cl a X.env) fp c.E) ifs tt p)
    (he : ∀ (s : Shared) (H : Hp) (a : Addr) (cl : List (Str × Addr)) (fp : List Addr), DE K S c (blkX X s H sc (compEnvC sc cl a X.env) fp c.E) elt te t) (hix : ∀ i ∈ ix, i ∈ own.map (·.2)) (hy : X.N[i]? = some x := by rfl) (hyl : X.env.scope.names.lookup x = some .local := by rfl)
    (hsw : swapsWith (.ListComp elt [⟨tg, iter, ifs, 0⟩] sc pos) (some (.Name x py)) pos2.line X.env = pure true := by exact sw_true rfl rfl rfl rfl) (hs : ∀ x, foldedSetIterable iter X.env x = pure x := by intro _; rfl) :
    DS K S c X (.Assign [.Name x py] (.ListComp elt [⟨tg, iter, ifs, 0⟩] sc pos) pos2) (tAsg (tLc wi g tt te (own.map (·.2))) (gName i)) (dSet i (dOfN (nLc it gd p t (own.map (·.2))))) :=
  ⟨ps_setLcX (E := c.E) hc hN hy hyl hsw stk fr xc.tk hi.pi ok (fun s H a cl fp => (hg s H a cl fp).pg) (fun s H a cl fp => (ht s H a cl fp).pts) (fun s H a cl fp => (he s H a cl fp).pe) hs,
    ws_set (we_of_wn (wn_lc hi.wi (hg X.s_0 (fun _ => none) 0 [] []).wg hix (ht X.s_0 (fun _ => none) 0 [] []).wt (he X.s_0 (fun _ => none) 0 [] []).we))⟩
end
end DL
end
section
namespace Z
open PySem L2 DL TL
def dgB (c : Nat) : Bool := decide (c ∈ ("0123456789" : Str).cps.toList)
theorem dg_iff (c : Nat) : dgB c = true ↔ 48 ≤ c ∧ c < 58 := by
  have h1 : ∀ j ∈ ("0123456789" : Str).cps.toList, 48 ≤ j ∧ j < 58 := by decide +kernel
  have h2 : ∀ j, j < 58 → 48 ≤ j → j ∈ ("0123456789" : Str).cps.toList := by decide +kernel
  unfold dgB
  rw [decide_eq_true_iff]
  exact ⟨h1 c, fun h => h2 c h.2 h.1⟩
def isNumB (w : Str) : Bool := decide (1 ≤ w.length) && decide (w.length ≤ 4) && (tl w).all dgB && (decide (w = "0") || !decide ((tl w).head? = some 48))
theorem digits_num : ∀ n : Nat, ∀ ds : List Nat, ds.length = n → ds ≠ [] → (∀ c ∈ ds, 48 ≤ c ∧ c < 58) → (ds = [48] ∨ ds.head? ≠ some 48) → ∃ k, numL k = ds ∧ k < 10 ^ n
  | 0, ds, hl, hne, _, _ => (hne (List.length_eq_zero_iff.mp hl)).elim
  | n + 1, ds, hl, hne, hd, hh => by
    obtain ⟨init, d, rfl⟩ : ∃ init d, ds = init ++ [d] := ⟨ds.dropLast, ds.getLast hne, (List.dropLast_concat_getLast hne).symm⟩
    rw [List.length_append, List.length_singleton] at hl
    have dd := hd d (List.mem_append_right _ (List.mem_singleton.mpr rfl))
    cases init with
    | nil =>
      refine ⟨d - 48, ?_, ?_⟩
      · rw [numL_lt (by omega), List.nil_append]
        congr 1
        omega
      · have : n = 0 := by simpa using hl.symm
        subst this
        show d - 48 < 10
        omega
    | cons c r =>
      have hc : c ≠ 48 := by
        rcases hh with h | h
        · have := congrArg List.length h
          simp at this
        · exact fun z => h (by rw [z]; rfl)
      obtain ⟨k, hk, lk⟩ := digits_num n (c :: r) (by omega) (List.cons_ne_nil _ _) (fun x hx => hd x (List.mem_append_left _ hx)) (.inr fun z => hc (by injection z))
      have k1 : 1 ≤ k := by
        by_cases q : k = 0
        · subst q
          rw [numL_lt (by decide)] at hk
          exact (hc (by injection hk with h _; exact h.symm)).elim
        · omega
      refine ⟨10 * k + (d - 48), ?_, ?_⟩
      · rw [numL_step (by omega), show (10 * k + (d - 48)) / 10 = k by omega, show (10 * k + (d - 48)) % 10 = d - 48 by omega, hk]
        congr 2
        omega
      · rw [Nat.pow_succ]
        omega
theorem num_of {w : Str} (h : isNumB w = true) : ∃ n : Int, 0 ≤ n ∧ n < 10000 ∧ w = numT n := by
  unfold isNumB at h
  simp only [Bool.and_eq_true, decide_eq_true_eq] at h
  obtain ⟨⟨⟨l1, l4⟩, hd⟩, hh⟩ := h
  have hd : ∀ c ∈ tl w, 48 ≤ c ∧ c < 58 := fun c hc => (dg_iff c).mp (List.all_eq_true.mp hd c hc)
  have ln : (tl w).length = w.length := (len_tl w).symm
  have hz : tl w = [48] ∨ (tl w).head? ≠ some 48 := by
    rcases Bool.or_eq_true_iff.mp hh with q | q
    · rw [of_decide_eq_true q]; exact .inl (by decide +kernel)
    · exact .inr (by simpa using q)
  obtain ⟨k, hk, lk⟩ := digits_num w.length (tl w) ln (fun z => by rw [z] at ln; simp at ln; omega) hd hz
  refine ⟨(k : Int), by omega, ?_, ?_⟩
  · have : 10 ^ w.length ≤ 10 ^ 4 := Nat.pow_le_pow_right (by decide) l4
    omega
  · refine ext_tl ?_
    unfold numT
    rw [tl_num, hk]
theorem numT_is {n : Int} (h0 : 0 ≤ n) (h1 : n < 10000) : isNumB (numT n) = true := by
  have l4 := num_le h0 h1
  obtain ⟨k, rfl⟩ : ∃ k : Nat, n = (k : Int) := ⟨n.toNat, by omega⟩
  have et : tl (numT (k : Int)) = numL k := tl_num k
  have l1 : 1 ≤ (numT (k : Int)).length := by
    rw [len_tl, et]
    exact List.length_pos_iff.mpr (numL_ne k)
  unfold isNumB
  simp only [Bool.and_eq_true, decide_eq_true_eq]
  refine ⟨⟨⟨l1, l4⟩, List.all_eq_true.mpr fun c hc => (dg_iff c).mpr (by have := num_tl h0 c hc; omega)⟩, ?_⟩
  by_cases e0 : (numL k).head? = some 48
  · have := num_head e0
    subst this
    have : numT ((0 : Nat) : Int) = "0" := by decide +kernel
    rw [this]
    rfl
  · rw [et, decide_eq_false e0, Bool.not_false, Bool.or_true]
structure CleanW (w : Str) : Prop where
  ok : ∀ c ∈ tl w, c ≠ 32 ∧ c ≠ 10 ∧ c < 123
  len : w.length ≤ 10
theorem CleanW.str {w : Str} (h : CleanW w) : PyData.strOk w = true := ok_of_tl (k := 123) (by decide) fun c hc => (h.ok c hc).2.2
def CleanR (ws : List Str) : Prop := ws ≠ [] ∧ ws.length ≤ 13 ∧ ∀ w ∈ ws, CleanW w
def CleanT (R : List (List Str)) : Prop := R ≠ [] ∧ R.length ≤ 13 ∧ ∀ r ∈ R, CleanR r
def rowJ (ws : List Str) : Str := Txt.join " " ws
def textJ (R : List (List Str)) : Str := Txt.join "\n" (R.map rowJ)
theorem rowJ_tl {ws : List Str} (h : CleanR ws) : ∀ c ∈ tl (rowJ ws), c ≠ 10 ∧ c < 123 := by
  intro c hc
  unfold rowJ at hc
  rcases mem_join hc with q | ⟨p, hp, q⟩
  · rw [sp_tl] at q
    rw [List.mem_singleton.mp q]
    decide
  · have := (h.2.2 p hp).ok c q
    exact ⟨this.2.1, this.2.2⟩
theorem split_rowJ {ws : List Str} (h : CleanR ws) : Txt.split (rowJ ws) " " = ws :=
  split_join (s := 32) (S := []) sp_tl (by decide +kernel) h.1 fun p hp hm => ((h.2.2 p hp).ok _ hm).1 rfl
theorem split_textJ {R : List (List Str)} (h : CleanT R) : Txt.split (textJ R) "\n" = R.map rowJ := by
  refine split_join (s := 10) (S := []) nl_tl (by decide +kernel) (fun z => h.1 (List.map_eq_nil_iff.mp z)) fun p hp hm => ?_
  obtain ⟨r, hr, rfl⟩ := List.mem_map.mp hp
  exact (rowJ_tl (h.2.2 r hr) _ hm).1 rfl
theorem rowJ_le {ws : List Str} (h : CleanR ws) : (rowJ ws).length ≤ 143 := by
  have := join_le (y := " ") (ps := ws) (k := 10) fun p hp => (h.2.2 p hp).len
  rw [sp_len] at this
  have := h.2.1
  unfold rowJ
  omega
theorem textJ_le {R : List (List Str)} (h : CleanT R) : (textJ R).length ≤ 1872 := by
  have := join_le (y := "\n") (ps := R.map rowJ) (k := 143) fun p hp => by
    obtain ⟨r, hr, rfl⟩ := List.mem_map.mp hp
    exact rowJ_le (h.2.2 r hr)
  rw [nl_len, List.length_map] at this
  have := h.2.1
  unfold textJ
  omega
theorem rowJ_ok {ws : List Str} (h : CleanR ws) : PyData.strOk (rowJ ws) = true := ok_of_tl (k := 123) (by decide) fun c hc => (rowJ_tl h c hc).2
theorem rowJ_dash {ws : List Str} (h : CleanR ws) : rowJ ws = "-" ↔ ws = (["-"] : List Str) := by
  constructor
  · intro e
    have h1 := split_rowJ h
    rw [e] at h1
    have h2 : Txt.split ("-" : Str) " " = [("-" : Str)] := by
      have : rowJ [("-" : Str)] = "-" := by decide +kernel
      rw [← this]
      exact split_rowJ ⟨by simp, by simp, fun w hw => by rw [List.mem_singleton.mp hw]; exact ⟨by decide +kernel, by decide +kernel⟩⟩
    rw [h2] at h1
    exact h1.symm
  · intro e
    rw [e]
    decide +kernel
def leadE (ws : List Str) : Option Nat := if ws.getD 0 "" ≠ "lead" then some 0 else if ws.length < 2 ∨ isNumB (ws.getD 1 "") = false then some 1 else if 2 < ws.length then some 2 else none
def badW (ws : List Str) : List Nat := (List.range ws.length).filter fun j => !isNm (ws.getD j "")
def rowE (ws : List Str) : Option Nat := if ws = (["-"] : List Str) then none else (badW ws).head?
def rowsE : List (List Str) → Nat → Option (Nat × Nat)
  | [], _ => none
  | r :: rs, k => match rowE r with
    | some j => some (k, j)
    | none => rowsE rs (k + 1)
def dayOf (ws : List Str) : Ns := if ws = (["-"] : List Str) then [] else ws
def repE : List Ns → Nat → Option Nat
  | [], _ => none
  | d :: ds, i => if d.Nodup then repE ds (i + 1) else some i
end Z
end
section
namespace Z
open PySem L2 DL TL
abbrev N_rlaw_equal9 : List Str := ["_law_actual", "_law_expected_here", "_law_k"]
def sp_first_wrong_dayX (A : Cs) : SpD := fun ds P _ => ∃ days : List Ns, ds = [.tup (eDs days)] ∧ days.length ≤ 100 ∧ (∀ d ∈ days, d.length ≤ 100) ∧ (match repE days 0 with
  | some i => P (.int (i : Int))
  | none => P .non)
def planE (days : List Ns) (lead : Int) : Option Int := match repE days 0 with
  | some i => some (i : Int)
  | none => if (days.length : Int) ≤ lead then some (days.length : Int) else none
def in_PlanX (A : Cs) : InD := fun ds P x => ∃ (days : List Ns) (lead : Int), ds = [.int lead, .tup (eDs days)] ∧ days.length ≤ 100 ∧ (∀ d ∈ days, d.length ≤ 100) ∧ 0 ≤ lead ∧ (match planE days lead with
  | some i => x A.InvalidPlan [("index", .int i)]
  | none => P ["_days", "_lead"] [.tup (eDs days), .int lead])
def sp_row_of (A : Cs) : SpD := fun ds P _ => ∃ d : Ns, ds = [eN d] ∧ d.length ≤ 100 ∧ (∀ n ∈ d, n.length ≤ 10) ∧ P (.str (rowT d))
def sp_format_plan (A : Cs) : SpD := fun ds P _ => ∃ (days : List Ns) (lead : Int), ds = [ePlan A days lead] ∧ days.length ≤ 100 ∧ (∀ d ∈ days, d.length ≤ 100 ∧ ∀ n ∈ d, n.length ≤ 10) ∧ 0 ≤ lead ∧ lead < 10000 ∧ P (.str (wordsT days lead))
def sp_is_leadG (A : Cs) : SpD := fun ds P _ => ∃ w : Str, ds = [.str w] ∧ CleanW w ∧ P (.bl (isNumB w))
def sp_rlaw_is_number (A : Cs) : SpD := fun ds P _ => ∃ w : Str, ds = [.str w] ∧ CleanW w ∧ P (.bl (isNumB w))
def sp_rlaw_is_name (A : Cs) : SpD := fun ds P _ => ∃ w : Str, ds = [.str w] ∧ CleanW w ∧ P (.bl (isNm w))
def txErr (x : XD) (A : Cs) (k j : Nat) : Prop := x A.InvalidText [("word", .int (j : Int)), ("row", .int (k : Int))]
def sp_lead_ofX (A : Cs) : SpD := fun ds P x => ∃ ws : List Str, ds = [.str (rowJ ws)] ∧ CleanR ws ∧ (match leadE ws with
  | some j => txErr x A 0 j
  | none => ∀ n : Int, 0 ≤ n → n < 10000 → ws = [("lead" : Str), numT n] → P (.int n))
def sp_names_ofX (A : Cs) : SpD := fun ds P x => ∃ (ws : List Str) (k : Nat), ds = [.str (rowJ ws), .int (k : Int)] ∧ CleanR ws ∧ k ≤ 100 ∧ (match rowE ws with
  | some j => txErr x A k j
  | none => P (eN (dayOf ws)))
def sp_parse_planX (A : Cs) : SpD := fun ds P x => ∃ (r0 : List Str) (R : List (List Str)), ds = [.str (textJ (r0 :: R))] ∧ CleanT (r0 :: R) ∧ (match leadE r0 with
  | some j => txErr x A 0 j
  | none => match rowsE R 1 with
    | some (k, j) => txErr x A k j
    | none => ∀ n : Int, 0 ≤ n → n < 10000 → r0 = [("lead" : Str), numT n] → match planE (R.map dayOf) n with
      | some i => x A.InvalidPlan [("index", .int i)]
      | none => P (ePlan A (R.map dayOf) n))
def errR (r0 : List Str) (R : List (List Str)) (n : Int) : D := match leadE r0 with
  | some j => .tup [.str "text", .tup [.int 0, .int (j : Int)]]
  | none => match rowsE R 1 with
    | some (k, j) => .tup [.str "text", .tup [.int (k : Int), .int (j : Int)]]
    | none => match planE (R.map dayOf) n with
      | some i => .tup [.str "plan", .int i]
      | none => .non
def sp_rlaw_expected (A : Cs) : SpD := fun ds P _ => ∃ (r0 : List Str) (R : List (List Str)), ds = [.lst ((r0 :: R).map fun r => .lst (r.map .str))] ∧ CleanT (r0 :: R) ∧ ∀ n : Int, 0 ≤ n → n < 10000 → (leadE r0 = none → r0 = [("lead" : Str), numT n]) → P (errR r0 R n)
theorem len_first_wrong_dayX (A : Cs) : ∀ ds P x, sp_first_wrong_dayX A ds P x → ds.length = (["days"] : List Str).length := by
  rintro ds P x ⟨_, rfl, _⟩; rfl
theorem len_row_of (A : Cs) : ∀ ds P x, sp_row_of A ds P x → ds.length = (["names"] : List Str).length := by
  rintro ds P x ⟨_, rfl, _⟩; rfl
theorem len_format_plan (A : Cs) : ∀ ds P x, sp_format_plan A ds P x → ds.length = (["plan"] : List Str).length := by
  rintro ds P x ⟨_, _, rfl, _⟩; rfl
theorem len_is_leadG (A : Cs) : ∀ ds P x, sp_is_leadG A ds P x → ds.length = (["word"] : List Str).length := by
  rintro ds P x ⟨_, rfl, _⟩; rfl
theorem len_rlaw_is_number (A : Cs) : ∀ ds P x, sp_rlaw_is_number A ds P x → ds.length = (["_law_word"] : List Str).length := by
  rintro ds P x ⟨_, rfl, _⟩; rfl
theorem len_rlaw_is_name (A : Cs) : ∀ ds P x, sp_rlaw_is_name A ds P x → ds.length = (["_law_word"] : List Str).length := by
  rintro ds P x ⟨_, rfl, _⟩; rfl
theorem len_lead_ofX (A : Cs) : ∀ ds P x, sp_lead_ofX A ds P x → ds.length = (["row"] : List Str).length := by
  rintro ds P x ⟨_, rfl, _⟩; rfl
theorem len_names_ofX (A : Cs) : ∀ ds P x, sp_names_ofX A ds P x → ds.length = (["row", "number"] : List Str).length := by
  rintro ds P x ⟨_, _, rfl, _⟩; rfl
theorem len_parse_planX (A : Cs) : ∀ ds P x, sp_parse_planX A ds P x → ds.length = (["text"] : List Str).length := by
  rintro ds P x ⟨_, _, rfl, _⟩; rfl
theorem len_rlaw_expected (A : Cs) : ∀ ds P x, sp_rlaw_expected A ds P x → ds.length = (["_law_rows"] : List Str).length := by
  rintro ds P x ⟨_, _, rfl, _⟩; rfl
abbrev N_first_wrong_dayX : List Str := ["days", "index", "names"]
def D_first_wrong_dayX (A : Cs) (x : XD) : TSD := (dSeq (dFor (iEnumTD (dCons (dVar 0) dNil)) (hTup 2 (hCons (hName 1) (hCons (hName 2) hNil))) (dIfS (dOr (dTest (dOp rEqDD (dVar 1) (dC (.int 5000)))) (dTest (dOp rLtD (dMet (dVar 2)) (dCB rLenD (dCons (dVar 2) dNil))))) (dRet (dVar 1)) dNext)) (dRet (dC .non)))
abbrev N_Plan_initX : List Str := ["self", "lead", "days", "index", "names"]
def D_Plan_initX (A : Cs) (x : XD) : TSD := (dSeq (dSet 3 (dCall (sp_first_wrong_dayX A) x (dCons (dVar 2) dNil))) (dSeq (dIfS (dAnd (dTest (dOp rIsND (dVar 3) (dC .non))) (dNot (dTest (dCall (sp_is_number A) x0 (dCons (dVar 1) (dCons (dC (.int 0)) (dCons (dOp rSubD (dCB rLenD (dCons (dVar 2) dNil)) (dC (.int 1))) dNil))))))) (dSet 3 (dCB rLenD (dCons (dVar 2) dNil))) dNext) (dSeq (dIfS (dTest (dOp rNotND (dVar 3) (dC .non))) (dRaiseK x A.InvalidPlan ["index"] (dCons (dVar 3) dNil)) dNext) (dSeq (dFldS 0 A.Plan "_days" (dCB rTupleD (dCons (dOfN (nLc (iTupD (dVar 2)) (hName 4) dYes (dCB rTupleD (dCons (dVar 4) dNil)) [4])) dNil))) (dFldS 0 A.Plan "_lead" (dVar 1))))))
abbrev N_row_of : List Str := ["names"]
def D_row_of (A : Cs) : TSD := (dSeq (dIfS (dNot (dTru (dVar 0))) (dRet (dC (.str "-"))) dNext) (dRet (dBM "str" rJoinD (dC (.str " ")) (dCons (dVar 0) dNil))))
abbrev N_format_plan : List Str := ["plan", "rows", "names"]
def D_format_plan (A : Cs) : TSD := (dSeq (dSetN 1 (nLst (dCons (dJoin [(dFmt (dC (.str "lead"))), (dC (.str " ")), (dFmt (dProp A.Plan (sp_Plan_lead A) (dVar 0)))]) dNil))) (dSeq (dExt 1 (dOfN (nLc (iTupD (dProp A.Plan (sp_Plan_days A) (dVar 0))) (hName 2) dYes (dCall (sp_row_of A) x0 (dCons (dVar 2) dNil)) [2]))) (dRet (dBM "str" rJoinD (dC (.str "\n")) (dCons (dVar 1) dNil)))))
abbrev N_is_leadG : List Str := ["word", "sign"]
def D_is_leadG (A : Cs) : TSD := (dSeq (dIfS (dOr (dNot (dTest (dChain rLeD rLeD (dC (.int 1)) (dCB rLenD (dCons (dVar 0) dNil)) (dC (.int 4))))) (dNot (dTest (dCB rAllD (dCons (dOfN (nLc (iStrD (dVar 0)) (hName 1) dYes (dOp rInSD (dVar 1) (dC (.str "0123456789"))) [1])) dNil))))) (dRet (dC (.bl false))) dNext) (dRet (dOrV (dOp rEqDD (dVar 0) (dC (.str "0"))) (dOp rNeDD (dOp rIxD (dVar 0) (dC (.int 0))) (dC (.str "0"))))))
abbrev N_lead_ofX : List Str := ["row", "words"]
def D_lead_ofX (A : Cs) (x : XD) : TSD := (dSeq (dSet 1 (dBM "str" rSplD (dVar 0) (dCons (dC (.str " ")) dNil))) (dSeq (dIfS (dTest (dOp rNeDD (dOp rIxD (dVar 1) (dC (.int 0))) (dC (.str "lead")))) (dRaiseK x A.InvalidText ["row", "word"] (dCons (dC (.int 0)) (dCons (dC (.int 0)) dNil))) dNext) (dSeq (dIfS (dOr (dTest (dOp rLtD (dCB rLenD (dCons (dVar 1) dNil)) (dC (.int 2)))) (dNot (dTest (dCall (sp_is_leadG A) x0 (dCons (dOp rIxD (dVar 1) (dC (.int 1))) dNil))))) (dRaiseK x A.InvalidText ["row", "word"] (dCons (dC (.int 0)) (dCons (dC (.int 1)) dNil))) dNext) (dSeq (dIfS (dTest (dOp rGtD (dCB rLenD (dCons (dVar 1) dNil)) (dC (.int 2)))) (dRaiseK x A.InvalidText ["row", "word"] (dCons (dC (.int 0)) (dCons (dC (.int 2)) dNil))) dNext) (dRet (dCB rIntSD (dCons (dOp rIxD (dVar 1) (dC (.int 1))) dNil)))))))
abbrev N_names_ofX : List Str := ["row", "number", "words", "place", "word"]
def D_names_ofX (A : Cs) (x : XD) : TSD := (dSeq (dIfS (dTest (dOp rEqDD (dVar 0) (dC (.str "-")))) (dRet (dTup dNil)) dNext) (dSeq (dSet 2 (dBM "str" rSplD (dVar 0) (dCons (dC (.str " ")) dNil))) (dSeq (dFor (iEnumLD (dCons (dVar 2) dNil)) (hTup 2 (hCons (hName 3) (hCons (hName 4) hNil))) (dIfS (dNot (dTest (dCall (sp_is_name A) x0 (dCons (dVar 4) dNil)))) (dRaiseK x A.InvalidText ["row", "word"] (dCons (dVar 1) (dCons (dVar 3) dNil))) dNext)) (dRet (dCB rTupleD (dCons (dVar 2) dNil))))))
abbrev N_parse_planX : List Str := ["text", "rows", "lead", "days", "place", "row"]
def D_parse_planX (A : Cs) (x : XD) : TSD := (dSeq (dSet 1 (dBM "str" rSplD (dVar 0) (dCons (dC (.str "\n")) dNil))) (dSeq (dSet 2 (dCall (sp_lead_ofX A) x (dCons (dOp rIxD (dVar 1) (dC (.int 0))) dNil))) (dSeq (dSet 3 (dOfN (nLc (iEnumLD (dCons (dSl slLD (dVar 1) (oYes (dC (.int 1))) oNo) dNil)) (hTup 2 (hCons (hName 4) (hCons (hName 5) hNil))) dYes (dCall (sp_names_ofX A) x (dCons (dVar 5) (dCons (dOp rAddD (dVar 4) (dC (.int 1))) dNil))) [4, 5]))) (dRet (dMakeSK (in_PlanX A) A.Plan x (dVar 3) (dVar 2))))))
abbrev N_rlaw_is_number : List Str := ["_law_word", "_law_sign"]
def D_rlaw_is_number (A : Cs) : TSD := (dSeq (dIfS (dOr (dNot (dTest (dChain rLeD rLeD (dC (.int 1)) (dCB rLenD (dCons (dVar 0) dNil)) (dC (.int 4))))) (dTest (dOp rNeDD (dOfN (nLc (iStrD (dVar 0)) (hName 1) (dTest (dOp rNotInSD (dVar 1) (dC (.str "0123456789")))) (dVar 1) [1])) (dLst dNil)))) (dRet (dC (.bl false))) dNext) (dRet (dOrV (dOp rEqDD (dVar 0) (dC (.str "0"))) (dOp rNeDD (dOp rIxD (dVar 0) (dC (.int 0))) (dC (.str "0"))))))
abbrev N_rlaw_is_name : List Str := ["_law_word", "_law_sign"]
def D_rlaw_is_name (A : Cs) : TSD := (dRet (dAndV (dChain rLeD rLeD (dC (.int 1)) (dCB rLenD (dCons (dVar 0) dNil)) (dC (.int 8))) (dOp rEqDD (dOfN (nLc (iStrD (dVar 0)) (hName 1) (dTest (dOp rNotInSD (dVar 1) (dC (.str "abcdefghijklmnopqrstuvwxyz")))) (dVar 1) [1])) (dLst dNil))))
abbrev N_rlaw_expected : List Str := ["_law_rows", "_law_head", "_law_k", "_law_bad", "_law_j"]
def D_rlaw_expected (A : Cs) : TSD := (dSeq (dSet 1 (dOp rIxD (dVar 0) (dC (.int 0)))) (dSeq (dIfS (dTest (dOp rNeDD (dOp rIxD (dVar 1) (dC (.int 0))) (dC (.str "lead")))) (dRet (dTup (dCons (dC (.str "text")) (dCons (dTup (dCons (dC (.int 0)) (dCons (dC (.int 0)) dNil))) dNil)))) dNext) (dSeq (dIfS (dOr (dTest (dOp rLtD (dCB rLenD (dCons (dVar 1) dNil)) (dC (.int 2)))) (dNot (dTest (dCall (sp_rlaw_is_number A) x0 (dCons (dOp rIxD (dVar 1) (dC (.int 1))) dNil))))) (dRet (dTup (dCons (dC (.str "text")) (dCons (dTup (dCons (dC (.int 0)) (dCons (dC (.int 1)) dNil))) dNil)))) dNext) (dSeq (dIfS (dTest (dOp rGtD (dCB rLenD (dCons (dVar 1) dNil)) (dC (.int 2)))) (dRet (dTup (dCons (dC (.str "text")) (dCons (dTup (dCons (dC (.int 0)) (dCons (dC (.int 2)) dNil))) dNil)))) dNext) (dSeq (dFor (iRng2D (dCons (dC (.int 1)) (dCons (dCB rLenD (dCons (dVar 0) dNil)) dNil))) (hName 2) (dSeq (dSet 3 (dOfN (nLc (iRng1D (dCons (dCB rLenD (dCons (dOp rIxD (dVar 0) (dVar 2)) dNil)) dNil)) (hName 4) (dNot (dTest (dCall (sp_rlaw_is_name A) x0 (dCons (dOp rIxD (dOp rIxD (dVar 0) (dVar 2)) (dVar 4)) dNil)))) (dVar 4) [4]))) (dIfS (dAnd (dTest (dOp rNeDD (dVar 3) (dLst dNil))) (dTest (dOp rNeDD (dOp rIxD (dVar 0) (dVar 2)) (dLst (dCons (dC (.str "-")) dNil))))) (dRet (dTup (dCons (dC (.str "text")) (dCons (dTup (dCons (dVar 2) (dCons (dOp rIxD (dVar 3) (dC (.int 0))) dNil))) dNil)))) dNext))) (dSeq (dFor (iRng2D (dCons (dC (.int 1)) (dCons (dCB rLenD (dCons (dVar 0) dNil)) dNil))) (hName 2) (dIfS (dTest (dOp rLtD (dMet (dOp rIxD (dVar 0) (dVar 2))) (dCB rLenD (dCons (dOp rIxD (dVar 0) (dVar 2)) dNil)))) (dRet (dTup (dCons (dC (.str "plan")) (dCons (dOp rSubD (dVar 2) (dC (.int 1))) dNil)))) dNext)) (dRet (dIf (dTest (dOp rGeD (dCB rIntSD (dCons (dOp rIxD (dVar 1) (dC (.int 1))) dNil)) (dOp rSubD (dCB rLenD (dCons (dVar 0) dNil)) (dC (.int 1))))) (dTup (dCons (dC (.str "plan")) (dCons (dOp rSubD (dCB rLenD (dCons (dVar 0) dNil)) (dC (.int 1))) dNil))) (dC .non)))))))))theorem cps_cut {w : Str} (h : w.length ≤ 10) : w.cps.toList.length ≤ 1000000 := by rw [cps_len]; omega
theorem first_sign {w : Str} (hw : CleanW w) (h1 : 1 ≤ w.length) {P : D → Prop} (hp : P (.bl (decide (w = "0") || !decide ((tl w).head? = some 48)))) : (if decide (w = "0") = true then P (.bl true) else DL.rIxD (.str w) (.int 0) fun d => rNeDD d (.str "0") P) := by
  by_cases e0 : w = "0"
  · rw [decide_eq_true e0] at hp ⊢
    exact ifp rfl hp
  · rw [decide_eq_false e0] at hp ⊢
    refine ifn (by decide) ?_
    unfold DL.rIxD
    refine ⟨by have := hw.len; omega, ?_⟩
    cases q : tl w with
    | nil => rw [len_tl, q] at h1; simp at h1
    | cons c r =>
      have e1 : atI w.cps.toList 0 = some c := by
        show atI (tl w) 0 = some c
        rw [q]
        exact atI_cons
      rw [e1]
      have cc := (hw.ok c (by rw [q]; exact List.mem_cons_self)).2.2
      refine ne_str (ok_of_tl (k := 123) (by decide) fun j hj => by have hj : j = c := List.mem_singleton.mp hj; omega) (by decide +kernel) ?_
      rw [q] at hp
      have z3 : tl ("0" : Str) = [48] := by decide +kernel
      have eq : ((⟨#[c]⟩ : Str) = "0") ↔ c = 48 := by
        constructor
        · intro z
          have z2 : tl (⟨#[c]⟩ : Str) = tl ("0" : Str) := by rw [z]
          rw [z3] at z2
          have z5 : ([c] : List Nat) = [48] := z2
          exact (List.cons.inj z5).1
        · intro z
          subst z
          decide +kernel
      have hh : decide (((c :: r).head? : Option Nat) = some 48) = decide ((⟨#[c]⟩ : Str) = "0") := decide_eq_decide.mpr ⟨fun z => eq.mpr (by injection z), fun z => by rw [eq.mp z]; rfl⟩
      rw [Bool.false_or, hh] at hp
      exact hp
theorem pure_is_leadG (A : Cs) : ∀ ds P x, sp_is_leadG A ds P x → D_is_leadG A { nx := fun _ => P .non, rt := P } (startD N_is_leadG ds) := by
  rintro ds P x ⟨w, rfl, hw, hp⟩
  have l10 := hw.len
  unfold isNumB at hp
  refine ⟨by omega, ?_⟩
  show rLeD (.int 1) (.int (w.length : Int)) _
  show (if decide ((1 : Int) ≤ (w.length : Int)) = true then _ else _)
  by_cases h1 : 1 ≤ w.length
  · rw [decide_eq_true (show (1 : Int) ≤ (w.length : Int) by omega)]
    rw [decide_eq_true h1] at hp
    refine ifp rfl ?_
    show (if (!decide ((w.length : Int) ≤ 4)) = true then _ else _)
    by_cases h4 : w.length ≤ 4
    · rw [decide_eq_true (show (w.length : Int) ≤ 4 by omega)]
      rw [decide_eq_true h4] at hp
      refine ifn (by decide) ?_
      show compD (strD w) _ _ _ _ _
      rw [strD_map]
      refine comp_of (f := fun k => .bl (dgB k)) (cps_cut l10) (fun k hk Q q => ⟨k, rfl, q⟩) ?_
      refine ⟨(tl w).map dgB, by rw [List.map_map]; rfl, ?_⟩
      have e : ((tl w).map dgB).all id = (tl w).all dgB := by rw [List.all_map]; rfl
      rw [e]
      cases hd : (tl w).all dgB with
      | true =>
        rw [hd] at hp
        refine ifn (by decide) ?_
        refine eq_str hw.str (by decide +kernel) ?_
        exact first_sign hw h1 hp
      | false =>
        rw [hd] at hp
        exact ifp rfl hp
    · rw [decide_eq_false (show ¬ (w.length : Int) ≤ 4 by omega)]
      rw [decide_eq_false h4] at hp
      exact ifp rfl hp
  · rw [decide_eq_false (show ¬ (1 : Int) ≤ (w.length : Int) by omega)]
    rw [decide_eq_false h1] at hp
    exact ifn (by decide) (ifp rfl hp)
theorem filt_nil {w : Str} {p : Nat → Bool} : ((tl w).filter fun c => !p c).isEmpty = (tl w).all p := by
  rw [Bool.eq_iff_iff, List.isEmpty_iff, List.filter_eq_nil_iff, List.all_eq_true]
  constructor
  · intro h c hc
    have := h c hc
    simpa using this
  · intro h c hc
    simpa using h c hc
theorem pure_rlaw_is_number (A : Cs) : ∀ ds P x, sp_rlaw_is_number A ds P x → D_rlaw_is_number A { nx := fun _ => P .non, rt := P } (startD N_rlaw_is_number ds) := by
  rintro ds P x ⟨w, rfl, hw, hp⟩
  have l10 := hw.len
  unfold isNumB at hp
  refine ⟨by omega, ?_⟩
  show (if decide ((1 : Int) ≤ (w.length : Int)) = true then _ else _)
  by_cases h1 : 1 ≤ w.length
  · rw [decide_eq_true (show (1 : Int) ≤ (w.length : Int) by omega)]
    rw [decide_eq_true h1] at hp
    refine ifp rfl ?_
    show (if (!decide ((w.length : Int) ≤ 4)) = true then _ else _)
    by_cases h4 : w.length ≤ 4
    · rw [decide_eq_true (show (w.length : Int) ≤ 4 by omega)]
      rw [decide_eq_true h4] at hp
      refine ifn (by decide) ?_
      show compD (strD w) _ _ _ _ _
      rw [strD_map]
      refine comp_if (p := fun k => !dgB k) (f := fun k : Nat => .str ⟨#[k]⟩) (cps_cut l10) (fun k hk Q N q => ⟨k, rfl, q⟩) ?_
      refine ⟨(by decide : (0 : Nat) ≤ 1000000), ?_⟩
      have e2 : ((tl w).filter fun k => !dgB k).map (fun k : Nat => D.str ⟨#[k]⟩) = (((tl w).filter fun k => !dgB k).map fun k : Nat => (⟨#[k]⟩ : Str)).map D.str := by rw [List.map_map]; rfl
      show rNeDD (.lst (((tl w).filter fun k => !dgB k).map fun k : Nat => D.str ⟨#[k]⟩)) (.lst []) _
      rw [e2]
      refine ne_nil_strs (fun y hy => ?_) ?_
      · obtain ⟨k, hk, rfl⟩ := List.mem_map.mp hy
        have := (hw.ok k (List.mem_filter.mp hk).1).2.2
        exact ok_of_tl (k := 123) (by decide) fun j hj => by have hj : j = k := List.mem_singleton.mp hj; omega
      have e3 : (((tl w).filter fun k => !dgB k).map fun k : Nat => (⟨#[k]⟩ : Str)).isEmpty = (tl w).all dgB := by
        rw [← filt_nil]
        cases (tl w).filter fun k => !dgB k <;> rfl
      rw [e3]
      cases hd : (tl w).all dgB with
      | true =>
        rw [hd] at hp
        refine ifn (by decide) ?_
        refine eq_str hw.str (by decide +kernel) ?_
        exact first_sign hw h1 hp
      | false =>
        rw [hd] at hp
        exact ifp rfl hp
    · rw [decide_eq_false (show ¬ (w.length : Int) ≤ 4 by omega)]
      rw [decide_eq_false h4] at hp
      exact ifp rfl hp
  · rw [decide_eq_false (show ¬ (1 : Int) ≤ (w.length : Int) by omega)]
    rw [decide_eq_false h1] at hp
    exact ifn (by decide) (ifp rfl hp)
theorem pure_rlaw_is_name (A : Cs) : ∀ ds P x, sp_rlaw_is_name A ds P x → D_rlaw_is_name A { nx := fun _ => P .non, rt := P } (startD N_rlaw_is_name ds) := by
  rintro ds P x ⟨w, rfl, hw, hp⟩
  have l10 := hw.len
  have hp : P (.bl (decide (1 ≤ w.length) && decide (w.length ≤ 8) && (tl w).all fun c => decide (c ∈ ("abcdefghijklmnopqrstuvwxyz" : Str).cps.toList))) := by
    have e : isNm w = (decide (1 ≤ w.length) && decide (w.length ≤ 8) && (tl w).all fun c => decide (c ∈ ("abcdefghijklmnopqrstuvwxyz" : Str).cps.toList)) := by
      unfold isNm
      simp [List.contains_eq_mem]
    rw [← e]
    exact hp
  refine ⟨by omega, ?_⟩
  show (if decide ((1 : Int) ≤ (w.length : Int)) = true then _ else _)
  by_cases h1 : 1 ≤ w.length
  · rw [decide_eq_true (show (1 : Int) ≤ (w.length : Int) by omega)]
    rw [decide_eq_true h1] at hp
    refine ifp rfl ?_
    show (if decide ((w.length : Int) ≤ 8) = true then _ else _)
    by_cases h8 : w.length ≤ 8
    · rw [decide_eq_true (show (w.length : Int) ≤ 8 by omega)]
      rw [decide_eq_true h8] at hp
      refine ifp rfl ?_
      show compD (strD w) _ _ _ _ _
      rw [strD_map]
      refine comp_if (p := fun k => !decide (k ∈ ("abcdefghijklmnopqrstuvwxyz" : Str).cps.toList)) (f := fun k : Nat => .str ⟨#[k]⟩) (cps_cut l10) (fun k hk Q N q => ⟨k, rfl, q⟩) ?_
      refine ⟨(by decide : (0 : Nat) ≤ 1000000), ?_⟩
      have e2 : ((tl w).filter fun k => !decide (k ∈ ("abcdefghijklmnopqrstuvwxyz" : Str).cps.toList)).map (fun k : Nat => D.str ⟨#[k]⟩) = (((tl w).filter fun k => !decide (k ∈ ("abcdefghijklmnopqrstuvwxyz" : Str).cps.toList)).map fun k : Nat => (⟨#[k]⟩ : Str)).map D.str := by rw [List.map_map]; rfl
      show rEqDD (.lst (((tl w).filter fun k => !decide (k ∈ ("abcdefghijklmnopqrstuvwxyz" : Str).cps.toList)).map fun k : Nat => D.str ⟨#[k]⟩)) (.lst []) _
      rw [e2]
      have fl : D.flat 60 (.lst ((((tl w).filter fun k => !decide (k ∈ ("abcdefghijklmnopqrstuvwxyz" : Str).cps.toList)).map fun k : Nat => (⟨#[k]⟩ : Str)).map D.str)) = true := flat_strs fun y hy => by
        obtain ⟨k, hk, rfl⟩ := List.mem_map.mp hy
        have := (hw.ok k (List.mem_filter.mp hk).1).2.2
        exact ok_of_tl (k := 123) (by decide) fun j hj => by have hj : j = k := List.mem_singleton.mp hj; omega
      have e3 : (((tl w).filter fun k => !decide (k ∈ ("abcdefghijklmnopqrstuvwxyz" : Str).cps.toList)).map fun k : Nat => (⟨#[k]⟩ : Str)).isEmpty = (tl w).all fun c => decide (c ∈ ("abcdefghijklmnopqrstuvwxyz" : Str).cps.toList) := by
        rw [← filt_nil]
        cases (tl w).filter fun k => !decide (k ∈ ("abcdefghijklmnopqrstuvwxyz" : Str).cps.toList) <;> rfl
      unfold rEqDD
      refine ⟨⟨fl, rfl⟩, ?_⟩
      have hp : P (.bl ((((tl w).filter fun k => !decide (k ∈ ("abcdefghijklmnopqrstuvwxyz" : Str).cps.toList)).map fun k : Nat => (⟨#[k]⟩ : Str)).isEmpty)) := by rw [e3]; simpa using hp
      generalize (((tl w).filter fun k => !decide (k ∈ ("abcdefghijklmnopqrstuvwxyz" : Str).cps.toList)).map fun k : Nat => (⟨#[k]⟩ : Str)) = ys at hp
      cases ys <;> exact hp
    · rw [decide_eq_false (show ¬ (w.length : Int) ≤ 8 by omega)]
      rw [decide_eq_false h8] at hp
      exact ifn (by decide) hp
  · rw [decide_eq_false (show ¬ (1 : Int) ≤ (w.length : Int) by omega)]
    rw [decide_eq_false h1] at hp
    exact ifn (by decide) (ifn (by decide) hp)
theorem rep_snoc : ∀ (ds : List Ns) (i : Nat), repE ds i = none ∨ ∃ j, repE ds i = some j ∧ i ≤ j ∧ j < i + ds.length
  | [], _ => .inl rfl
  | d :: ds, i => by
    unfold repE
    by_cases h : d.Nodup
    · rw [if_pos h]
      rcases rep_snoc ds (i + 1) with q | ⟨j, q, a, b⟩
      · exact .inl q
      · exact .inr ⟨j, q, by omega, by rw [List.length_cons]; omega⟩
    · rw [if_neg h]
      exact .inr ⟨i, rfl, Nat.le_refl _, by rw [List.length_cons]; omega⟩
theorem metN_full {xs : List Str} : ∀ n, n ≤ xs.length → metN xs n = n → (xs.take n).Nodup
  | 0, _, _ => by rw [List.take_zero]; exact List.nodup_nil
  | n + 1, hn, h => by
    have le : metN xs n ≤ n := metN_le xs n
    unfold metN at h
    by_cases q : (xs.take n).any (· == xs.getD n Str.empty) = true
    · rw [if_pos q] at h; omega
    · rw [if_neg q] at h
      have ih := metN_full (xs := xs) n (by omega) (by omega)
      have lt : n < xs.length := hn
      rw [List.take_succ, List.getElem?_eq_getElem lt]
      refine List.nodup_append.mpr ⟨ih, by simp, fun a ha b hb e => ?_⟩
      have hb : b = xs[n] := by simpa using hb
      subst hb
      refine q (List.any_eq_true.mpr ⟨a, ha, ?_⟩)
      rw [List.getD_eq_getElem?_getD, List.getElem?_eq_getElem lt, e]
      simp
theorem met_lt {xs : List Str} : metN xs xs.length < xs.length ↔ ¬ xs.Nodup := by
  constructor
  · intro h nd
    rw [metN_nodup nd _ (Nat.le_refl _)] at h
    omega
  · intro nd
    have le := metN_le xs xs.length
    by_cases q : metN xs xs.length = xs.length
    · have := metN_full xs.length (Nat.le_refl _) q
      rw [List.take_length] at this
      exact (nd this).elim
    · omega
theorem pure_first_wrong_dayX (A : Cs) : ∀ ds P x, sp_first_wrong_dayX A ds P x → D_first_wrong_dayX A x { nx := fun _ => P .non, rt := P } (startD N_first_wrong_dayX ds) := by
  rintro ds P x ⟨days, rfl, hz, hd, hp⟩
  show loopD (enD (eDs days)) _ _ _ _
  unfold eDs
  rw [enD_map]
  refine loop_of (fun r ρ => ∃ i, r = (days.zipIdx).drop i ∧ repE (days.drop i) i = repE days 0 ∧ ∃ y z, ρ = [some (.tup (eDs days)), y, z]) ⟨0, rfl, rfl, none, none, rfl⟩ ?_ ?_
  · rintro ⟨ns, k⟩ r ρ ⟨i, hr, he, y, z, rfl⟩ N B R hN hB hR
    have lt : i < days.length := by
      by_cases q : i < days.length
      · exact q
      · rw [List.drop_eq_nil_of_le (by rw [List.length_zipIdx]; omega)] at hr; cases hr
    rw [List.drop_eq_getElem_cons (by rw [List.length_zipIdx]; exact lt)] at hr
    injection hr with h1 h2
    rw [List.getElem_zipIdx] at h1
    injection h1 with h3 h4
    have h4 : k = i := by omega
    subst h4
    have hns : ns ∈ days := by rw [h3]; exact List.getElem_mem lt
    refine ⟨rfl, eq_int ?_⟩
    rw [decide_eq_false (by omega)]
    refine ifn (by decide) ?_
    show match D.strs (ns.map D.str) with
      | some xs => xs.length ≤ 4000 ∧ _
      | none => False
    rw [strs_map]
    refine ⟨by have := hd _ hns; omega, ?_⟩
    show if decide (((metN ns ns.length : Nat) : Int) < ((ns.map D.str).length : Int)) = true then _ else _
    rw [List.length_map]
    rw [List.drop_eq_getElem_cons lt, ← h3] at he
    rw [show repE (ns :: days.drop (k + 1)) k = if ns.Nodup then repE (days.drop (k + 1)) (k + 1) else some k from rfl] at he
    by_cases nd : ns.Nodup
    · rw [if_pos nd] at he
      have := met_lt (xs := ns)
      exact ifn (fun w => (met_lt.mp (by have := of_decide_eq_true w; omega)) nd) (hN _ ⟨k + 1, h2, he, _, _, rfl⟩)
    · rw [if_neg nd] at he
      refine ifp (decide_eq_true (by have := met_lt.mpr nd; omega)) ?_
      rw [← he] at hp
      show R (.int (k : Int))
      rw [hR]
      exact hp
  · rintro ρ ⟨i, hr, he, y, z, rfl⟩
    have ge : days.length ≤ i := by
      have := congrArg List.length hr
      rw [List.length_drop, List.length_zipIdx] at this
      have : (0 : Nat) = days.length - i := this
      omega
    rw [List.drop_eq_nil_of_le ge] at he
    rw [← he] at hp
    exact hp
theorem pure_row_of (A : Cs) : ∀ ds P x, sp_row_of A ds P x → D_row_of A { nx := fun _ => P .non, rt := P } (startD N_row_of ds) := by
  rintro ds P x ⟨d, rfl, hz, hn, hp⟩
  cases d with
  | nil => exact hp
  | cons n r =>
    refine ⟨rfl, n :: r, rfl, ?_, ?_⟩
    · have := sum_le (xs := (n :: r).map (·.length)) (k := 10) fun x hx => by
        obtain ⟨p, hp, rfl⟩ := List.mem_map.mp hx
        exact hn p hp
      rw [List.length_map] at this
      rw [sp_len]
      omega
    · unfold rowT at hp
      rw [if_neg (List.cons_ne_nil _ _)] at hp
      exact hp
theorem rowT_le {d : Ns} (hz : d.length ≤ 100) (hn : ∀ n ∈ d, n.length ≤ 10) : (rowT d).length ≤ 1100 := by
  unfold rowT
  by_cases e : d = []
  · rw [if_pos e]; decide +kernel
  · rw [if_neg e]
    have := join_le (y := " ") (ps := d) (k := 10) hn
    rw [sp_len] at this
    omega
theorem pure_format_plan (A : Cs) : ∀ ds P x, sp_format_plan A ds P x → D_format_plan A { nx := fun _ => P .non, rt := P } (startD N_format_plan ds) := by
  rintro ds P x ⟨days, lead, rfl, hz, hd, h0, h1, hp⟩
  have l4 : ("lead" : Str).length = 4 := by decide +kernel
  have l1 : (" " : Str).length = 1 := sp_len
  have hn := num_le h0 h1
  have e0 : (Str.empty ++ ("lead" : Str) ++ (" " : Str) ++ numT lead) = leadT lead := by
    refine ext_tl ?_
    unfold leadT
    rw [tl_append, tl_append, tl_append, tl_append, lead_tl, sp_tl, leads_tl]
    have : tl Str.empty = [] := by decide +kernel
    rw [this]
    rfl
  have le : (Str.empty : Str).length = 0 := by decide +kernel
  refine ⟨by rw [l4]; decide, by rw [Str.length_append, le, l4]; decide, by rw [Str.length_append, Str.length_append, le, l4, l1]; decide, rfl, days, lead, rfl, sm_fm (by unfold Sm; omega), ?_⟩
  refine ⟨by show (Str.empty ++ ("lead" : Str) ++ (" " : Str) ++ numT lead).length ≤ _; rw [e0]; have := leadT_le h0 h1; omega, (by decide : (1 : Nat) ≤ 1000000), ?_⟩
  refine ⟨⟨_, rfl⟩, rfl, days, lead, rfl, ?_⟩
  show compD (days.map eN) _ _ _ _ _
  refine comp_of (f := fun d => .str (rowT d)) (by omega) (fun d hd' Q q => ⟨d, rfl, (hd d hd').1, (hd d hd').2, q⟩) ?_
  refine ⟨by rw [List.length_map]; show 1 + days.length ≤ _; omega, rfl, leadT lead :: days.map rowT, ?_, ?_, hp⟩
  · show some ([D.str (Str.empty ++ ("lead" : Str) ++ (" " : Str) ++ numT lead)] ++ days.map fun d => D.str (rowT d)) = some (D.str (leadT lead) :: (days.map rowT).map D.str)
    rw [e0, List.map_map]
    rfl
  · have := sum_le (xs := (leadT lead :: days.map rowT).map (·.length)) (k := 1100) fun x hx => by
      obtain ⟨p, hp, rfl⟩ := List.mem_map.mp hx
      rcases List.mem_cons.mp hp with rfl | hp
      · have := leadT_le h0 h1; omega
      · obtain ⟨d, hd', rfl⟩ := List.mem_map.mp hp
        exact rowT_le (hd d hd').1 (hd d hd').2
    rw [List.length_map, List.length_cons, List.length_map] at this
    rw [List.length_cons, List.length_map, nl_len]
    omega
theorem getD0 {ws : List Str} (h : ws ≠ []) : ∃ r, ws = ws.getD 0 "" :: r := by
  cases ws with
  | nil => exact (h rfl).elim
  | cons a r => exact ⟨r, rfl⟩
theorem two_of {ws : List Str} (h : leadE ws = none) : ∃ n : Int, 0 ≤ n ∧ n < 10000 ∧ ws = [("lead" : Str), numT n] := by
  unfold leadE at h
  by_cases h1 : ws.getD 0 "" ≠ "lead"
  · rw [if_pos h1] at h; cases h
  · rw [if_neg h1] at h
    by_cases h2 : ws.length < 2 ∨ isNumB (ws.getD 1 "") = false
    · rw [if_pos h2] at h; cases h
    · rw [if_neg h2] at h
      by_cases h3 : 2 < ws.length
      · rw [if_pos h3] at h; cases h
      · have l2 : ws.length = 2 := by omega
        have hb : isNumB (ws.getD 1 "") = true := by
          cases q : isNumB (ws.getD 1 "") with
          | true => rfl
          | false => exact (h2 (.inr q)).elim
        obtain ⟨n, n0, n1, e⟩ := num_of hb
        refine ⟨n, n0, n1, ?_⟩
        match ws, l2 with
        | [a, b], _ =>
          have ea : a = "lead" := Decidable.of_not_not h1
          have eb : b = numT n := e
          rw [ea, eb]
theorem tx_raise {x : XD} {A : Cs} {k j : Nat} (hk : k ≤ 1000) (hj : j ≤ 1000) (h : txErr x A k j) : (([D.int (k : Int), D.int (j : Int)] : List D).length = (["row", "word"] : List Str).length ∧ ∀ d ∈ ([D.int (k : Int), D.int (j : Int)] : List D), FmD d) ∧ x A.InvalidText ((["row", "word"] : List Str).zip [D.int (k : Int), D.int (j : Int)]).reverse :=
  ⟨⟨rfl, List.forall_mem_cons.mpr ⟨fm_int (by unfold Sm; omega), List.forall_mem_cons.mpr ⟨fm_int (by unfold Sm; omega), fun _ h => nomatch h⟩⟩⟩, h⟩
theorem pure_lead_ofX (A : Cs) : ∀ ds P x, sp_lead_ofX A ds P x → D_lead_ofX A x { nx := fun _ => P .non, rt := P } (startD N_lead_ofX ds) := by
  rintro ds P x ⟨ws, rfl, cr, hp⟩
  have le := rowJ_le cr
  refine ⟨rfl, ⟨by decide +kernel, by omega⟩, ?_⟩
  rw [split_rowJ cr]
  obtain ⟨r, er⟩ := getD0 cr.1
  have hl : 1 ≤ ws.length := by rw [er, List.length_cons]; omega
  have hg : ∀ i : Nat, i < ws.length → ws[i]? = some (ws.getD i "") := fun i hi => by rw [List.getD_eq_getElem?_getD, List.getElem?_eq_getElem hi]; rfl
  have hc : ∀ i : Nat, i < ws.length → CleanW (ws.getD i "") := fun i hi => cr.2.2 _ (List.mem_of_getElem? (hg i hi))
  refine at_lst (f := D.str) (x := ws.getD 0 "") (by decide) (hg 0 (by omega)) (ne_str (hc 0 (by omega)).str (by decide +kernel) ?_)
  cases hL : leadE ws with
  | none =>
    obtain ⟨n, n0, n1, e⟩ := two_of hL
    rw [hL] at hp
    replace hp := hp n n0 n1 e
    subst e
    rw [show ([("lead" : Str), numT n].getD 0 "") = "lead" from rfl, decide_eq_true rfl]
    refine ifn (by decide) ?_
    refine at_lstD' (x := .str (numT n)) (by decide) rfl ⟨numT n, rfl, hc 1 (by show 1 < 2; decide), ?_⟩
    rw [numT_is n0 n1]
    refine ifn (by decide) ?_
    exact at_lstD' (x := .str (numT n)) (by decide) rfl ⟨by have := num_le n0 n1; omega, n, num_is n0 n1, hp⟩
  | some j =>
    rw [hL] at hp
    have hp : txErr x A 0 j := hp
    unfold leadE at hL
    by_cases h1 : ws.getD 0 "" ≠ "lead"
    · rw [if_pos h1] at hL
      injection hL with hL
      subst hL
      rw [decide_eq_false h1]
      exact ifp rfl (tx_raise (by decide) (by decide) hp)
    · rw [if_neg h1] at hL
      rw [decide_eq_true (Decidable.of_not_not h1)]
      refine ifn (by decide) ?_
      have lm : (ws.map D.str).length = ws.length := List.length_map ..
      show (if decide (((ws.map D.str).length : Int) < 2) = true then _ else _)
      rw [lm]
      by_cases h2 : ws.length < 2
      · rw [if_pos (.inl h2)] at hL
        injection hL with hL
        subst hL
        exact ifp (decide_eq_true (by omega)) (ifp rfl (tx_raise (by decide) (by decide) hp))
      · refine ifn (fun z => h2 (by have := of_decide_eq_true z; omega)) ?_
        refine at_lst (f := D.str) (x := ws.getD 1 "") (by decide) (hg 1 (by omega)) ⟨ws.getD 1 "", rfl, hc 1 (by omega), ?_⟩
        cases hb : isNumB (ws.getD 1 "") with
        | false =>
          rw [if_pos (.inr hb)] at hL
          injection hL with hL
          subst hL
          exact ifp rfl (tx_raise (by decide) (by decide) hp)
        | true =>
          rw [if_neg (fun z => z.elim h2 (fun q => by rw [hb] at q; cases q))] at hL
          refine ifn (by decide) ?_
          show (if decide ((2 : Int) < ((ws.map D.str).length : Int)) = true then _ else _)
          rw [lm]
          by_cases h3 : 2 < ws.length
          · rw [if_pos h3] at hL
            injection hL with hL
            subst hL
            exact ifp (decide_eq_true (by omega)) (tx_raise (by decide) (by decide) hp)
          · rw [if_neg h3] at hL; cases hL
theorem badW_mem {ws : List Str} {j : Nat} : j ∈ badW ws ↔ j < ws.length ∧ isNm (ws.getD j "") = false := by
  unfold badW
  rw [List.mem_filter, List.mem_range]
  simp
theorem badW_some {ws : List Str} {j : Nat} (h : (badW ws).head? = some j) : j < ws.length ∧ isNm (ws.getD j "") = false ∧ ∀ i, i < j → isNm (ws.getD i "") = true := by
  unfold badW at h
  rw [List.head?_filter, List.find?_range_eq_some] at h
  obtain ⟨h1, h2, h3⟩ := h
  refine ⟨List.mem_range.mp h2, by simpa using h1, fun i hi => by simpa using h3 i hi⟩
theorem pure_names_ofX (A : Cs) : ∀ ds P x, sp_names_ofX A ds P x → D_names_ofX A x { nx := fun _ => P .non, rt := P } (startD N_names_ofX ds) := by
  rintro ds P x ⟨ws, k, rfl, cr, hk, hp⟩
  have le := rowJ_le cr
  refine eq_str (rowJ_ok cr) (by decide +kernel) ?_
  by_cases e : ws = (["-"] : List Str)
  · rw [decide_eq_true ((rowJ_dash cr).mpr e)]
    unfold rowE dayOf at hp
    rw [if_pos e, if_pos e] at hp
    exact ifp rfl ⟨(by decide : (0 : Nat) ≤ 1000000), hp⟩
  · rw [decide_eq_false (fun z => e ((rowJ_dash cr).mp z))]
    unfold rowE dayOf at hp
    rw [if_neg e, if_neg e] at hp
    refine ifn (by decide) ⟨rfl, ⟨by decide +kernel, by omega⟩, ?_⟩
    rw [split_rowJ cr]
    show loopD (enD (ws.map D.str)) _ _ _ _
    rw [enD_map]
    refine loop_of (fun r ρ => ∃ i, i ≤ ws.length ∧ r = (ws.zipIdx).drop i ∧ (∀ m, m < i → isNm (ws.getD m "") = true) ∧ ∃ a b, ρ = [some (.str (rowJ ws)), some (.int (k : Int)), some (.lst (ws.map .str)), a, b]) ⟨0, by omega, rfl, (fun m h => by omega), none, none, rfl⟩ ?_ ?_
    · rintro ⟨n, m⟩ r ρ ⟨i, hi, hr, ha, a, b, rfl⟩ N B R hN hB hR
      have lt : i < ws.length := by
        by_cases q : i < ws.length
        · exact q
        · rw [List.drop_eq_nil_of_le (by rw [List.length_zipIdx]; omega)] at hr; cases hr
      rw [List.drop_eq_getElem_cons (by rw [List.length_zipIdx]; exact lt)] at hr
      injection hr with h1 h2
      rw [List.getElem_zipIdx] at h1
      injection h1 with h3 h4
      have h4 : m = i := by omega
      subst h4
      have hg : ws.getD m "" = n := by rw [List.getD_eq_getElem?_getD, List.getElem?_eq_getElem lt, h3]; rfl
      have hn : n ∈ ws := by rw [h3]; exact List.getElem_mem lt
      refine ⟨rfl, n, rfl, by have := (cr.2.2 n hn).len; omega, ?_⟩
      cases hb : isNm n with
      | true =>
        refine ifn (by decide) (hN _ ⟨m + 1, by omega, h2, fun t ht => ?_, _, _, rfl⟩)
        by_cases q : t = m
        · rw [q, hg]; exact hb
        · exact ha t (by omega)
      | false =>
        have hj : (badW ws).head? = some m := by
          unfold badW
          rw [List.head?_filter, List.find?_range_eq_some]
          exact ⟨by rw [hg, hb]; rfl, List.mem_range.mpr lt, fun t ht => by rw [ha t ht]; rfl⟩
        rw [hj] at hp
        refine ifp rfl (tx_raise (by omega) (by have := cr.2.1; omega) hp)
    · rintro ρ ⟨i, hi, hr, ha, a, b, rfl⟩
      have ge : ws.length ≤ i := by
        have := congrArg List.length hr
        rw [List.length_drop, List.length_zipIdx] at this
        have : (0 : Nat) = ws.length - i := this
        omega
      have hn : (badW ws).head? = none := by
        cases q : (badW ws).head? with
        | none => rfl
        | some j =>
          obtain ⟨a1, a2, _⟩ := badW_some q
          rw [ha j (by omega)] at a2
          cases a2
      rw [hn] at hp
      exact hp
theorem pure_Plan_initX (A : Cs) : ∀ p dx ds Pd x, in_PlanX A ds Pd x → D_Plan_initX A x (InitEnds A.Plan p dx Pd) (startD N_Plan_initX (.own (.ins A.Plan p dx []) [] :: ds)) := by
  rintro p dx ds Pd x ⟨days, lead, rfl, hz, hd, h0, hp⟩
  have ed : (eDs days).length = days.length := by unfold eDs; rw [List.length_map]
  refine ⟨days, rfl, hz, hd, ?_⟩
  unfold planE at hp
  have raise : ∀ i : Int, 0 ≤ i → i ≤ 200 → x A.InvalidPlan [("index", .int i)] → (([D.int i] : List D).length = (["index"] : List Str).length ∧ ∀ d ∈ ([D.int i] : List D), FmD d) ∧ x A.InvalidPlan ((["index"] : List Str).zip [D.int i]).reverse := fun i i0 i1 h => ⟨⟨rfl, List.forall_mem_cons.mpr ⟨fm_int (by unfold Sm; omega), fun _ h => nomatch h⟩⟩, h⟩
  cases hr : repE days 0 with
  | some i =>
    rw [hr] at hp
    have hi := rep_snoc days 0
    have : (i : Int) ≤ 200 := by
      rcases hi with q | ⟨j, q, _, b⟩
      · rw [hr] at q; cases q
      · rw [hr] at q; injection q with q; omega
    exact raise i (by omega) this hp
  | none =>
    rw [hr] at hp
    refine ⟨lead, 0, ((eDs days).length : Int) - 1, rfl, ?_⟩
    rw [ed]
    by_cases hl : (days.length : Int) ≤ lead
    · have hp : x A.InvalidPlan [("index", .int (days.length : Int))] := by
        have hp := hp
        simp only [if_pos hl] at hp
        exact hp
      have e1 : (decide ((0 : Int) ≤ lead) && decide (lead ≤ (days.length : Int) - 1)) = false := by
        rw [decide_eq_false (show ¬ lead ≤ (days.length : Int) - 1 by omega), Bool.and_false]
      rw [e1]
      exact raise ((eDs days).length : Int) (by omega) (by omega) (by rw [ed]; exact hp)
    · have hp : Pd ["_days", "_lead"] [.tup (eDs days), .int lead] := by
        have hp := hp
        simp only [if_neg hl] at hp
        exact hp
      have e1 : (decide ((0 : Int) ≤ lead) && decide (lead ≤ (days.length : Int) - 1)) = true := by
        rw [decide_eq_true h0, decide_eq_true (show lead ≤ (days.length : Int) - 1 by omega)]
        rfl
      rw [e1]
      refine ⟨⟨p, dx, [], [], rfl⟩, ?_⟩
      show compD (eDs days) _ _ _ _ _
      unfold eDs
      refine comp_of (f := eN) (by omega) (fun ns hns Q q => q) ?_
      refine ⟨(by decide : (0 : Nat) < 1000), ?_⟩
      show (∃ p' dx' fn es, ([some (.own (.ins A.Plan p dx ["_days"]) [.tup (eDs days)]), some (.int lead), some (.tup (eDs days)), some .non, none] : EnvD)[0]? = some (some (.own (.ins A.Plan p' dx' fn) es))) ∧ _
      refine ⟨⟨p, dx, ["_days"], [.tup (eDs days)], rfl⟩, ?_⟩
      refine ⟨(by decide : (1 : Nat) < 1000), ?_⟩
      show ∃ fn es, ([some (.own (.ins A.Plan p dx ["_days", "_lead"]) [.tup (eDs days), .int lead]), some (.int lead), some (.tup (eDs days)), some .non, none] : EnvD)[0]? = some (some (.own (.ins A.Plan p dx fn) es)) ∧ Pd fn es
      exact ⟨_, _, rfl, hp⟩
theorem rowsE_some : ∀ {R : List (List Str)} {k a j : Nat}, rowsE R k = some (a, j) → k ≤ a ∧ a < k + R.length ∧ (∃ r, R[a - k]? = some r ∧ rowE r = some j) ∧ ∀ i r, i < a - k → R[i]? = some r → rowE r = none
  | [], _, _, _, h => nomatch h
  | r :: R, k, a, j, h => by
    unfold rowsE at h
    cases q : rowE r with
    | some i =>
      rw [q] at h
      have h : some (k, i) = some (a, j) := h
      injection h with h
      have e1 : k = a := congrArg (·.1) h
      have e2 : i = j := congrArg (·.2) h
      subst e1 e2
      refine ⟨Nat.le_refl _, by rw [List.length_cons]; omega, ⟨r, by rw [Nat.sub_self]; rfl, q⟩, fun i r hi => by omega⟩
    | none =>
      rw [q] at h
      obtain ⟨h1, h2, ⟨r', h3, h4⟩, h5⟩ := rowsE_some (R := R) (k := k + 1) h
      refine ⟨by omega, by rw [List.length_cons]; omega, ⟨r', ?_, h4⟩, fun i r'' hi hr => ?_⟩
      · rw [show a - k = (a - (k + 1)) + 1 by omega]
        exact h3
      · cases i with
        | zero =>
          have : r = r'' := by simpa using hr
          rw [← this]; exact q
        | succ i => exact h5 i r'' (by omega) hr
theorem rowsE_none : ∀ {R : List (List Str)} {k : Nat}, rowsE R k = none → ∀ r ∈ R, rowE r = none
  | [], _, _, _, h => nomatch h
  | r :: R, k, h, s, hs => by
    unfold rowsE at h
    cases q : rowE r with
    | some i => rw [q] at h; cases h
    | none =>
      rw [q] at h
      rcases List.mem_cons.mp hs with rfl | hs
      · exact q
      · exact rowsE_none (R := R) (k := k + 1) h s hs
theorem pure_parse_planX (A : Cs) : ∀ ds P x, sp_parse_planX A ds P x → D_parse_planX A x { nx := fun _ => P .non, rt := P } (startD N_parse_planX ds) := by
  rintro ds P x ⟨r0, R, rfl, ct, hp⟩
  have tl := textJ_le ct
  have c0 := ct.2.2 r0 List.mem_cons_self
  have cR : ∀ r ∈ R, CleanR r := fun r hr => ct.2.2 r (List.mem_cons_of_mem _ hr)
  have lR := ct.2.1
  rw [List.length_cons] at lR
  refine ⟨rfl, ⟨by decide +kernel, by omega⟩, ?_⟩
  rw [split_textJ ct]
  refine at_lstD' (x := .str (rowJ r0)) (by decide) rfl ⟨r0, rfl, c0, ?_⟩
  cases hL : leadE r0 with
  | some j => rw [hL] at hp; exact hp
  | none =>
    rw [hL] at hp
    intro n n0 n1 e0
    have cut : cutD (((r0 :: R).map rowJ).map D.str) (some 1) none = (R.map rowJ).map D.str := cut_from (xs := (r0 :: R).map rowJ) D.str (k := 1) rfl (by rw [List.length_map, List.length_cons]; omega)
    show compD (enD (cutD (((r0 :: R).map rowJ).map D.str) (some 1) none)) _ _ _ _ _
    rw [cut, List.map_map, enD_map]
    have lz : (R.zipIdx.map fun q : List Str × Nat => D.tup [.int (q.2 : Nat), (D.str ∘ rowJ) q.1]).length = R.length := by rw [List.length_map, List.length_zipIdx]
    have gz : ∀ {i : Nat} {d : D}, (R.zipIdx.map fun q : List Str × Nat => D.tup [.int (q.2 : Nat), (D.str ∘ rowJ) q.1])[i]? = some d → ∃ r, R[i]? = some r ∧ d = .tup [.int (i : Nat), .str (rowJ r)] := fun {i d} h => by
      rw [List.getElem?_map] at h
      obtain ⟨q, hq, rfl⟩ := Option.map_eq_some_iff.mp h
      rw [List.getElem?_zipIdx] at hq
      obtain ⟨r, hr, rfl⟩ := Option.map_eq_some_iff.mp hq
      exact ⟨r, hr, by simp⟩
    cases hR : rowsE R 1 with
    | some kj =>
      obtain ⟨a, j⟩ := kj
      rw [hR] at hp
      have hp : txErr x A a j := hp
      obtain ⟨h1, h2, ⟨rb, h3, h4⟩, h5⟩ := rowsE_some hR
      unfold compD
      refine ⟨fun i acc => i ≤ a - 1 ∧ acc.length = i, ⟨by omega, rfl⟩, fun i d acc hi ⟨g1, g2⟩ => ⟨by omega, ?_⟩, fun acc ⟨g1, g2⟩ => ?_⟩
      · obtain ⟨r, hr, rfl⟩ := gz hi
        have hm := List.mem_of_getElem? hr
        have lt := (List.getElem?_eq_some_iff.mp hr).1
        refine ⟨rfl, r, i + 1, rfl, cR r hm, by omega, ?_⟩
        by_cases q : i = a - 1
        · subst q
          rw [h3] at hr
          injection hr with hr
          subst hr
          rw [h4]
          show txErr x A (a - 1 + 1) j
          rw [show a - 1 + 1 = a by omega]
          exact hp
        · rw [h5 i r (by omega) hr]
          exact ⟨by omega, by rw [List.length_append, List.length_singleton, g2]⟩
      · rw [lz] at g1
        omega
    | none =>
      rw [hR] at hp
      have hp := hp n n0 n1 e0
      have hn := rowsE_none hR
      refine comp_of (xs := R.zipIdx) (enc := fun q : List Str × Nat => D.tup [.int (q.2 : Nat), (D.str ∘ rowJ) q.1]) (f := fun q : List Str × Nat => eN (dayOf q.1)) (by rw [List.length_zipIdx]; omega) (fun q hq Q hQ => ?_) ?_
      · have hm := List.fst_mem_of_mem_zipIdx hq
        have hlt := List.snd_lt_of_mem_zipIdx hq
        refine ⟨rfl, q.1, q.2 + 1, rfl, cR _ hm, by omega, ?_⟩
        rw [hn _ hm]
        exact hQ
      have e : (R.zipIdx.map fun q : List Str × Nat => eN (dayOf q.1)) = eDs (R.map dayOf) := by
        unfold eDs
        have e2 : (R.zipIdx.map fun q : List Str × Nat => eN (dayOf q.1)) = ((R.zipIdx.map (·.1)).map dayOf).map eN := by rw [List.map_map, List.map_map]; rfl
        rw [e2, List.zipIdx_map_fst]
      rw [e]
      refine ⟨by unfold eDs; rw [List.length_map, List.length_map]; omega, R.map dayOf, n, rfl, by rw [List.length_map]; omega, fun d hd => ?_, n0, ?_⟩
      · obtain ⟨r, hr, rfl⟩ := List.mem_map.mp hd
        have := (cR r hr).2.1
        unfold dayOf
        split
        · exact Nat.zero_le _
        · omega
      · cases hP : planE (R.map dayOf) n with
        | some i => rw [hP] at hp; exact hp
        | none => rw [hP] at hp; exact hp
end Z
end
section
namespace Z
open PySem L2 DL TL
theorem ne_nil_flat {ds : List D} {P : D → Prop} (h : D.flat 60 (.lst ds) = true) (hp : P (.bl (!ds.isEmpty))) : rNeDD (.lst ds) (.lst []) P := by
  unfold rNeDD
  refine ⟨⟨h, rfl⟩, ?_⟩
  cases ds with
  | nil => exact hp
  | cons x r => exact hp
theorem eqv_dash (r : List Str) : PyData.eqv (D.lst (r.map D.str)).py (D.lst [.str "-"]).py = decide (r = (["-"] : List Str)) := by
  cases r with
  | nil => rfl
  | cons a r =>
    cases r with
    | nil =>
      show (PyData.eqv (D.py (.str a)) (D.py (.str "-")) && true) = _
      rw [eqv_str, Bool.and_true]
      by_cases e : a = "-"
      · rw [decide_eq_true e, decide_eq_true (by rw [e])]
      · rw [decide_eq_false e, decide_eq_false (fun z => e (by injection z))]
    | cons b r =>
      rw [decide_eq_false (fun z => by injection z with _ z; cases z)]
      show (PyData.eqv (D.py (.str a)) (D.py (.str "-")) && false) = _
      exact Bool.and_false _
theorem ne_dash {r : List Str} {P : D → Prop} (h : ∀ y ∈ r, PyData.strOk y = true) (hp : P (.bl (decide (r ≠ (["-"] : List Str))))) : rNeDD (.lst (r.map D.str)) (.lst [.str "-"]) P := by
  unfold rNeDD
  refine ⟨⟨flat_strs h, by decide +kernel⟩, ?_⟩
  rw [eqv_dash]
  by_cases e : r = (["-"] : List Str)
  · rw [decide_eq_true e]; rw [decide_eq_false (fun z => z e)] at hp; exact hp
  · rw [decide_eq_false e]; rw [decide_eq_true e] at hp; exact hp
def encR (r : List Str) : D := .lst (r.map .str)
theorem dayOf_nd (r : List Str) : (dayOf r).Nodup ↔ r.Nodup := by
  unfold dayOf
  by_cases e : r = (["-"] : List Str)
  · rw [if_pos e, e]; simp
  · rw [if_neg e]
theorem rngD_nat (lo : Int) (n : Nat) : rngD lo n = (List.range n).map fun k : Nat => D.int (lo + (k : Int)) := by rw [rngD_map, List.map_map]; rfl
theorem pure_rlaw_expected (A : Cs) : ∀ ds P x, sp_rlaw_expected A ds P x → D_rlaw_expected A { nx := fun _ => P .non, rt := P } (startD N_rlaw_expected ds) := by
  rintro ds P x ⟨r0, R, rfl, ct, hp⟩
  have c0 := ct.2.2 r0 List.mem_cons_self
  have cR : ∀ r ∈ R, CleanR r := fun r hr => ct.2.2 r (List.mem_cons_of_mem _ hr)
  have lR := ct.2.1
  rw [List.length_cons] at lR
  obtain ⟨rr, er⟩ := getD0 c0.1
  have hl : 1 ≤ r0.length := by rw [er, List.length_cons]; omega
  have hg : ∀ {ws : List Str} (i : Nat), i < ws.length → ws[i]? = some (ws.getD i "") := fun {ws} i hi => by rw [List.getD_eq_getElem?_getD, List.getElem?_eq_getElem hi]; rfl
  have hc : ∀ i : Nat, i < r0.length → CleanW (r0.getD i "") := fun i hi => c0.2.2 _ (List.mem_of_getElem? (hg i hi))
  have lm : (r0.map D.str).length = r0.length := List.length_map ..
  have rows : ∀ (i : Nat) (r : List Str), R[i]? = some r → ∀ Q : D → Prop, Q (encR r) → DL.rIxD (.lst ((r0 :: R).map encR)) (.int (1 + (i : Int))) Q := fun i r h Q q => at_lst (xs := r0 :: R) (f := encR) (x := r) (by omega) (by rw [show (1 + (i : Int)).toNat = i + 1 by omega]; exact h) q
  refine at_lst (xs := r0 :: R) (f := encR) (x := r0) (by decide) rfl ?_
  refine at_lst (f := D.str) (x := r0.getD 0 "") (by decide) (hg 0 (by omega)) (ne_str (hc 0 (by omega)).str (by decide +kernel) ?_)
  unfold errR at hp
  cases hL : leadE r0 with
  | some j =>
    have hp : P (.tup [.str "text", .tup [.int 0, .int (j : Int)]]) := by
      have := hp 0 (by decide) (by decide) (fun z => by rw [hL] at z; cases z)
      rw [hL] at this
      exact this
    unfold leadE at hL
    by_cases h1 : r0.getD 0 "" ≠ "lead"
    · rw [if_pos h1] at hL
      injection hL with hL
      subst hL
      rw [decide_eq_false h1]
      exact ifp rfl ⟨(by decide : (2 : Nat) ≤ 1000000), (by decide : (2 : Nat) ≤ 1000000), hp⟩
    · rw [if_neg h1] at hL
      rw [decide_eq_true (Decidable.of_not_not h1)]
      refine ifn (by decide) ?_
      show (if decide (((r0.map D.str).length : Int) < 2) = true then _ else _)
      rw [lm]
      by_cases h2 : r0.length < 2
      · rw [if_pos (.inl h2)] at hL
        injection hL with hL
        subst hL
        exact ifp (decide_eq_true (by omega)) (ifp rfl ⟨(by decide : (2 : Nat) ≤ 1000000), (by decide : (2 : Nat) ≤ 1000000), hp⟩)
      · refine ifn (fun z => h2 (by have := of_decide_eq_true z; omega)) ?_
        refine at_lst (f := D.str) (x := r0.getD 1 "") (by decide) (hg 1 (by omega)) ⟨r0.getD 1 "", rfl, hc 1 (by omega), ?_⟩
        cases hb : isNumB (r0.getD 1 "") with
        | false =>
          rw [if_pos (.inr hb)] at hL
          injection hL with hL
          subst hL
          exact ifp rfl ⟨(by decide : (2 : Nat) ≤ 1000000), (by decide : (2 : Nat) ≤ 1000000), hp⟩
        | true =>
          rw [if_neg (fun z => z.elim h2 (fun q => by rw [hb] at q; cases q))] at hL
          refine ifn (by decide) ?_
          show (if decide ((2 : Int) < ((r0.map D.str).length : Int)) = true then _ else _)
          rw [lm]
          by_cases h3 : 2 < r0.length
          · rw [if_pos h3] at hL
            injection hL with hL
            subst hL
            exact ifp (decide_eq_true (by omega)) ⟨(by decide : (2 : Nat) ≤ 1000000), (by decide : (2 : Nat) ≤ 1000000), hp⟩
          · rw [if_neg h3] at hL; cases hL
  | none =>
    obtain ⟨n, n0, n1, e⟩ := two_of hL
    replace hp := hp n n0 n1 (fun _ => e)
    rw [hL] at hp
    subst e
    rw [show ([("lead" : Str), numT n].getD 0 "") = "lead" from rfl, decide_eq_true rfl]
    refine ifn (by decide) ?_
    refine at_lstD' (x := .str (numT n)) (by decide) rfl ⟨numT n, rfl, hc 1 (by show 1 < 2; decide), ?_⟩
    rw [numT_is n0 n1]
    refine ifn (by decide) ?_
    have ll : (([("lead" : Str), numT n] :: R).map encR).length = R.length + 1 := by rw [List.length_map, List.length_cons]
    unfold dNext
    dsimp only
    refine seq_of (fun ρ => ρ = [some (.lst (([("lead" : Str), numT n] :: R).map encR)), some (encR [("lead" : Str), numT n]), none, none, none]) (fun N hN => ?_) ?_
    · exact hN _ rfl
    rintro ρ rfl

    refine seq_of (fun ρ => rowsE R 1 = none ∧ ∃ y2 y3, ρ = [some (.lst (([("lead" : Str), numT n] :: R).map encR)), some (encR [("lead" : Str), numT n]), y2, y3, none]) (fun N hN => ?_) ?_
    · refine ⟨⟨by decide, by decide, by omega, by rw [ll]; omega⟩, ?_⟩
      show loopD (rngD 1 (((([("lead" : Str), numT n] :: R).map encR).length : Int) - 1).toNat) _ _ _ _
      rw [show (((([("lead" : Str), numT n] :: R).map encR).length : Int) - 1).toNat = R.length by rw [ll]; omega, rngD_nat]
      refine loop_of (fun r ρ => ∃ i, r = (List.range R.length).drop i ∧ rowsE (R.drop i) (i + 1) = rowsE R 1 ∧ ∃ y2 y3, ρ = [some (.lst (([("lead" : Str), numT n] :: R).map encR)), some (encR [("lead" : Str), numT n]), y2, y3, none]) ⟨0, rfl, rfl, none, none, rfl⟩ ?_ ?_
      · rintro k r ρ ⟨i, hr, he, y2, y3, rfl⟩ N' B R' hN' hB hR'
        have lt : i < R.length := by
          by_cases q : i < R.length
          · exact q
          · rw [List.drop_eq_nil_of_le (by rw [List.length_range]; omega)] at hr; cases hr
        rw [List.drop_eq_getElem_cons (by rw [List.length_range]; exact lt)] at hr
        injection hr with h1 h2
        rw [List.getElem_range] at h1
        subst h1
        obtain ⟨r', hr'⟩ : ∃ r', R[k]? = some r' := ⟨_, List.getElem?_eq_getElem lt⟩
        have er' : R[k] = r' := by rw [List.getElem?_eq_getElem lt] at hr'; injection hr'
        have cr := cR r' (List.mem_of_getElem? hr')
        have look := rows k r' hr'
        rw [List.drop_eq_getElem_cons lt, er'] at he
        have hz := cr.2.1
        refine look _ ?_
        refine ⟨⟨by omega, by rw [List.length_map]; omega, by rw [List.length_map]; omega⟩, ?_⟩
        show compD (rngD 0 (((r'.map D.str).length : Int)).toNat) _ _ _ _ _
        rw [List.length_map, Int.toNat_natCast, rngD_nat]
        refine comp_if (p := fun j => !isNm (r'.getD j "")) (f := fun j : Nat => D.int (0 + (j : Int))) (by rw [List.length_range]; omega) (fun j hj Q N2 hq => ?_) ?_
        · have hj := List.mem_range.mp hj
          refine look _ ?_
          refine at_lst (f := D.str) (x := r'.getD j "") (by omega) (by rw [show (0 + (j : Int)).toNat = j by omega]; exact hg j hj) ⟨r'.getD j "", rfl, cr.2.2 _ (List.mem_of_getElem? (hg j hj)), ?_⟩
          cases qb : isNm (r'.getD j "") with
          | true => rw [qb] at hq; exact hq
          | false => rw [qb] at hq; exact hq
        have hB2 : (((List.range r'.length).filter fun j => !isNm (r'.getD j "")).map fun j : Nat => D.int (0 + (j : Int))) = (badW r').map fun j : Nat => D.int (0 + (j : Int)) := rfl
        rw [hB2]
        have bl : (badW r').length ≤ 13 := by
          have := List.length_filter_le (fun j => !isNm (r'.getD j "")) (List.range r'.length)
          rw [List.length_range] at this
          unfold badW
          omega
        dsimp only
        refine ⟨(by decide : (0 : Nat) ≤ 1000000), ?_⟩
        refine ne_nil_flat (flat_lst' (flatL_map fun _ _ => flat_int')) ?_
        rw [show rowsE (r' :: R.drop (k + 1)) (k + 1) = (match rowE r' with | some j => some (k + 1, j) | none => rowsE (R.drop (k + 1)) (k + 1 + 1)) from rfl] at he
        have next : rowE r' = none → ∀ y2 y3, N' [some (.lst (([("lead" : Str), numT n] :: R).map encR)), some (encR [("lead" : Str), numT n]), y2, y3, none] := fun q y2 y3 => by
          rw [q] at he
          exact hN' _ ⟨k + 1, h2, he, y2, y3, rfl⟩
        unfold rowE at he next
        cases hb : badW r' with
        | nil =>
          refine ifn (by decide) ?_
          exact next (by rw [hb]; split <;> rfl) _ _
        | cons j js =>
          refine ifp rfl ?_
          refine look _ ?_
          refine ⟨(by decide : (1 : Nat) ≤ 1000000), ?_⟩
          refine ne_dash (fun y hy => (cr.2.2 y hy).str) ?_
          by_cases q : r' = (["-"] : List Str)
          · rw [decide_eq_false (fun z => z q)]
            refine ifn (by decide) ?_
            exact next (by rw [if_pos q]) _ _
          · rw [decide_eq_true q]
            refine ifp rfl ?_
            rw [if_neg q, hb] at he
            have he : some (k + 1, j) = rowsE R 1 := he
            rw [← he] at hp
            refine at_lst (xs := j :: js) (f := fun j : Nat => D.int (0 + (j : Int))) (x := j) (by decide) rfl ⟨(by decide : (2 : Nat) ≤ 1000000), (by decide : (2 : Nat) ≤ 1000000), ?_⟩
            rw [hR']
            show P (.tup [.str "text", .tup [.int (1 + (k : Int)), .int (0 + (j : Int))]])
            rw [show 1 + (k : Int) = ((k + 1 : Nat) : Int) by omega, show 0 + (j : Int) = (j : Int) by omega]
            exact hp
      · rintro ρ ⟨i, hr, he, y2, y3, rfl⟩
        have ge : R.length ≤ i := by
          have := congrArg List.length hr
          rw [List.length_drop, List.length_range] at this
          have : (0 : Nat) = R.length - i := this
          omega
        rw [List.drop_eq_nil_of_le ge] at he
        exact hN _ ⟨he.symm, y2, y3, rfl⟩
    rintro ρ ⟨hR, y2, y3, rfl⟩
    rw [hR] at hp
    refine ⟨⟨by decide, by decide, by omega, by rw [ll]; omega⟩, ?_⟩
    show loopD (rngD 1 (((([("lead" : Str), numT n] :: R).map encR).length : Int) - 1).toNat) _ _ _ _
    rw [show (((([("lead" : Str), numT n] :: R).map encR).length : Int) - 1).toNat = R.length by rw [ll]; omega, rngD_nat]
    refine loop_of (fun r ρ => ∃ i, r = (List.range R.length).drop i ∧ repE ((R.drop i).map dayOf) i = repE (R.map dayOf) 0 ∧ ∃ y2, ρ = [some (.lst (([("lead" : Str), numT n] :: R).map encR)), some (encR [("lead" : Str), numT n]), y2, y3, none]) ⟨0, rfl, rfl, y2, rfl⟩ ?_ ?_
    · rintro k r ρ ⟨i, hr, he, y2, rfl⟩ N' B R' hN' hB hR'
      have lt : i < R.length := by
        by_cases q : i < R.length
        · exact q
        · rw [List.drop_eq_nil_of_le (by rw [List.length_range]; omega)] at hr; cases hr
      rw [List.drop_eq_getElem_cons (by rw [List.length_range]; exact lt)] at hr
      injection hr with h1 h2
      rw [List.getElem_range] at h1
      subst h1
      obtain ⟨r', hr'⟩ : ∃ r', R[k]? = some r' := ⟨_, List.getElem?_eq_getElem lt⟩
      have er' : R[k] = r' := by rw [List.getElem?_eq_getElem lt] at hr'; injection hr'
      have cr := cR r' (List.mem_of_getElem? hr')
      have look := rows k r' hr'
      rw [List.drop_eq_getElem_cons lt, er'] at he
      have hz := cr.2.1
      refine look _ ?_
      show match D.strs (r'.map D.str) with
        | some xs => xs.length ≤ 4000 ∧ _
        | none => False
      rw [strs_map]
      refine ⟨by omega, ?_⟩
      refine look _ ?_
      show if decide (((metN r' r'.length : Nat) : Int) < ((r'.map D.str).length : Int)) = true then _ else _
      rw [List.length_map]
      rw [List.map_cons, show repE (dayOf r' :: (R.drop (k + 1)).map dayOf) k = if (dayOf r').Nodup then repE ((R.drop (k + 1)).map dayOf) (k + 1) else some k from rfl] at he
      by_cases nd : r'.Nodup
      · rw [if_pos ((dayOf_nd r').mpr nd)] at he
        have := met_lt (xs := r')
        exact ifn (fun w => (met_lt.mp (by have := of_decide_eq_true w; omega)) nd) (hN' _ ⟨k + 1, h2, he, _, rfl⟩)
      · rw [if_neg (fun z => nd ((dayOf_nd r').mp z))] at he
        refine ifp (decide_eq_true (by have := met_lt.mpr nd; omega)) ?_
        unfold planE at hp
        rw [← he] at hp
        refine ⟨(by decide : (2 : Nat) ≤ 1000000), ?_⟩
        show R' (.tup [.str "plan", .int (1 + (k : Int) - 1)])
        rw [hR', show 1 + (k : Int) - 1 = (k : Int) by omega]
        exact hp
    rintro ρ ⟨i, hr, he, y2, rfl⟩
    have ge : R.length ≤ i := by
      have := congrArg List.length hr
      rw [List.length_drop, List.length_range] at this
      have : (0 : Nat) = R.length - i := this
      omega
    rw [List.drop_eq_nil_of_le ge] at he
    unfold planE at hp
    rw [← he] at hp
    refine at_lstD' (x := .str (numT n)) (by decide) rfl ?_
    refine ⟨by have := num_le n0 n1; omega, n, num_is n0 n1, ?_⟩
    show if decide ((((([("lead" : Str), numT n] :: R).map encR).length : Int) - 1) ≤ n) = true then _ else _
    rw [ll]
    have hp : P (match (if ((R.map dayOf).length : Int) ≤ n then some ((R.map dayOf).length : Int) else none) with
        | some i => D.tup [.str "plan", .int i]
        | none => D.non) := hp
    rw [List.length_map] at hp
    by_cases h : (R.length : Int) ≤ n
    · rw [if_pos h] at hp
      refine ifp (decide_eq_true (by omega)) ⟨(by decide : (2 : Nat) ≤ 1000000), ?_⟩
      show P (.tup [.str "plan", .int (((([("lead" : Str), numT n] :: R).map encR).length : Int) - 1)])
      rw [ll, show (((R.length + 1 : Nat) : Int) - 1) = (R.length : Int) by omega]
      exact hp
    · rw [if_neg h] at hp
      exact ifn (fun z => h (by have := of_decide_eq_true z; omega)) hp
end Z
end
section
namespace DL
open PySem PySem.Spec PyProof.Rows L2
def onB (P : Bool → Prop) : D → Prop := fun x => match x with
  | .bl b => P b
  | _ => False
def onIf (A B : Prop) : Bool → Prop := fun b => if b = true then A else B
def onInt (P : Option Int → Prop) : D → Prop := fun x => match x with
  | .int i => P (some i)
  | _ => False
def onLen (P : List D → Prop) : List D → Prop := fun ds => ds.length ≤ 1000000 ∧ P ds
def onLst (P : List D → Prop) : D → Prop := fun d => match d with
  | .lst ds => P ds
  | _ => False
def onTup (P : List D → Prop) : D → Prop := fun d => match d with
  | .tup ds => P ds
  | _ => False
def onStr (P : List D → Prop) : D → Prop := fun d => match d with
  | .str x => P (strD x)
  | _ => False
def onTru (P : Bool → Prop) : D → Prop := fun x => match x with
  | .non => P false
  | .bl b => P b
  | .int i => P (i != 0)
  | .lst ds => P (!ds.isEmpty)
  | .tup ds => P (!ds.isEmpty)
  | _ => False
def onFld (C : Addr) (f : Str) (P : D → Prop) : D → Prop := fun x => match x with
  | .ins C' fn ds => C' = C ∧ match fgetD fn ds f with
    | some d => P d
    | none => False
  | _ => False
def onIns (C : Addr) (spd : SpD) (P : D → Prop) : D → Prop := fun o => match o with
  | .ins C' fn ds => C' = C ∧ spd [.ins C' fn ds] P x0
  | _ => False
def onMeth (C : Addr) (m : Str) (spd : SpD) (x : XD) (as : TAD) (ρ : EnvD) (P : D → Prop) : D → Prop := fun o => match o with
  | .ins C' fn ds => (C' = C ∧ m ∉ fn) ∧ as ρ fun es => spd (.ins C' fn ds :: es) P x
  | _ => False
def onPar (i j : Nat) (N : EnvD → Prop) (ρ : EnvD) : List D → Prop := fun ds => match ds with
  | [x, y] => N ((ρ.set i (some x)).set j (some y))
  | _ => False
def onRng1 (P : List D → Prop) : List D → Prop := fun ds => match ds with
  | [.int n] => (-1000000000 ≤ n ∧ n ≤ 1000000000000000000000 ∧ n < 2 ^ 62) ∧ P (rngD 0 n.toNat)
  | _ => False
def onRng2 (P : List D → Prop) : List D → Prop := fun ds => match ds with
  | [.int lo, .int n] => (-(2 ^ 62) ≤ lo ∧ lo < 2 ^ 62 ∧ -(2 ^ 62) ≤ n ∧ n < 2 ^ 62) ∧ P (rngD lo (n - lo).toNat)
  | _ => False
def onBM (T : String) (rd : RMD) (as : TAD) (ρ : EnvD) (P : D → Prop) : D → Prop := fun x => tyD T x ∧ as ρ fun ds => rd x ds P
section
variable {i j l n : Nat} {a b c t : TED} {as bs ks : TAD} {p q : TTD} {d1 d2 body : TSD} {Dd : EndsD} {ρ : EnvD} {P : D → Prop} {PL : List D → Prop} {PB : Bool → Prop} {PO : Option Int → Prop} {d e : D} {r r' : R2D} {sp : SpD} {x : XD} {C : Addr} {f m : Str} {A B : Prop}
theorem s_seq (h : d1 { Dd with nx := d2 Dd } ρ) : dSeq d1 d2 Dd ρ := h
theorem s_next (h : Dd.nx ρ) : dNext Dd ρ := h
theorem s_ret (h : a (view ρ) Dd.rt) : dRet a Dd ρ := h
theorem s_retN (h : Dd.rt .non) : dRetN Dd ρ := h
theorem s_ifS (h : p (view ρ) (onIf (d1 Dd ρ) (d2 Dd ρ))) : dIfS p d1 d2 Dd ρ := h
theorem s_drop (h : a (view ρ) fun _ => Dd.nx ρ) : dDrop a Dd ρ := h
theorem s_set (h : a ρ fun d => Dd.nx (ρ.set i (some d))) : dSet i a Dd ρ := h
theorem s_setN (h : as ρ fun ds => Dd.nx (ρ.set i (some (.own .lst ds)))) : dSetN i as Dd ρ := h
theorem s_par (h : as ρ (onPar i j Dd.nx ρ)) : dPar i j as Dd ρ := h
theorem s_onPar {N : EnvD → Prop} (h : N ((ρ.set i (some d)).set j (some e))) : onPar i j N ρ [d, e] := h
theorem s_parX {a b : TXD} (h : a ρ fun d => b ρ fun e => Dd.nx ((ρ.set i (some d)).set j (some e))) : dParX i j a b Dd ρ := h
theorem s_parX3 {a b t : TXD} (h : a ρ fun d => b ρ fun e => t ρ fun g => Dd.nx (((ρ.set i (some d)).set j (some e)).set l (some g))) : dParX3 i j l a b t Dd ρ := h
theorem s_parN (h : as ρ fun ds => bs ρ fun es => Dd.nx ((ρ.set i (some (.own .lst ds))).set j (some (.own .lst es)))) : dParN i j as bs Dd ρ := h
theorem s_parN3 (h : as ρ fun ds => bs ρ fun es => t ρ fun d => Dd.nx (((ρ.set i (some (.own .lst ds))).set j (some (.own .lst es))).set l (some d))) : dParN3 i j l as bs t Dd ρ := h
theorem s_xN (h : as ρ fun ds => P (.own .lst ds)) : xN as ρ P := h
theorem s_for {it : TAD} {gd : TGD} (h : it ρ fun ds => loopD ds gd body Dd ρ) : dFor it gd body Dd ρ := h
theorem s_forV {it : TAD} {gd : TGD} (h : it (view ρ) fun ds => loopD ds gd body Dd ρ) : dForV it gd body Dd ρ := h
theorem s_app {ds : List D} (hi : ρ[i]? = some (some (.own .lst ds))) (h : a ρ fun d => ds.length < 1000000 ∧ Dd.nx (ρ.set i (some (.own .lst (ds ++ [d]))))) : dAppS i a Dd ρ := by
  refine ⟨⟨ds, hi⟩, ?_⟩
  unfold dApp
  rw [hi]
  exact h
theorem s_asg {gd : TGD} (h : a ρ fun d => gd d ρ Dd.nx) : dAsg a gd Dd ρ := h
theorem s_hName {N : EnvD → Prop} (h : N (ρ.set i (some d))) : hName i d ρ N := h
theorem s_hTup {g : List D → EnvD → (EnvD → Prop) → Prop} {ds : List D} {N : EnvD → Prop} (hl : Nat.beq ds.length n = true) (h : g ds ρ N) : hTup n g (.tup ds) ρ N := ⟨Nat.eq_of_beq_eq_true hl, h⟩
theorem s_hCons {gd : TGD} {g : List D → EnvD → (EnvD → Prop) → Prop} {ds : List D} {N : EnvD → Prop} (h : gd d ρ fun ρ' => g ds ρ' N) : hCons gd g (d :: ds) ρ N := h
theorem s_hNil {N : EnvD → Prop} (h : N ρ) : hNil [] ρ N := h
theorem s_c (h : P d) : dC d ρ P := h
theorem s_var (hi : ρ[i]? = some (some d)) (ho : d.isOwn = false) (h : P d) : dVar i ρ P := by
  unfold dVar
  rw [hi]
  cases d <;> first | exact h | cases ho
theorem thaw_no : ∀ d : D, d.thaw.isOwn = false
  | .own k _ => by cases k <;> rfl
  | .nest k _ => by cases k <;> (unfold D.thaw; rfl)
  | .non => rfl
  | .bl _ => rfl
  | .int _ => rfl
  | .str _ => rfl
  | .tup _ => rfl
  | .lst _ => rfl
  | .ins _ _ _ => rfl
  | .adr _ => rfl
  | .sem _ => rfl
  | .dic _ _ => rfl
theorem s_varV (hi : ρ[i]? = some (some d)) (ht : d.thaw = e) (h : P e) : dVar i (view ρ) P := by
  have e1 : (view ρ)[i]? = some (some e) := by unfold view; rw [List.getElem?_map, hi, ← ht]; rfl
  exact s_var e1 (ht ▸ thaw_no d) h
theorem s_varP (hi : ρ[i]? = some (some d)) (ho : d.isOwn = false) (h : P d) : dVar i (view ρ) P := s_varV hi (thaw_id ho) h
theorem s_varL {ds : List D} (hi : ρ[i]? = some (some (.own .lst ds))) (h : P (.lst ds)) : dVar i (view ρ) P := s_varV hi rfl h
theorem s_varK {kk : List Key} {ds : List D} (hi : ρ[i]? = some (some (.own (.dic kk) ds))) (h : P (.dic kk ds)) : dVar i (view ρ) P := s_varV hi rfl h
theorem s_op (h : a ρ fun x => b ρ fun y => r x y P) : dOp r a b ρ P := h
theorem s_nil (h : PL []) : dNil ρ PL := h
theorem s_cons (h : a ρ fun x => as ρ fun xs => PL (x :: xs)) : dCons a as ρ PL := h
theorem s_lst (h : as ρ (onLen fun ds => P (.lst ds))) : dLst as ρ P := h
theorem s_tup (h : as ρ (onLen fun ds => P (.tup ds))) : dTup as ρ P := h
theorem s_nLst (h : as ρ (onLen PL)) : nLst as ρ PL := h
theorem s_onLen {ds : List D} (hl : Nat.ble ds.length 1000000 = true) (h : PL ds) : onLen PL ds := ⟨Nat.le_of_ble_eq_true hl, h⟩
theorem s_test (h : a ρ (onB PB)) : dTest a ρ PB := h
theorem s_onB {b : Bool} (h : PB b) : onB PB (.bl b) := h
theorem s_and (h : p ρ (onIf (q ρ PB) (PB false))) : dAnd p q ρ PB := h
theorem s_or (h : p ρ (onIf (PB true) (q ρ PB))) : dOr p q ρ PB := h
theorem s_not (h : p ρ fun b => PB (!b)) : dNot p ρ PB := h
theorem s_if (h : p ρ (onIf (a ρ P) (b ρ P))) : dIf p a b ρ P := h
theorem s_andV (h : a ρ (onB (onIf (b ρ P) (P (.bl false))))) : dAndV a b ρ P := h
theorem s_orV (h : a ρ (onB (onIf (P (.bl true)) (b ρ P)))) : dOrV a b ρ P := h
theorem s_notV (h : a ρ (onB fun b => P (.bl (!b)))) : dNotV a ρ P := h
theorem s_chain (h : a ρ fun x => b ρ fun y => r x y (onB (onIf (c ρ fun w => r' y w P) (P (.bl false))))) : dChain r r' a b c ρ P := h
theorem s_ifT (h : A) : onIf A B true := h
theorem s_ifF (h : B) : onIf A B false := h
theorem s_ifN {b : Bool} (h : onIf B A b) : onIf A B (!b) := by cases b <;> exact h
theorem s_ii {g : Int → Int → D} {x y : Int} (h : P (g x y)) : rII g (.int x) (.int y) P := h
theorem s_isN (h : P (.bl d.isNon)) : rIsND d .non P := h
theorem s_notN (h : P (.bl (!d.isNon))) : rNotND d .non P := h
theorem s_oNo (h : PO none) : oNo ρ PO := h
theorem s_oYes (h : a ρ (onInt PO)) : oYes a ρ PO := h
theorem s_onInt {k : Int} (h : PO (some k)) : onInt PO (.int k) := h
theorem s_sl {g : D → Option Int → Option Int → (D → Prop) → Prop} {lo hi : TOD} (h : a ρ fun x => lo ρ fun u => hi ρ fun v => g x u v P) : dSl g a lo hi ρ P := h
theorem s_slL {ds : List D} {u v : Option Int} (h : P (.lst (cutD ds u v))) : slLD (.lst ds) u v P := h
theorem s_slT {ds : List D} {u v : Option Int} (h : P (.tup (cutD ds u v))) : slTD (.tup ds) u v P := h
theorem s_cb {g : RCD} (h : as ρ fun ds => g ds P) : dCB g as ρ P := h
theorem s_lenL {ds : List D} (h : P (.int ds.length)) : rLenD [.lst ds] P := h
theorem s_lenT {ds : List D} (h : P (.int ds.length)) : rLenD [.tup ds] P := h
theorem s_listL {ds : List D} (h : P (.lst ds)) : rListD [.lst ds] P := h
theorem s_listT {ds : List D} (h : P (.lst ds)) : rListD [.tup ds] P := h
theorem s_tupL {ds : List D} (h : P (.tup ds)) : rTupleD [.lst ds] P := h
theorem s_tupT {ds : List D} (h : P (.tup ds)) : rTupleD [.tup ds] P := h
theorem s_ofN (h : as ρ fun ds => P (.lst ds)) : dOfN as ρ P := h
theorem s_lc {it : TAD} {gd : TGD} {vs : List Nat} (h : it ρ fun ds => compD ds gd p t (wipeD ρ vs) PL) : nLc it gd p t vs ρ PL := h
theorem s_iLst (h : a ρ (onLst PL)) : iLstD a ρ PL := h
theorem s_iTup (h : a ρ (onTup PL)) : iTupD a ρ PL := h
theorem s_iStr (h : a ρ (onStr PL)) : iStrD a ρ PL := h
theorem s_onLst {ds : List D} (h : PL ds) : onLst PL (.lst ds) := h
theorem s_onTup {ds : List D} (h : PL ds) : onTup PL (.tup ds) := h
theorem s_onStr {y : Str} (h : PL (strD y)) : onStr PL (.str y) := h
theorem s_rng1 (h : as ρ (onRng1 PL)) : iRng1D as ρ PL := h
theorem s_rng2 (h : as ρ (onRng2 PL)) : iRng2D as ρ PL := h
theorem s_tru (h : a ρ (onTru PB)) : dTru a ρ PB := h
theorem s_truL {ds : List D} (h : PB (!ds.isEmpty)) : onTru PB (.lst ds) := h
theorem s_truT {ds : List D} (h : PB (!ds.isEmpty)) : onTru PB (.tup ds) := h
theorem s_truN (h : PB false) : onTru PB .non := h
theorem s_truB {b : Bool} (h : PB b) : onTru PB (.bl b) := h
theorem s_yes (h : PB true) : dYes ρ PB := h
theorem s_fld (h : a ρ (onFld C f P)) : dFldC C f a ρ P := h
theorem s_onFld {fn : List Str} {ds : List D} (hg : fgetD fn ds f = some d) (h : P d) : onFld C f P (.ins C fn ds) := by
  refine ⟨rfl, ?_⟩
  rw [hg]
  exact h
theorem s_prop (h : a ρ (onIns C sp P)) : dProp C sp a ρ P := h
theorem s_onIns {fn : List Str} {ds : List D} (h : sp [.ins C fn ds] P x0) : onIns C sp P (.ins C fn ds) := ⟨rfl, h⟩
theorem s_call (h : as ρ fun ds => sp ds P x) : dCall sp x as ρ P := h
theorem s_meth (h : a ρ (onMeth C m sp x as ρ P)) : dMeth C m sp x a as ρ P := h
theorem s_onMeth {fn : List Str} {ds : List D} (hm : m ∉ fn) (h : as ρ fun es => sp (.ins C fn ds :: es) P x) : onMeth C m sp x as ρ P (.ins C fn ds) := ⟨⟨rfl, hm⟩, h⟩
theorem s_bm {T : String} {rd : RMD} (h : a ρ (onBM T rd as ρ P)) : dBM T rd a as ρ P := h
theorem s_onBM {T : String} {rd : RMD} (ht : tyD T d) (h : as ρ fun ds => rd d ds P) : onBM T rd as ρ P d := ⟨ht, h⟩
theorem s_lam {O : Hp → Addr → Prop} (h : P (.sem O)) : dLam O ρ P := h
end
local macro_rules | `(tactic| walk_at "s1") => `(tactic| (with_reducible first
  | refine s_seq ?_ | refine s_next ?_ | refine s_ret ?_ | refine s_retN ?_ | refine s_ifS ?_ | refine s_drop ?_ | refine s_set ?_ | refine s_setN ?_ | refine s_par ?_ | refine s_onPar ?_ | refine s_parX ?_ | refine s_parX3 ?_ | refine s_parN ?_ | refine s_parN3 ?_ | refine s_xN ?_
  | refine s_for ?_ | refine s_forV ?_ | refine s_asg ?_ | refine s_hName ?_ | refine s_hCons ?_ | refine s_hNil ?_
  | refine s_c ?_ | refine s_op ?_ | refine s_nil ?_ | refine s_cons ?_ | refine s_lst ?_ | refine s_tup ?_ | refine s_nLst ?_ | refine s_test ?_ | refine s_onB ?_ | refine s_and ?_ | refine s_or ?_ | refine s_not ?_ | refine s_if ?_ | refine s_andV ?_ | refine s_orV ?_ | refine s_notV ?_ | refine s_chain ?_
  | refine s_ifT ?_ | refine s_ifF ?_ | refine s_ii ?_ | refine s_isN ?_ | refine s_notN ?_ | refine s_oNo ?_ | refine s_oYes ?_ | refine s_onInt ?_ | refine s_sl ?_ | refine s_slL ?_ | refine s_slT ?_ | refine s_cb ?_ | refine s_lenL ?_ | refine s_lenT ?_ | refine s_listL ?_ | refine s_listT ?_ | refine s_tupL ?_ | refine s_tupT ?_
  | refine s_ofN ?_ | refine s_lc ?_ | refine s_iLst ?_ | refine s_iTup ?_ | refine s_iStr ?_ | refine s_onLst ?_ | refine s_onTup ?_ | refine s_onStr ?_ | refine s_rng1 ?_ | refine s_rng2 ?_ | refine s_tru ?_ | refine s_truL ?_ | refine s_truT ?_ | refine s_truN ?_ | refine s_truB ?_ | refine s_yes ?_
  | refine s_fld ?_ | refine s_prop ?_ | refine s_onIns ?_ | refine s_call ?_ | refine s_meth ?_ | refine s_bm ?_ | refine s_lam ?_))
local macro_rules | `(tactic| walk_at "s2") => `(tactic| first
  | (with_reducible refine s_varP (d := ?d) ?hi ?ho ?_); (case hi => rfl); (case ho => rfl)
  | (with_reducible refine s_varL (ds := ?ds) ?hi ?_); (case hi => rfl)
  | (with_reducible refine s_varK (kk := ?kk) (ds := ?ds) ?hi ?_); (case hi => rfl)
  | (with_reducible refine s_var (d := ?d) ?hi ?ho ?_); (case hi => rfl); (case ho => rfl)
  | (with_reducible refine s_onLen ?hl ?_); (case hl => rfl)
  | (with_reducible refine s_onBM ?hl ?_); (case hl => rfl)
  | (with_reducible refine s_hTup ?hl ?_); (case hl => rfl)
  | (with_reducible refine s_onFld (d := ?d) ?hl ?_); (case hl => rfl)
  | (with_reducible refine s_onMeth ?hl ?_); (case hl => decide)
  | (with_reducible refine s_app (ds := ?ds) ?hl ?_); (case hl => rfl)
  | (with_reducible refine eq_int ?_) | (with_reducible refine ne_int ?_))
local macro_rules | `(tactic| walk_at "s") => `(tactic| repeat first | walk_at "s1" | walk_at "s2")
end DL
end
section
namespace Z
open PySem L2 DL TL
local macro_rules | `(tactic| walk_at "s1") => `(tactic| (with_reducible first
  | refine s_seq ?_ | refine s_next ?_ | refine s_ret ?_ | refine s_retN ?_ | refine s_ifS ?_ | refine s_drop ?_ | refine s_set ?_ | refine s_setN ?_ | refine s_par ?_ | refine s_onPar ?_ | refine s_parX ?_ | refine s_parX3 ?_ | refine s_parN ?_ | refine s_parN3 ?_ | refine s_xN ?_
  | refine s_for ?_ | refine s_forV ?_ | refine s_asg ?_ | refine s_hName ?_ | refine s_hCons ?_ | refine s_hNil ?_
  | refine s_c ?_ | refine s_op ?_ | refine s_nil ?_ | refine s_cons ?_ | refine s_lst ?_ | refine s_tup ?_ | refine s_nLst ?_ | refine s_test ?_ | refine s_onB ?_ | refine s_and ?_ | refine s_or ?_ | refine s_not ?_ | refine s_if ?_ | refine s_andV ?_ | refine s_orV ?_ | refine s_notV ?_ | refine s_chain ?_
  | refine s_ifT ?_ | refine s_ifF ?_ | refine s_ii ?_ | refine s_isN ?_ | refine s_notN ?_ | refine s_oNo ?_ | refine s_oYes ?_ | refine s_onInt ?_ | refine s_sl ?_ | refine s_slL ?_ | refine s_slT ?_ | refine s_cb ?_ | refine s_lenL ?_ | refine s_lenT ?_ | refine s_listL ?_ | refine s_listT ?_ | refine s_tupL ?_ | refine s_tupT ?_
  | refine s_ofN ?_ | refine s_lc ?_ | refine s_iLst ?_ | refine s_iTup ?_ | refine s_iStr ?_ | refine s_onLst ?_ | refine s_onTup ?_ | refine s_onStr ?_ | refine s_rng1 ?_ | refine s_rng2 ?_ | refine s_tru ?_ | refine s_truL ?_ | refine s_truT ?_ | refine s_truN ?_ | refine s_truB ?_ | refine s_yes ?_
  | refine s_fld ?_ | refine s_prop ?_ | refine s_onIns ?_ | refine s_call ?_ | refine s_meth ?_ | refine s_bm ?_ | refine s_lam ?_))
local macro_rules | `(tactic| walk_at "s2") => `(tactic| first
  | (with_reducible refine s_varP (d := ?d) ?hi ?ho ?_); (case hi => rfl); (case ho => rfl)
  | (with_reducible refine s_varL (ds := ?ds) ?hi ?_); (case hi => rfl)
  | (with_reducible refine s_varK (kk := ?kk) (ds := ?ds) ?hi ?_); (case hi => rfl)
  | (with_reducible refine s_var (d := ?d) ?hi ?ho ?_); (case hi => rfl); (case ho => rfl)
  | (with_reducible refine s_onLen ?hl ?_); (case hl => rfl)
  | (with_reducible refine s_onBM ?hl ?_); (case hl => rfl)
  | (with_reducible refine s_hTup ?hl ?_); (case hl => rfl)
  | (with_reducible refine s_onFld (d := ?d) ?hl ?_); (case hl => rfl)
  | (with_reducible refine s_onMeth ?hl ?_); (case hl => decide)
  | (with_reducible refine s_app (ds := ?ds) ?hl ?_); (case hl => rfl)
  | (with_reducible refine eq_int ?_) | (with_reducible refine ne_int ?_))
local macro_rules | `(tactic| walk_at "s") => `(tactic| repeat first | walk_at "s1" | walk_at "s2")
def D_lam_k39_0 (A : Cs) (x : XD) : TED := (dCall (sp_parse_planX A) x (dCons (dVar 16) dNil))
def tab_k39 (A : Cs) (O : Nat → Hp → Addr → Prop) : List ((Hp → Addr → Prop) × (XD → TED) × List Bool) := [(O 0, D_lam_k39_0 A, [false, false, false, false, false, false, false, false, false, false, false, false, false, false, false, false, true, false, false])]
abbrev N_law_k39 : List Str := ["_law_script", "_law_d", "_law_names", "_law_step", "_law_days_here", "_law_lead", "_law_plan", "_law_rows", "_law_words_here", "_law_change", "_law_k", "_law_kind", "_law_word", "_law_at", "_law_rest", "_law_row", "_law_text", "_law_expected_here", "_law_line"]
def D_law_k39 (A : Cs) (O : Nat → Hp → Addr → Prop) (l : Addr) : TSD := (dSeq (dSet 2 (dLst (dCons (dC (.str "a")) (dCons (dC (.str "bo")) (dCons (dC (.str "carl")) (dCons (dC (.str "lead")) (dCons (dC (.str "hannahhh")) dNil))))))) (dSeq (dFor (iRng1D (dCons (dC (.int 3)) dNil)) (hName 3) (dSeq (dSet 4 (dCall (sp_rlaw_days A l) x0 (dCons (dVar 1) (dCons (dVar 2) (dCons (dC (.int 12)) dNil))))) (dSeq (dSet 5 (dCall (spDrawn l) x0 (dCons (dVar 1) (dCons (dCB rLenD (dCons (dVar 4) dNil)) dNil)))) (dSeq (dSet 6 (dCall (sp_parse_planX A) x0 (dCons (dCall (sp_rlaw_words A) x0 (dCons (dVar 4) (dCons (dVar 5) dNil))) dNil))) (dIfS (dNot (dTest (dCall (spSame 4) x0 (dCons (dLst (dCons (dProp A.Plan (sp_Plan_days A) (dVar 6)) (dCons (dProp A.Plan (sp_Plan_lead A) (dVar 6)) (dCons (dCall (sp_format_plan A) x0 (dCons (dVar 6) dNil)) dNil)))) (dCons (dLst (dCons (dCB rTupleD (dCons (dVar 4) dNil)) (dCons (dVar 5) (dCons (dCall (sp_rlaw_words A) x0 (dCons (dVar 4) (dCons (dVar 5) dNil))) dNil)))) dNil))))) (dRet (dC (.bl false))) dNext))))) (dSeq (dSet 7 (dSl slLD (dLst (dCons (dLst (dCons (dC (.str "lead")) (dCons (dC (.str "1")) dNil))) (dCons (dLst (dCons (dC (.str "anna")) (dCons (dC (.str "bo")) dNil))) (dCons (dLst (dCons (dC (.str "-")) dNil)) (dCons (dLst (dCons (dC (.str "bo")) dNil)) dNil))))) oNo (oYes (dOp rAddD (dC (.int 2)) (dCall (spDrawn l) x0 (dCons (dVar 1) (dCons (dC (.int 3)) dNil))))))) (dSeq (dSet 8 (dLst (dCons (dC (.str "")) (dCons (dC (.str "07")) (dCons (dC (.str "0")) (dCons (dC (.str "1")) (dCons (dC (.str "5001")) (dCons (dC (.str "10000")) (dCons (dC (.str "-1")) (dCons (dC (.str "x")) (dCons (dC (.str "A")) (dCons (dC (.str "-")) (dCons (dC (.str "anna")) (dCons (dC (.str "abcdefghi")) (dCons (dC (.str "lead")) (dCons (dC (.str "bo")) dNil)))))))))))))))) (dSeq (dFor (iRng1D (dCons (dCall (spDrawn l) x0 (dCons (dVar 1) (dCons (dC (.int 3)) dNil))) dNil)) (hName 9) (dSeq (dParX3 10 11 12 (dCall (spDrawn l) x0 (dCons (dVar 1) (dCons (dCB rLenD (dCons (dVar 7) dNil)) dNil))) (dCall (spDrawn l) x0 (dCons (dVar 1) (dCons (dC (.int 7)) dNil))) (dOp rIxD (dVar 8) (dCall (spDrawn l) x0 (dCons (dVar 1) (dCons (dC (.int 14)) dNil))))) (dSeq (dSet 13 (dCall (spDrawn l) x0 (dCons (dVar 1) (dCons (dOp rAddD (dCB rLenD (dCons (dOp rIxD (dVar 7) (dVar 10)) dNil)) (dC (.int 1))) dNil)))) (dIfS (dAnd (dTest (dOp rEqDD (dVar 11) (dC (.int 0)))) (dTest (dOp rGtD (dCB rLenD (dCons (dVar 7) dNil)) (dC (.int 1))))) (dSet 7 (dOp rCatLD (dSl slLD (dVar 7) oNo (oYes (dVar 10))) (dSl slLD (dVar 7) (oYes (dOp rAddD (dVar 10) (dC (.int 1)))) oNo))) (dIfS (dTest (dOp rEqDD (dVar 11) (dC (.int 1)))) (dSet 7 (dOp rCatLD (dOp rCatLD (dSl slLD (dVar 7) oNo (oYes (dVar 10))) (dLst (dCons (dLst (dCons (dVar 12) dNil)) dNil))) (dSl slLD (dVar 7) (oYes (dVar 10)) oNo))) (dSeq (dSet 14 (dSl slLD (dOp rIxD (dVar 7) (dVar 10)) (oYes (dOp rAddD (dVar 13) (dOp rModD (dVar 11) (dC (.int 2))))) oNo)) (dSeq (dSet 15 (dOp rCatLD (dOp rCatLD (dSl slLD (dOp rIxD (dVar 7) (dVar 10)) oNo (oYes (dVar 13))) (dOp rRepD (dLst (dCons (dVar 12) dNil)) (dOp rFdvD (dVar 11) (dC (.int 3))))) (dVar 14))) (dSet 7 (dOp rCatLD (dOp rCatLD (dSl slLD (dVar 7) oNo (oYes (dVar 10))) (dLst (dCons (dVar 15) dNil))) (dSl slLD (dVar 7) (oYes (dOp rAddD (dVar 10) (dC (.int 1)))) oNo)))))))))) (dSeq (dSet 16 (dBM "str" rJoinD (dC (.str "\n")) (dCons (dOfN (nLc (iLstD (dVar 7)) (hName 15) dYes (dBM "str" rJoinD (dC (.str " ")) (dCons (dVar 15) dNil)) [15])) dNil))) (dSeq (dSet 17 (dCall (sp_rlaw_expected A) x0 (dCons (dOfN (nLc (iLstD (dBM "str" rSplD (dVar 16) (dCons (dC (.str "\n")) dNil))) (hName 18) dYes (dBM "str" rSplD (dVar 18) (dCons (dC (.str " ")) dNil)) [18])) dNil))) (dSeq (dIfS (dTest (dOp rNotND (dVar 17) (dC .non))) (dRet (dOp rEqDD (dCallA (fun Act => sp_rlaw_error_of A Act) (tab_k39 A O) x0 (dCons (dLam (O 0)) dNil)) (dVar 17))) dNext) (dRet (dOp rEqDD (dCall (sp_format_plan A) x0 (dCons (dCall (sp_parse_planX A) x0 (dCons (dVar 16) dNil)) dNil)) (dVar 16)))))))))))
def dayW (d : Ns) : List Str := if d = [] then ["-"] else d
theorem rowT_dayW (d : Ns) : rowT d = rowJ (dayW d) := by
  unfold rowT dayW rowJ
  by_cases e : d = []
  · rw [if_pos e, if_pos e]; decide +kernel
  · rw [if_neg e, if_neg e]
theorem words_textJ (days : List Ns) (lead : Int) : wordsT days lead = textJ ([("lead" : Str), numT lead] :: days.map dayW) := by
  unfold wordsT textJ
  rw [List.map_cons, List.map_map]
  have e1 : leadT lead = rowJ [("lead" : Str), numT lead] := leadT_join lead
  have e2 : days.map rowT = days.map (rowJ ∘ dayW) := List.map_congr_left fun d _ => rowT_dayW d
  rw [e1, e2]
theorem dash_no : isNm "-" = false := by decide +kernel
theorem dayOf_dayW {d : Ns} (h : ∀ n ∈ d, isNm n = true) : dayOf (dayW d) = d := by
  unfold dayOf dayW
  by_cases e : d = []
  · rw [if_pos e, if_pos rfl, e]
  · rw [if_neg e, if_neg fun z => ?_]
    have := h "-" (by rw [z]; exact List.mem_singleton_self _)
    rw [dash_no] at this
    cases this
theorem rowE_nm {d : Ns} (h : ∀ n ∈ d, isNm n = true) : rowE (dayW d) = none := by
  unfold rowE dayW
  by_cases e : d = []
  · rw [if_pos e, if_pos rfl]
  · rw [if_neg e]
    have : badW d = [] := List.eq_nil_iff_forall_not_mem.mpr fun j hj => by
      obtain ⟨h1, h2⟩ := badW_mem.mp hj
      have := h (d.getD j "") (by rw [List.getD_eq_getElem?_getD, List.getElem?_eq_getElem h1]; exact List.getElem_mem h1)
      rw [h2] at this
      cases this
    rw [this]
    split <;> rfl
theorem rowsE_nm : ∀ {R : List (List Str)} {k : Nat}, (∀ r ∈ R, rowE r = none) → rowsE R k = none
  | [], _, _ => rfl
  | r :: R, k, h => by
    unfold rowsE
    rw [h r List.mem_cons_self]
    exact rowsE_nm fun s hs => h s (List.mem_cons_of_mem _ hs)
theorem repE_nd : ∀ {ds : List Ns} {i : Nat}, (∀ d ∈ ds, d.Nodup) → repE ds i = none
  | [], _, _ => rfl
  | d :: ds, i, h => by
    unfold repE
    rw [if_pos (h d List.mem_cons_self)]
    exact repE_nd fun s hs => h s (List.mem_cons_of_mem _ hs)
theorem nm_clean {w : Str} (h : isNm w = true) (hl : w.length ≤ 8) : CleanW w := ⟨fun c hc => by have := nm_tl h c hc; omega, by omega⟩
theorem dash_clean : CleanW "-" := ⟨by decide +kernel, by decide +kernel⟩
theorem num_clean {n : Int} (h0 : 0 ≤ n) (h1 : n < 10000) : CleanW (numT n) := ⟨fun c hc => by have := num_tl h0 c hc; omega, by have := num_le h0 h1; omega⟩
theorem leadE_num {n : Int} (h0 : 0 ≤ n) (h1 : n < 10000) : leadE [("lead" : Str), numT n] = none := by
  unfold leadE
  rw [if_neg (fun z => z rfl), if_neg (fun z => z.elim (fun q => absurd q (by show ¬ (2 < 2); decide)) fun q => by
    have q : isNumB (numT n) = false := q
    rw [numT_is h0 h1] at q
    cases q), if_neg (by show ¬ (2 < 2); decide)]
theorem textJ_ok {R : List (List Str)} (h : CleanT R) : PyData.strOk (textJ R) = true := ok_of_tl (k := 123) (by decide) fun c hc => by
  unfold textJ at hc
  rcases mem_join hc with q | ⟨p, hp, q⟩
  · rw [nl_tl] at q
    have := List.mem_singleton.mp q
    omega
  · obtain ⟨r, hr, rfl⟩ := List.mem_map.mp hp
    exact (rowJ_tl (h.2.2 r hr) c q).2
abbrev ns5 : Ns := ["a", "bo", "carl", "lead", "hannahhh"]
theorem ns5_nm : ∀ n ∈ ns5, isNm n = true ∧ n.length ≤ 8 := by decide +kernel
def env39 (a l : Addr) (y3 y4 y5 y6 : Option D) : EnvD := [some (.adr a), some (.adr l), some (.lst (ns5.map .str)), y3, y4, y5, y6] ++ List.replicate 12 none
def rows4 : List (List Str) := [["lead", "1"], ["anna", "bo"], ["-"], ["bo"]]
def RowsOk (i : Nat) (R : List (List Str)) : Prop := 1 ≤ R.length ∧ R.length ≤ 4 + i ∧ ∀ r ∈ R, r.length ≤ 2 + 2 * i ∧ ∀ w ∈ r, CleanW w
def words14 : List Str := ["", "07", "0", "1", "5001", "10000", "-1", "x", "A", "-", "anna", "abcdefghi", "lead", "bo"]
def env39b (a l : Addr) (y3 y4 y5 y6 : Option D) (R : List (List Str)) (y8 y9 y10 y11 y12 y13 y14 y15 : Option D) : EnvD := [some (.adr a), some (.adr l), some (.lst (ns5.map .str)), y3, y4, y5, y6, some (.lst (R.map encR)), y8, y9, y10, y11, y12, y13, y14, y15, none, none, none]
theorem rows4_ok : ∀ r ∈ rows4, r.length ≤ 2 ∧ ∀ w ∈ r, CleanW w := fun r hr => by
  have h : ∀ r ∈ rows4, r.length ≤ 2 ∧ ∀ w ∈ r, (∀ c ∈ tl w, c ≠ 32 ∧ c ≠ 10 ∧ c < 123) ∧ w.length ≤ 10 := by decide +kernel
  exact ⟨(h r hr).1, fun w hw => ⟨((h r hr).2 w hw).1, ((h r hr).2 w hw).2⟩⟩
theorem words14_ok : ∀ w ∈ words14, CleanW w := fun w hw => by
  have h : ∀ w ∈ words14, (∀ c ∈ tl w, c ≠ 32 ∧ c ≠ 10 ∧ c < 123) ∧ w.length ≤ 10 := by decide +kernel
  exact ⟨(h w hw).1, (h w hw).2⟩
theorem cut_up {α : Type} {xs : List α} (f : α → D) {i : Int} {k : Nat} (e : i = (k : Int)) : cutD (xs.map f) (some i) none = (xs.drop k).map f := by
  subst e
  rw [cut_map, HT.sIx_nat, HT.sIx_none]
  by_cases h : k ≤ xs.length
  · rw [Nat.min_eq_left h, ← List.length_drop, List.take_length]
  · rw [Nat.min_eq_right (by omega), List.drop_eq_nil_of_le (Nat.le_refl _), List.drop_eq_nil_of_le (by omega), List.take_nil]
def padR (r : List Str) : List Str := if r = [] then [""] else r
theorem join_pad (r : List Str) : rowJ (padR r) = Txt.join " " r := by
  unfold padR rowJ
  by_cases e : r = []
  · rw [if_pos e, e]; decide +kernel
  · rw [if_neg e]
theorem empty_clean : CleanW "" := ⟨by decide +kernel, by decide +kernel⟩
theorem pad_clean {i : Nat} {R : List (List Str)} (h : RowsOk i R) (hi : i ≤ 2) : CleanT (R.map padR) := by
  obtain ⟨h1, h2, h3⟩ := h
  refine ⟨fun z => ?_, by rw [List.length_map]; omega, fun r hr => ?_⟩
  · have := congrArg List.length z
    rw [List.length_map, List.length_nil] at this
    omega
  · obtain ⟨q, hq, rfl⟩ := List.mem_map.mp hr
    obtain ⟨l1, l2⟩ := h3 q hq
    unfold padR
    by_cases e : q = []
    · rw [if_pos e]
      exact ⟨List.cons_ne_nil _ _, by show 1 ≤ 13; decide, fun w hw => by rw [List.mem_singleton.mp hw]; exact empty_clean⟩
    · rw [if_neg e]
      exact ⟨e, by omega, l2⟩
theorem dayW_dayOf {r : List Str} (h : r ≠ []) : dayW (dayOf r) = r := by
  unfold dayOf dayW
  by_cases e : r = (["-"] : List Str)
  · rw [if_pos e, if_pos rfl, e]
  · rw [if_neg e, if_neg h]
theorem pure_law_k39 (A : Cs) (xt : XTab A (xks7 A)) : ∀ O a l, D_law_k39 A O l { nx := fun _ => False, rt := fun d => d = .bl true } (some (.adr a) :: some (.adr l) :: List.replicate 17 none) := by
  intro O a l
  refine ⟨(by decide : (5 : Nat) ≤ 1000000), ?_⟩
  unfold dNext
  dsimp only
  refine seq_of (fun ρ => ∃ y3 y4 y5 y6, ρ = env39 a l y3 y4 y5 y6) (fun N hN => ?_) ?_
  · refine ⟨⟨by decide, by decide, by decide⟩, ?_⟩
    show loopD (rngD 0 3) _ _ _ _
    rw [rngD_nat]
    refine loop_of (fun _ ρ => ∃ y3 y4 y5 y6, ρ = env39 a l y3 y4 y5 y6) ⟨none, none, none, none, rfl⟩ ?_ fun ρ h => hN _ h
    rintro k r ρ ⟨y3, y4, y5, y6, rfl⟩ N' B R' hN' hB hR'
    refine ⟨ns5, 12, rfl, by decide +kernel, by decide, by decide, by decide +kernel, by decide, by decide, fun days d1 d2 d3 => ?_⟩
    have dn : ∀ d ∈ days, ∀ n ∈ d, isNm n = true ∧ n.length ≤ 8 := fun d hd n hn => ns5_nm n ((d3 d hd).2.2 n hn)
    have tx : TxOk days := ⟨by omega, fun d hd => by have := (d3 d hd).2.1; omega, fun d hd n hn => (dn d hd n hn).1⟩
    have le : (eDs days).length = days.length := by unfold eDs; exact List.length_map ..
    refine ⟨((eDs days).length : Int), rfl, ⟨by rw [le]; omega, by rw [le]; omega⟩, fun lead l0 l1 => ?_⟩
    rw [le] at l1
    refine ⟨days, lead, rfl, l0, by omega, tx, ?_⟩
    have ct : CleanT ([("lead" : Str), numT lead] :: days.map dayW) := by
      refine ⟨List.cons_ne_nil _ _, by rw [List.length_cons, List.length_map]; omega, fun r hr => ?_⟩
      rcases List.mem_cons.mp hr with rfl | hr
      · refine ⟨List.cons_ne_nil _ _, by show 2 ≤ 13; decide, fun w hw => ?_⟩
        rcases List.mem_cons.mp hw with rfl | hw
        · exact nm_clean (by decide +kernel) (by decide +kernel)
        · rw [List.mem_singleton.mp hw]
          exact num_clean l0 (by omega)
      · obtain ⟨d, hd, rfl⟩ := List.mem_map.mp hr
        unfold dayW
        by_cases e : d = []
        · rw [if_pos e]
          exact ⟨List.cons_ne_nil _ _, by show 1 ≤ 13; decide, fun w hw => by rw [List.mem_singleton.mp hw]; exact dash_clean⟩
        · rw [if_neg e]
          exact ⟨e, by have := (d3 d hd).2.1; omega, fun w hw => nm_clean (dn d hd w hw).1 (dn d hd w hw).2⟩
    have eday : (days.map dayW).map dayOf = days := by
      rw [List.map_map]
      exact (List.map_congr_left fun d hd => dayOf_dayW fun n hn => (dn d hd n hn).1).trans (List.map_id _)
    refine ⟨[("lead" : Str), numT lead], days.map dayW, by rw [words_textJ], ct, ?_⟩
    rw [leadE_num l0 (by omega), rowsE_nm fun r hr => by
      obtain ⟨d, hd, rfl⟩ := List.mem_map.mp hr
      exact rowE_nm fun n hn => (dn d hd n hn).1]
    intro n n0 n1 en
    have en : numT lead = numT n := by injection en with _ en; injection en
    have en : n = lead := by
      have := num_is n0 n1
      rw [← en, num_is l0 (by omega)] at this
      injection this with this
      exact this.symm
    subst en
    rw [eday]
    have pe : planE days n = none := by
      unfold planE
      rw [repE_nd fun d hd => (d3 d hd).1]
      exact if_neg (by omega)
    rw [pe]
    dsimp only
    have fd : ∀ d ∈ days, d.length ≤ 100 ∧ ∀ w ∈ d, w.length ≤ 10 := fun d hd => ⟨by have := (d3 d hd).2.1; omega, fun w hw => by have := (dn d hd w hw).2; omega⟩
    refine ⟨rfl, days, n, rfl, ?_⟩
    refine ⟨rfl, days, n, rfl, ?_⟩
    refine ⟨days, n, rfl, by omega, fd, l0, by omega, ?_⟩
    refine ⟨(by decide : (3 : Nat) ≤ 1000000), ?_⟩
    refine ⟨days, n, rfl, l0, by omega, tx, ?_⟩
    refine ⟨(by decide : (3 : Nat) ≤ 1000000), ?_⟩
    refine ⟨.lst [.tup (eDs days), .int n, .str (wordsT days n)], rfl, ?_, ?_⟩
    · have h1 : plainD 3 (.tup (eDs days)) = true := by
        unfold plainD
        rw [le, decide_eq_true (by omega), Bool.true_and]
        refine List.all_eq_true.mpr fun d hd => ?_
        obtain ⟨ns, hns, rfl⟩ := List.mem_map.mp hd
        show plainD 2 (eN ns) = true
        unfold eN plainD
        rw [List.length_map, decide_eq_true (by have := (d3 ns hns).2.1; omega), Bool.true_and]
        refine List.all_eq_true.mpr fun y hy => ?_
        obtain ⟨w, hw, rfl⟩ := List.mem_map.mp hy
        show PyData.strOk w = true
        exact (nm_clean (dn ns hns w hw).1 (dn ns hns w hw).2).str
      have h2 : PyData.strOk (wordsT days n) = true := by rw [words_textJ]; exact textJ_ok ct
      unfold plainD
      show (true && (plainD 3 (.tup (eDs days)) && (true && (PyData.strOk (wordsT days n) && true)))) = true
      rw [h1, h2]
      rfl
    exact hN' _ ⟨_, _, _, _, rfl⟩
  rintro ρ ⟨y3, y4, y5, y6, rfl⟩
  refine seq_of (fun ρ => ∃ y3 y4 y5 y6, ∃ R : List (List Str), RowsOk 0 R ∧ ρ = env39b a l y3 y4 y5 y6 R none none none none none none none none) (fun N hN => ?_) ?_
  · refine ⟨(by decide : (2 : Nat) ≤ 1000000), (by decide : (2 : Nat) ≤ 1000000), (by decide : (1 : Nat) ≤ 1000000), (by decide : (1 : Nat) ≤ 1000000), (by decide : (4 : Nat) ≤ 1000000), 3, rfl, ⟨by decide, by decide⟩, fun q q0 q1 => ?_⟩
    have e : cutD (rows4.map encR) none (some (2 + q)) = (rows4.take (2 + q.toNat)).map encR := cut_to encR (by omega) (by show _ ≤ 4; omega)
    refine hN _ ⟨y3, y4, y5, y6, rows4.take (2 + q.toNat), ⟨?_, ?_, fun r hr => ?_⟩, ?_⟩
    · rw [List.length_take]; show 1 ≤ min _ 4; omega
    · rw [List.length_take]; show min _ 4 ≤ _; omega
    · exact rows4_ok r (List.mem_of_mem_take hr)
    · unfold env39b
      rw [← e]
      rfl
  clear y3 y4 y5 y6
  rintro ρ ⟨y3, y4, y5, y6, R, ok, rfl⟩
  refine seq_of (fun ρ => ρ = env39b a l y3 y4 y5 y6 R (some (.lst (words14.map .str))) none none none none none none none) (fun N hN => ⟨(by decide : (14 : Nat) ≤ 1000000), hN _ rfl⟩) ?_
  rintro ρ rfl
  refine seq_of (fun ρ => ∃ R : List (List Str), RowsOk 2 R ∧ ∃ y9 y10 y11 y12 y13 y14 y15, ρ = env39b a l y3 y4 y5 y6 R (some (.lst (words14.map .str))) y9 y10 y11 y12 y13 y14 y15) (fun N hN => ?_) ?_
  · refine ⟨3, rfl, ⟨by decide, by decide⟩, fun q q0 q1 => ?_⟩
    refine ⟨⟨by omega, by omega, by omega⟩, ?_⟩
    rw [rngD_nat]
    refine loop_of (xs := List.range q.toNat) (fun xs ρ => xs.length ≤ 2 ∧ ∃ R : List (List Str), RowsOk (2 - xs.length) R ∧ ∃ y9 y10 y11 y12 y13 y14 y15, ρ = env39b a l y3 y4 y5 y6 R (some (.lst (words14.map .str))) y9 y10 y11 y12 y13 y14 y15) ⟨by rw [List.length_range]; omega, R, ?_, none, none, none, none, none, none, none, rfl⟩ ?_ fun ρ h => hN _ h.2
    · obtain ⟨o1, o2, o3⟩ := ok
      exact ⟨o1, by omega, fun r hr => ⟨by have := (o3 r hr).1; omega, (o3 r hr).2⟩⟩
    clear ok R
    rintro x r ρ ⟨hx, R, ⟨o1, o2, o3⟩, y9, y10, y11, y12, y13, y14, y15, rfl⟩ N' B R' hN' hB hR
    rw [List.length_cons] at hx o2 o3
    have lm : (R.map encR).length = R.length := List.length_map ..
    refine ⟨((R.map encR).length : Int), rfl, ⟨by rw [lm]; omega, by rw [lm]; omega⟩, fun k k0 k1 => ?_⟩
    rw [lm] at k1
    obtain ⟨k, rfl⟩ : ∃ n : Nat, k = (n : Int) := ⟨k.toNat, by omega⟩
    refine ⟨7, rfl, ⟨by decide, by decide⟩, fun kd d0 d1 => ?_⟩
    refine ⟨14, rfl, ⟨by decide, by decide⟩, fun wi w0 w1 => ?_⟩
    refine pick_of (ds := words14.map D.str) w0 (by show wi < 14; exact w1) fun d hd => ?_
    obtain ⟨w, hw, rfl⟩ := List.mem_map.mp hd
    have cw := words14_ok w hw
    have hk : R[k]? = some (R.getD k []) := by rw [List.getD_eq_getElem?_getD, List.getElem?_eq_getElem (by omega)]; rfl
    have hkm : R.getD k [] ∈ R := List.mem_of_getElem? hk
    obtain ⟨rl, rc⟩ := o3 _ hkm
    generalize hr : R.getD k [] = rk at hk hkm rl rc
    have ls : (rk.map D.str).length = rk.length := List.length_map ..
    refine at_lst (xs := R) (f := encR) (i := (k : Int)) (x := rk) k0 (by rw [Int.toNat_natCast]; exact hk) ?_
    refine ⟨((rk.map D.str).length : Int) + 1, rfl, ⟨by rw [ls]; omega, by rw [ls]; omega⟩, fun at_ a0 a1 => ?_⟩
    rw [ls] at a1
    obtain ⟨at_, rfl⟩ : ∃ n : Nat, at_ = (n : Int) := ⟨at_.toNat, by omega⟩
    refine eq_int (i := kd) (j := 0) ?_
    have fin : ∀ (R2 : List (List Str)) y14 y15, RowsOk (2 - r.length) R2 → N' (env39b a l y3 y4 y5 y6 R2 (some (.lst (words14.map .str))) (some (.int (0 + (x : Int)))) (some (.int (k : Int))) (some (.int kd)) (some (.str w)) (some (.int (at_ : Int))) y14 y15) := fun R2 y14 y15 h => hN' _ ⟨by omega, R2, h, _, _, _, _, _, _, _, rfl⟩
    have case2 : kd ≠ 0 ∨ R.length ≤ 1 → (dIfS (dTest (dOp rEqDD (dVar 11) (dC (.int 1)))) (dSet 7 (dOp rCatLD (dOp rCatLD (dSl slLD (dVar 7) oNo (oYes (dVar 10))) (dLst (dCons (dLst (dCons (dVar 12) dNil)) dNil))) (dSl slLD (dVar 7) (oYes (dVar 10)) oNo))) (dSeq (dSet 14 (dSl slLD (dOp rIxD (dVar 7) (dVar 10)) (oYes (dOp rAddD (dVar 13) (dOp rModD (dVar 11) (dC (.int 2))))) oNo)) (dSeq (dSet 15 (dOp rCatLD (dOp rCatLD (dSl slLD (dOp rIxD (dVar 7) (dVar 10)) oNo (oYes (dVar 13))) (dOp rRepD (dLst (dCons (dVar 12) dNil)) (dOp rFdvD (dVar 11) (dC (.int 3))))) (dVar 14))) (dSet 7 (dOp rCatLD (dOp rCatLD (dSl slLD (dVar 7) oNo (oYes (dVar 10))) (dLst (dCons (dVar 15) dNil))) (dSl slLD (dVar 7) (oYes (dOp rAddD (dVar 10) (dC (.int 1)))) oNo)))))) { nx := N', ct := N', bk := B, rt := R' } (env39b a l y3 y4 y5 y6 R (some (.lst (words14.map .str))) (some (.int (0 + (x : Int)))) (some (.int (k : Int))) (some (.int kd)) (some (.str w)) (some (.int (at_ : Int))) y14 y15) := fun _ => by
      refine eq_int (i := kd) (j := 1) ?_
      show if decide (kd = 1) = true then _ else _
      by_cases z1 : kd = 1
      · rw [if_pos (decide_eq_true z1)]
        walk_at "s"
        rw [cut_to encR rfl (by omega)]
        refine ⟨by rw [List.length_map, List.length_take]; show _ + 1 ≤ 1000000; omega, ?_⟩
        walk_at "s"
        rw [cut_up encR rfl]
        refine ⟨by rw [List.length_append, List.length_map, List.length_map, List.length_take, List.length_drop]; show _ + 1 + _ ≤ 1000000; omega, ?_⟩
        have e : (R.take k).map encR ++ [D.lst [D.str w]] ++ (R.drop k).map encR = (R.take k ++ [w] :: R.drop k).map encR := by simp [encR]
        rw [e]
        refine fin (R.take k ++ [w] :: R.drop k) y14 y15 ⟨?_, ?_, fun q hq => ?_⟩
        · rw [List.length_append, List.length_cons]; omega
        · rw [List.length_append, List.length_cons, List.length_take, List.length_drop]; omega
        · rcases List.mem_append.mp hq with z | z
          · have := o3 q (List.mem_of_mem_take z)
            exact ⟨by omega, this.2⟩
          · rcases List.mem_cons.mp z with rfl | z
            · exact ⟨by show 1 ≤ _; omega, fun u hu => by rw [List.mem_singleton.mp hu]; exact cw⟩
            · have := o3 q (List.mem_of_mem_drop z)
              exact ⟨by omega, this.2⟩
      · rw [if_neg (by rw [decide_eq_true_eq]; exact z1)]
        refine at_lst (xs := R) (f := encR) (i := (k : Int)) (x := rk) k0 (by rw [Int.toNat_natCast]; exact hk) ?_
        walk_at "s"
        refine ⟨(by decide : (0 : Int) < 2), ?_⟩
        walk_at "s"
        have e1 : cutD (rk.map D.str) (some ((at_ : Int) + kd % 2)) none = (rk.drop (at_ + (kd % 2).toNat)).map D.str := cut_up D.str (by omega)
        refine s_slL ?_
        rw [e1]
        refine at_lst (xs := R) (f := encR) (i := (k : Int)) (x := rk) k0 (by rw [Int.toNat_natCast]; exact hk) ?_
        have e2 : cutD (rk.map D.str) none (some (at_ : Int)) = (rk.take at_).map D.str := cut_to D.str rfl (by omega)
        walk_at "s"
        have e3 : (List.replicate (kd / 3).toNat [D.str w]).flatten = (List.replicate (kd / 3).toNat w).map D.str := by
          generalize (kd / 3).toNat = n
          induction n with
          | zero => rfl
          | succ n ih => rw [List.replicate_succ, List.replicate_succ, List.flatten_cons, ih, List.map_cons]; rfl
        refine s_slL ?_
        rw [e2]
        walk_at "s"
        refine ⟨⟨by decide, by decide⟩, ?_⟩
        refine ⟨⟨by omega, by omega, ?_⟩, ?_⟩
        · show 1 * (kd / 3).toNat ≤ 1000000
          omega
        rw [e3]
        have nl : ((rk.take at_).map D.str).length + ((List.replicate (kd / 3).toNat w).map D.str).length ≤ 100 := by
          rw [List.length_map, List.length_map, List.length_take, List.length_replicate]; omega
        refine ⟨by omega, ?_⟩
        walk_at "s"
        refine ⟨by rw [List.length_append, List.length_map (as := rk.drop _), List.length_drop]; omega, ?_⟩
        have e4 : (rk.take at_).map D.str ++ (List.replicate (kd / 3).toNat w).map D.str ++ (rk.drop (at_ + (kd % 2).toNat)).map D.str = (rk.take at_ ++ List.replicate (kd / 3).toNat w ++ rk.drop (at_ + (kd % 2).toNat)).map D.str := by rw [List.map_append, List.map_append]
        rw [e4]
        walk_at "s"
        rw [cut_to encR rfl (by omega)]
        refine ⟨by rw [List.length_map, List.length_take]; show _ + 1 ≤ 1000000; omega, ?_⟩
        walk_at "s"
        rw [cut_up encR (k := k + 1) (by omega)]
        refine ⟨by rw [List.length_append, List.length_map, List.length_map, List.length_take, List.length_drop]; show _ + 1 + _ ≤ 1000000; omega, ?_⟩
        have e : ∀ q : List Str, (R.take k).map encR ++ [D.lst (q.map D.str)] ++ (R.drop (k + 1)).map encR = (R.take k ++ q :: R.drop (k + 1)).map encR := fun q => by simp [encR]
        rw [e]
        refine fin (R.take k ++ (rk.take at_ ++ List.replicate (kd / 3).toNat w ++ rk.drop (at_ + (kd % 2).toNat)) :: R.drop (k + 1)) _ _ ⟨?_, ?_, fun q hq => ?_⟩
        · rw [List.length_append, List.length_cons]; omega
        · rw [List.length_append, List.length_cons, List.length_take, List.length_drop]; omega
        · rcases List.mem_append.mp hq with z | z
          · have := o3 q (List.mem_of_mem_take z)
            exact ⟨by omega, this.2⟩
          · rcases List.mem_cons.mp z with rfl | z
            · refine ⟨by rw [List.length_append, List.length_append, List.length_take, List.length_replicate, List.length_drop]; omega, fun u hu => ?_⟩
              rcases List.mem_append.mp hu with hu | hu
              · rcases List.mem_append.mp hu with hu | hu
                · exact rc u (List.mem_of_mem_take hu)
                · rw [(List.mem_replicate.mp hu).2]; exact cw
              · exact rc u (List.mem_of_mem_drop hu)
            · have := o3 q (List.mem_of_mem_drop z)
              exact ⟨by omega, this.2⟩
    show if decide (kd = 0) = true then _ else _
    by_cases z0 : kd = 0
    · rw [if_pos (decide_eq_true z0)]
      show if decide ((1 : Int) < ((R.map encR).length : Int)) = true then _ else _
      rw [lm]
      by_cases z1 : (1 : Int) < (R.length : Int)
      · rw [if_pos (decide_eq_true z1)]
        walk_at "s"
        rw [cut_to encR rfl (by omega), cut_up encR (k := k + 1) (by omega)]
        refine ⟨by rw [List.length_map, List.length_map, List.length_take, List.length_drop]; omega, ?_⟩
        rw [← List.map_append]
        refine fin (R.take k ++ R.drop (k + 1)) y14 y15 ⟨?_, ?_, fun q hq => ?_⟩
        · rw [List.length_append, List.length_take, List.length_drop]; omega
        · rw [List.length_append, List.length_take, List.length_drop]; omega
        · rcases List.mem_append.mp hq with z | z
          · have := o3 q (List.mem_of_mem_take z)
            exact ⟨by omega, this.2⟩
          · have := o3 q (List.mem_of_mem_drop z)
            exact ⟨by omega, this.2⟩
      · rw [if_neg (by rw [decide_eq_true_eq]; exact z1)]
        exact case2 (.inr (by omega))
    · rw [if_neg (by rw [decide_eq_true_eq]; exact z0)]
      exact case2 (.inl z0)
  clear ok R
  rintro ρ ⟨R, ok, y9, y10, y11, y12, y13, y14, y15, rfl⟩
  have ct := pad_clean ok (by decide)
  obtain ⟨o1, o2, o3⟩ := ok
  have eT : Txt.join "\n" (R.map fun r => Txt.join " " r) = textJ (R.map padR) := by
    unfold textJ
    rw [List.map_map]
    congr 1
    exact List.map_congr_left fun r _ => (join_pad r).symm
  have w10 : ∀ r ∈ R, (r.map (·.length)).sum ≤ 60 := fun r hr => by
    have := sum_le (xs := r.map (·.length)) (k := 10) fun x hx => by
      obtain ⟨w, hw, rfl⟩ := List.mem_map.mp hx
      exact ((o3 r hr).2 w hw).len
    rw [List.length_map] at this
    have := (o3 r hr).1
    omega
  refine seq_of (fun ρ => ρ = (env39b a l y3 y4 y5 y6 R (some (.lst (words14.map .str))) y9 y10 y11 y12 y13 y14 y15).set 16 (some (.str (textJ (R.map padR))))) (fun N hN => ?_) ?_
  · walk_at "s"
    refine comp_of (xs := R) (enc := encR) (f := fun r => .str (Txt.join " " r)) (by omega) (fun r hr Q hQ => ?_) ?_
    · walk_at "s"
      refine ⟨r, rfl, ?_, hQ⟩
      have := w10 r hr
      have := (o3 r hr).1
      have e : (" " : Str).length = 1 := sp_len
      rw [e]
      omega
    · refine ⟨R.map fun r => Txt.join " " r, by rw [List.map_map]; rfl, ?_, ?_⟩
      · have hj : ∀ x ∈ (R.map fun r => Txt.join " " r).map (·.length), x ≤ 200 := fun x hx => by
          obtain ⟨y, hy, rfl⟩ := List.mem_map.mp hx
          obtain ⟨r, hr, rfl⟩ := List.mem_map.mp hy
          have := join_le (y := " ") (ps := r) (k := 10) fun p hp => ((o3 r hr).2 p hp).len
          have e : (" " : Str).length = 1 := sp_len
          rw [e] at this
          have := (o3 r hr).1
          omega
        have := sum_le hj
        rw [List.length_map, List.length_map] at this
        rw [List.length_map, nl_len]
        omega
      · rw [eT]
        exact hN _ rfl
  rintro ρ rfl
  obtain ⟨r0, R1, eR⟩ : ∃ r0 R1, R.map padR = r0 :: R1 := by
    cases h : R.map padR with
    | nil => exact absurd h ct.1
    | cons r0 R1 => exact ⟨r0, R1, rfl⟩
  rw [eR] at ct ⊢
  obtain ⟨n, n0, n1, hn⟩ : ∃ n : Int, 0 ≤ n ∧ n < 10000 ∧ (leadE r0 = none → r0 = [("lead" : Str), numT n]) := by
    cases h : leadE r0 with
    | some j => exact ⟨0, by decide, by decide, fun z => nomatch z⟩
    | none =>
      obtain ⟨n, h1, h2, h3⟩ := two_of h
      exact ⟨n, h1, h2, fun _ => h3⟩
  refine seq_of (fun ρ => ρ = ((env39b a l y3 y4 y5 y6 R (some (.lst (words14.map .str))) y9 y10 y11 y12 y13 y14 y15).set 16 (some (.str (textJ (r0 :: R1))))).set 17 (some (errR r0 R1 n))) (fun N hN => ?_) ?_
  · have ct1 := textJ_le ct
    walk_at "s"
    refine ⟨⟨by decide +kernel, by omega⟩, ?_⟩
    walk_at "s"
    rw [split_textJ ct, List.map_map]
    refine comp_of (xs := r0 :: R1) (enc := D.str ∘ rowJ) (f := encR) (by have := ct.2.1; omega) (fun r hr Q hQ => ?_) ?_
    · have cr := ct.2.2 r hr
      dsimp only [Function.comp]
      walk_at "s"
      refine ⟨⟨by decide +kernel, by have := rowJ_le cr; omega⟩, ?_⟩
      rw [split_rowJ cr]
      exact hQ
    · exact ⟨r0, R1, rfl, ct, fun m m0 m1 hm => by
        have : errR r0 R1 m = errR r0 R1 n := by
          unfold errR
          cases h : leadE r0 with
          | some j => rfl
          | none =>
            have e := (hm h).symm.trans (hn h)
            have e : numT m = numT n := by injection e with _ e; injection e
            have h1 := num_is m0 m1
            rw [e, num_is n0 n1] at h1
            injection h1 with h1
            rw [h1]
        rw [this]
        exact hN _ rfl⟩
  rintro ρ rfl
  have bad : ∀ e : D, errR r0 R1 n = e → e.isNon = false → D.flat 60 e = true → (∀ (X : XD) (P : D → Prop), (∀ cls fs, ErrIs A cls fs e → X cls fs) → sp_parse_planX A [.str (textJ (r0 :: R1))] P X) → dSeq (dIfS (dTest (dOp rNotND (dVar 17) (dC .non))) (dRet (dOp rEqDD (dCallA (fun Act => sp_rlaw_error_of A Act) (tab_k39 A O) x0 (dCons (dLam (O 0)) dNil)) (dVar 17))) dNext) (dRet (dOp rEqDD (dCall (sp_format_plan A) x0 (dCons (dCall (sp_parse_planX A) x0 (dCons (dVar 16) dNil)) dNil)) (dVar 16))) { nx := fun _ => False, rt := fun d => d = .bl true } (((env39b a l y3 y4 y5 y6 R (some (.lst (words14.map .str))) y9 y10 y11 y12 y13 y14 y15).set 16 (some (.str (textJ (r0 :: R1))))).set 17 (some e)) := by
    intro e he hnon hf hp
    have ho : e.isOwn = false := by cases e <;> first | rfl | (unfold D.flat at hf; exact nomatch hf)
    walk_at "s"
    refine s_varP (d := e) rfl ho ?_
    walk_at "s"
    rw [hnon]
    refine s_ifN (s_ifF ?_)
    walk_at "s"
    intro Act hA
    refine ⟨O 0, _, rfl, hA _ (List.mem_of_getElem? (i := 0) rfl), fun X hX => ?_⟩
    dsimp only [D_lam_k39_0]
    walk_at "s"
    refine hp X _ fun cls fs hc => hX cls fs ⟨e, hc, ?_⟩
    refine s_varP (d := e) rfl ho ?_
    exact eq_same hf rfl
  cases hl : leadE r0 with
  | some j =>
    have e : errR r0 R1 n = .tup [.str "text", .tup [.int 0, .int (j : Int)]] := by unfold errR; rw [hl]
    rw [e]
    refine bad _ e rfl (flat_tup' (flatL_cons (flat_str' (by decide +kernel)) (flatL_cons (flat_tup' (flatL_cons flat_int' (flatL_cons flat_int' flatL_nil))) flatL_nil))) fun X P hX => ⟨r0, R1, rfl, ct, ?_⟩
    rw [hl]
    exact hX _ _ (.inr (.inr (.inl ⟨rfl, _, _, rfl, rfl, rfl⟩)))
  | none =>
    cases hr : rowsE R1 1 with
    | some q =>
      obtain ⟨k, j⟩ := q
      have e : errR r0 R1 n = .tup [.str "text", .tup [.int (k : Int), .int (j : Int)]] := by unfold errR; rw [hl]; dsimp only; rw [hr]
      rw [e]
      refine bad _ e rfl (flat_tup' (flatL_cons (flat_str' (by decide +kernel)) (flatL_cons (flat_tup' (flatL_cons flat_int' (flatL_cons flat_int' flatL_nil))) flatL_nil))) fun X P hX => ⟨r0, R1, rfl, ct, ?_⟩
      rw [hl]
      dsimp only
      rw [hr]
      exact hX _ _ (.inr (.inr (.inl ⟨rfl, _, _, rfl, rfl, rfl⟩)))
    | none =>
      have en := hn hl
      have uniq : ∀ m : Int, 0 ≤ m → m < 10000 → r0 = [("lead" : Str), numT m] → m = n := fun m m0 m1 em => by
        have e := em.symm.trans en
        have e : numT m = numT n := by injection e with _ e; injection e
        have h1 := num_is m0 m1
        rw [e, num_is n0 n1] at h1
        injection h1 with h1
        exact h1.symm
      cases hp : planE (R1.map dayOf) n with
      | some i =>
        have e : errR r0 R1 n = .tup [.str "plan", .int i] := by unfold errR; rw [hl]; dsimp only; rw [hr]; dsimp only; rw [hp]
        rw [e]
        refine bad _ e rfl (flat_tup' (flatL_cons (flat_str' (by decide +kernel)) (flatL_cons flat_int' flatL_nil))) fun X P hX => ⟨r0, R1, rfl, ct, ?_⟩
        rw [hl]
        dsimp only
        rw [hr]
        intro m m0 m1 em
        rw [uniq m m0 m1 em, hp]
        exact hX _ _ (.inr (.inr (.inr (.inr (.inr (.inr ⟨rfl, _, rfl, rfl⟩))))))
      | none =>
        have e : errR r0 R1 n = .non := by unfold errR; rw [hl]; dsimp only; rw [hr]; dsimp only; rw [hp]
        rw [e]
        walk_at "s"
        refine s_ifN (s_ifT ?_)
        walk_at "s"
        refine ⟨r0, R1, rfl, ct, ?_⟩
        rw [hl]
        dsimp only
        rw [hr]
        intro m m0 m1 em
        rw [uniq m m0 m1 em, hp]
        have c1 := ct.2.1
        rw [List.length_cons] at c1
        refine ⟨R1.map dayOf, n, rfl, by rw [List.length_map]; omega, fun d hd => ?_, n0, n1, ?_⟩
        · obtain ⟨r, hr, rfl⟩ := List.mem_map.mp hd
          have cr := ct.2.2 r (List.mem_cons_of_mem _ hr)
          unfold dayOf
          by_cases z : r = (["-"] : List Str)
          · rw [if_pos z]
            exact ⟨Nat.zero_le _, fun _ h => nomatch h⟩
          · rw [if_neg z]
            exact ⟨by have := cr.2.1; omega, fun w hw => (cr.2.2 w hw).len⟩
        have ew : wordsT (R1.map dayOf) n = textJ (r0 :: R1) := by
          rw [words_textJ, List.map_map, en]
          congr 2
          exact (List.map_congr_left fun r hr => dayW_dayOf (ct.2.2 r (List.mem_cons_of_mem _ hr)).1).trans (List.map_id _)
        rw [ew]
        exact eq_same (flat_str' (textJ_ok ct)) rfl
end Z
end
section
namespace Z
open PySem PySem.Spec PyProof.Rows L2 DL LMX LamX
theorem ns_xi_InvalidPlan : NdefX.NScope ["self", "index", "__class__"] ["self", "index"] ["__class__"] (defScope s_xi_InvalidPlan) := ⟨rfl, rfl, rfl, by decide +kernel, rfl, by decide +kernel, by decide +kernel, by decide +kernel, by decide +kernel⟩
theorem ns_xi_InvalidText : NdefX.NScope ["self", "row", "word", "__class__"] ["self", "row", "word"] ["__class__"] (defScope s_xi_InvalidText) := ⟨rfl, rfl, rfl, by decide +kernel, rfl, by decide +kernel, by decide +kernel, by decide +kernel, by decide +kernel⟩
theorem sc_is_number : FnScope N_is_number ["value", "low", "high"] (defScope s_is_number) := ⟨rfl, rfl, rfl, by decide +kernel, rfl, by decide +kernel, by decide +kernel⟩
theorem sc_is_name : FnScope N_is_name ["word"] (defScope s_is_name) := ⟨rfl, rfl, rfl, by decide +kernel, rfl, by decide +kernel, by decide +kernel⟩
theorem sc_first_wrong_dayX : FnScope N_first_wrong_dayX ["days"] (defScope s_first_wrong_dayX) := ⟨rfl, rfl, rfl, by decide +kernel, rfl, by decide +kernel, by decide +kernel⟩
theorem sc_Plan_initX : FnScope N_Plan_initX ["self", "lead", "days"] (defScope s_Plan_initX) := ⟨rfl, rfl, rfl, by decide +kernel, rfl, by decide +kernel, by decide +kernel⟩
theorem sc_Plan_days : FnScope N_Plan_days ["self"] (defScope s_Plan_days) := ⟨rfl, rfl, rfl, by decide +kernel, rfl, by decide +kernel, by decide +kernel⟩
theorem sc_Plan_lead : FnScope N_Plan_lead ["self"] (defScope s_Plan_lead) := ⟨rfl, rfl, rfl, by decide +kernel, rfl, by decide +kernel, by decide +kernel⟩
theorem sc_row_of : FnScope N_row_of ["names"] (defScope s_row_of) := ⟨rfl, rfl, rfl, by decide +kernel, rfl, by decide +kernel, by decide +kernel⟩
theorem sc_format_plan : FnScope N_format_plan ["plan"] (defScope s_format_plan) := ⟨rfl, rfl, rfl, by decide +kernel, rfl, by decide +kernel, by decide +kernel⟩
theorem sc_is_leadG : FnScope N_is_leadG ["word"] (defScope s_is_leadG) := ⟨rfl, rfl, rfl, by decide +kernel, rfl, by decide +kernel, by decide +kernel⟩
theorem sc_lead_ofX : FnScope N_lead_ofX ["row"] (defScope s_lead_ofX) := ⟨rfl, rfl, rfl, by decide +kernel, rfl, by decide +kernel, by decide +kernel⟩
theorem sc_names_ofX : FnScope N_names_ofX ["row", "number"] (defScope s_names_ofX) := ⟨rfl, rfl, rfl, by decide +kernel, rfl, by decide +kernel, by decide +kernel⟩
theorem sc_parse_planX : FnScope N_parse_planX ["text"] (defScope s_parse_planX) := ⟨rfl, rfl, rfl, by decide +kernel, rfl, by decide +kernel, by decide +kernel⟩
theorem sc_rlaw_random : FnScope ["_law_script", "_law_salt", "_law_seed", "_law_cell"] ["_law_script", "_law_salt"] (defScope s_rlaw_random) := ⟨rfl, rfl, rfl, by decide +kernel, rfl, by decide +kernel, by decide +kernel⟩
theorem sc_rlaw_below : FnScope ["_law_d", "_law_limit", "_law_result"] ["_law_d", "_law_limit"] (defScope s_rlaw_below) := ⟨rfl, rfl, rfl, by decide +kernel, rfl, by decide +kernel, by decide +kernel⟩
theorem sc_rlaw_shuffled : FnScope N_rlaw_shuffled ["_law_d", "_law_items"] (defScope s_rlaw_shuffled) := ⟨rfl, rfl, rfl, by decide +kernel, rfl, by decide +kernel, by decide +kernel⟩
theorem sc_rlaw_days : FnScope N_rlaw_days ["_law_d", "_law_names", "_law_most"] (defScope s_rlaw_days) := ⟨rfl, rfl, rfl, by decide +kernel, rfl, by decide +kernel, by decide +kernel⟩
theorem sc_rlaw_words : FnScope N_rlaw_words ["_law_days_here", "_law_lead"] (defScope s_rlaw_words) := ⟨rfl, rfl, rfl, by decide +kernel, rfl, by decide +kernel, by decide +kernel⟩
theorem sc_rlaw_equal : FnScope N_rlaw_equal9 ["_law_actual", "_law_expected_here"] (defScope s_rlaw_equal) := ⟨rfl, rfl, rfl, by decide +kernel, rfl, by decide +kernel, by decide +kernel⟩
theorem sc_rlaw_is_number : FnScope N_rlaw_is_number ["_law_word"] (defScope s_rlaw_is_number) := ⟨rfl, rfl, rfl, by decide +kernel, rfl, by decide +kernel, by decide +kernel⟩
theorem sc_rlaw_is_name : FnScope N_rlaw_is_name ["_law_word"] (defScope s_rlaw_is_name) := ⟨rfl, rfl, rfl, by decide +kernel, rfl, by decide +kernel, by decide +kernel⟩
theorem sc_rlaw_expected : FnScope N_rlaw_expected ["_law_rows"] (defScope s_rlaw_expected) := ⟨rfl, rfl, rfl, by decide +kernel, rfl, by decide +kernel, by decide +kernel⟩
theorem sc_rlaw_error_of : FnScope N_rlaw_error_of ["_law_call"] (defScope s_rlaw_error_of) := ⟨rfl, rfl, rfl, by decide +kernel, rfl, by decide +kernel, by decide +kernel⟩
theorem sc_law : FnScope N_law_k39 ["_law_script"] (defScope s_law) := ⟨rfl, rfl, rfl, by decide +kernel, rfl, by decide +kernel, by decide +kernel⟩
structure Txt (P : Program) (K : PySem.W.Frag) (mg : Str → Option Value) where
  A : Cs
  f_is_number : Addr
  d_is_number : FuncData
  F_is_number : Fun K "is_number" "is_number" s_is_number f_is_number d_is_number
  m_is_number : mg "is_number" = some (.ref f_is_number)
  b_is_number : L2.Binds K d_is_number ["value", "low", "high"] []
  f_is_name : Addr
  d_is_name : FuncData
  F_is_name : Fun K "is_name" "is_name" s_is_name f_is_name d_is_name
  m_is_name : mg "is_name" = some (.ref f_is_name)
  b_is_name : L2.Binds K d_is_name ["word"] []
  f_first_wrong_dayX : Addr
  d_first_wrong_dayX : FuncData
  F_first_wrong_dayX : Fun K "_first_wrong_day" "_first_wrong_day" s_first_wrong_dayX f_first_wrong_dayX d_first_wrong_dayX
  m_first_wrong_dayX : mg "_first_wrong_day" = some (.ref f_first_wrong_dayX)
  b_first_wrong_dayX : L2.Binds K d_first_wrong_dayX ["days"] []
  f_Plan_initX : Addr
  d_Plan_initX : FuncData
  F_Plan_initX : Fun K "__init__" "Plan.__init__" s_Plan_initX f_Plan_initX d_Plan_initX
  f_Plan_days : Addr
  d_Plan_days : FuncData
  F_Plan_days : Fun K "days" "Plan.days" s_Plan_days f_Plan_days d_Plan_days
  b_Plan_days : L2.Binds K d_Plan_days ["self"] []
  p_Plan_days : Addr
  P_Plan_days : PropOf K A.Plan "days" p_Plan_days f_Plan_days
  f_Plan_lead : Addr
  d_Plan_lead : FuncData
  F_Plan_lead : Fun K "lead" "Plan.lead" s_Plan_lead f_Plan_lead d_Plan_lead
  b_Plan_lead : L2.Binds K d_Plan_lead ["self"] []
  p_Plan_lead : Addr
  P_Plan_lead : PropOf K A.Plan "lead" p_Plan_lead f_Plan_lead
  f_row_of : Addr
  d_row_of : FuncData
  F_row_of : Fun K "_row_of" "_row_of" s_row_of f_row_of d_row_of
  m_row_of : mg "_row_of" = some (.ref f_row_of)
  b_row_of : L2.Binds K d_row_of ["names"] []
  f_format_plan : Addr
  d_format_plan : FuncData
  F_format_plan : Fun K "format_plan" "format_plan" s_format_plan f_format_plan d_format_plan
  m_format_plan : mg "format_plan" = some (.ref f_format_plan)
  b_format_plan : L2.Binds K d_format_plan ["plan"] []
  f_is_leadG : Addr
  d_is_leadG : FuncData
  F_is_leadG : Fun K "_is_lead" "_is_lead" s_is_leadG f_is_leadG d_is_leadG
  m_is_leadG : mg "_is_lead" = some (.ref f_is_leadG)
  b_is_leadG : L2.Binds K d_is_leadG ["word"] []
  f_lead_ofX : Addr
  d_lead_ofX : FuncData
  F_lead_ofX : Fun K "_lead_of" "_lead_of" s_lead_ofX f_lead_ofX d_lead_ofX
  m_lead_ofX : mg "_lead_of" = some (.ref f_lead_ofX)
  b_lead_ofX : L2.Binds K d_lead_ofX ["row"] []
  f_names_ofX : Addr
  d_names_ofX : FuncData
  F_names_ofX : Fun K "_names_of" "_names_of" s_names_ofX f_names_ofX d_names_ofX
  m_names_ofX : mg "_names_of" = some (.ref f_names_ofX)
  b_names_ofX : L2.Binds K d_names_ofX ["row", "number"] []
  f_parse_planX : Addr
  d_parse_planX : FuncData
  F_parse_planX : Fun K "parse_plan" "parse_plan" s_parse_planX f_parse_planX d_parse_planX
  m_parse_planX : mg "parse_plan" = some (.ref f_parse_planX)
  b_parse_planX : L2.Binds K d_parse_planX ["text"] []
  f_rlaw_random : Addr
  d_rlaw_random : FuncData
  F_rlaw_random : Fun K "_law_random" "_law_random" s_rlaw_random f_rlaw_random d_rlaw_random
  m_rlaw_random : mg "_law_random" = some (.ref f_rlaw_random)
  b_rlaw_random : L2.Binds K d_rlaw_random ["_law_script", "_law_salt"] []
  f_rlaw_below : Addr
  d_rlaw_below : FuncData
  F_rlaw_below : Fun K "_law_below" "_law_below" s_rlaw_below f_rlaw_below d_rlaw_below
  m_rlaw_below : mg "_law_below" = some (.ref f_rlaw_below)
  b_rlaw_below : L2.Binds K d_rlaw_below ["_law_d", "_law_limit"] []
  f_rlaw_shuffled : Addr
  d_rlaw_shuffled : FuncData
  F_rlaw_shuffled : Fun K "_law_shuffled" "_law_shuffled" s_rlaw_shuffled f_rlaw_shuffled d_rlaw_shuffled
  m_rlaw_shuffled : mg "_law_shuffled" = some (.ref f_rlaw_shuffled)
  b_rlaw_shuffled : L2.Binds K d_rlaw_shuffled ["_law_d", "_law_items"] []
  f_rlaw_days : Addr
  d_rlaw_days : FuncData
  F_rlaw_days : Fun K "_law_days" "_law_days" s_rlaw_days f_rlaw_days d_rlaw_days
  m_rlaw_days : mg "_law_days" = some (.ref f_rlaw_days)
  b_rlaw_days : L2.Binds K d_rlaw_days ["_law_d", "_law_names", "_law_most"] []
  f_rlaw_words : Addr
  d_rlaw_words : FuncData
  F_rlaw_words : Fun K "_law_words" "_law_words" s_rlaw_words f_rlaw_words d_rlaw_words
  m_rlaw_words : mg "_law_words" = some (.ref f_rlaw_words)
  b_rlaw_words : L2.Binds K d_rlaw_words ["_law_days_here", "_law_lead"] []
  f_rlaw_equal : Addr
  d_rlaw_equal : FuncData
  F_rlaw_equal : Fun K "_law_equal" "_law_equal" s_rlaw_equal f_rlaw_equal d_rlaw_equal
  m_rlaw_equal : mg "_law_equal" = some (.ref f_rlaw_equal)
  b_rlaw_equal : L2.Binds K d_rlaw_equal ["_law_actual", "_law_expected_here"] []
  f_rlaw_is_number : Addr
  d_rlaw_is_number : FuncData
  F_rlaw_is_number : Fun K "_law_is_number" "_law_is_number" s_rlaw_is_number f_rlaw_is_number d_rlaw_is_number
  m_rlaw_is_number : mg "_law_is_number" = some (.ref f_rlaw_is_number)
  b_rlaw_is_number : L2.Binds K d_rlaw_is_number ["_law_word"] []
  f_rlaw_is_name : Addr
  d_rlaw_is_name : FuncData
  F_rlaw_is_name : Fun K "_law_is_name" "_law_is_name" s_rlaw_is_name f_rlaw_is_name d_rlaw_is_name
  m_rlaw_is_name : mg "_law_is_name" = some (.ref f_rlaw_is_name)
  b_rlaw_is_name : L2.Binds K d_rlaw_is_name ["_law_word"] []
  f_rlaw_expected : Addr
  d_rlaw_expected : FuncData
  F_rlaw_expected : Fun K "_law_expected" "_law_expected" s_rlaw_expected f_rlaw_expected d_rlaw_expected
  m_rlaw_expected : mg "_law_expected" = some (.ref f_rlaw_expected)
  b_rlaw_expected : L2.Binds K d_rlaw_expected ["_law_rows"] []
  f_rlaw_error_of : Addr
  d_rlaw_error_of : FuncData
  F_rlaw_error_of : Fun K "_law_error_of" "_law_error_of" s_rlaw_error_of f_rlaw_error_of d_rlaw_error_of
  m_rlaw_error_of : mg "_law_error_of" = some (.ref f_rlaw_error_of)
  b_rlaw_error_of : L2.Binds K d_rlaw_error_of ["_law_call"] []
  f_law : Addr
  d_law : FuncData
  F_law : Fun K "law" "law" s_law f_law d_law
  m_law : mg "law" = some (.ref f_law)
  b_law : L2.Binds K d_law ["_law_script"] []
  fX_InvalidPlan : Addr
  dX_InvalidPlan : FuncData
  FX_InvalidPlan : FunS P K "__init__" "InvalidPlan.__init__" s_xi_InvalidPlan A.InvalidPlan fX_InvalidPlan dX_InvalidPlan
  xi_InvalidPlan : XiOk P K mg A.InvalidPlan ["index"] fX_InvalidPlan
  fX_InvalidText : Addr
  dX_InvalidText : FuncData
  FX_InvalidText : FunS P K "__init__" "InvalidText.__init__" s_xi_InvalidText A.InvalidText fX_InvalidText dX_InvalidText
  xi_InvalidText : XiOk P K mg A.InvalidText ["row", "word"] fX_InvalidText
  m_DecodeError : mg "DecodeError" = some (.ref A.DecodeError)
  m_FarmError : mg "FarmError" = some (.ref A.FarmError)
  m_InvalidCart : mg "InvalidCart" = some (.ref A.InvalidCart)
  m_InvalidNumber : mg "InvalidNumber" = some (.ref A.InvalidNumber)
  m_InvalidOperation : mg "InvalidOperation" = some (.ref A.InvalidOperation)
  m_InvalidPlan : mg "InvalidPlan" = some (.ref A.InvalidPlan)
  m_InvalidText : mg "InvalidText" = some (.ref A.InvalidText)
  cls_Plan : Cls K A.Plan
  m_Plan : mg "Plan" = some (.ref A.Plan)
  m_UnknownField : mg "UnknownField" = some (.ref A.UnknownField)
  mk_Plan : Mk K A.Plan f_Plan_initX
  no_Plan__days : NoAttr K A.Plan "_days"
  no_Plan__lead : NoAttr K A.Plan "_lead"
  g_ValueError : mg "ValueError" = none
  g_abs : mg "abs" = none
  g_all : mg "all" = none
  g_bool : mg "bool" = none
  g_enumerate : mg "enumerate" = none
  g_int : mg "int" = none
  g_isinstance : mg "isinstance" = none
  g_len : mg "len" = none
  g_list : mg "list" = none
  g_min : mg "min" = none
  g_range : mg "range" = none
  g_set : mg "set" = none
  g_str : mg "str" = none
  g_tuple : mg "tuple" = none
  k_DIGITS : ∃ u, mg "DIGITS" = some u ∧ RelV (V.str "0123456789") u
  k_LEAD_WORD : ∃ u, mg "LEAD_WORD" = some u ∧ RelV (V.str "lead") u
  k_LETTERS : ∃ u, mg "LETTERS" = some u ∧ RelV (V.str "abcdefghijklmnopqrstuvwxyz") u
  k_MAX_DAYS : ∃ u, mg "MAX_DAYS" = some u ∧ RelV (V.int 5000) u
  k_MAX_LEAD_DIGITS : ∃ u, mg "MAX_LEAD_DIGITS" = some u ∧ RelV (V.int 4) u
  k_MAX_NAME : ∃ u, mg "MAX_NAME" = some u ∧ RelV (V.int 8) u
  k_NOTHING : ∃ u, mg "NOTHING" = some u ∧ RelV (V.str "-") u
  xk : ∀ c d b, A.exm c d = some b → XkOk K ["index", "part", "name", "row", "word", "offset"] c
  xem : ∀ c d b, A.exm c d = some b → PySem.W.exmOne K (.ref c) (.ref d) = some b
  xia : ∀ c d b, A.isa c d = some b → PySem.W.kitOne K (.ref c) (.ref d) = some b
  xiv : ∀ c b, A.isv c = some b → PySem.W.kitOne K (.ref c) (.type "ValueError") = some b
  xt : XTab A [A.InvalidCart, A.InvalidOperation, A.InvalidText, A.DecodeError, A.UnknownField, A.InvalidNumber, A.InvalidPlan]
section
variable {P : Program} {w : World} {K : PySem.W.Frag} {S : Sit} {mg : Str → Option Value} {base : Heap} {Hs : Hp} {l p : Addr} {ns : List Int}
theorem xc_InvalidPlan (T : Txt P K mg) : XCls P w K mg base 1 "InvalidPlan" T.A.InvalidPlan ["index"] :=
  xcls_of T.xi_InvalidPlan T.m_InvalidPlan (fn_xi1 (k := 0) T.FX_InvalidPlan T.xi_InvalidPlan.U T.xi_InvalidPlan.T T.xi_InvalidPlan.hm T.xi_InvalidPlan.hB (T.xi_InvalidPlan.hg _ (by simp)) rfl ns_xi_InvalidPlan rfl rfl rfl rfl (by decide) (by decide) (fun _ => rfl) (fun X hN0 hv0 => ⟨_, .cons pe_str (.cons (pe_fmt (pe_var (i := 1) hN0 hv0 (by decide) (by decide))) (.nil)), by decide, fun σ y0 h0 f0 => List.forall_mem_cons.mpr ⟨txp_c (by decide +kernel), List.forall_mem_cons.mpr ⟨txp_fmt h0 f0, fun _ h => nomatch h⟩⟩⟩))
    (T.FX_InvalidPlan.kbn fun kV doc pm an cda ct cc us ws l1 l2 => match us, ws, l1, l2 with | [_], [_], _, _ => rfl)
theorem xc_InvalidText (T : Txt P K mg) : XCls P w K mg base 1 "InvalidText" T.A.InvalidText ["row", "word"] :=
  xcls_of T.xi_InvalidText T.m_InvalidText (fn_xi2 (k := 0) T.FX_InvalidText T.xi_InvalidText.U T.xi_InvalidText.T T.xi_InvalidText.hm T.xi_InvalidText.hB (T.xi_InvalidText.hg _ (by simp)) (T.xi_InvalidText.hg _ (by simp)) rfl ns_xi_InvalidText rfl rfl rfl rfl (by decide) (by decide) (by decide) (by decide) (fun _ => rfl) (fun X hN0 hN1 hv0 hv1 => ⟨_, .cons pe_str (.cons (pe_fmt (pe_var (i := 2) hN1 hv1 (by decide) (by decide))) (.cons pe_str (.cons (pe_fmt (pe_var (i := 1) hN0 hv0 (by decide) (by decide))) (.nil)))), by decide, fun σ y0 y1 h0 h1 f0 f1 => List.forall_mem_cons.mpr ⟨txp_c (by decide +kernel), List.forall_mem_cons.mpr ⟨txp_fmt h1 f1, List.forall_mem_cons.mpr ⟨txp_c (by decide +kernel), List.forall_mem_cons.mpr ⟨txp_fmt h0 f0, fun _ h => nomatch h⟩⟩⟩⟩⟩))
    (T.FX_InvalidText.kbn fun kV doc pm an cda ct cc us ws l1 l2 => match us, ws, l1, l2 with | [_], [_, _], _, _ => rfl)
theorem ok_is_number (T : Txt P K mg) : FnOk P w K mg base CX0 1 T.f_is_number T.d_is_number ["value", "low", "high"] (liftSp K S (sp_is_number T.A)) :=
  fn_deep (tD := D_is_number T.A) T.F_is_number sc_is_number (len_is_number T.A) (pure_is_number T.A) fun c cdv A outer s H E hr => ⟨_, (dss_one (ds_ret (de_and (de_isi rfl kit_int T.g_isinstance T.g_int PyProof.Rows.boot_int (de_var 0)) (de_and (de_not (de_isi rfl kit_bool T.g_isinstance T.g_bool PyProof.Rows.boot_bool (de_var 0))) (de_one (de_chain op_le wr_le op_le wr_le (de_var 1) (de_var 0) (de_var 2)))))))⟩
theorem ok_is_name (T : Txt P K mg) : FnOk P w K mg base CX0 1 T.f_is_name T.d_is_name ["word"] (liftSp K S (sp_is_name T.A)) :=
  fn_deep (tD := D_is_name T.A) T.F_is_name sc_is_name (len_is_name T.A) (pure_is_name T.A) fun c cdv A outer s H E hr => ⟨_, (dss_one (ds_ret (de_and (de_isi rfl kit_str T.g_isinstance T.g_str PyProof.Rows.boot_str (de_var 0)) (de_and (de_chain op_le wr_le op_le wr_le de_int (de_cb (call_lenK rfl) wc_len T.g_len PySem.boot_len (da_cons (de_var 0) da_nil)) (de_globE (d := (.int 8)) rfl T.k_MAX_NAME)) (de_one (de_cb (crK_all rfl rfl) wc_all T.g_all (by decide +kernel) (da_cons (de_n (dn_lc (own := [("letter", 1)]) rfl sc_is_name.nd (di_str (de_var 0)) (blkOk_by (by rfl)) (fun _ _ _ _ _ => (dg_name 1 sc_is_name.nd)) (fun _ _ _ _ _ => dts_nil) (fun _ _ _ _ _ => (de_cmp op_in_sign wr_inS (de_var 1) (de_globE (d := (.str "abcdefghijklmnopqrstuvwxyz")) rfl T.k_LETTERS) (by rfl))) (by decide))) da_nil)))))))⟩
theorem ok_first_wrong_dayX (T : Txt P K mg) : FnOk P w K mg base (L2.CX P w) 1 T.f_first_wrong_dayX T.d_first_wrong_dayX ["days"] (liftSp K S (sp_first_wrong_dayX T.A)) :=
  fn_deepX (tD := fun x => D_first_wrong_dayX T.A x) T.F_first_wrong_dayX sc_first_wrong_dayX (len_first_wrong_dayX T.A) (pure_first_wrong_dayX T.A) fun c cdv A outer s H hr xc => ⟨_, (dss_cons (ds_for xc.own rfl (di_enumT rfl T.g_enumerate (da_cons (de_var 0) da_nil)) (dg_tup rfl rfl (dgs_cons (dg_name 1 sc_first_wrong_dayX.nd) (dgs_cons (dg_name 2 sc_first_wrong_dayX.nd) dgs_nil))) (dss_one (ds_if (DW.tst (dw_or (dt_cmp (opK_eq rfl (have hq := room64 hr; hq)) wr_eq (de_var 1) (de_globE (d := (.int 5000)) rfl T.k_MAX_DAYS) (nomark _)) (dw_or1 (dt_cmp op_lt wr_lt (de_met rfl rfl T.g_len T.g_set (de_var 2)) (de_cb (call_lenK rfl) wc_len T.g_len PySem.boot_len (da_cons (de_var 2) da_nil)) (nomark _))))) (dss_one (ds_ret (de_var 1))) dss_nil))) (dss_one (ds_ret de_non)))⟩
theorem ok_Plan_initX (T : Txt P K mg) : FnKw P w K mg base (L2.CX P w) 3 T.f_Plan_initX "lead" (spInK K S T.A.Plan (in_PlanX T.A)) :=
  fn_initKX (tD := fun x => D_Plan_initX T.A x) T.F_Plan_initX sc_Plan_initX (fun _ _ _ _ _ _ _ _ => rfl) (fun _ _ _ _ _ _ _ _ _ _ => rfl) (pure_Plan_initX T.A) fun c cdv A outer s H hr xc => ⟨_, (dss_cons (ds_set 3 sc_Plan_initX.nd (de_callG (ok_first_wrong_dayX T) (hr.mono (by decide : 1 ≤ 2)) T.m_first_wrong_dayX T.F_first_wrong_dayX.kp T.b_first_wrong_dayX xc.pass xc.ok (da_cons (de_var 2) da_nil))) (dss_cons (ds_if (DW.tst (dw_and (dt_cmp op_isN wr_isN (de_var 3) de_non (nomark _)) (dw_and1 (dt_not (dt_val (de_call0 (ok_is_number T) (hr.mono (by decide : 1 ≤ 2)) T.m_is_number T.F_is_number.kp T.b_is_number (da_cons (de_var 1) (da_cons de_int (da_cons (de_op op_sub wr_sub (de_cb (call_lenK rfl) wc_len T.g_len PySem.boot_len (da_cons (de_var 2) da_nil)) de_int) da_nil))))))))) (dss_one (ds_set 3 sc_Plan_initX.nd (de_cb (call_lenK rfl) wc_len T.g_len PySem.boot_len (da_cons (de_var 2) da_nil)))) dss_nil) (dss_cons (ds_if (dt_cmp op_notN wr_notN (de_var 3) de_non (nomark _)) (dss_one (ds_raiseK rfl rfl xc (xc_InvalidPlan T) (hr.mono (by decide : 2 ≤ 2)) (dk_cons (de_var 3) dk_nil))) dss_nil) (dss_cons (ds_fldS 0 rfl T.cls_Plan T.no_Plan__days (de_cty (ctK_tuple rfl) wc_tuple T.g_tuple (by decide +kernel) (da_cons (de_n (dn_lc (own := [("names", 4)]) rfl sc_Plan_initX.nd (di_tup rfl (de_var 2)) (blkOk_by (by rfl)) (fun _ _ _ _ _ => (dg_name 4 sc_Plan_initX.nd)) (fun _ _ _ _ _ => dts_nil) (fun _ _ _ _ _ => (de_cty (ctK_tuple rfl) wc_tuple T.g_tuple (by decide +kernel) (da_cons (de_var 4) da_nil))) (by decide))) da_nil))) (dss_one (ds_fldS 0 rfl T.cls_Plan T.no_Plan__lead (de_var 1)))))))⟩
theorem ok_Plan_days (T : Txt P K mg) : FnOk P w K mg base CX0 1 T.f_Plan_days T.d_Plan_days ["self"] (liftSp K S (sp_Plan_days T.A)) :=
  fn_deep (tD := D_Plan_days T.A) T.F_Plan_days sc_Plan_days (len_Plan_days T.A) (pure_Plan_days T.A) fun c cdv A outer s H E hr => ⟨_, (dss_one (ds_ret (de_fld rfl T.cls_Plan T.no_Plan__days (de_var 0))))⟩
theorem ok_Plan_lead (T : Txt P K mg) : FnOk P w K mg base CX0 1 T.f_Plan_lead T.d_Plan_lead ["self"] (liftSp K S (sp_Plan_lead T.A)) :=
  fn_deep (tD := D_Plan_lead T.A) T.F_Plan_lead sc_Plan_lead (len_Plan_lead T.A) (pure_Plan_lead T.A) fun c cdv A outer s H E hr => ⟨_, (dss_one (ds_ret (de_fld rfl T.cls_Plan T.no_Plan__lead (de_var 0))))⟩
theorem ok_row_of (T : Txt P K mg) : FnOk P w K mg base CX0 1 T.f_row_of T.d_row_of ["names"] (liftSp K S (sp_row_of T.A)) :=
  fn_deep (tD := D_row_of T.A) T.F_row_of sc_row_of (len_row_of T.A) (pure_row_of T.A) fun c cdv A outer s H E hr => ⟨_, (dss_cons (ds_if (dt_not (dt_tru rfl (de_var 0))) (dss_one (ds_ret (de_globE (d := (.str "-")) rfl T.k_NOTHING))) dss_nil) (dss_one (ds_ret (de_bm rfl PySem.F.plainAttrs_str PySem.F.slot_str_join PySem.F.type_str_join mt_join wm_join de_str (da_cons (de_var 0) da_nil)))))⟩
theorem ok_format_plan (T : Txt P K mg) : FnOk P w K mg base CX0 3 T.f_format_plan T.d_format_plan ["plan"] (liftSp K S (sp_format_plan T.A)) :=
  fn_deep (tD := D_format_plan T.A) T.F_format_plan sc_format_plan (len_format_plan T.A) (pure_format_plan T.A) fun c cdv A outer s H E hr => ⟨_, (dss_cons (ds_setN 1 sc_format_plan.nd (dn_lst (da_cons (de_join (.cons (de_fmt (de_globE (d := (.str "lead")) rfl T.k_LEAD_WORD)) (.cons de_str (.cons (de_fmt (de_prop T.cls_Plan T.P_Plan_lead (ok_Plan_lead T) (hr.mono (by decide : 2 ≤ 2)) T.b_Plan_lead (de_var 0))) .nil)))) da_nil))) (dss_cons (ds_ext 1 rfl (de_n (dn_lc (own := [("names", 2)]) rfl sc_format_plan.nd (di_tup rfl (de_prop T.cls_Plan T.P_Plan_days (ok_Plan_days T) (hr.mono (by decide : 2 ≤ 2)) T.b_Plan_days (de_var 0))) (blkOk_by (by rfl)) (fun _ _ _ _ _ => (dg_name 2 sc_format_plan.nd)) (fun _ _ _ _ _ => dts_nil) (fun _ _ _ _ _ => (de_call0 (ok_row_of T) (hr.mono (by decide : 1 ≤ 2)) T.m_row_of T.F_row_of.kp T.b_row_of (da_cons (de_var 2) da_nil))) (by decide)))) (dss_one (ds_ret (de_bm rfl PySem.F.plainAttrs_str PySem.F.slot_str_join PySem.F.type_str_join mt_join wm_join de_str (da_cons (de_var 1) da_nil))))))⟩
theorem ok_is_leadG (T : Txt P K mg) : FnOk P w K mg base CX0 1 T.f_is_leadG T.d_is_leadG ["word"] (liftSp K S (sp_is_leadG T.A)) :=
  fn_deep (tD := D_is_leadG T.A) T.F_is_leadG sc_is_leadG (len_is_leadG T.A) (pure_is_leadG T.A) fun c cdv A outer s H E hr => ⟨_, (dss_cons (ds_if (DW.tst (dw_or (dt_not (dt_chain op_le wr_le op_le wr_le de_int (de_cb (call_lenK rfl) wc_len T.g_len PySem.boot_len (da_cons (de_var 0) da_nil)) (de_globE (d := (.int 4)) rfl T.k_MAX_LEAD_DIGITS))) (dw_or1 (dt_not (dt_val (de_cb (crK_all rfl rfl) wc_all T.g_all (by decide +kernel) (da_cons (de_n (dn_lc (own := [("sign", 1)]) rfl sc_is_leadG.nd (di_str (de_var 0)) (blkOk_by (by rfl)) (fun _ _ _ _ _ => (dg_name 1 sc_is_leadG.nd)) (fun _ _ _ _ _ => dts_nil) (fun _ _ _ _ _ => (de_cmp op_in_sign wr_inS (de_var 1) (de_globE (d := (.str "0123456789")) rfl T.k_DIGITS) (by rfl))) (by decide))) da_nil))))))) (dss_one (ds_ret de_bl)) dss_nil) (dss_one (ds_ret (de_or (de_cmp (opK_eq rfl (have hq := room64 hr; hq)) wr_eq (de_var 0) de_str (nomark _)) (de_one (de_cmp (opK_ne rfl (have hq := room64 hr; hq)) wr_ne (de_ix rfl (de_var 0) de_int) de_str (nomark _)))))))⟩
theorem ok_lead_ofX (T : Txt P K mg) : FnOk P w K mg base (L2.CX P w) 3 T.f_lead_ofX T.d_lead_ofX ["row"] (liftSp K S (sp_lead_ofX T.A)) :=
  fn_deepX (tD := fun x => D_lead_ofX T.A x) T.F_lead_ofX sc_lead_ofX (len_lead_ofX T.A) (pure_lead_ofX T.A) fun c cdv A outer s H hr xc => ⟨_, (dss_cons (ds_set 1 sc_lead_ofX.nd (de_bm rfl PySem.F.plainAttrs_str PySem.F.slot_str_split PySem.F.type_str_split mt_split wm_split (de_var 0) (da_cons de_str da_nil))) (dss_cons (ds_if (dt_cmp (opK_ne rfl (have hq := room64 hr; hq)) wr_ne (de_ix rfl (de_var 1) de_int) (de_globE (d := (.str "lead")) rfl T.k_LEAD_WORD) (nomark _)) (dss_one (ds_raiseK rfl rfl xc (xc_InvalidText T) (hr.mono (by decide : 2 ≤ 2)) (dk_cons de_int (dk_cons de_int dk_nil)))) dss_nil) (dss_cons (ds_if (DW.tst (dw_or (dt_cmp op_lt wr_lt (de_cb (call_lenK rfl) wc_len T.g_len PySem.boot_len (da_cons (de_var 1) da_nil)) de_int (nomark _)) (dw_or1 (dt_not (dt_val (de_call0 (ok_is_leadG T) (hr.mono (by decide : 1 ≤ 2)) T.m_is_leadG T.F_is_leadG.kp T.b_is_leadG (da_cons (de_ix rfl (de_var 1) de_int) da_nil))))))) (dss_one (ds_raiseK rfl rfl xc (xc_InvalidText T) (hr.mono (by decide : 2 ≤ 2)) (dk_cons de_int (dk_cons de_int dk_nil)))) dss_nil) (dss_cons (ds_if (dt_cmp op_gt wr_gt (de_cb (call_lenK rfl) wc_len T.g_len PySem.boot_len (da_cons (de_var 1) da_nil)) de_int (nomark _)) (dss_one (ds_raiseK rfl rfl xc (xc_InvalidText T) (hr.mono (by decide : 2 ≤ 2)) (dk_cons de_int (dk_cons de_int dk_nil)))) dss_nil) (dss_one (ds_ret (de_cty call_int_str wc_intS T.g_int (by decide +kernel) (da_cons (de_ix rfl (de_var 1) de_int) da_nil))))))))⟩
theorem ok_names_ofX (T : Txt P K mg) : FnOk P w K mg base (L2.CX P w) 3 T.f_names_ofX T.d_names_ofX ["row", "number"] (liftSp K S (sp_names_ofX T.A)) :=
  fn_deepX (tD := fun x => D_names_ofX T.A x) T.F_names_ofX sc_names_ofX (len_names_ofX T.A) (pure_names_ofX T.A) fun c cdv A outer s H hr xc => ⟨_, (dss_cons (ds_if (dt_cmp (opK_eq rfl (have hq := room64 hr; hq)) wr_eq (de_var 0) (de_globE (d := (.str "-")) rfl T.k_NOTHING) (nomark _)) (dss_one (ds_ret (de_tup da_nil))) dss_nil) (dss_cons (ds_set 2 sc_names_ofX.nd (de_bm rfl PySem.F.plainAttrs_str PySem.F.slot_str_split PySem.F.type_str_split mt_split wm_split (de_var 0) (da_cons de_str da_nil))) (dss_cons (ds_for xc.own rfl (di_enumL rfl T.g_enumerate (da_cons (de_var 2) da_nil)) (dg_tup rfl rfl (dgs_cons (dg_name 3 sc_names_ofX.nd) (dgs_cons (dg_name 4 sc_names_ofX.nd) dgs_nil))) (dss_one (ds_if (dt_not (dt_val (de_call0 (ok_is_name T) (hr.mono (by decide : 1 ≤ 2)) T.m_is_name T.F_is_name.kp T.b_is_name (da_cons (de_var 4) da_nil)))) (dss_one (ds_raiseK rfl rfl xc (xc_InvalidText T) (hr.mono (by decide : 2 ≤ 2)) (dk_cons (de_var 1) (dk_cons (de_var 3) dk_nil)))) dss_nil))) (dss_one (ds_ret (de_cty (ctK_tuple rfl) wc_tuple T.g_tuple (by decide +kernel) (da_cons (de_var 2) da_nil)))))))⟩
theorem ok_parse_planX (T : Txt P K mg) : FnOk P w K mg base (L2.CX P w) 5 T.f_parse_planX T.d_parse_planX ["text"] (liftSp K S (sp_parse_planX T.A)) :=
  fn_deepX (tD := fun x => D_parse_planX T.A x) T.F_parse_planX sc_parse_planX (len_parse_planX T.A) (pure_parse_planX T.A) fun c cdv A outer s H hr xc => ⟨_, (dss_cons (ds_set 1 sc_parse_planX.nd (de_bm rfl PySem.F.plainAttrs_str PySem.F.slot_str_split PySem.F.type_str_split mt_split wm_split (de_var 0) (da_cons de_str da_nil))) (dss_cons (ds_set 2 sc_parse_planX.nd (de_callG (ok_lead_ofX T) (hr.mono (by decide : 3 ≤ 4)) T.m_lead_ofX T.F_lead_ofX.kp T.b_lead_ofX xc.pass xc.ok (da_cons (de_ix rfl (de_var 1) de_int) da_nil))) (dss_cons (ds_setLcX 3 (own := [("place", 4), ("row", 5)]) xc rfl rfl rfl sc_parse_planX.nd (di_enumL rfl T.g_enumerate (da_cons (de_slL rfl (de_var 1) (do_yes de_int) do_no) da_nil)) (blkOk_by (by rfl)) (fun _ _ _ _ _ => (dg_tup rfl rfl (dgs_cons (dg_name 4 sc_parse_planX.nd) (dgs_cons (dg_name 5 sc_parse_planX.nd) dgs_nil)))) (fun _ _ _ _ _ => dts_nil) (fun _ _ _ _ _ => (de_callG (ok_names_ofX T) (hr.mono (by decide : 3 ≤ 4)) T.m_names_ofX T.F_names_ofX.kp T.b_names_ofX blk_pass xc.ok (da_cons (de_var 5) (da_cons (de_op op_add wr_add (de_var 4) de_int) da_nil)))) (by decide)) (dss_one (ds_ret (de_makeSK rfl T.mk_Plan (ok_Plan_initX T) (hr.mono (by decide : 4 ≤ 4)) T.m_Plan xc.pass xc.ok (de_var 3) (de_var 2)))))))⟩
theorem ok_rlaw_random (T : Txt P K mg) : FnOk P w K mg base CX0 1 T.f_rlaw_random T.d_rlaw_random ["_law_script", "_law_salt"] (spRandom K) :=
  random_ok T.F_rlaw_random sc_rlaw_random fun cdv A outer s H E => pss_cons (ps_set (i := 2) sc_rlaw_random.nd rfl (.inl rfl) (xv 1) rfl (.inl rfl)) (pss_cons (ps_for PassesOwn.never rfl (pi_list (xv 0)) (pg_name (i := 3) sc_rlaw_random.nd rfl (.inl rfl) (.inl rfl))
    (pss_one (ps_set (i := 2) sc_rlaw_random.nd rfl (.inl rfl) (pe_op op_mod (pe_op op_add (pe_op op_mul (xv 2) pe_int) (pe_callB call_abs rfl T.g_abs (by decide +kernel) (pa_cons (xv 3) pa_nil))) pe_int) rfl (.inl rfl))))
    (pss_one (ps_ret (pe_op op_cat (pe_lst (pa_cons (xv 2) (pa_cons pe_int pa_nil))) (pe_lc (own := [("_law_cell", 3)]) rfl sc_rlaw_random.nd (pi_list (xv 0)) (blkOk_by (by rfl)) (fun _ _ _ _ _ => pg_name (i := 3) sc_rlaw_random.nd rfl (by first | exact Or.inl rfl | exact Or.inr rfl) (by first | exact .inl rfl | exact .inr rfl)) (fun _ _ _ _ _ => pts_one (pt_cmpR op_ge (xv 3) (pe_op op_pow pe_int pe_int) (nomark _))) (fun _ _ _ _ _ => xv 3) (by intro _; rfl))))))
theorem ok_rlaw_below (T : Txt P K mg) : FnOk P w K mg base CX0 1 T.f_rlaw_below T.d_rlaw_below ["_law_d", "_law_limit"] (liftSp K (RnSit Hs l) (spDrawn l)) := by
  refine below_ok T.F_rlaw_below sc_rlaw_below fun cdv A outer s H E => ?_
  exact pss_cons (ps_if (PW.pt (pw_and (pt_cmpR op_eqI0 (xix 1) pe_int (nomark _)) (pw_and1 (pt_cmpR op_gt (pe_callB call_len_seq rfl T.g_len boot_len (pa_cons (xv 0) pa_nil)) pe_int (nomark _))))) (pss_one (ps_asg (pe_popE 0 rfl pe_int) (xput 1))) pss_nil)
    (pss_cons (ps_if (pt_cmpR op_gt (xix 1) pe_int (nomark _)) (pss_cons (ps_set (i := 2) sc_rlaw_below.nd rfl (Or.inl rfl) (pe_op op_mod (xix 1) (xv 1)) rfl (.inl rfl))
      (pss_cons (ps_asg (pe_op op_fdiv (xix 1) (xv 1)) (xput 1)) (pss_one (ps_ret (xv 2))))) pss_nil)
    (pss_cons (ps_asg (pe_op op_mod (pe_op op_add (pe_op op_mul (xix 0) pe_int) pe_int) pe_int) (xput 0)) (pss_one (ps_ret (pe_op op_mod (pe_op op_fdiv (xix 0) pe_int) (xv 1))))))
theorem ok_rlaw_shuffled (T : Txt P K mg) : FnOk P w K mg base CX0 2 T.f_rlaw_shuffled T.d_rlaw_shuffled ["_law_d", "_law_items"] (liftSp K (RnSit Hs l) (sp_rlaw_shuffled T.A l)) :=
  fn_deep (tD := D_rlaw_shuffled T.A l) T.F_rlaw_shuffled sc_rlaw_shuffled (len_rlaw_shuffled T.A l) (pure_rlaw_shuffled T.A l) fun c cdv A outer s H E hr => ⟨_, (dss_cons (ds_setN 2 sc_rlaw_shuffled.nd (dn_list rfl T.g_list (by decide +kernel) (da_cons (de_var 1) da_nil))) (dss_cons (ds_setN 3 sc_rlaw_shuffled.nd (dn_lst da_nil)) (dss_cons (ds_while PassesOwn.never (dt_cmp (opK_ne rfl (have hq := room64 hr; hq)) wr_ne (de_var 2) (de_lst da_nil) (nomark _)) (dss_one (ds_appPop 3 rfl (dp_pop 2 rfl (de_call0 (ok_rlaw_below T) (hr.mono (by decide : 1 ≤ 1)) T.m_rlaw_below T.F_rlaw_below.kp T.b_rlaw_below (da_cons (de_var 0) (da_cons (de_cb (call_lenK rfl) wc_len T.g_len PySem.boot_len (da_cons (de_var 2) da_nil)) da_nil))))))) (dss_one (ds_ret (de_var 3))))))⟩
theorem ok_rlaw_days (T : Txt P K mg) : FnOk P w K mg base CX0 3 T.f_rlaw_days T.d_rlaw_days ["_law_d", "_law_names", "_law_most"] (liftSp K (RnSit Hs l) (sp_rlaw_days T.A l)) :=
  fn_deep (tD := D_rlaw_days T.A l) T.F_rlaw_days sc_rlaw_days (len_rlaw_days T.A l) (pure_rlaw_days T.A l) fun c cdv A outer s H E hr => ⟨_, (dss_cons (ds_setN 3 sc_rlaw_days.nd (dn_lst da_nil)) (dss_cons (ds_forV PassesOwn.never rfl (dv_rng1 T.g_range (da_cons (de_op op_add wr_add de_int (de_call0 (ok_rlaw_below T) (hr.mono (by decide : 1 ≤ 2)) T.m_rlaw_below T.F_rlaw_below.kp T.b_rlaw_below (da_cons (de_var 0) (da_cons (de_var 2) da_nil)))) da_nil)) (dg_name 4 sc_rlaw_days.nd) (dss_one (ds_app 3 rfl (de_cty (ctK_tuple rfl) wc_tuple T.g_tuple (by decide +kernel) (da_cons (de_slL rfl (de_call0 (ok_rlaw_shuffled T) (hr.mono (by decide : 2 ≤ 2)) T.m_rlaw_shuffled T.F_rlaw_shuffled.kp T.b_rlaw_shuffled (da_cons (de_var 0) (da_cons (de_var 1) da_nil))) do_no (do_yes (de_call0 (ok_rlaw_below T) (hr.mono (by decide : 1 ≤ 2)) T.m_rlaw_below T.F_rlaw_below.kp T.b_rlaw_below (da_cons (de_var 0) (da_cons (de_op op_add wr_add (de_cb (crK_min rfl rfl) wc_min T.g_min (by decide +kernel) (da_cons (de_lst (da_cons de_int (da_cons (de_cb (call_lenK rfl) wc_len T.g_len PySem.boot_len (da_cons (de_var 1) da_nil)) da_nil))) da_nil)) de_int) da_nil))))) da_nil))))) (dss_one (ds_ret (de_var 3)))))⟩
theorem ok_rlaw_words (T : Txt P K mg) : FnOk P w K mg base CX0 1 T.f_rlaw_words T.d_rlaw_words ["_law_days_here", "_law_lead"] (liftSp K S (sp_rlaw_words T.A)) :=
  fn_deep (tD := D_rlaw_words T.A) T.F_rlaw_words sc_rlaw_words (len_rlaw_words T.A) (pure_rlaw_words T.A) fun c cdv A outer s H E hr => ⟨_, (dss_one (ds_ret (de_bm rfl PySem.F.plainAttrs_str PySem.F.slot_str_join PySem.F.type_str_join mt_join wm_join de_str (da_cons (de_op op_cat wr_catL (de_lst (da_cons (de_op op_add_str wr_addS de_str (de_cty call_str_int wc_strI T.g_str (by decide +kernel) (da_cons (de_var 1) da_nil))) da_nil)) (de_n (dn_lc (own := [("_law_day", 2)]) rfl sc_rlaw_words.nd (di_list rfl (de_var 0)) (blkOk_by (by rfl)) (fun _ _ _ _ _ => (dg_name 2 sc_rlaw_words.nd)) (fun _ _ _ _ _ => dts_nil) (fun _ _ _ _ _ => (de_if (dt_cmp (opK_ne rfl (have hq := room64 hr; hq)) wr_ne (de_var 2) (de_tup da_nil) (nomark _)) (de_bm rfl PySem.F.plainAttrs_str PySem.F.slot_str_join PySem.F.type_str_join mt_join wm_join de_str (da_cons (de_var 2) da_nil)) de_str)) (by decide)))) da_nil))))⟩
theorem step_rlaw_equal (T : Txt P K mg) {k : Nat} {rc sp : SpD} (ih : FnOk P w K mg base CX0 k T.f_rlaw_equal T.d_rlaw_equal ["_law_actual", "_law_expected_here"] (liftSp K S rc)) (hlen : ∀ ds P x, sp ds P x → ds.length = 2) (hpure : ∀ ds P x, sp ds P x → D_rlaw_equal T.A rc { nx := fun _ => P .non, rt := P } (startD N_rlaw_equal9 ds)) : FnOk P w K mg base CX0 (k + 1) T.f_rlaw_equal T.d_rlaw_equal ["_law_actual", "_law_expected_here"] (liftSp K S sp) :=
  fn_deep (tD := D_rlaw_equal T.A rc) T.F_rlaw_equal sc_rlaw_equal hlen hpure fun c cdv A outer s H E hr => ⟨_, (dss_cons (ds_if (dt_cmp op_isN wr_isN (de_var 1) de_non (nomark _)) (dss_one (ds_ret (de_cmp op_isN wr_isN (de_var 0) de_non (nomark _)))) dss_nil) (dss_cons (ds_if (dt_val (de_isi rfl kit_bool T.g_isinstance T.g_bool PyProof.Rows.boot_bool (de_var 1))) (dss_one (ds_ret (de_and (de_isi rfl kit_bool T.g_isinstance T.g_bool PyProof.Rows.boot_bool (de_var 0)) (de_one (de_cmp (opK_eq rfl (have hq := room64 hr; hq)) wr_eq (de_var 0) (de_var 1) (nomark _)))))) dss_nil) (dss_cons (ds_if (dt_val (de_isi rfl kit_int T.g_isinstance T.g_int PyProof.Rows.boot_int (de_var 1))) (dss_one (ds_ret (de_and (de_isi rfl kit_int T.g_isinstance T.g_int PyProof.Rows.boot_int (de_var 0)) (de_and (de_not (de_isi rfl kit_bool T.g_isinstance T.g_bool PyProof.Rows.boot_bool (de_var 0))) (de_one (de_cmp (opK_eq rfl (have hq := room64 hr; hq)) wr_eq (de_var 0) (de_var 1) (nomark _))))))) dss_nil) (dss_cons (ds_if (dt_val (de_isi rfl kit_str T.g_isinstance T.g_str PyProof.Rows.boot_str (de_var 1))) (dss_one (ds_ret (de_and (de_isi rfl kit_str T.g_isinstance T.g_str PyProof.Rows.boot_str (de_var 0)) (de_one (de_cmp (opK_eq rfl (have hq := room64 hr; hq)) wr_eq (de_var 0) (de_var 1) (nomark _)))))) dss_nil) (dss_cons (ds_if (dt_cmp (opK_ne rfl (have hq := room64 hr; hq)) wr_ne (de_isi rfl kit_tuple T.g_isinstance T.g_tuple PyProof.Rows.boot_tuple (de_var 1)) (de_isi rfl kit_tuple T.g_isinstance T.g_tuple PyProof.Rows.boot_tuple (de_var 0)) (nomark _)) (dss_one (ds_ret de_bl)) dss_nil) (dss_cons (ds_if (dt_cmp (opK_ne rfl (have hq := room64 hr; hq)) wr_ne (de_isi rfl kit_list T.g_isinstance T.g_list PyProof.Rows.boot_list (de_var 1)) (de_isi rfl kit_list T.g_isinstance T.g_list PyProof.Rows.boot_list (de_var 0)) (nomark _)) (dss_one (ds_ret de_bl)) dss_nil) (dss_cons (ds_if (dt_cmp (opK_ne rfl (have hq := room64 hr; hq)) wr_ne (de_cb (call_lenK rfl) wc_len T.g_len PySem.boot_len (da_cons (de_var 0) da_nil)) (de_cb (call_lenK rfl) wc_len T.g_len PySem.boot_len (da_cons (de_var 1) da_nil)) (nomark _)) (dss_one (ds_ret de_bl)) dss_nil) (dss_one (ds_ret (de_cb (crK_all rfl rfl) wc_all T.g_all (by decide +kernel) (da_cons (de_n (dn_lc (own := [("_law_k", 2)]) rfl sc_rlaw_equal.nd (di_rng1 T.g_range (da_cons (de_cb (call_lenK rfl) wc_len T.g_len PySem.boot_len (da_cons (de_var 1) da_nil)) da_nil)) (blkOk_by (by rfl)) (fun _ _ _ _ _ => (dg_name 2 sc_rlaw_equal.nd)) (fun _ _ _ _ _ => dts_nil) (fun _ _ _ _ _ => (de_call0 ih (hr.mono (by omega : k ≤ (k + 0))) T.m_rlaw_equal T.F_rlaw_equal.kp T.b_rlaw_equal (da_cons (de_ix rfl (de_var 0) (de_var 2)) (da_cons (de_ix rfl (de_var 1) (de_var 2)) da_nil)))) (by decide))) da_nil)))))))))))⟩
theorem ok_equal (T : Txt P K mg) : ∀ n : Nat, FnOk P w K mg base CX0 (n + 1) T.f_rlaw_equal T.d_rlaw_equal ["_law_actual", "_law_expected_here"] (liftSp K S (spSame n))
  | 0 => step_rlaw_equal T (k := 0) (rc := fun _ _ _ => False) ⟨fun _ _ _ _ ⟨_, _, _, _, _, _, h, _⟩ => h.elim, fun _ _ _ _ _ _ _ _ _ _ _ _ _ ⟨_, _, _, _, _, _, h, _⟩ => h.elim⟩ (fun ds P x ⟨d, e, _⟩ => by rw [e]; rfl) (pure_equal T.A 0)
  | n + 1 => step_rlaw_equal T (k := n + 1) (ok_equal T n) (fun ds P x ⟨d, e, _⟩ => by rw [e]; rfl) (pure_equal T.A (n + 1))
theorem ok_rlaw_is_number (T : Txt P K mg) : FnOk P w K mg base CX0 1 T.f_rlaw_is_number T.d_rlaw_is_number ["_law_word"] (liftSp K S (sp_rlaw_is_number T.A)) :=
  fn_deep (tD := D_rlaw_is_number T.A) T.F_rlaw_is_number sc_rlaw_is_number (len_rlaw_is_number T.A) (pure_rlaw_is_number T.A) fun c cdv A outer s H E hr => ⟨_, (dss_cons (ds_if (DW.tst (dw_or (dt_not (dt_chain op_le wr_le op_le wr_le de_int (de_cb (call_lenK rfl) wc_len T.g_len PySem.boot_len (da_cons (de_var 0) da_nil)) de_int)) (dw_or1 (dt_cmp (opK_ne rfl (have hq := room64 hr; hq)) wr_ne (de_n (dn_lc (own := [("_law_sign", 1)]) rfl sc_rlaw_is_number.nd (di_str (de_var 0)) (blkOk_by (by rfl)) (fun _ _ _ _ _ => (dg_name 1 sc_rlaw_is_number.nd)) (fun _ _ _ _ _ => (dts_one (dt_cmp op_notIn_sign wr_notInS (de_var 1) de_str (by rfl)))) (fun _ _ _ _ _ => (de_var 1)) (by decide))) (de_lst da_nil) (nomark _))))) (dss_one (ds_ret de_bl)) dss_nil) (dss_one (ds_ret (de_or (de_cmp (opK_eq rfl (have hq := room64 hr; hq)) wr_eq (de_var 0) de_str (nomark _)) (de_one (de_cmp (opK_ne rfl (have hq := room64 hr; hq)) wr_ne (de_ix rfl (de_var 0) de_int) de_str (nomark _)))))))⟩
theorem ok_rlaw_is_name (T : Txt P K mg) : FnOk P w K mg base CX0 1 T.f_rlaw_is_name T.d_rlaw_is_name ["_law_word"] (liftSp K S (sp_rlaw_is_name T.A)) :=
  fn_deep (tD := D_rlaw_is_name T.A) T.F_rlaw_is_name sc_rlaw_is_name (len_rlaw_is_name T.A) (pure_rlaw_is_name T.A) fun c cdv A outer s H E hr => ⟨_, (dss_one (ds_ret (de_and (de_chain op_le wr_le op_le wr_le de_int (de_cb (call_lenK rfl) wc_len T.g_len PySem.boot_len (da_cons (de_var 0) da_nil)) de_int) (de_one (de_cmp (opK_eq rfl (have hq := room64 hr; hq)) wr_eq (de_n (dn_lc (own := [("_law_sign", 1)]) rfl sc_rlaw_is_name.nd (di_str (de_var 0)) (blkOk_by (by rfl)) (fun _ _ _ _ _ => (dg_name 1 sc_rlaw_is_name.nd)) (fun _ _ _ _ _ => (dts_one (dt_cmp op_notIn_sign wr_notInS (de_var 1) de_str (by rfl)))) (fun _ _ _ _ _ => (de_var 1)) (by decide))) (de_lst da_nil) (nomark _))))))⟩
theorem ok_rlaw_expected (T : Txt P K mg) : FnOk P w K mg base CX0 2 T.f_rlaw_expected T.d_rlaw_expected ["_law_rows"] (liftSp K S (sp_rlaw_expected T.A)) :=
  fn_deep (tD := D_rlaw_expected T.A) T.F_rlaw_expected sc_rlaw_expected (len_rlaw_expected T.A) (pure_rlaw_expected T.A) fun c cdv A outer s H E hr => ⟨_, (dss_cons (ds_set 1 sc_rlaw_expected.nd (de_ix rfl (de_var 0) de_int)) (dss_cons (ds_if (dt_cmp (opK_ne rfl (have hq := room64 hr; hq)) wr_ne (de_ix rfl (de_var 1) de_int) de_str (nomark _)) (dss_one (ds_ret (de_tup (da_cons de_str (da_cons (de_tup (da_cons de_int (da_cons de_int da_nil))) da_nil))))) dss_nil) (dss_cons (ds_if (DW.tst (dw_or (dt_cmp op_lt wr_lt (de_cb (call_lenK rfl) wc_len T.g_len PySem.boot_len (da_cons (de_var 1) da_nil)) de_int (nomark _)) (dw_or1 (dt_not (dt_val (de_call0 (ok_rlaw_is_number T) (hr.mono (by decide : 1 ≤ 1)) T.m_rlaw_is_number T.F_rlaw_is_number.kp T.b_rlaw_is_number (da_cons (de_ix rfl (de_var 1) de_int) da_nil))))))) (dss_one (ds_ret (de_tup (da_cons de_str (da_cons (de_tup (da_cons de_int (da_cons de_int da_nil))) da_nil))))) dss_nil) (dss_cons (ds_if (dt_cmp op_gt wr_gt (de_cb (call_lenK rfl) wc_len T.g_len PySem.boot_len (da_cons (de_var 1) da_nil)) de_int (nomark _)) (dss_one (ds_ret (de_tup (da_cons de_str (da_cons (de_tup (da_cons de_int (da_cons de_int da_nil))) da_nil))))) dss_nil) (dss_cons (ds_for PassesOwn.never rfl (di_rng2 T.g_range (da_cons de_int (da_cons (de_cb (call_lenK rfl) wc_len T.g_len PySem.boot_len (da_cons (de_var 0) da_nil)) da_nil))) (dg_name 2 sc_rlaw_expected.nd) (dss_cons (ds_setLc 3 (own := [("_law_j", 4)]) rfl sc_rlaw_expected.nd (di_rng1 T.g_range (da_cons (de_cb (call_lenK rfl) wc_len T.g_len PySem.boot_len (da_cons (de_ix rfl (de_var 0) (de_var 2)) da_nil)) da_nil)) (blkOk_by (by rfl)) (fun _ _ _ _ _ => (dg_name 4 sc_rlaw_expected.nd)) (fun _ _ _ _ _ => (dts_one (dt_not (dt_val (de_call0 (ok_rlaw_is_name T) (hr.mono (by decide : 1 ≤ 1)) T.m_rlaw_is_name T.F_rlaw_is_name.kp T.b_rlaw_is_name (da_cons (de_ix rfl (de_ix rfl (de_var 0) (de_var 2)) (de_var 4)) da_nil)))))) (fun _ _ _ _ _ => (de_var 4)) (by decide)) (dss_one (ds_if (DW.tst (dw_and (dt_cmp (opK_ne rfl (have hq := room64 hr; hq)) wr_ne (de_var 3) (de_lst da_nil) (nomark _)) (dw_and1 (dt_cmp (opK_ne rfl (have hq := room64 hr; hq)) wr_ne (de_ix rfl (de_var 0) (de_var 2)) (de_lst (da_cons de_str da_nil)) (nomark _))))) (dss_one (ds_ret (de_tup (da_cons de_str (da_cons (de_tup (da_cons (de_var 2) (da_cons (de_ix rfl (de_var 3) de_int) da_nil))) da_nil))))) dss_nil)))) (dss_cons (ds_for PassesOwn.never rfl (di_rng2 T.g_range (da_cons de_int (da_cons (de_cb (call_lenK rfl) wc_len T.g_len PySem.boot_len (da_cons (de_var 0) da_nil)) da_nil))) (dg_name 2 sc_rlaw_expected.nd) (dss_one (ds_if (dt_cmp op_lt wr_lt (de_met rfl rfl T.g_len T.g_set (de_ix rfl (de_var 0) (de_var 2))) (de_cb (call_lenK rfl) wc_len T.g_len PySem.boot_len (da_cons (de_ix rfl (de_var 0) (de_var 2)) da_nil)) (nomark _)) (dss_one (ds_ret (de_tup (da_cons de_str (da_cons (de_op op_sub wr_sub (de_var 2) de_int) da_nil))))) dss_nil))) (dss_one (ds_ret (de_if (dt_cmp op_ge wr_ge (de_cty call_int_str wc_intS T.g_int (by decide +kernel) (da_cons (de_ix rfl (de_var 1) de_int) da_nil)) (de_op op_sub wr_sub (de_cb (call_lenK rfl) wc_len T.g_len PySem.boot_len (da_cons (de_var 0) da_nil)) de_int) (nomark _)) (de_tup (da_cons de_str (da_cons (de_op op_sub wr_sub (de_cb (call_lenK rfl) wc_len T.g_len PySem.boot_len (da_cons (de_var 0) da_nil)) de_int) da_nil))) de_non)))))))))⟩
theorem ok_rlaw_error_of (T : Txt P K mg) : FnOk P w K mg base CX0 13 T.f_rlaw_error_of T.d_rlaw_error_of ["_law_call"] (liftSp K S (sp_rlaw_error_of T.A (ActOk P w K mg base S 12))) :=
  fn_deep (tD := D_rlaw_error_of T.A (ActOk P w K mg base S 12)) T.F_rlaw_error_of sc_rlaw_error_of (len_rlaw_error_of T.A (ActOk P w K mg base S 12)) (pure_rlaw_error_of T.A T.xt (ActOk P w K mg base S 12)) fun c cdv A outer s H E hr => ⟨_, (dss_cons (by
    refine ds_try rfl rfl xok0 DL.takes0 ?hb ?hh
    case hb => exact fun c' pn xe xc => ⟨_, (dss_one (ds_drop (de_actv 0 rfl (hr.mono (by decide : 12 ≤ 12)) xc.pass xc.ok (fun _ _ h => h))))⟩
    case hh => exact (.cons (hd_ok ⟨rfl, by decide, .inl T.m_FarmError⟩ (fun cls b h => T.xem _ _ _ h) (fun a oe cls d fs pn hz hf hx => have hk : XkOk K ["index", "part", "name", "row", "word", "offset"] cls := hx.elim fun b h => T.xk _ _ _ h; ⟨_, (dss_cons (ds_set 2 sc_rlaw_error_of.nd (de_lst (da_cons (de_isx (fs := ["index", "part", "name", "row", "word", "offset"]) 1 rfl hk (fun b h => T.xia _ _ _ h) hz hf T.g_isinstance T.m_InvalidCart) (da_cons (de_isx (fs := ["index", "part", "name", "row", "word", "offset"]) 1 rfl hk (fun b h => T.xia _ _ _ h) hz hf T.g_isinstance T.m_InvalidOperation) (da_cons (de_isx (fs := ["index", "part", "name", "row", "word", "offset"]) 1 rfl hk (fun b h => T.xia _ _ _ h) hz hf T.g_isinstance T.m_InvalidText) da_nil))))) (dss_cons (ds_set 2 sc_rlaw_error_of.nd (de_op op_cat wr_catL (de_var 2) (de_lst (da_cons (de_isx (fs := ["index", "part", "name", "row", "word", "offset"]) 1 rfl hk (fun b h => T.xia _ _ _ h) hz hf T.g_isinstance T.m_DecodeError) (da_cons (de_isx (fs := ["index", "part", "name", "row", "word", "offset"]) 1 rfl hk (fun b h => T.xia _ _ _ h) hz hf T.g_isinstance T.m_UnknownField) (da_cons (de_isx (fs := ["index", "part", "name", "row", "word", "offset"]) 1 rfl hk (fun b h => T.xia _ _ _ h) hz hf T.g_isinstance T.m_InvalidNumber) da_nil)))))) (dss_cons (ds_set 2 sc_rlaw_error_of.nd (de_op op_cat wr_catL (de_var 2) (de_lst (da_cons (de_isx (fs := ["index", "part", "name", "row", "word", "offset"]) 1 rfl hk (fun b h => T.xia _ _ _ h) hz hf T.g_isinstance T.m_InvalidPlan) da_nil)))) (dss_cons (ds_if (DW.tst (dw_or (dt_cmp (opK_ne rfl (have hq := room64 hr; hq)) wr_ne (de_bm rfl PySem.F.plainAttrs_list PySem.F.slot_list_count PySem.F.type_list_count mt_lcountF wm_lcount (de_var 2) (da_cons de_bl da_nil)) de_int (nomark _)) (dw_or1 (dt_not (dt_val (de_isxT (fs := ["index", "part", "name", "row", "word", "offset"]) 1 rfl hk (fun b h => T.xiv _ _ h) hz hf T.g_isinstance T.g_ValueError (by decide +kernel))))))) (dss_one (ds_ret (de_tup (da_cons de_str (da_cons de_int da_nil))))) dss_nil) (dss_cons (ds_set 3 sc_rlaw_error_of.nd (de_ix rfl (de_lst (da_cons de_str (da_cons de_str (da_cons de_str (da_cons de_str (da_cons de_str (da_cons de_str (da_cons de_str da_nil)))))))) (de_bm rfl PySem.F.plainAttrs_list PySem.F.slot_list_index PySem.F.type_list_index mt_index wm_lindex (de_var 2) (da_cons de_bl da_nil)))) (dss_cons (ds_if (dt_cmp (opK_in rfl) wr_in (de_var 3) (de_lst (da_cons de_str (da_cons de_str da_nil))) (by rfl)) (dss_one (ds_ret (de_tup (da_cons (de_var 3) (da_cons (de_xf (fs := ["index", "part", "name", "row", "word", "offset"]) 1 rfl hk (by decide) hz hf) da_nil))))) dss_nil) (dss_cons (ds_if (dt_cmp (opK_in rfl) wr_in (de_var 3) (de_lst (da_cons de_str (da_cons de_str da_nil))) (by rfl)) (dss_one (ds_ret (de_tup (da_cons (de_var 3) (da_cons (de_if (dt_cmp (opK_eq rfl (have hq := room64 hr; hq)) wr_eq (de_var 3) de_str (nomark _)) (de_xf (fs := ["index", "part", "name", "row", "word", "offset"]) 1 rfl hk (by decide) hz hf) (de_xf (fs := ["index", "part", "name", "row", "word", "offset"]) 1 rfl hk (by decide) hz hf)) da_nil))))) dss_nil) (dss_one (ds_ret (de_tup (da_cons (de_var 3) (da_cons (de_if (dt_cmp (opK_eq rfl (have hq := room64 hr; hq)) wr_eq (de_var 3) de_str (nomark _)) (de_tup (da_cons (de_xf (fs := ["index", "part", "name", "row", "word", "offset"]) 1 rfl hk (by decide) hz hf) (da_cons (de_xf (fs := ["index", "part", "name", "row", "word", "offset"]) 1 rfl hk (by decide) hz hf) da_nil))) (de_if (dt_cmp (opK_eq rfl (have hq := room64 hr; hq)) wr_eq (de_var 3) de_str (nomark _)) (de_xf (fs := ["index", "part", "name", "row", "word", "offset"]) 1 rfl hk (by decide) hz hf) de_int)) da_nil))))))))))))⟩) (.inr ⟨_, 1, rfl, rfl, sc_rlaw_error_of.nd, rfl, rfl⟩)) .nil)) (dss_one (ds_ret de_non)))⟩
abbrev lm_0 : Expr := (kid (kid (stV (stAt (stB (stAt (defBody s_law) 8)) 0)) 0) 1)
abbrev lawX (P : Program) (w : World) (K : PySem.W.Frag) (mg : Str → Option Value) (base : Heap) (f c0 : Addr) (A : Around) (outer : List PySem.Env) (s : Shared) (H : Hp) (E : XK) : Cx := (cxOf CX0 P w K mg base N_law_k39 "law" (defScope s_law) f (.ref c0) A outer s H E).nox
abbrev lamQ : Str := "law.<locals>.<lambda>"
theorem lam_0 (T : Txt P K mg) {Hs : Hp} {l : Addr} {tb c0 : Addr} {c : Cl} {A : Around} {outer : List PySem.Env} {s : Shared} {H : Hp} {E : XK} : LamOk K (tabSit (RnSit Hs l) [(tb, lamQ)]) c (lawX P w K mg base T.f_law c0 A outer s H E) 12 (LamAt lamQ (lamP lm_0) (lamB lm_0) (lamS lm_0) (cloFrom (lawX P w K mg base T.f_law c0 A outer s H E).env.cells (lamS lm_0).names []) false) (D_lam_k39_0 T.A) [false, false, false, false, false, false, false, false, false, false, false, false, false, false, false, false, true, false, false] :=
  lam_ok (ps := []) (SF := fun Hs => tabSit (RnSit Hs l) [(tb, lamQ)]) (fun _ => rfl) rfl (lscope_by (by decide +kernel)) (free_by (outer := defScope s_law) (by decide +kernel)) (.inl ⟨rfl, rfl, fun _ _ _ _ _ _ _ => rfl⟩) (show N_law_k39.map (fun y => decide ((lamS lm_0).names.lookup y = some .free)) = [false, false, false, false, false, false, false, false, false, false, false, false, false, false, false, false, true, false, false] from by decide +kernel) fun Hs B c' F f A outer s H' E hF hr hE fit => by
    obtain ⟨fq, fp, fb, fsc, fcl, fc, fdv⟩ := F
    obtain rfl : fsc = lamS lm_0 := hF
    have xc := xc_l (P := P) (w := w) (K := K) (mg := mg) (base := B) (N := N_law_k39) (F := ⟨fq, fp, fb, lamS lm_0, fcl, fc, fdv⟩) (f := f) (A := A) (outer := outer) (s := s) (H := H') fit hE
    exact ⟨_, (de_callG (ok_parse_planX T) (hr.mono (by decide : 5 ≤ 11)) T.m_parse_planX T.F_parse_planX.kp T.b_parse_planX xc.pass xc.ok (da_cons (de_var 16) da_nil))⟩
theorem ok_law (T : Txt P K mg) {c0 tb : Addr} (cd : CodeAt K T.f_law c0) (TB : LamX.TabB base mg c0 tb) : FnOk P w K mg base CX0 14 T.f_law T.d_law ["_law_script"] (spLawT K 63 [(tb, lamQ)]) :=
  law_deepRT (salt := 39) (T := [(tb, lamQ)]) (tD := fun O l => D_law_k39 T.A O l) T.F_law sc_law rfl (by decide) cd (fun A outer s H E hr => ps_set (i := 1) sc_law.nd rfl (by first | exact .inl rfl | exact .inr rfl) (pe_call (ok_rlaw_random T) (hr.mono (by decide : 1 ≤ 13)) rfl T.m_rlaw_random T.F_rlaw_random.kp T.b_rlaw_random .nil pass0 (pa_cons (pv 0) (pa_cons pe_int pa_nil)))) (fun c Hs l A outer s H E hr => by
    have hS : TabIn (tabSit (RnSit Hs l) [(tb, lamQ)]) [(tb, lamQ)] := tab_in noTab_rn (by simp)
    let O : Nat → Hp → Addr → Prop := fun j => match j with
      | 0 => LamAt lamQ (lamP lm_0) (lamB lm_0) (lamS lm_0) (cloFrom (lawX P w K mg base T.f_law c0 A outer s H E).env.cells (lamS lm_0).names []) false
      | _ => fun _ _ => False
    have hT : ∀ z ∈ tab_k39 T.A O, LamOk K (tabSit (RnSit Hs l) [(tb, lamQ)]) c (lawX P w K mg base T.f_law c0 A outer s H E) 12 z.1 z.2.1 z.2.2 := List.forall_mem_cons.mpr ⟨lam_0 T, fun _ h => nomatch h⟩
    exact ⟨O, _, (dss_cons (ds_set 2 sc_law.nd (de_lst (da_cons de_str (da_cons de_str (da_cons de_str (da_cons de_str (da_cons de_str da_nil))))))) (dss_cons (ds_for PassesOwn.never rfl (di_rng1 T.g_range (da_cons de_int da_nil)) (dg_name 3 sc_law.nd) (dss_cons (ds_set 4 sc_law.nd (de_call0 (FnOk.tab noTab_rn (ok_rlaw_days T)) (hr.mono (by decide : 3 ≤ 13)) T.m_rlaw_days T.F_rlaw_days.kp T.b_rlaw_days (da_cons (de_var 1) (da_cons (de_var 2) (da_cons de_int da_nil))))) (dss_cons (ds_set 5 sc_law.nd (de_call0 (FnOk.tab noTab_rn (ok_rlaw_below T)) (hr.mono (by decide : 1 ≤ 13)) T.m_rlaw_below T.F_rlaw_below.kp T.b_rlaw_below (da_cons (de_var 1) (da_cons (de_cb (call_lenK rfl) wc_len T.g_len PySem.boot_len (da_cons (de_var 4) da_nil)) da_nil)))) (dss_cons (ds_set 6 sc_law.nd (de_callG (ok_parse_planX T) (hr.mono (by decide : 5 ≤ 13)) T.m_parse_planX T.F_parse_planX.kp T.b_parse_planX passX0 xok0 (da_cons (de_call0 (ok_rlaw_words T) (hr.mono (by decide : 1 ≤ 13)) T.m_rlaw_words T.F_rlaw_words.kp T.b_rlaw_words (da_cons (de_var 4) (da_cons (de_var 5) da_nil))) da_nil))) (dss_one (ds_if (dt_not (dt_val (de_call0 (ok_equal T 4) (hr.mono (by decide : 5 ≤ 13)) T.m_rlaw_equal T.F_rlaw_equal.kp T.b_rlaw_equal (da_cons (de_lst (da_cons (de_prop T.cls_Plan T.P_Plan_days (ok_Plan_days T) (hr.mono (by decide : 2 ≤ 13)) T.b_Plan_days (de_var 6)) (da_cons (de_prop T.cls_Plan T.P_Plan_lead (ok_Plan_lead T) (hr.mono (by decide : 2 ≤ 13)) T.b_Plan_lead (de_var 6)) (da_cons (de_call0 (ok_format_plan T) (hr.mono (by decide : 3 ≤ 13)) T.m_format_plan T.F_format_plan.kp T.b_format_plan (da_cons (de_var 6) da_nil)) da_nil)))) (da_cons (de_lst (da_cons (de_cty (ctK_tuple rfl) wc_tuple T.g_tuple (by decide +kernel) (da_cons (de_var 4) da_nil)) (da_cons (de_var 5) (da_cons (de_call0 (ok_rlaw_words T) (hr.mono (by decide : 1 ≤ 13)) T.m_rlaw_words T.F_rlaw_words.kp T.b_rlaw_words (da_cons (de_var 4) (da_cons (de_var 5) da_nil))) da_nil)))) da_nil))))) (dss_one (ds_ret de_bl)) dss_nil)))))) (dss_cons (ds_set 7 sc_law.nd (de_slL rfl (de_lst (da_cons (de_lst (da_cons de_str (da_cons de_str da_nil))) (da_cons (de_lst (da_cons de_str (da_cons de_str da_nil))) (da_cons (de_lst (da_cons de_str da_nil)) (da_cons (de_lst (da_cons de_str da_nil)) da_nil))))) do_no (do_yes (de_op op_add wr_add de_int (de_call0 (FnOk.tab noTab_rn (ok_rlaw_below T)) (hr.mono (by decide : 1 ≤ 13)) T.m_rlaw_below T.F_rlaw_below.kp T.b_rlaw_below (da_cons (de_var 1) (da_cons de_int da_nil))))))) (dss_cons (ds_set 8 sc_law.nd (de_lst (da_cons de_str (da_cons de_str (da_cons de_str (da_cons de_str (da_cons de_str (da_cons de_str (da_cons de_str (da_cons de_str (da_cons de_str (da_cons de_str (da_cons de_str (da_cons de_str (da_cons de_str (da_cons de_str da_nil)))))))))))))))) (dss_cons (ds_for PassesOwn.never rfl (di_rng1 T.g_range (da_cons (de_call0 (FnOk.tab noTab_rn (ok_rlaw_below T)) (hr.mono (by decide : 1 ≤ 13)) T.m_rlaw_below T.F_rlaw_below.kp T.b_rlaw_below (da_cons (de_var 1) (da_cons de_int da_nil))) da_nil)) (dg_name 9 sc_law.nd) (dss_cons (ds_parX3 10 11 12 rfl sc_law.nd (dx_e (de_call0 (FnOk.tab noTab_rn (ok_rlaw_below T)) (hr.mono (by decide : 1 ≤ 13)) T.m_rlaw_below T.F_rlaw_below.kp T.b_rlaw_below (da_cons (de_var 1) (da_cons (de_cb (call_lenK rfl) wc_len T.g_len PySem.boot_len (da_cons (de_var 7) da_nil)) da_nil)))) (dx_e (de_call0 (FnOk.tab noTab_rn (ok_rlaw_below T)) (hr.mono (by decide : 1 ≤ 13)) T.m_rlaw_below T.F_rlaw_below.kp T.b_rlaw_below (da_cons (de_var 1) (da_cons de_int da_nil)))) (dx_e (de_ix rfl (de_var 8) (de_call0 (FnOk.tab noTab_rn (ok_rlaw_below T)) (hr.mono (by decide : 1 ≤ 13)) T.m_rlaw_below T.F_rlaw_below.kp T.b_rlaw_below (da_cons (de_var 1) (da_cons de_int da_nil)))))) (dss_cons (ds_set 13 sc_law.nd (de_call0 (FnOk.tab noTab_rn (ok_rlaw_below T)) (hr.mono (by decide : 1 ≤ 13)) T.m_rlaw_below T.F_rlaw_below.kp T.b_rlaw_below (da_cons (de_var 1) (da_cons (de_op op_add wr_add (de_cb (call_lenK rfl) wc_len T.g_len PySem.boot_len (da_cons (de_ix rfl (de_var 7) (de_var 10)) da_nil)) de_int) da_nil)))) (dss_one (ds_if (DW.tst (dw_and (dt_cmp (opK_eq rfl (have hq := room64 hr; hq)) wr_eq (de_var 11) de_int (nomark _)) (dw_and1 (dt_cmp op_gt wr_gt (de_cb (call_lenK rfl) wc_len T.g_len PySem.boot_len (da_cons (de_var 7) da_nil)) de_int (nomark _))))) (dss_one (ds_set 7 sc_law.nd (de_op op_cat wr_catL (de_slL rfl (de_var 7) do_no (do_yes (de_var 10))) (de_slL rfl (de_var 7) (do_yes (de_op op_add wr_add (de_var 10) de_int)) do_no)))) (dss_one (ds_if (dt_cmp (opK_eq rfl (have hq := room64 hr; hq)) wr_eq (de_var 11) de_int (nomark _)) (dss_one (ds_set 7 sc_law.nd (de_op op_cat wr_catL (de_op op_cat wr_catL (de_slL rfl (de_var 7) do_no (do_yes (de_var 10))) (de_lst (da_cons (de_lst (da_cons (de_var 12) da_nil)) da_nil))) (de_slL rfl (de_var 7) (do_yes (de_var 10)) do_no)))) (dss_cons (ds_set 14 sc_law.nd (de_slL rfl (de_ix rfl (de_var 7) (de_var 10)) (do_yes (de_op op_add wr_add (de_var 13) (de_op op_mod wr_mod (de_var 11) de_int))) do_no)) (dss_cons (ds_set 15 sc_law.nd (de_op op_cat wr_catL (de_op op_cat wr_catL (de_slL rfl (de_ix rfl (de_var 7) (de_var 10)) do_no (do_yes (de_var 13))) (de_op op_rep wr_rep (de_lst (da_cons (de_var 12) da_nil)) (de_op op_fdiv wr_fdv (de_var 11) de_int))) (de_var 14))) (dss_one (ds_set 7 sc_law.nd (de_op op_cat wr_catL (de_op op_cat wr_catL (de_slL rfl (de_var 7) do_no (do_yes (de_var 10))) (de_lst (da_cons (de_var 15) da_nil))) (de_slL rfl (de_var 7) (do_yes (de_op op_add wr_add (de_var 10) de_int)) do_no))))))))))))) (dss_cons (ds_set 16 sc_law.nd (de_bm rfl PySem.F.plainAttrs_str PySem.F.slot_str_join PySem.F.type_str_join mt_join wm_join de_str (da_cons (de_n (dn_lc (own := [("_law_row", 15)]) rfl sc_law.nd (di_list rfl (de_var 7)) (blkOk_by (by rfl)) (fun _ _ _ _ _ => (dg_name 15 sc_law.nd)) (fun _ _ _ _ _ => dts_nil) (fun _ _ _ _ _ => (de_bm rfl PySem.F.plainAttrs_str PySem.F.slot_str_join PySem.F.type_str_join mt_join wm_join de_str (da_cons (de_var 15) da_nil))) (by decide))) da_nil))) (dss_cons (ds_set 17 sc_law.nd (de_call0 (ok_rlaw_expected T) (hr.mono (by decide : 2 ≤ 13)) T.m_rlaw_expected T.F_rlaw_expected.kp T.b_rlaw_expected (da_cons (de_n (dn_lc (own := [("_law_line", 18)]) rfl sc_law.nd (di_list rfl (de_bm rfl PySem.F.plainAttrs_str PySem.F.slot_str_split PySem.F.type_str_split mt_split wm_split (de_var 16) (da_cons de_str da_nil))) (blkOk_by (by rfl)) (fun _ _ _ _ _ => (dg_name 18 sc_law.nd)) (fun _ _ _ _ _ => dts_nil) (fun _ _ _ _ _ => (de_bm rfl PySem.F.plainAttrs_str PySem.F.slot_str_split PySem.F.type_str_split mt_split wm_split (de_var 18) (da_cons de_str da_nil))) (by decide))) da_nil))) (dss_cons (ds_if (dt_cmp op_notN wr_notN (de_var 17) de_non (nomark _)) (dss_one (ds_ret (de_cmp (opK_eq rfl (have hq := room64 hr; hq)) wr_eq (de_callA rfl (fun B S' => ok_rlaw_error_of T) (hr.mono (by decide : 13 ≤ 13)) T.m_rlaw_error_of T.F_rlaw_error_of.kp T.b_rlaw_error_of (fun _ => rfl) hT (da_cons (de_lam0 hS List.mem_cons_self TB rfl (by rfl)) da_nil)) (de_var 17) (nomark _)))) dss_nil) (dss_one (ds_ret (de_cmp (opK_eq rfl (have hq := room64 hr; hq)) wr_eq (de_call0 (ok_format_plan T) (hr.mono (by decide : 3 ≤ 13)) T.m_format_plan T.F_format_plan.kp T.b_format_plan (da_cons (de_callG (ok_parse_planX T) (hr.mono (by decide : 5 ≤ 13)) T.m_parse_planX T.F_parse_planX.kp T.b_parse_planX passX0 xok0 (da_cons (de_var 16) da_nil)) da_nil)) (de_var 16) (nomark _))))))))))))⟩) (pure_law_k39 T.A T.xt)
end
end Z
end
section
namespace Z
open PySem PySem.Spec PyProof.Rows L2 DL LMX LamX
theorem txt_of {P : Program} {K : PySem.W.Frag} {h : Heap} {mg : Str → Option Value} (hf : P.main.file = fileN) (top : (P.main.scope.names.lookup ("super" : Str)).isSome = false) (X : K.In h) (G : h.Ns mainGlobals mg) (c : SaysZ fa fn fS fileN tf h K) : ∃ T : Txt P K mg, T.f_law = He.ga K "law" := by
  have gsup : mg "super" = none := He.free_ok X G (c.fact 60 rfl)
  obtain ⟨d_is_number, F_is_number⟩ := c.def_ 0 rfl
  obtain ⟨d_is_name, F_is_name⟩ := c.def_ 1 rfl
  obtain ⟨d_first_wrong_dayX, F_first_wrong_dayX⟩ := c.def_ 2 rfl
  obtain ⟨d_Plan_initX, F_Plan_initX⟩ := c.def_ 3 rfl
  obtain ⟨d_Plan_days, F_Plan_days⟩ := c.def_ 4 rfl
  obtain ⟨d_Plan_lead, F_Plan_lead⟩ := c.def_ 5 rfl
  obtain ⟨d_row_of, F_row_of⟩ := c.def_ 6 rfl
  obtain ⟨d_format_plan, F_format_plan⟩ := c.def_ 7 rfl
  obtain ⟨d_is_leadG, F_is_leadG⟩ := c.def_ 8 rfl
  obtain ⟨d_lead_ofX, F_lead_ofX⟩ := c.def_ 9 rfl
  obtain ⟨d_names_ofX, F_names_ofX⟩ := c.def_ 10 rfl
  obtain ⟨d_parse_planX, F_parse_planX⟩ := c.def_ 11 rfl
  obtain ⟨d_rlaw_random, F_rlaw_random⟩ := c.def_ 12 rfl
  obtain ⟨d_rlaw_below, F_rlaw_below⟩ := c.def_ 13 rfl
  obtain ⟨d_rlaw_shuffled, F_rlaw_shuffled⟩ := c.def_ 14 rfl
  obtain ⟨d_rlaw_days, F_rlaw_days⟩ := c.def_ 15 rfl
  obtain ⟨d_rlaw_words, F_rlaw_words⟩ := c.def_ 16 rfl
  obtain ⟨d_rlaw_equal, F_rlaw_equal⟩ := c.def_ 17 rfl
  obtain ⟨d_rlaw_is_number, F_rlaw_is_number⟩ := c.def_ 18 rfl
  obtain ⟨d_rlaw_is_name, F_rlaw_is_name⟩ := c.def_ 19 rfl
  obtain ⟨d_rlaw_expected, F_rlaw_expected⟩ := c.def_ 20 rfl
  obtain ⟨d_rlaw_error_of, F_rlaw_error_of⟩ := c.def_ 21 rfl
  obtain ⟨d_law, F_law⟩ := c.def_ 22 rfl
  obtain ⟨dX_InvalidPlan, FX_InvalidPlan⟩ := c.defS hf 0 rfl
  obtain ⟨dX_InvalidText, FX_InvalidText⟩ := c.defS hf 1 rfl
  exact ⟨{
    A := ⟨He.ga K "Farm", He.ga K "Plan", He.ga K "Rule", He.ga K "Cart", He.ga K "RestingCart", He.ga K "ShiftCart", He.ga K "LateCart", He.ga K "Moment", He.ga K "Deed", He.ga K "Book", He.ga K "LiveFarm", He.ga K "Trial", He.ga K "PlanObserver", He.ga K "FarmError", He.ga K "InvalidFarm", He.ga K "TooManyStates", He.ga K "UnknownField", He.ga K "InvalidPlan", He.ga K "InvalidNumber", He.ga K "NotHarmonic", He.ga K "TooFewCarts", He.ga K "Contradiction", He.ga K "InvalidCart", He.ga K "InvalidOperation", He.ga K "InvalidText", He.ga K "DecodeError", exmT K ((["InvalidCart", "InvalidOperation", "InvalidText", "DecodeError", "UnknownField", "InvalidNumber", "InvalidPlan"] : List Str).map (He.ga K)), isaT K ((["InvalidCart", "InvalidOperation", "InvalidText", "DecodeError", "UnknownField", "InvalidNumber", "InvalidPlan"] : List Str).map (He.ga K)), isaT K (([] : List Str).map (He.ga K)), isvT K ((["InvalidCart", "InvalidOperation", "InvalidText", "DecodeError", "UnknownField", "InvalidNumber", "InvalidPlan"] : List Str).map (He.ga K))⟩,
    f_is_number := At.ad K (.glo "is_number"),
    d_is_number := d_is_number,
    F_is_number := F_is_number,
    m_is_number := He.glo_ok X G (c.fact 0 rfl),
    b_is_number := F_is_number.binds fun _ _ _ _ _ _ us hl => match us, hl with | [_, _, _], _ => rfl,
    f_is_name := At.ad K (.glo "is_name"),
    d_is_name := d_is_name,
    F_is_name := F_is_name,
    m_is_name := He.glo_ok X G (c.fact 1 rfl),
    b_is_name := F_is_name.binds fun _ _ _ _ _ _ us hl => match us, hl with | [_], _ => rfl,
    f_first_wrong_dayX := At.ad K (.glo "_first_wrong_day"),
    d_first_wrong_dayX := d_first_wrong_dayX,
    F_first_wrong_dayX := F_first_wrong_dayX,
    m_first_wrong_dayX := He.glo_ok X G (c.fact 2 rfl),
    b_first_wrong_dayX := F_first_wrong_dayX.binds fun _ _ _ _ _ _ us hl => match us, hl with | [_], _ => rfl,
    f_Plan_initX := At.ad K (.meth "Plan" "__init__"),
    d_Plan_initX := d_Plan_initX,
    F_Plan_initX := F_Plan_initX,
    f_Plan_days := At.ad K (.prop "Plan" "days"),
    d_Plan_days := d_Plan_days,
    F_Plan_days := F_Plan_days,
    b_Plan_days := F_Plan_days.binds fun _ _ _ _ _ _ us hl => match us, hl with | [_], _ => rfl,
    p_Plan_days := He.ma K (He.ga K "Plan") "days",
    P_Plan_days := fb_prop (c.fact 3 rfl),
    f_Plan_lead := At.ad K (.prop "Plan" "lead"),
    d_Plan_lead := d_Plan_lead,
    F_Plan_lead := F_Plan_lead,
    b_Plan_lead := F_Plan_lead.binds fun _ _ _ _ _ _ us hl => match us, hl with | [_], _ => rfl,
    p_Plan_lead := He.ma K (He.ga K "Plan") "lead",
    P_Plan_lead := fb_prop (c.fact 4 rfl),
    f_row_of := At.ad K (.glo "_row_of"),
    d_row_of := d_row_of,
    F_row_of := F_row_of,
    m_row_of := He.glo_ok X G (c.fact 5 rfl),
    b_row_of := F_row_of.binds fun _ _ _ _ _ _ us hl => match us, hl with | [_], _ => rfl,
    f_format_plan := At.ad K (.glo "format_plan"),
    d_format_plan := d_format_plan,
    F_format_plan := F_format_plan,
    m_format_plan := He.glo_ok X G (c.fact 6 rfl),
    b_format_plan := F_format_plan.binds fun _ _ _ _ _ _ us hl => match us, hl with | [_], _ => rfl,
    f_is_leadG := At.ad K (.glo "_is_lead"),
    d_is_leadG := d_is_leadG,
    F_is_leadG := F_is_leadG,
    m_is_leadG := He.glo_ok X G (c.fact 7 rfl),
    b_is_leadG := F_is_leadG.binds fun _ _ _ _ _ _ us hl => match us, hl with | [_], _ => rfl,
    f_lead_ofX := At.ad K (.glo "_lead_of"),
    d_lead_ofX := d_lead_ofX,
    F_lead_ofX := F_lead_ofX,
    m_lead_ofX := He.glo_ok X G (c.fact 8 rfl),
    b_lead_ofX := F_lead_ofX.binds fun _ _ _ _ _ _ us hl => match us, hl with | [_], _ => rfl,
    f_names_ofX := At.ad K (.glo "_names_of"),
    d_names_ofX := d_names_ofX,
    F_names_ofX := F_names_ofX,
    m_names_ofX := He.glo_ok X G (c.fact 9 rfl),
    b_names_ofX := F_names_ofX.binds fun _ _ _ _ _ _ us hl => match us, hl with | [_, _], _ => rfl,
    f_parse_planX := At.ad K (.glo "parse_plan"),
    d_parse_planX := d_parse_planX,
    F_parse_planX := F_parse_planX,
    m_parse_planX := He.glo_ok X G (c.fact 10 rfl),
    b_parse_planX := F_parse_planX.binds fun _ _ _ _ _ _ us hl => match us, hl with | [_], _ => rfl,
    f_rlaw_random := At.ad K (.glo "_law_random"),
    d_rlaw_random := d_rlaw_random,
    F_rlaw_random := F_rlaw_random,
    m_rlaw_random := He.glo_ok X G (c.fact 11 rfl),
    b_rlaw_random := F_rlaw_random.binds fun _ _ _ _ _ _ us hl => match us, hl with | [_, _], _ => rfl,
    f_rlaw_below := At.ad K (.glo "_law_below"),
    d_rlaw_below := d_rlaw_below,
    F_rlaw_below := F_rlaw_below,
    m_rlaw_below := He.glo_ok X G (c.fact 12 rfl),
    b_rlaw_below := F_rlaw_below.binds fun _ _ _ _ _ _ us hl => match us, hl with | [_, _], _ => rfl,
    f_rlaw_shuffled := At.ad K (.glo "_law_shuffled"),
    d_rlaw_shuffled := d_rlaw_shuffled,
    F_rlaw_shuffled := F_rlaw_shuffled,
    m_rlaw_shuffled := He.glo_ok X G (c.fact 13 rfl),
    b_rlaw_shuffled := F_rlaw_shuffled.binds fun _ _ _ _ _ _ us hl => match us, hl with | [_, _], _ => rfl,
    f_rlaw_days := At.ad K (.glo "_law_days"),
    d_rlaw_days := d_rlaw_days,
    F_rlaw_days := F_rlaw_days,
    m_rlaw_days := He.glo_ok X G (c.fact 14 rfl),
    b_rlaw_days := F_rlaw_days.binds fun _ _ _ _ _ _ us hl => match us, hl with | [_, _, _], _ => rfl,
    f_rlaw_words := At.ad K (.glo "_law_words"),
    d_rlaw_words := d_rlaw_words,
    F_rlaw_words := F_rlaw_words,
    m_rlaw_words := He.glo_ok X G (c.fact 15 rfl),
    b_rlaw_words := F_rlaw_words.binds fun _ _ _ _ _ _ us hl => match us, hl with | [_, _], _ => rfl,
    f_rlaw_equal := At.ad K (.glo "_law_equal"),
    d_rlaw_equal := d_rlaw_equal,
    F_rlaw_equal := F_rlaw_equal,
    m_rlaw_equal := He.glo_ok X G (c.fact 16 rfl),
    b_rlaw_equal := F_rlaw_equal.binds fun _ _ _ _ _ _ us hl => match us, hl with | [_, _], _ => rfl,
    f_rlaw_is_number := At.ad K (.glo "_law_is_number"),
    d_rlaw_is_number := d_rlaw_is_number,
    F_rlaw_is_number := F_rlaw_is_number,
    m_rlaw_is_number := He.glo_ok X G (c.fact 17 rfl),
    b_rlaw_is_number := F_rlaw_is_number.binds fun _ _ _ _ _ _ us hl => match us, hl with | [_], _ => rfl,
    f_rlaw_is_name := At.ad K (.glo "_law_is_name"),
    d_rlaw_is_name := d_rlaw_is_name,
    F_rlaw_is_name := F_rlaw_is_name,
    m_rlaw_is_name := He.glo_ok X G (c.fact 18 rfl),
    b_rlaw_is_name := F_rlaw_is_name.binds fun _ _ _ _ _ _ us hl => match us, hl with | [_], _ => rfl,
    f_rlaw_expected := At.ad K (.glo "_law_expected"),
    d_rlaw_expected := d_rlaw_expected,
    F_rlaw_expected := F_rlaw_expected,
    m_rlaw_expected := He.glo_ok X G (c.fact 19 rfl),
    b_rlaw_expected := F_rlaw_expected.binds fun _ _ _ _ _ _ us hl => match us, hl with | [_], _ => rfl,
    f_rlaw_error_of := At.ad K (.glo "_law_error_of"),
    d_rlaw_error_of := d_rlaw_error_of,
    F_rlaw_error_of := F_rlaw_error_of,
    m_rlaw_error_of := He.glo_ok X G (c.fact 20 rfl),
    b_rlaw_error_of := F_rlaw_error_of.binds fun _ _ _ _ _ _ us hl => match us, hl with | [_], _ => rfl,
    f_law := At.ad K (.glo "law"),
    d_law := d_law,
    F_law := F_law,
    m_law := He.glo_ok X G (c.fact 21 rfl),
    b_law := F_law.binds fun _ _ _ _ _ _ us hl => match us, hl with | [_], _ => rfl,
    fX_InvalidPlan := He.ma K (He.ga K "InvalidPlan") "__init__",
    dX_InvalidPlan := dX_InvalidPlan,
    FX_InvalidPlan := FX_InvalidPlan,
    xi_InvalidPlan := xiB_ok top gsup (c.bool 22 rfl),
    fX_InvalidText := He.ma K (He.ga K "InvalidText") "__init__",
    dX_InvalidText := dX_InvalidText,
    FX_InvalidText := FX_InvalidText,
    xi_InvalidText := xiB_ok top gsup (c.bool 23 rfl),
    m_DecodeError := He.glo_ok X G (c.fact 24 rfl),
    m_FarmError := He.glo_ok X G (c.fact 25 rfl),
    m_InvalidCart := He.glo_ok X G (c.fact 26 rfl),
    m_InvalidNumber := He.glo_ok X G (c.fact 27 rfl),
    m_InvalidOperation := He.glo_ok X G (c.fact 28 rfl),
    m_InvalidPlan := He.glo_ok X G (c.fact 29 rfl),
    m_InvalidText := He.glo_ok X G (c.fact 30 rfl),
    cls_Plan := He.cls_ok (c.fact 31 rfl),
    m_Plan := He.glo_ok X G (c.fact 32 rfl),
    m_UnknownField := He.glo_ok X G (c.fact 33 rfl),
    mk_Plan := He.mkr_ok (c.fact 34 rfl),
    no_Plan__days := He.noat_ok (c.fact 35 rfl),
    no_Plan__lead := He.noat_ok (c.fact 36 rfl),
    g_ValueError := He.free_ok X G (c.fact 37 rfl),
    g_abs := He.free_ok X G (c.fact 38 rfl),
    g_all := He.free_ok X G (c.fact 39 rfl),
    g_bool := He.free_ok X G (c.fact 40 rfl),
    g_enumerate := He.free_ok X G (c.fact 41 rfl),
    g_int := He.free_ok X G (c.fact 42 rfl),
    g_isinstance := He.free_ok X G (c.fact 43 rfl),
    g_len := He.free_ok X G (c.fact 44 rfl),
    g_list := He.free_ok X G (c.fact 45 rfl),
    g_min := He.free_ok X G (c.fact 46 rfl),
    g_range := He.free_ok X G (c.fact 47 rfl),
    g_set := He.free_ok X G (c.fact 48 rfl),
    g_str := He.free_ok X G (c.fact 49 rfl),
    g_tuple := He.free_ok X G (c.fact 50 rfl),
    k_DIGITS := fb_str X G (c.fact 51 rfl),
    k_LEAD_WORD := fb_str X G (c.fact 52 rfl),
    k_LETTERS := fb_str X G (c.fact 53 rfl),
    k_MAX_DAYS := fb_int X G (c.fact 54 rfl),
    k_MAX_LEAD_DIGITS := fb_int X G (c.fact 55 rfl),
    k_MAX_NAME := fb_int X G (c.fact 56 rfl),
    k_NOTHING := fb_str X G (c.fact 57 rfl),
    xk := fun _ _ _ h => xtB_xk (c.bool 58 rfl) (exmT_some h).1,
    xem := fun _ _ _ h => (exmT_some h).2,
    xia := fun _ _ _ h => (isaT_some h).2,
    xiv := fun _ _ h => (isvT_some h).2,
    xt := xtab_of rfl rfl rfl rfl (c.bool 58 rfl) (c.bool 59 rfl) }, rfl⟩
theorem law_facts {P : Program} {w : World} {K : PySem.W.Frag} {h : Heap} {mg : Str → Option Value} {f : Addr} (hf : P.main.file = fileN) (top : (P.main.scope.names.lookup ("super" : Str)).isSome = false) (X : K.In h) (G : h.Ns mainGlobals mg) (hfa : mg ("law" : Str) = some (.ref f)) (c : SaysZ fa fn fS fileN tf h K) :
    ∃ fd : FuncData, (∀ (s : Shared) (v : Value), BindsTo s fd ⟨[v], []⟩ [("_law_script", v)]) ∧ ∀ base : Heap, K.In base → base.Ns mainGlobals mg → (∀ p ∈ [He.cT K ("law", none)], LamX.TabB base mg p.1 p.2) → FnOk P w K mg base CX0 14 f fd ["_law_script"] (spLawT K 63 [((He.cT K ("law", none)).2, lamQ)]) := by
  obtain ⟨T, e⟩ := txt_of hf top X G c
  have e2 := T.m_law.symm.trans hfa
  cases e2
  refine ⟨T.d_law, ?_, fun base _ _ TB => ok_law T (code_at (p := ("law", none)) T.F_law e) (TB _ List.mem_cons_self)⟩
  obtain ⟨oc, od, kV, doc, pm, an, cdv, ct, osl, e, _⟩ := T.F_law.ex
  rw [e]
  exact fun s v => .of_eq rfl
end Z
open PySem PySem.W PySem.Calls PyProof.Rows
theorem PySem.Challenge.cw_harvestcarts_k39_texts_of_plans_holds : PySem.Challenge.rw_harvestcarts_k39_texts_of_plans.Holds := by
  w_on; o_law
  refine HandSHeadRun.head_any (r := OpenLaw.row PySem.Challenge.rw_harvestcarts_k39_texts_of_plans) (q := view (OpenLaw.row PySem.Challenge.rw_harvestcarts_k39_texts_of_plans).prog [44]) (H := Z.hk) (ob := Z.ob) (M := 6000) (loose := Z.nms) (d := HandSHeadRun.topDef (OpenLaw.row PySem.Challenge.rw_harvestcarts_k39_texts_of_plans).prog 44) (kwd := []) Z.ob_eq
    (by kernel_rfl) (fun s => by kernel_rfl) Z.run (by kernel_rfl) (by kernel_rfl) (by kernel_rfl) (by rfl) (by first | assumption | decide +kernel) (by decide +kernel) ⟨rfl, rfl, rfl, rfl, rfl, by decide +kernel⟩ ?hw ?hc
  case hw => w_witness2
  case hc =>
    refine LamX.walk_ofTsE (l := PySem.Challenge.rw_harvestcarts_k39_texts_of_plans) (n := 63) (k := 14) (x := "_law_script") (CX := fun _ => L2.CX0) rfl (by decide) (by kernel_rfl) ⟨rfl, by decide, by decide⟩ ?F (fun _ _ _ _ _ z => z)
    intro w mg fa h Y G hmg0
    obtain ⟨K, KX, c⟩ := Y
    have hmg : mg ("law" : PySem.Str) = some (.ref fa) := by
      have e : (HandSHeadRun.topDef (OpenLaw.row PySem.Challenge.rw_harvestcarts_k39_texts_of_plans).prog 44).name = ("law" : PySem.Str) := by kernel_rfl
      rw [← e]
      exact hmg0
    obtain ⟨fd, hb, hF⟩ := Z.law_facts (P := (PySem.Challenge.rw_harvestcarts_k39_texts_of_plans).prog) (w := w) rfl (by kernel_rfl) KX G hmg c
    exact ⟨K, KX, fd, [He.cT K ("law", none)], DL.spLawT K 63 [((He.cT K ("law", none)).2, Z.lamQ)], fun p hp => by rw [List.mem_singleton] at hp; rw [hp]; exact c.empty _ List.mem_cons_self, fun p hp => by rw [List.mem_singleton] at hp; rw [hp]; exact c.out _ List.mem_cons_self, fun p hp => by rw [List.mem_singleton] at hp; rw [hp]; exact PySem.W.codeHd_of_K KX (c.hd _ List.mem_cons_self), hb, fun H a ns hl _ hT hS => ⟨a, ns, rfl, hS, hl, fun p hp => by
      rw [List.mem_singleton] at hp
      rw [hp]
      exact hT _ List.mem_cons_self, fun _ => rfl⟩, hF⟩
end
