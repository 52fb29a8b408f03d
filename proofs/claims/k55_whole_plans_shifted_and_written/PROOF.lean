import PyProof.Rows.All
import Wide.All
import OpenK.AllK
import Wide.FinOn
import HandS.ForMost
import HandS.Exc
import HandS.WordsExc
import HandS.TupAny
import HandS.Style
import HandS.IsInst
import HandS.Iter
import HandS.Property
import HandS.Star
import HandS.Gcd
import HandS.Conv
import KE.KStar
import KE.GoesEnum
import HandS.Strs
import HandS.TupSets
import HandS.StrMore
import PyProof.ListStr
import HandS.Dict
import HandS.Small
import KE.KStateDown
import HandS.Ends
import HandS.Head0
import HandS.Head1
import HandS.Head2
import HandS.HeadEnd
import HandS.HeadHook1
import HandS.Replace
import HandS.ListItems
import HandS.ClsMeth
import HandS.ExcInit
import HandS.ExcSuper
import HandS.ExcIs
import HandS.ExcField
import HandS.RaiseMore
import HandS.FStr
import HandS.Lambda
import HandS.Defaults
import HandS.TryOnly
import KE.KExcSuper
import KE.KSuper
import HandS.Nested
import HandS.MakeKwOnly
import KE.KLam
import HandS.TryMany
import HandS.HeadHook4
import HandS.HeadWalk
import HandS.Text
import PyProof.StrBlock2
import KE.KOpsOwn
import HandS.SlotsOwn
import HandS.GenBody
import HandS.GenYield
import HandS.GenCall
import HandS.GenList
import PySem.Challenge.RW_harvestcarts_k55_whole_plans_shifted_and
set_option Elab.async false
set_option linter.all false
set_option maxRecDepth 100000
set_option maxHeartbeats 4000000
section
namespace DL
open PySem PySem.Spec PyProof.Rows L2
inductive OwnK where
  | lst | ins (C at_ dx : Addr) (fn : List Str) | dic (ks : List Key)
def OwnK.ho : OwnK → List V → HO
  | .lst, xs => .lst xs
  | .ins C _ dx fn, xs => .ins C dx (fn.zip xs)
  | .dic ks, xs => .dK (ks.zip xs)
def OwnK.fits : OwnK → Addr → List V → Prop
  | .lst, _, _ => True
  | .ins _ p _ fn, a, xs => a = p ∧ fn.length = xs.length
  | .dic ks, _, xs => ks.length = xs.length
inductive D where
  | non | bl (b : Bool) | int (i : Int) | str (x : Str)
  | tup (ds : List D) | lst (ds : List D)
  | ins (C : Addr) (fn : List Str) (ds : List D)
  | adr (a : Addr) | sem (p : Hp → Addr → Prop) | dic (ks : List Key) (ds : List D) | own (k : OwnK) (ds : List D) | nest (k : OwnK) (ds : List D)
mutual
def Rep (K : PySem.W.Frag) (H : Hp) : D → V → Prop
  | .non, v => v = .non
  | .bl b, v => v = .bl b
  | .int i, v => v = .int i
  | .str x, v => v = .str x
  | .tup ds, v => ∃ a xs, v = .ref a ∧ SqT K H a xs ∧ RepL K H ds xs
  | .lst ds, v => ∃ a xs, v = .ref a ∧ H a = some (.lst xs) ∧ RepL K H ds xs
  | .ins C fn ds, v => ∃ a dx xs, v = .ref a ∧ H a = some (.ins C dx (fn.zip xs)) ∧ fn.length = xs.length ∧ RepL K H ds xs
  | .adr a, v => v = .ref a
  | .sem p, v => ∃ a G, v = .ref a ∧ (∀ b o, G b = some o → H b = some o) ∧ p G a
  | .dic ks ds, v => ∃ a xs, v = .ref a ∧ H a = some (.dK (ks.zip xs)) ∧ ks.length = xs.length ∧ RepL K H ds xs
  | .own _ _, _ => False
  | .nest _ _, _ => False
def RepL (K : PySem.W.Frag) (H : Hp) : List D → List V → Prop
  | [], xs => xs = []
  | d :: ds, xs => ∃ v vs, xs = v :: vs ∧ Rep K H d v ∧ RepL K H ds vs
end
def Ex (H H' : Hp) : Prop := ∀ a o, H a = some o → H' a = some o
theorem ex_t {K : PySem.W.Frag} {H H' : Hp} {a : Addr} {xs : List V} (e : Ex H H') (h : SqT K H a xs) : SqT K H' a xs := by
  rcases h with (h | ⟨o, h⟩) | h
  · exact .inl (.inl (e _ _ h))
  · exact .inl (.inr ⟨o, e _ _ h⟩)
  · exact .inr h
mutual
theorem Rep.mono {K : PySem.W.Frag} {H H' : Hp} (e : Ex H H') : ∀ (d : D) (v : V), Rep K H d v → Rep K H' d v
  | .non, _, h => h
  | .bl _, _, h => h
  | .int _, _, h => h
  | .str _, _, h => h
  | .tup ds, _, h => by
    unfold Rep at h ⊢
    obtain ⟨a, xs, e1, h1, h2⟩ := h
    exact ⟨a, xs, e1, ex_t e h1, RepL.mono e ds xs h2⟩
  | .lst ds, _, h => by
    unfold Rep at h ⊢
    obtain ⟨a, xs, e1, h1, h2⟩ := h
    exact ⟨a, xs, e1, e _ _ h1, RepL.mono e ds xs h2⟩
  | .ins C fn ds, _, h => by
    unfold Rep at h ⊢
    obtain ⟨a, dx, xs, e1, h1, hl, h2⟩ := h
    exact ⟨a, dx, xs, e1, e _ _ h1, hl, RepL.mono e ds xs h2⟩
  | .adr _, _, h => h
  | .sem _, _, h => by
    unfold Rep at h ⊢
    obtain ⟨a, G, e1, e2, h1⟩ := h
    exact ⟨a, G, e1, fun b o q => e b o (e2 b o q), h1⟩
  | .dic ks ds, _, h => by
    unfold Rep at h ⊢
    obtain ⟨a, xs, e1, h1, hl, h2⟩ := h
    exact ⟨a, xs, e1, e _ _ h1, hl, RepL.mono e ds xs h2⟩
  | .own _ _, _, h => h
  | .nest _ _, _, h => h
theorem RepL.mono {K : PySem.W.Frag} {H H' : Hp} (e : Ex H H') : ∀ (ds : List D) (vs : List V), RepL K H ds vs → RepL K H' ds vs
  | [], _, h => h
  | d :: ds, _, h => by
    unfold RepL at h ⊢
    obtain ⟨v, vs, e1, h1, h2⟩ := h
    exact ⟨v, vs, e1, Rep.mono e d v h1, RepL.mono e ds vs h2⟩
end
section
variable {K : PySem.W.Frag} {H : Hp}
theorem RepL.nil : RepL K H [] [] := by unfold RepL; rfl
theorem RepL.cons {d : D} {ds : List D} {v : V} {vs : List V} (h : Rep K H d v) (r : RepL K H ds vs) : RepL K H (d :: ds) (v :: vs) := by
  unfold RepL; exact ⟨v, vs, rfl, h, r⟩
theorem RepL.len : ∀ {ds : List D} {vs : List V}, RepL K H ds vs → ds.length = vs.length
  | [], _, h => by unfold RepL at h; subst h; rfl
  | d :: ds, _, h => by
    unfold RepL at h
    obtain ⟨v, vs, rfl, _, h2⟩ := h
    simp [RepL.len h2]
theorem RepL.append : ∀ {ds es : List D} {vs us : List V}, RepL K H ds vs → RepL K H es us → RepL K H (ds ++ es) (vs ++ us)
  | [], _, _, _, h, h' => by unfold RepL at h; subst h; exact h'
  | d :: ds, es, _, us, h, h' => by
    unfold RepL at h
    obtain ⟨v, vs, rfl, h1, h2⟩ := h
    exact RepL.cons h1 (RepL.append h2 h')
theorem RepL.set : ∀ {ds : List D} {vs : List V} {i : Nat} {d : D} {v : V}, RepL K H ds vs → Rep K H d v → RepL K H (ds.set i d) (vs.set i v)
  | [], _, _, _, _, h, _ => by unfold RepL at h; subst h; exact RepL.nil
  | d :: ds, _, i, d', v', h, r => by
    unfold RepL at h
    obtain ⟨v, vs, rfl, h1, h2⟩ := h
    cases i with
    | zero => exact RepL.cons r h2
    | succ i => exact RepL.cons h1 (RepL.set h2 r)
theorem RepL.drop : ∀ {ds : List D} {vs : List V} (n : Nat), RepL K H ds vs → RepL K H (ds.drop n) (vs.drop n)
  | _, _, 0, h => h
  | [], _, n + 1, h => by unfold RepL at h; subst h; exact RepL.nil
  | d :: ds, _, n + 1, h => by
    unfold RepL at h
    obtain ⟨v, vs, rfl, h1, h2⟩ := h
    exact RepL.drop n h2
theorem RepL.take : ∀ {ds : List D} {vs : List V} (n : Nat), RepL K H ds vs → RepL K H (ds.take n) (vs.take n)
  | _, _, 0, h => RepL.nil
  | [], _, n + 1, h => by unfold RepL at h; subst h; exact RepL.nil
  | d :: ds, _, n + 1, h => by
    unfold RepL at h
    obtain ⟨v, vs, rfl, h1, h2⟩ := h
    exact RepL.cons h1 (RepL.take n h2)
theorem RepL.reverse : ∀ {ds : List D} {vs : List V}, RepL K H ds vs → RepL K H ds.reverse vs.reverse
  | [], _, h => by unfold RepL at h; subst h; exact RepL.nil
  | d :: ds, _, h => by
    unfold RepL at h
    obtain ⟨v, vs, rfl, h1, h2⟩ := h
    simp only [List.reverse_cons]
    exact RepL.append (RepL.reverse h2) (RepL.cons h1 RepL.nil)
theorem RepL.ints : ∀ (ns : List Int), RepL K H (ns.map D.int) (ns.map V.int)
  | [] => RepL.nil
  | n :: ns => RepL.cons (by unfold Rep; rfl) (RepL.ints ns)
end
def isX : HO → Bool
  | .ext _ => true
  | .tup _ => true
  | _ => false
structure Sit where
  Hs : Hp
  W : Addr → Prop
  I : Hp → Prop
  stab : ∀ H H', (∀ a o, H a = some o → (W a ∨ isX o = true) → H' a = some o) → I H → I H'
  there : ∀ H a, I H → W a → ∃ o, H a = some o
  nox : ∀ H a o, I H → W a → H a = some o → isX o = false
open Classical in
noncomputable def hide (H : Hp) (Z : Addr → Prop) : Hp := fun a => if Z a then none else H a
theorem hide_some {H : Hp} {Z : Addr → Prop} {a : Addr} {o : HO} : hide H Z a = some o ↔ ¬ Z a ∧ H a = some o := by
  unfold hide
  by_cases h : Z a
  · rw [if_pos h]; simp [h]
  · rw [if_neg h]; simp [h]
def Kp (S : Sit) (H H' : Hp) : Prop := ∀ b o, H b = some o → ¬ S.W b → H' b = some o
theorem Kp.refl {S : Sit} (H : Hp) : Kp S H H := fun _ _ h _ => h
theorem Kp.trans {S : Sit} {H H1 H2 : Hp} (a : Kp S H H1) (b : Kp S H1 H2) : Kp S H H2 := fun c o h n => b c o (a c o h n) n
theorem Kp.of {S : Sit} {H H' : Hp} (e : Ex H H') : Kp S H H' := fun b o h _ => e b o h
structure Wd (S : Sit) (Z : Addr → Prop) (H : Hp) : Prop where
  base : ∀ b o, S.Hs b = some o → H b = some o ∧ ¬ Z b
  wz : ∀ a, S.W a → Z a
  zin : ∀ a, Z a → ∃ o, H a = some o
  zx : ∀ a o, Z a → H a = some o → isX o = false
  inv : S.I H
section
variable {S : Sit} {Z Z' : Addr → Prop} {H H' : Hp}
theorem Wd.step (w : Wd S Z H) (k : Kp S H H') (i : S.I H') : Wd S Z H' where
  base := fun b o e => let ⟨h, n⟩ := w.base b o e; ⟨k b o h fun q => n (w.wz b q), n⟩
  wz := w.wz
  zin := fun a z => by
    by_cases hw : S.W a
    · exact S.there H' a i hw
    · obtain ⟨o, e⟩ := w.zin a z
      exact ⟨o, k a o e hw⟩
  zx := fun a o z e => by
    by_cases hw : S.W a
    · exact S.nox H' a o i hw e
    · obtain ⟨u, e1⟩ := w.zin a z
      rw [k a u e1 hw] at e
      rw [← Option.some.inj e]
      exact w.zx a u z e1
  inv := i
theorem Wd.ex (w : Wd S Z H) (k : Kp S H H') : Ex (hide H Z) (hide H' Z) := fun a o h => by
  obtain ⟨n, e⟩ := hide_some.mp h
  exact hide_some.mpr ⟨n, k a o e fun q => n (w.wz a q)⟩
theorem hide_weak {H : Hp} (h : ∀ a, Z a → Z' a) : Ex (hide H Z') (hide H Z) := fun a o e => by
  obtain ⟨n, e⟩ := hide_some.mp e
  exact hide_some.mpr ⟨fun z => n (h a z), e⟩
end
abbrev EnvD := List (Option D)
abbrev XD := Addr → List (Str × D) → Prop
def D.isOwn : D → Bool
  | .own _ _ => true
  | .nest _ _ => true
  | _ => false
def XRep (K : PySem.W.Frag) (H : Hp) (dd : Option Addr) (fs : List (Str × D)) : Prop :=
  (fs = [] ∧ dd = none) ∨ ∃ a vs, dd = some a ∧ H a = some (.xd ((fs.map (·.1)).zip vs)) ∧ RepL K H (fs.map (·.2)) vs
structure Cl where
  Z0 : Addr → Prop
  H0 : Hp
  E : XK
  x : XD
def XFit (K : PySem.W.Frag) (S : Sit) (c : Cl) : Prop := ∀ cls dd H' fs, Kp S c.H0 H' → S.I H' → XRep K (hide H' c.Z0) dd fs → c.x cls fs → c.E (.ref cls) dd H'
structure RV (K : PySem.W.Frag) (S : Sit) (c : Cl) (Z : Addr → Prop) (σ : L2.St) (H : Hp) (ρ : EnvD) : Prop where
  wd : Wd S Z H
  kp : Kp S c.H0 H
  zz : ∀ a, c.Z0 a → Z a
  len : σ.length = ρ.length
  sl : ∀ (i : Nat) (d : D), ρ[i]? = some (some d) → d.isOwn = false → ∃ v, σ[i]? = some (some v) ∧ Rep K (hide H Z) d v
theorem RV.step {K : PySem.W.Frag} {S : Sit} {c : Cl} {Z : Addr → Prop} {σ : L2.St} {H H' : Hp} {ρ : EnvD} (r : RV K S c Z σ H ρ) (k : Kp S H H') (i : S.I H') : RV K S c Z σ H' ρ where
  wd := r.wd.step k i
  kp := r.kp.trans k
  zz := r.zz
  len := r.len
  sl := fun j d e n => let ⟨v, e1, q⟩ := r.sl j d e n; ⟨v, e1, Rep.mono (r.wd.ex k) d v q⟩
abbrev TED := EnvD → (D → Prop) → Prop
abbrev TAD := EnvD → (List D → Prop) → Prop
abbrev TTD := EnvD → (Bool → Prop) → Prop
def WE (K : PySem.W.Frag) (S : Sit) (c : Cl) (te : TE) (t : TED) : Prop := ∀ Z σ H ρ (P : D → Prop), RV K S c Z σ H ρ → t ρ P →
  ∀ Q : VK, (∀ v H' d, Kp S H H' → S.I H' → Rep K (hide H' Z) d v → P d → Q v H') → te σ H Q
def WA (K : PySem.W.Frag) (S : Sit) (c : Cl) (ta : TA) (t : TAD) : Prop := ∀ Z σ H ρ (P : List D → Prop), RV K S c Z σ H ρ → t ρ P →
  ∀ Q : List V → Hp → Prop, (∀ vs H' ds, Kp S H H' → S.I H' → RepL K (hide H' Z) ds vs → P ds → Q vs H') → ta σ H Q
def WT (K : PySem.W.Frag) (S : Sit) (c : Cl) (tt : TT) (t : TTD) : Prop := ∀ Z σ H ρ (P : Bool → Prop), RV K S c Z σ H ρ → t ρ P →
  ∀ Q : Bool → Hp → Prop, (∀ b H', Kp S H H' → S.I H' → P b → Q b H') → tt σ H Q
section
variable {K : PySem.W.Frag} {S : Sit} {c : Cl} {ta tb te : TE} {a b t : TED} {tt tu : TT} {p q : TTD} {ts : TA} {as : TAD}
def dVar (i : Nat) : TED := fun ρ P => match ρ[i]? with
  | some (some (.own _ _)) => False
  | some (some (.nest _ _)) => False
  | some (some d) => P d
  | _ => False
def dC (d : D) : TED := fun _ P => P d
abbrev R2D := D → D → (D → Prop) → Prop
def dOp (r : R2D) (a b : TED) : TED := fun ρ P => a ρ fun x => b ρ fun y => r x y P
def dNil : TAD := fun _ P => P []
def dCons (a : TED) (as : TAD) : TAD := fun ρ P => a ρ fun x => as ρ fun xs => P (x :: xs)
def dTup (as : TAD) : TED := fun ρ P => as ρ fun ds => ds.length ≤ 1000000 ∧ P (.tup ds)
def dLst (as : TAD) : TED := fun ρ P => as ρ fun ds => ds.length ≤ 1000000 ∧ P (.lst ds)
def dTest (a : TED) : TTD := fun ρ P => a ρ fun x => match x with
  | .bl b => P b
  | _ => False
def dAnd (p q : TTD) : TTD := fun ρ P => p ρ fun b => if b = true then q ρ P else P false
def dOr (p q : TTD) : TTD := fun ρ P => p ρ fun b => if b = true then P true else q ρ P
def dNot (p : TTD) : TTD := fun ρ P => p ρ fun b => P (!b)
def dIf (p : TTD) (a b : TED) : TED := fun ρ P => p ρ fun k => if k = true then a ρ P else b ρ P
def dAndV (a b : TED) : TED := fun ρ P => a ρ fun x => match x with
  | .bl k => if k = true then b ρ P else P (.bl false)
  | _ => False
def dOrV (a b : TED) : TED := fun ρ P => a ρ fun x => match x with
  | .bl k => if k = true then P (.bl true) else b ρ P
  | _ => False
def dNotV (a : TED) : TED := fun ρ P => a ρ fun x => match x with
  | .bl k => P (.bl (!k))
  | _ => False
end
end DL
end
section
namespace DL
open PySem PySem.Spec PyProof.Rows L2
section
variable {K : PySem.W.Frag} {S : Sit} {c : Cl} {ta tb te : TE} {a b t : TED} {tt tu : TT} {p q : TTD} {ts : TA} {as : TAD}
def rII (g : Int → Int → D) : R2D := fun x y P => match x, y with
  | .int i, .int j => P (g i j)
  | _, _ => False
def dChain (r r' : R2D) (a b c' : TED) : TED := fun ρ P => a ρ fun x => b ρ fun y => r x y fun z => match z with
  | .bl k => if k = true then c' ρ fun w => r' y w P else P (.bl false)
  | _ => False
def D.isNon : D → Bool
  | .non => true
  | _ => false
def rIsND : R2D := fun x y P => match y with
  | .non => P (.bl x.isNon)
  | _ => False
def rNotND : R2D := fun x y P => match y with
  | .non => P (.bl (!x.isNon))
  | _ => False
mutual
def D.py : D → PyData
  | .non => .none
  | .bl b => .bool b
  | .int i => .int i
  | .str x => .str x
  | .tup ds => .tuple (D.pyL ds)
  | .lst ds => .list (D.pyL ds)
  | .ins _ _ _ => .none
  | .adr _ => .none
  | .sem _ => .none
  | .dic _ _ => .none
  | .own _ _ => .none
  | .nest _ _ => .none
def D.pyL : List D → List PyData
  | [] => []
  | d :: ds => D.py d :: D.pyL ds
end
mutual
/-- data: none, bools, ints, texts, tuples, lists, at most n deep -/
def D.flat : Nat → D → Bool
  | _, .non => true
  | _, .bl _ => true
  | _, .int _ => true
  | _, .str x => PyData.strOk x
  | n + 1, .tup ds => D.flatL n ds
  | n + 1, .lst ds => D.flatL n ds
  | _, _ => false
def D.flatL : Nat → List D → Bool
  | _, [] => true
  | n, d :: ds => D.flat n d && D.flatL n ds
end

@[irreducible] def rEqDD : R2D := fun x y P => (D.flat 60 x = true ∧ D.flat 60 y = true) ∧ P (.bl (PyData.eqv x.py y.py))
@[irreducible] def rNeDD : R2D := fun x y P => (D.flat 60 x = true ∧ D.flat 60 y = true) ∧ P (.bl (!PyData.eqv x.py y.py))
def cutD (xs : List D) (lo hi : Option Int) : List D := (xs.drop (HT.sIx xs.length 0 lo)).take (HT.sIx xs.length xs.length hi - HT.sIx xs.length 0 lo)
abbrev TOD := EnvD → (Option Int → Prop) → Prop
def WO (K : PySem.W.Frag) (S : Sit) (c : Cl) (to : TO) (t : TOD) : Prop := ∀ Z σ H ρ (P : Option Int → Prop), RV K S c Z σ H ρ → t ρ P →
  ∀ Q : Option Int → Hp → Prop, (∀ o H', Kp S H H' → S.I H' → P o → Q o H') → to σ H Q
def oNo : TOD := fun _ P => P none
def oYes (a : TED) : TOD := fun ρ P => a ρ fun x => match x with
  | .int i => P (some i)
  | _ => False
def dSl (f : D → Option Int → Option Int → (D → Prop) → Prop) (a : TED) (l h : TOD) : TED := fun ρ P => a ρ fun x => l ρ fun lo => h ρ fun hi => f x lo hi P
def slLD : D → Option Int → Option Int → (D → Prop) → Prop := fun x lo hi P => match x with
  | .lst ds => P (.lst (cutD ds lo hi))
  | _ => False
def slTD : D → Option Int → Option Int → (D → Prop) → Prop := fun x lo hi P => match x with
  | .tup ds => P (.tup (cutD ds lo hi))
  | _ => False
def D.v : D → V
  | .bl b => .bl b
  | .int i => .int i
  | .str x => .str x
  | _ => .non
def D.items : D → Option (List D)
  | .lst ds => some ds
  | .tup ds => some ds
  | _ => none
abbrev RCD := List D → (D → Prop) → Prop
def dCB (r : RCD) (as : TAD) : TED := fun ρ P => as ρ fun ds => r ds P
def rLenD : RCD := fun ds P => match ds with
  | [.lst xs] => P (.int xs.length)
  | [.tup xs] => P (.int xs.length)
  | [.str z] => z.length ≤ 1000000 ∧ P (.int z.length)
  | _ => False
def rListD : RCD := fun ds P => match ds with
  | [x] => match x.items with
    | some xs => P (.lst xs)
    | none => False
  | _ => False
def rTupleD : RCD := fun ds P => match ds with
  | [.lst xs] => P (.tup xs)
  | [.tup xs] => P (.tup xs)
  | _ => False
end
end DL
end
section
namespace DL
open PySem PySem.Spec PyProof.Rows L2
mutual
/-- d lies at v, held: own, one object; nest, it and what lies below it (own, nest), all of them at ft; else shared -/
def Own (K : PySem.W.Frag) (H : Hp) (Z : Addr → Prop) (H0 : Hp) : D → V → List Addr → Prop
  | .own k ds, v, ft => ∃ a xs, v = .ref a ∧ ft = [a] ∧ Z a ∧ H0 a = none ∧ H a = some (k.ho xs) ∧ k.fits a xs ∧ RepL K (hide H Z) ds xs
  | .nest k ds, v, ft => ∃ a xs f, v = .ref a ∧ ft = a :: f ∧ Z a ∧ H0 a = none ∧ H a = some (k.ho xs) ∧ k.fits a xs ∧ OwnL K H Z H0 ds xs f
  | .non, v, ft => ft = [] ∧ Rep K (hide H Z) .non v
  | .bl b, v, ft => ft = [] ∧ Rep K (hide H Z) (.bl b) v
  | .int i, v, ft => ft = [] ∧ Rep K (hide H Z) (.int i) v
  | .str x, v, ft => ft = [] ∧ Rep K (hide H Z) (.str x) v
  | .tup ds, v, ft => ft = [] ∧ Rep K (hide H Z) (.tup ds) v
  | .lst ds, v, ft => ft = [] ∧ Rep K (hide H Z) (.lst ds) v
  | .ins C fn ds, v, ft => ft = [] ∧ Rep K (hide H Z) (.ins C fn ds) v
  | .adr a, v, ft => ft = [] ∧ Rep K (hide H Z) (.adr a) v
  | .sem p, v, ft => ft = [] ∧ Rep K (hide H Z) (.sem p) v
  | .dic ks ds, v, ft => ft = [] ∧ Rep K (hide H Z) (.dic ks ds) v
def OwnL (K : PySem.W.Frag) (H : Hp) (Z : Addr → Prop) (H0 : Hp) : List D → List V → List Addr → Prop
  | [], xs, ft => xs = [] ∧ ft = []
  | d :: ds, xs, ft => ∃ v vs f1 f2, xs = v :: vs ∧ ft = f1 ++ f2 ∧ Own K H Z H0 d v f1 ∧ OwnL K H Z H0 ds vs f2
end
mutual
def D.thaw : D → D
  | .own .lst ds => .lst ds
  | .own (.ins C _ _ fn) ds => .ins C fn ds
  | .own (.dic ks) ds => .dic ks ds
  | .nest .lst ds => .lst (D.thawL ds)
  | .nest (.ins C _ _ fn) ds => .ins C fn (D.thawL ds)
  | .nest (.dic ks) ds => .dic ks (D.thawL ds)
  | .non => .non
  | .bl b => .bl b
  | .int i => .int i
  | .str x => .str x
  | .tup ds => .tup ds
  | .lst ds => .lst ds
  | .ins C fn ds => .ins C fn ds
  | .adr a => .adr a
  | .sem p => .sem p
  | .dic ks ds => .dic ks ds
def D.thawL : List D → List D
  | [] => []
  | d :: ds => d.thaw :: D.thawL ds
end
theorem thaw_id {d : D} (h : d.isOwn = false) : d.thaw = d := by
  cases d <;> first | (cases h; done) | (unfold D.thaw; rfl)
section
variable {K : PySem.W.Frag} {H H' H0 : Hp} {Z Z' : Addr → Prop}
theorem own_plain {d : D} {v : V} {ft : List Addr} (h : d.isOwn = false) : Own K H Z H0 d v ft ↔ ft = [] ∧ Rep K (hide H Z) d v := by
  cases d <;> first | (cases h; done) | (unfold Own; rfl)
theorem OwnL.len : ∀ {ds : List D} {xs : List V} {ft : List Addr}, OwnL K H Z H0 ds xs ft → ds.length = xs.length
  | [], _, _, h => by unfold OwnL at h; obtain ⟨rfl, _⟩ := h; rfl
  | d :: ds, _, _, h => by
    unfold OwnL at h
    obtain ⟨v, vs, f1, f2, rfl, _, _, h2⟩ := h
    simp [OwnL.len h2]
mutual
theorem Own.in_ : ∀ {d : D} {v : V} {ft : List Addr}, Own K H Z H0 d v ft → ∀ a ∈ ft, Z a ∧ H0 a = none ∧ ∃ o, H a = some o
  | .own k ds, v, ft, h, a, ha => by
    unfold Own at h
    obtain ⟨b, xs, _, rfl, z, n, e, _⟩ := h
    rw [List.mem_singleton] at ha
    subst ha
    exact ⟨z, n, _, e⟩
  | .nest k ds, v, ft, h, a, ha => by
    unfold Own at h
    obtain ⟨b, xs, f, _, rfl, z, n, e, _, q⟩ := h
    rcases List.mem_cons.mp ha with rfl | ha
    · exact ⟨z, n, _, e⟩
    · exact OwnL.in_ q a ha
  | .non, v, ft, h, a, ha => by unfold Own at h; rw [h.1] at ha; cases ha
  | .bl b, v, ft, h, a, ha => by unfold Own at h; rw [h.1] at ha; cases ha
  | .int i, v, ft, h, a, ha => by unfold Own at h; rw [h.1] at ha; cases ha
  | .str x, v, ft, h, a, ha => by unfold Own at h; rw [h.1] at ha; cases ha
  | .tup ds, v, ft, h, a, ha => by unfold Own at h; rw [h.1] at ha; cases ha
  | .lst ds, v, ft, h, a, ha => by unfold Own at h; rw [h.1] at ha; cases ha
  | .ins C fn ds, v, ft, h, a, ha => by unfold Own at h; rw [h.1] at ha; cases ha
  | .adr b, v, ft, h, a, ha => by unfold Own at h; rw [h.1] at ha; cases ha
  | .sem b, v, ft, h, a, ha => by unfold Own at h; rw [h.1] at ha; cases ha
  | .dic ks ds, v, ft, h, a, ha => by unfold Own at h; rw [h.1] at ha; cases ha
theorem OwnL.in_ : ∀ {ds : List D} {xs : List V} {ft : List Addr}, OwnL K H Z H0 ds xs ft → ∀ a ∈ ft, Z a ∧ H0 a = none ∧ ∃ o, H a = some o
  | [], _, _, h, a, ha => by unfold OwnL at h; rw [h.2] at ha; cases ha
  | d :: ds, _, _, h, a, ha => by
    unfold OwnL at h
    obtain ⟨v, vs, f1, f2, _, rfl, h1, h2⟩ := h
    rcases List.mem_append.mp ha with ha | ha
    · exact Own.in_ h1 a ha
    · exact OwnL.in_ h2 a ha
end
theorem ho_noX {k : OwnK} {xs : List V} : isX (k.ho xs) = false := by cases k <;> rfl
mutual
theorem Own.noX : ∀ {d : D} {v : V} {ft : List Addr}, Own K H Z H0 d v ft → ∀ a ∈ ft, ∀ o, H a = some o → isX o = false
  | .own k ds, v, ft, h, a, ha, o, ho => by
    unfold Own at h
    obtain ⟨b, xs, _, rfl, z, n, e, _⟩ := h
    rw [List.mem_singleton] at ha
    subst ha
    rw [e] at ho
    cases ho
    exact ho_noX
  | .nest k ds, v, ft, h, a, ha, o, ho => by
    unfold Own at h
    obtain ⟨b, xs, f, _, rfl, z, n, e, _, q⟩ := h
    rcases List.mem_cons.mp ha with rfl | ha
    · rw [e] at ho
      cases ho
      exact ho_noX
    · exact OwnL.noX q a ha o ho
  | .non, v, ft, h, a, ha, o, ho => by unfold Own at h; rw [h.1] at ha; cases ha
  | .bl b, v, ft, h, a, ha, o, ho => by unfold Own at h; rw [h.1] at ha; cases ha
  | .int i, v, ft, h, a, ha, o, ho => by unfold Own at h; rw [h.1] at ha; cases ha
  | .str x, v, ft, h, a, ha, o, ho => by unfold Own at h; rw [h.1] at ha; cases ha
  | .tup ds, v, ft, h, a, ha, o, ho => by unfold Own at h; rw [h.1] at ha; cases ha
  | .lst ds, v, ft, h, a, ha, o, ho => by unfold Own at h; rw [h.1] at ha; cases ha
  | .ins C fn ds, v, ft, h, a, ha, o, ho => by unfold Own at h; rw [h.1] at ha; cases ha
  | .adr b, v, ft, h, a, ha, o, ho => by unfold Own at h; rw [h.1] at ha; cases ha
  | .sem b, v, ft, h, a, ha, o, ho => by unfold Own at h; rw [h.1] at ha; cases ha
  | .dic ks ds, v, ft, h, a, ha, o, ho => by unfold Own at h; rw [h.1] at ha; cases ha
theorem OwnL.noX : ∀ {ds : List D} {xs : List V} {ft : List Addr}, OwnL K H Z H0 ds xs ft → ∀ a ∈ ft, ∀ o, H a = some o → isX o = false
  | [], _, _, h, a, ha, o, ho => by unfold OwnL at h; rw [h.2] at ha; cases ha
  | d :: ds, _, _, h, a, ha, o, ho => by
    unfold OwnL at h
    obtain ⟨v, vs, f1, f2, _, rfl, h1, h2⟩ := h
    rcases List.mem_append.mp ha with ha | ha
    · exact Own.noX h1 a ha o ho
    · exact OwnL.noX h2 a ha o ho
end
mutual
theorem Own.mono (ex : Ex (hide H Z) (hide H' Z')) (zz : ∀ a, Z a → Z' a) : ∀ {d : D} {v : V} {ft : List Addr}, (∀ a ∈ ft, ∀ o, H a = some o → H' a = some o) → Own K H Z H0 d v ft → Own K H' Z' H0 d v ft
  | .own k ds, v, ft, kp, h => by
    unfold Own at h ⊢
    obtain ⟨a, xs, rfl, rfl, z, n, e, f, q⟩ := h
    exact ⟨a, xs, rfl, rfl, zz a z, n, kp a List.mem_cons_self _ e, f, RepL.mono ex ds xs q⟩
  | .nest k ds, v, ft, kp, h => by
    unfold Own at h ⊢
    obtain ⟨a, xs, f, rfl, rfl, z, n, e, ft, q⟩ := h
    exact ⟨a, xs, f, rfl, rfl, zz a z, n, kp a List.mem_cons_self _ e, ft, OwnL.mono ex zz (fun b hb => kp b (List.mem_cons_of_mem _ hb)) q⟩
  | .non, v, ft, kp, h => by unfold Own at h ⊢; exact ⟨h.1, Rep.mono ex _ _ h.2⟩
  | .bl b, v, ft, kp, h => by unfold Own at h ⊢; exact ⟨h.1, Rep.mono ex _ _ h.2⟩
  | .int i, v, ft, kp, h => by unfold Own at h ⊢; exact ⟨h.1, Rep.mono ex _ _ h.2⟩
  | .str x, v, ft, kp, h => by unfold Own at h ⊢; exact ⟨h.1, Rep.mono ex _ _ h.2⟩
  | .tup ds, v, ft, kp, h => by unfold Own at h ⊢; exact ⟨h.1, Rep.mono ex _ _ h.2⟩
  | .lst ds, v, ft, kp, h => by unfold Own at h ⊢; exact ⟨h.1, Rep.mono ex _ _ h.2⟩
  | .ins C fn ds, v, ft, kp, h => by unfold Own at h ⊢; exact ⟨h.1, Rep.mono ex _ _ h.2⟩
  | .adr b, v, ft, kp, h => by unfold Own at h ⊢; exact ⟨h.1, Rep.mono ex _ _ h.2⟩
  | .sem b, v, ft, kp, h => by unfold Own at h ⊢; exact ⟨h.1, Rep.mono ex _ _ h.2⟩
  | .dic ks ds, v, ft, kp, h => by unfold Own at h ⊢; exact ⟨h.1, Rep.mono ex _ _ h.2⟩
theorem OwnL.mono (ex : Ex (hide H Z) (hide H' Z')) (zz : ∀ a, Z a → Z' a) : ∀ {ds : List D} {xs : List V} {ft : List Addr}, (∀ a ∈ ft, ∀ o, H a = some o → H' a = some o) → OwnL K H Z H0 ds xs ft → OwnL K H' Z' H0 ds xs ft
  | [], _, _, _, h => by unfold OwnL at h ⊢; exact h
  | d :: ds, _, _, kp, h => by
    unfold OwnL at h ⊢
    obtain ⟨v, vs, f1, f2, e1, rfl, h1, h2⟩ := h
    exact ⟨v, vs, f1, f2, e1, rfl, Own.mono ex zz (fun a ha => kp a (List.mem_append_left _ ha)) h1, OwnL.mono ex zz (fun a ha => kp a (List.mem_append_right _ ha)) h2⟩
end
mutual
/-- held no more -/
theorem Own.thaw (ex : Ex (hide H Z) (hide H Z')) : ∀ {d : D} {v : V} {ft : List Addr}, (∀ a ∈ ft, ¬ Z' a) → Own K H Z H0 d v ft → Rep K (hide H Z') d.thaw v
  | .own k ds, v, ft, nz, h => by
    unfold Own at h
    obtain ⟨a, xs, rfl, rfl, z, n, e, f, q⟩ := h
    have e' : hide H Z' a = some (k.ho xs) := hide_some.mpr ⟨nz a List.mem_cons_self, e⟩
    cases k with
    | lst => unfold D.thaw Rep; exact ⟨a, xs, rfl, e', RepL.mono ex ds xs q⟩
    | ins C p dx fn => unfold D.thaw Rep; exact ⟨a, dx, xs, rfl, e', f.2, RepL.mono ex ds xs q⟩
    | dic ks => unfold D.thaw Rep; exact ⟨a, xs, rfl, e', f, RepL.mono ex ds xs q⟩
  | .nest k ds, v, ft, nz, h => by
    unfold Own at h
    obtain ⟨a, xs, f, rfl, rfl, z, n, e, ft, q⟩ := h
    have e' : hide H Z' a = some (k.ho xs) := hide_some.mpr ⟨nz a List.mem_cons_self, e⟩
    have q' := OwnL.thaw ex (fun b hb => nz b (List.mem_cons_of_mem _ hb)) q
    cases k with
    | lst => unfold D.thaw Rep; exact ⟨a, xs, rfl, e', q'⟩
    | ins C p dx fn => unfold D.thaw Rep; exact ⟨a, dx, xs, rfl, e', ft.2, q'⟩
    | dic ks => unfold D.thaw Rep; exact ⟨a, xs, rfl, e', ft, q'⟩
  | .non, v, ft, nz, h => by unfold Own at h; unfold D.thaw; exact Rep.mono ex _ _ h.2
  | .bl b, v, ft, nz, h => by unfold Own at h; unfold D.thaw; exact Rep.mono ex _ _ h.2
  | .int i, v, ft, nz, h => by unfold Own at h; unfold D.thaw; exact Rep.mono ex _ _ h.2
  | .str x, v, ft, nz, h => by unfold Own at h; unfold D.thaw; exact Rep.mono ex _ _ h.2
  | .tup ds, v, ft, nz, h => by unfold Own at h; unfold D.thaw; exact Rep.mono ex _ _ h.2
  | .lst ds, v, ft, nz, h => by unfold Own at h; unfold D.thaw; exact Rep.mono ex _ _ h.2
  | .ins C fn ds, v, ft, nz, h => by unfold Own at h; unfold D.thaw; exact Rep.mono ex _ _ h.2
  | .adr b, v, ft, nz, h => by unfold Own at h; unfold D.thaw; exact Rep.mono ex _ _ h.2
  | .sem b, v, ft, nz, h => by unfold Own at h; unfold D.thaw; exact Rep.mono ex _ _ h.2
  | .dic ks ds, v, ft, nz, h => by unfold Own at h; unfold D.thaw; exact Rep.mono ex _ _ h.2
theorem OwnL.thaw (ex : Ex (hide H Z) (hide H Z')) : ∀ {ds : List D} {xs : List V} {ft : List Addr}, (∀ a ∈ ft, ¬ Z' a) → OwnL K H Z H0 ds xs ft → RepL K (hide H Z') (D.thawL ds) xs
  | [], _, _, _, h => by unfold OwnL at h; unfold D.thawL RepL; exact h.1
  | d :: ds, _, _, nz, h => by
    unfold OwnL at h
    obtain ⟨v, vs, f1, f2, rfl, rfl, h1, h2⟩ := h
    unfold D.thawL
    exact RepL.cons (Own.thaw ex (fun a ha => nz a (List.mem_append_left _ ha)) h1) (OwnL.thaw ex (fun a ha => nz a (List.mem_append_right _ ha)) h2)
end
end
structure RZ (K : PySem.W.Frag) (S : Sit) (c : Cl) (B : Hp) (Z : Addr → Prop) (σ : L2.St) (H : Hp) (ρ : EnvD) : Prop where
  rv : RV K S c Z σ H ρ
  w0 : Wd S c.Z0 c.H0
  ex : Ex B (hide H Z)
  fp : ∃ FT : Nat → List Addr, (∀ (i : Nat) d, ρ[i]? = some (some d) → d.isOwn = true → ∃ v, σ[i]? = some (some v) ∧ Own K H Z c.H0 d v (FT i) ∧ (FT i).Nodup) ∧
    (∀ (i j : Nat) d e a, ρ[i]? = some (some d) → d.isOwn = true → ρ[j]? = some (some e) → e.isOwn = true → a ∈ FT i → a ∈ FT j → i = j)
def RS (K : PySem.W.Frag) (S : Sit) (c : Cl) (B : Hp) (σ : L2.St) (H : Hp) (ρ : EnvD) : Prop := ∃ Z, RZ K S c B Z σ H ρ
def view (ρ : EnvD) : EnvD := ρ.map (Option.map D.thaw)
theorem set_cases {ρ : EnvD} {i : Nat} {d : D} {j : Nat} {e : D} (h : (ρ.set i (some d))[j]? = some (some e)) : (j = i ∧ e = d ∧ i < ρ.length) ∨ (j ≠ i ∧ ρ[j]? = some (some e)) := by
  by_cases hj : i = j
  · subst hj
    by_cases hb : i < ρ.length
    · rw [List.getElem?_set_self hb] at h
      cases h
      exact .inl ⟨rfl, rfl, hb⟩
    · rw [List.getElem?_eq_none (by rw [List.length_set]; omega)] at h
      cases h
  · rw [List.getElem?_set_ne hj] at h
    exact .inr ⟨fun z => hj z.symm, h⟩
section
variable {K : PySem.W.Frag} {S : Sit} {c : Cl} {B B' : Hp} {Z : Addr → Prop} {σ : L2.St} {H H' : Hp} {ρ : EnvD}
theorem RZ.own (r : RZ K S c B Z σ H ρ) (i : Nat) (k : OwnK) (ds : List D) (h : ρ[i]? = some (some (.own k ds))) : ∃ a xs, σ[i]? = some (some (.ref a)) ∧ Z a ∧ c.H0 a = none ∧ H a = some (k.ho xs) ∧ k.fits a xs ∧ RepL K (hide H Z) ds xs := by
  obtain ⟨FT, f1, _⟩ := r.fp
  obtain ⟨v, e1, q, _⟩ := f1 i _ h rfl
  unfold Own at q
  obtain ⟨a, xs, rfl, _, z, n, e, ft, q⟩ := q
  exact ⟨a, xs, e1, z, n, e, ft, q⟩
theorem RZ.notW (r : RZ K S c B Z σ H ρ) {a : Addr} (h : c.H0 a = none) : ¬ S.W a := fun w => by
  obtain ⟨o, e⟩ := r.w0.zin a (r.w0.wz a w)
  rw [h] at e; cases e
theorem RZ.notZ0 (r : RZ K S c B Z σ H ρ) {a : Addr} (h : c.H0 a = none) : ¬ c.Z0 a := fun w => by
  obtain ⟨o, e⟩ := r.w0.zin a w
  rw [h] at e; cases e
theorem RZ.step (r : RZ K S c B Z σ H ρ) (k : Kp S H H') (i : S.I H') : RZ K S c B Z σ H' ρ where
  rv := r.rv.step k i
  w0 := r.w0
  ex := fun a o e => r.rv.wd.ex k a o (r.ex a o e)
  fp := by
    obtain ⟨FT, f1, f2⟩ := r.fp
    refine ⟨FT, fun j d e o => ?_, f2⟩
    obtain ⟨v, e1, q, nd⟩ := f1 j d e o
    exact ⟨v, e1, Own.mono (r.rv.wd.ex k) (fun _ z => z) (fun a ha u hu => k a u hu (r.notW (q.in_ a ha).2.1)) q, nd⟩
theorem RZ.base (r : RZ K S c B Z σ H ρ) (e : Ex B' B) : RZ K S c B' Z σ H ρ := ⟨r.rv, r.w0, fun a o h => r.ex a o (e a o h), r.fp⟩
theorem view_get {i : Nat} {d : D} (h : (view ρ)[i]? = some (some d)) : ∃ e, ρ[i]? = some (some e) ∧ d = e.thaw := by
  unfold view at h
  rw [List.getElem?_map] at h
  cases q : ρ[i]? with
  | none => rw [q] at h; cases h
  | some o =>
    cases o with
    | none => rw [q] at h; cases h
    | some e => rw [q] at h; cases h; exact ⟨e, rfl, rfl⟩
theorem RZ.view (r : RZ K S c B Z σ H ρ) : RV K S c c.Z0 σ H (view ρ) where
  wd := r.w0.step r.rv.kp r.rv.wd.inv
  kp := r.rv.kp
  zz := fun _ z => z
  len := by unfold DL.view; rw [List.length_map]; exact r.rv.len
  sl := fun i d e n => by
    obtain ⟨d', e1, rfl⟩ := view_get e
    cases ho : d'.isOwn with
    | false =>
      obtain ⟨v, e2, q⟩ := r.rv.sl i d' e1 ho
      rw [thaw_id ho]
      exact ⟨v, e2, Rep.mono (hide_weak r.rv.zz) d' v q⟩
    | true =>
      obtain ⟨FT, f1, _⟩ := r.fp
      obtain ⟨v, e2, q, _⟩ := f1 i d' e1 ho
      exact ⟨v, e2, Own.thaw (hide_weak r.rv.zz) (fun a ha => r.notZ0 (q.in_ a ha).2.1) q⟩
theorem RZ.set (r : RZ K S c B Z σ H ρ) (i : Nat) {d : D} {v : V} (q : Rep K (hide H Z) d v) : RZ K S c B Z (σ.set i (some v)) H (ρ.set i (some d)) := by
  have no : d.isOwn = false := by cases d <;> first | rfl | (unfold Rep at q; exact q.elim)
  have hl := r.rv.len
  refine ⟨⟨r.rv.wd, r.rv.kp, r.rv.zz, by rw [List.length_set, List.length_set]; exact hl, fun j e h n => ?_⟩, r.w0, r.ex, ?_⟩
  · rcases set_cases h with ⟨rfl, rfl, hb⟩ | ⟨hne, h⟩
    · exact ⟨v, List.getElem?_set_self (by omega), q⟩
    · obtain ⟨u, e1, q1⟩ := r.rv.sl j e h n
      exact ⟨u, by rw [List.getElem?_set_ne (Ne.symm hne)]; exact e1, q1⟩
  · obtain ⟨FT, f1, f2⟩ := r.fp
    refine ⟨FT, fun j e h o => ?_, fun j l e e' a h1 o1 h2 o2 m1 m2 => ?_⟩
    · rcases set_cases h with ⟨rfl, rfl, hb⟩ | ⟨hne, h⟩
      · rw [no] at o; cases o
      · obtain ⟨u, e1, q1⟩ := f1 j e h o
        exact ⟨u, by rw [List.getElem?_set_ne (Ne.symm hne)]; exact e1, q1⟩
    · rcases set_cases h1 with ⟨rfl, rfl, hb⟩ | ⟨hne, h1⟩
      · rw [no] at o1; cases o1
      · rcases set_cases h2 with ⟨rfl, rfl, hb⟩ | ⟨hne', h2⟩
        · rw [no] at o2; cases o2
        · exact f2 j l e e' a h1 o1 h2 o2 m1 m2
theorem RZ.setNew (r : RZ K S c B Z σ H ρ) (i : Nat) {d : D} {v : V} {ft : List Addr} {H1 : Hp} (k : Kp S H H1) (iv : S.I H1) (hn : ∀ a ∈ ft, H a = none) (nd : ft.Nodup) (q : Own K H1 (fun a => Z a ∨ a ∈ ft) c.H0 d v ft) (ho : d.isOwn = true) :
    RZ K S c B (fun a => Z a ∨ a ∈ ft) (σ.set i (some v)) H1 (ρ.set i (some d)) := by
  have r1 := r.step k iv
  have hl := r.rv.len
  have exz : Ex (hide H Z) (hide H1 (fun a => Z a ∨ a ∈ ft)) := fun a o e => by
    obtain ⟨n, e⟩ := hide_some.mp e
    refine hide_some.mpr ⟨fun z => ?_, (hide_some.mp (r.rv.wd.ex k a o (hide_some.mpr ⟨n, e⟩))).2⟩
    rcases z with z | z
    · exact n z
    · rw [hn a z] at e; cases e
  have exz1 : Ex (hide H1 Z) (hide H1 (fun a => Z a ∨ a ∈ ft)) → True := fun _ => trivial
  obtain ⟨FT, f1, f2⟩ := r.fp
  have old : ∀ j d', ρ[j]? = some (some d') → d'.isOwn = true → ∀ a ∈ FT j, a ∉ ft := fun j d' e o a ha hf => by
    obtain ⟨u, _, q', _⟩ := f1 j d' e o
    obtain ⟨_, _, o', e'⟩ := q'.in_ a ha
    rw [hn a hf] at e'; cases e'
  refine ⟨⟨⟨fun b o e => ⟨(r1.rv.wd.base b o e).1, fun z => z.elim (r1.rv.wd.base b o e).2 fun hm => by have q9 := (r.rv.wd.base b o e).1; rw [hn b hm] at q9; cases q9⟩, fun a w => .inl (r1.rv.wd.wz a w), fun a z => ?_, fun a o z e => z.elim (fun z => r1.rv.wd.zx a o z e) (fun z => q.noX a z o e), iv⟩, r1.rv.kp, fun a z => .inl (r.rv.zz a z), by rw [List.length_set, List.length_set]; exact hl, fun j e h n => ?_⟩, r.w0, fun a o e => exz a o (r.ex a o e), fun j => if j = i then ft else FT j, fun j e h o => ?_, fun j l e e' a h1 o1 h2 o2 m1 m2 => ?_⟩
  · rcases z with z | z
    · exact r1.rv.wd.zin a z
    · exact (q.in_ a z).2.2
  · rcases set_cases h with ⟨rfl, rfl, hb⟩ | ⟨hne, h⟩
    · rw [ho] at n; cases n
    · obtain ⟨u, e1, q1⟩ := r.rv.sl j e h n
      exact ⟨u, by rw [List.getElem?_set_ne (Ne.symm hne)]; exact e1, Rep.mono exz e u q1⟩
  · rcases set_cases h with ⟨rfl, rfl, hb⟩ | ⟨hne, h⟩
    · refine ⟨v, List.getElem?_set_self (by omega), ?_, ?_⟩
      · show Own _ _ _ _ _ _ (if j = j then ft else FT j)
        rw [if_pos rfl]; exact q
      · show (if j = j then ft else FT j).Nodup
        rw [if_pos rfl]; exact nd
    · obtain ⟨u, e1, q1, n1⟩ := f1 j e h o
      refine ⟨u, by rw [List.getElem?_set_ne (Ne.symm hne)]; exact e1, ?_, ?_⟩
      · show Own _ _ _ _ _ _ (if j = i then ft else FT j)
        rw [if_neg hne]
        exact Own.mono exz (fun _ z => .inl z) (fun a ha u hu => k a u hu (r.notW (q1.in_ a ha).2.1)) q1
      · show (if j = i then ft else FT j).Nodup
        rw [if_neg hne]; exact n1
  · have m1' : a ∈ (if j = i then ft else FT j) := m1
    have m2' : a ∈ (if l = i then ft else FT l) := m2
    rcases set_cases h1 with ⟨ej, _, hb⟩ | ⟨hne, g1⟩
    · rcases set_cases h2 with ⟨el, _, hb'⟩ | ⟨hne', g2⟩
      · rw [ej, el]
      · rw [if_pos ej] at m1'
        rw [if_neg hne'] at m2'
        exact (old l e' g2 o2 a m2' m1').elim
    · rw [if_neg hne] at m1'
      rcases set_cases h2 with ⟨el, _, hb'⟩ | ⟨hne', g2⟩
      · rw [if_pos el] at m2'
        exact (old j e g1 o1 a m1' m2').elim
      · rw [if_neg hne'] at m2'
        exact f2 j l e e' a g1 o1 g2 o2 m1' m2'
end
structure EndsD where
  nx : EnvD → Prop
  rt : D → Prop
  bk : EnvD → Prop := fun _ => False
  ct : EnvD → Prop := fun _ => False
abbrev TSD := EndsD → EnvD → Prop
structure Fit (K : PySem.W.Frag) (S : Sit) (c : Cl) (B : Hp) (Dd : EndsD) (D : Ends) : Prop where
  nx : ∀ σ H ρ, RS K S c B σ H ρ → Dd.nx ρ → D.nx σ H
  rt : ∀ v H d, Kp S c.H0 H → S.I H → Rep K (hide H c.Z0) d v → Dd.rt d → D.rt v H
  bk : ∀ σ H ρ, RS K S c B σ H ρ → Dd.bk ρ → D.bk σ H
  ct : ∀ σ H ρ, RS K S c B σ H ρ → Dd.ct ρ → D.ct σ H
def WS (K : PySem.W.Frag) (S : Sit) (c : Cl) (ts : TS) (t : TSD) : Prop := ∀ B σ H ρ (Dd : EndsD) (D : Ends), RS K S c B σ H ρ → t Dd ρ → Fit K S c B Dd D → ts D σ H
section
variable {K : PySem.W.Frag} {S : Sit} {c : Cl} {te : TE} {ta : TA} {tt : TT} {a t : TED} {as : TAD} {p : TTD} {s1 s2 : TS} {d1 d2 : TSD}
def dNext : TSD := fun Dd ρ => Dd.nx ρ
def dSeq (d1 d2 : TSD) : TSD := fun Dd ρ => d1 { Dd with nx := d2 Dd } ρ
def dRet (a : TED) : TSD := fun Dd ρ => a (view ρ) Dd.rt
def dRetN : TSD := fun Dd _ => Dd.rt .non
def dIfS (p : TTD) (d1 d2 : TSD) : TSD := fun Dd ρ => p (view ρ) fun b => if b = true then d1 Dd ρ else d2 Dd ρ
def dDrop (a : TED) : TSD := fun Dd ρ => a (view ρ) fun _ => Dd.nx ρ
def dSet (i : Nat) (a : TED) : TSD := fun Dd ρ => a ρ fun d => Dd.nx (ρ.set i (some d))
def WN (K : PySem.W.Frag) (S : Sit) (c : Cl) (te : TE) (t : TAD) : Prop := ∀ Z σ H ρ (P : List D → Prop), RV K S c Z σ H ρ → t ρ P →
  ∀ Q : VK, (∀ p H' ds xs, Kp S H H' → S.I H' → H p = none → H' p = some (.lst xs) → RepL K (hide H' (fun a => Z a ∨ a = p)) ds xs → P ds → Q (.ref p) H') → te σ H Q
def dOfN (as : TAD) : TED := fun ρ P => as ρ fun ds => P (.lst ds)
def nLst (as : TAD) : TAD := fun ρ P => as ρ fun ds => ds.length ≤ 1000000 ∧ P ds
def dSetN (i : Nat) (as : TAD) : TSD := fun Dd ρ => as ρ fun ds => Dd.nx (ρ.set i (some (.own .lst ds)))
def dApp (i : Nat) (a : TED) : TSD := fun Dd ρ => a ρ fun d => match ρ[i]? with
  | some (some (.own .lst ds)) => ds.length < 1000000 ∧ Dd.nx (ρ.set i (some (.own .lst (ds ++ [d]))))
  | _ => False
def dPar (i j : Nat) (as : TAD) : TSD := fun Dd ρ => as ρ fun ds => match ds with
  | [x, y] => Dd.nx ((ρ.set i (some x)).set j (some y))
  | _ => False
end
abbrev TGD := D → EnvD → (EnvD → Prop) → Prop
def WG (K : PySem.W.Frag) (g : TG) (t : TGD) (ix : List Nat) : Prop := ∀ Z H (R : L2.St → EnvD → Prop), (∀ σ ρ i d v, i ∈ ix → R σ ρ → Rep K (hide H Z) d v → R (σ.set i (some v)) (ρ.set i (some d))) →
  ∀ σ ρ d v (P : EnvD → Prop), R σ ρ → Rep K (hide H Z) d v → t d ρ P → ∀ Q : L2.St → Hp → Prop, (∀ σ' ρ', R σ' ρ' → P ρ' → Q σ' H) → g v σ H Q
def WGs (K : PySem.W.Frag) (g : TGs) (t : List D → EnvD → (EnvD → Prop) → Prop) (ix : List Nat) : Prop := ∀ Z H (R : L2.St → EnvD → Prop), (∀ σ ρ i d v, i ∈ ix → R σ ρ → Rep K (hide H Z) d v → R (σ.set i (some v)) (ρ.set i (some d))) →
  ∀ σ ρ ds vs (P : EnvD → Prop), R σ ρ → RepL K (hide H Z) ds vs → t ds ρ P → ∀ Q : L2.St → Hp → Prop, (∀ σ' ρ', R σ' ρ' → P ρ' → Q σ' H) → g vs σ H Q
section
variable {K : PySem.W.Frag} {S : Sit} {c : Cl} {te : TE} {a : TED} {g : TG} {gs : TGs} {gd : TGD} {gds : List D → EnvD → (EnvD → Prop) → Prop} {ix iy : List Nat}
def hName (i : Nat) : TGD := fun d ρ P => P (ρ.set i (some d))
def hNil : List D → EnvD → (EnvD → Prop) → Prop := fun ds ρ P => match ds with
  | [] => P ρ
  | _ => False
def hCons (gd : TGD) (gds : List D → EnvD → (EnvD → Prop) → Prop) : List D → EnvD → (EnvD → Prop) → Prop := fun ds ρ P => match ds with
  | d :: ds => gd d ρ fun ρ' => gds ds ρ' P
  | [] => False
def hTup (n : Nat) (gds : List D → EnvD → (EnvD → Prop) → Prop) : TGD := fun d ρ P => match d with
  | .tup ds => ds.length = n ∧ gds ds ρ P
  | _ => False
def dAsg (a : TED) (gd : TGD) : TSD := fun Dd ρ => a ρ fun d => gd d ρ Dd.nx
end
def Yields (K : PySem.W.Frag) (J : It) (B : Hp) (ds : List D) : Prop := ∀ H2 Z2, Ex B (hide H2 Z2) → (∀ a, Z2 a → ∃ o, H2 a = some o) →
  (∀ (i : Nat) d, ds[i]? = some d → J.go i H2 ∧ ∀ x H', J.yld i H2 x H' → Ex H2 H' ∧ Rep K (hide H' Z2) d x) ∧ J.stop ds.length H2
def WI (K : PySem.W.Frag) (S : Sit) (c : Cl) (wi : TI) (t : TAD) : Prop := ∀ Z σ H ρ (P : List D → Prop), RV K S c Z σ H ρ → t ρ P →
  ∀ Q : It → Hp → Prop, (∀ J H' ds, Kp S H H' → S.I H' → P ds → Yields K J (hide H' Z) ds → Q J H') → wi σ H Q
section
variable {K : PySem.W.Frag} {S : Sit} {c : Cl} {te : TE} {ta : TA} {a : TED} {as : TAD}
def iLstD (a : TED) : TAD := fun ρ P => a ρ fun d => match d with
  | .lst ds => P ds
  | _ => False
def iTupD (a : TED) : TAD := fun ρ P => a ρ fun d => match d with
  | .tup ds => P ds
  | _ => False
def rngD (lo : Int) (n : Nat) : List D := (List.range n).map fun k : Nat => .int (lo + (k : Int))
def iRng1D (as : TAD) : TAD := fun ρ P => as ρ fun ds => match ds with
  | [.int n] => (-1000000000 ≤ n ∧ n ≤ 1000000000000000000000 ∧ n < 2 ^ 62) ∧ P (rngD 0 n.toNat)
  | _ => False
def iRng2D (as : TAD) : TAD := fun ρ P => as ρ fun ds => match ds with
  | [.int lo, .int n] => (-(2 ^ 62) ≤ lo ∧ lo < 2 ^ 62 ∧ -(2 ^ 62) ≤ n ∧ n < 2 ^ 62) ∧ P (rngD lo (n - lo).toNat)
  | _ => False
def WIv (K : PySem.W.Frag) (S : Sit) (c : Cl) (wi : TI) (t : TAD) : Prop := ∀ Z σ H ρ (P : List D → Prop), RV K S c Z σ H ρ → t ρ P →
  ∀ Q : It → Hp → Prop, (∀ J H' ds, Kp S H H' → S.I H' → P ds → (∀ B, Yields K J B ds) → Q J H') → wi σ H Q
end
section
variable {K : PySem.W.Frag} {S : Sit} {c : Cl} {wi : TI} {it : TAD} {g : TG} {gd : TGD} {ix : List Nat} {tb : TS} {body : TSD} {tt : TT} {p : TTD}
@[irreducible] def loopD (ds : List D) (gd : TGD) (body : TSD) (Dd : EndsD) (ρ : EnvD) : Prop := ∃ J : Nat → EnvD → Prop, J 0 ρ ∧
  (∀ (i : Nat) d ρ', ds[i]? = some d → J i ρ' → gd d ρ' fun ρ2 => body { Dd with nx := J (i + 1), ct := J (i + 1), bk := Dd.nx } ρ2) ∧ ∀ ρ', J ds.length ρ' → Dd.nx ρ'
def dFor (it : TAD) (gd : TGD) (body : TSD) : TSD := fun Dd ρ => it ρ fun ds => loopD ds gd body Dd ρ
def dForV (it : TAD) (gd : TGD) (body : TSD) : TSD := fun Dd ρ => it (view ρ) fun ds => loopD ds gd body Dd ρ
end
end DL
end
section
namespace DL
open PySem PySem.Spec PyProof.Rows L2
def wipeD (ρ : EnvD) : List Nat → EnvD
  | [] => ρ
  | v :: vs => (wipeD ρ vs).set v none
theorem RV.set {K : PySem.W.Frag} {S : Sit} {c : Cl} {Z : Addr → Prop} {σ : L2.St} {H : Hp} {ρ : EnvD} (r : RV K S c Z σ H ρ) (i : Nat) {d : D} {v : V} (q : Rep K (hide H Z) d v) : RV K S c Z (σ.set i (some v)) H (ρ.set i (some d)) := by
  have hl := r.len
  refine ⟨r.wd, r.kp, r.zz, by rw [List.length_set, List.length_set]; exact hl, fun j e h n => ?_⟩
  by_cases hj : i = j
  · subst hj
    by_cases hb : i < ρ.length
    · rw [List.getElem?_set_self hb] at h
      cases h
      exact ⟨v, List.getElem?_set_self (by omega), q⟩
    · rw [List.getElem?_eq_none (by rw [List.length_set]; omega)] at h
      cases h
  · rw [List.getElem?_set_ne hj] at h
    rw [List.getElem?_set_ne hj]
    exact r.sl j e h n
section
variable {K : PySem.W.Frag} {S : Sit} {c : Cl} {wi : TI} {it : TAD} {g : TG} {gd : TGD} {ix vs : List Nat} {tt : TT} {p : TTD} {te : TE} {e : TED}
@[irreducible] def compD (ds : List D) (gd : TGD) (p : TTD) (e : TED) (ρ : EnvD) (P : List D → Prop) : Prop := ∃ J : Nat → List D → Prop, J 0 [] ∧
  (∀ (i : Nat) d acc, ds[i]? = some d → J i acc → acc.length < 1000000 ∧ gd d ρ fun ρ2 => p ρ2 fun b => if b = true then e ρ2 fun y => J (i + 1) (acc ++ [y]) else J (i + 1) acc) ∧ ∀ acc, J ds.length acc → P acc
def nLc (it : TAD) (gd : TGD) (p : TTD) (e : TED) (vs : List Nat) : TAD := fun ρ P => it ρ fun ds => compD ds gd p e (wipeD ρ vs) P
def dYes : TTD := fun _ P => P true
end
def fgetD : List Str → List D → Str → Option D
  | f :: fs, d :: ds, g => if g = f then some d else fgetD fs ds g
  | _, _, _ => none
section
variable {K : PySem.W.Frag} {S : Sit} {c : Cl} {ta : TE} {a : TED} {ts : TA} {as : TAD} {C : Addr} {f m : Str}
def dFldC (C : Addr) (f : Str) (a : TED) : TED := fun ρ P => a ρ fun x => match x with
  | .ins C' fn ds => C' = C ∧ match fgetD fn ds f with
    | some d => P d
    | none => False
  | _ => False
abbrev SpD := List D → (D → Prop) → XD → Prop
def liftSp (K : PySem.W.Frag) (S : Sit) (spd : SpD) : Sp := fun vs H Q E => ∃ (Z : Addr → Prop) (ds : List D) (P : D → Prop) (x : XD), Wd S Z H ∧ RepL K (hide H Z) ds vs ∧ spd ds P x ∧
  (∀ v H' d, Kp S H H' → S.I H' → Rep K (hide H' Z) d v → P d → Q v H') ∧ (∀ cls dd H' fs, Kp S H H' → S.I H' → XRep K (hide H' Z) dd fs → x cls fs → E (.ref cls) dd H')
theorem XRep.mono {H H' : Hp} {dd : Option Addr} {fs : List (Str × D)} (e : Ex H H') (r : XRep K H dd fs) : XRep K H' dd fs := by
  rcases r with r | ⟨a, vs, e1, h1, h2⟩
  · exact .inl r
  · exact .inr ⟨a, vs, e1, e _ _ h1, RepL.mono e _ vs h2⟩
def x0 : XD := fun _ _ => False
def dCall (spd : SpD) (x : XD) (as : TAD) : TED := fun ρ P => as ρ fun ds => spd ds P x
def dMeth (C : Addr) (m : Str) (spd : SpD) (x : XD) (a : TED) (as : TAD) : TED := fun ρ P => a ρ fun o => match o with
  | .ins C' fn ds => (C' = C ∧ m ∉ fn) ∧ as ρ fun es => spd (.ins C' fn ds :: es) P x
  | _ => False
def dProp (C : Addr) (spd : SpD) (a : TED) : TED := fun ρ P => a ρ fun o => match o with
  | .ins C' fn ds => C' = C ∧ spd [.ins C' fn ds] P x0
  | _ => False
abbrev InD := List D → (List Str → List D → Prop) → XD → Prop
def XOk (K : PySem.W.Frag) (S : Sit) (c : Cl) (E : XK) (xd : XD) : Prop := ∀ cls dd H' fs, Kp S c.H0 H' → S.I H' → XRep K (hide H' c.Z0) dd fs → xd cls fs → E (.ref cls) dd H'
theorem XOk.at {E : XK} {xd : XD} {Z : Addr → Prop} {σ : L2.St} {H1 : Hp} {ρ : EnvD} (h : XOk K S c E xd) (rv : RV K S c Z σ H1 ρ) : ∀ cls dd H' fs, Kp S H1 H' → S.I H' → XRep K (hide H' Z) dd fs → xd cls fs → E (.ref cls) dd H' :=
  fun cls dd H' fs k i xr hx => h cls dd H' fs (rv.kp.trans k) i (XRep.mono (hide_weak rv.zz) xr) hx
end
end DL
end
section
namespace DL
open PySem PySem.Spec PyProof.Rows L2
structure DE (K : PySem.W.Frag) (S : Sit) (c : Cl) (X : Cx) (e : Expr) (te : TE) (t : TED) : Prop where
  pe : PE X e te
  we : WE K S c te t
structure DN (K : PySem.W.Frag) (S : Sit) (c : Cl) (X : Cx) (e : Expr) (te : TE) (t : TAD) : Prop where
  pe : PE X e te
  wn : WN K S c te t
structure DA (K : PySem.W.Frag) (S : Sit) (c : Cl) (X : Cx) (es : List Expr) (ts : TA) (t : TAD) : Prop where
  pa : PA X es ts
  wa : WA K S c ts t
structure DT (K : PySem.W.Frag) (S : Sit) (c : Cl) (X : Cx) (e : Expr) (tt : TT) (t : TTD) : Prop where
  pt : PT X e tt
  wt : WT K S c tt t
structure DW (K : PySem.W.Frag) (S : Sit) (c : Cl) (X : Cx) (e : Expr) (tt : TT) (t : TTD) : Prop where
  pw : PW X e tt
  wt : WT K S c tt t
structure DO (K : PySem.W.Frag) (S : Sit) (c : Cl) (X : Cx) (e : Option Expr) (to : TO) (t : TOD) : Prop where
  po : PO X e to
  wo : WO K S c to t
structure DG (K : PySem.W.Frag) (X : Cx) (e : Expr) (g : TG) (t : TGD) (ix : List Nat) : Prop where
  pg : PG X e g
  wg : WG K g t ix
structure DGs (K : PySem.W.Frag) (X : Cx) (es : List Expr) (g : TGs) (t : List D → EnvD → (EnvD → Prop) → Prop) (ix : List Nat) : Prop where
  pgs : PGs X es g
  wgs : WGs K g t ix
structure DI (K : PySem.W.Frag) (S : Sit) (c : Cl) (X : Cx) (tg e : Expr) (wi : TI) (t : TAD) : Prop where
  pi : PI X tg e wi
  wi : WI K S c wi t
structure DIv (K : PySem.W.Frag) (S : Sit) (c : Cl) (X : Cx) (tg e : Expr) (wi : TI) (t : TAD) : Prop where
  pi : PI X tg e wi
  wi : WIv K S c wi t
structure DS (K : PySem.W.Frag) (S : Sit) (c : Cl) (X : Cx) (st : Stmt) (ts : TS) (t : TSD) : Prop where
  ps : PS X st ts
  ws : WS K S c ts t
structure DSs (K : PySem.W.Frag) (S : Sit) (c : Cl) (X : Cx) (st : List Stmt) (ts : TS) (t : TSD) : Prop where
  pss : PSs X st ts
  ws : WS K S c ts t
section
variable {K : PySem.W.Frag} {S : Sit} {c : Cl} {X : Cx} {ta tb te tc : TE} {a b t c' : TED} {tt tu : TT} {p q : TTD} {ts : TA} {as : TAD} {e e1 e2 e3 o : Expr} {es rest : List Expr} {pos pos' pos2 p1 p2 p3 : Pos} {x f m : Str} {C : Addr}
def dTru (a : TED) : TTD := fun ρ P => a ρ fun x => match x with
  | .non => P false
  | .bl b => P b
  | .int i => P (i != 0)
  | .lst ds => P (!ds.isEmpty)
  | .tup ds => P (!ds.isEmpty)
  | _ => False
section
variable {k : Nat} {fa : Addr} {fd : FuncData} {ps : List Str} {spd : SpD} {ind : InD}
end
section
variable {g : TG} {gs : TGs} {gd : TGD} {gds : List D → EnvD → (EnvD → Prop) → Prop} {ix iy : List Nat}
end
end
end DL
end
section
namespace DL
open PySem PySem.Spec PyProof.Rows L2
section
variable {K : PySem.W.Frag} {S : Sit} {c : Cl} {X : Cx} {ta tb te tc : TE} {a b t : TED} {tt tu : TT} {p q : TTD} {ts : TA} {as : TAD} {e e1 e2 e3 o : Expr} {es : List Expr} {pos pos' pos2 p1 p2 p3 : Pos} {x y f m : Str} {C : Addr}
  {st : Stmt} {body els rest : List Stmt} {s1 s2 tbd : TS} {d1 d2 : TSD} {g : TG} {gd : TGD} {ix : List Nat} {wi : TI} {it : TAD}
def dAppS (i : Nat) (a : TED) : TSD := fun Dd ρ => (∃ ds, ρ[i]? = some (some (.own .lst ds))) ∧ dApp i a Dd ρ
structure DTs (K : PySem.W.Frag) (S : Sit) (c : Cl) (X : Cx) (es : List Expr) (tt : TT) (t : TTD) : Prop where
  pts : PTs X es tt
  wt : WT K S c tt t
end
end DL
end
section
namespace DL
open PySem PySem.Spec PyProof.Rows L2
structure OpO (K : PySem.W.Frag) (C : Addr) (name : Str) (g : Addr) : Prop where
  at_ : PySem.W.findIn K (.ref C) name = some (some (.ref g))
  fn : PySem.W.isFn K (.ref g) = true
section
variable {X : Cx} {CX : CXT} {k : Nat} {C g a dx : Addr} {fs : List (Str × V)} {fd : FuncData} {ps : List Str} {sp : Sp} {E : XK} {e o : Expr} {pos : Pos} {ta tb : TE}
end
section
variable {K : PySem.W.Frag} {S : Sit} {C : Addr} {spd : SpD}
end
section
variable {K : PySem.W.Frag} {S : Sit} {c : Cl} {X : Cx} {ta tb : TE} {a b : TED} {ts : TA} {as : TAD} {e e1 e2 : Expr} {es : List Expr} {pos p1 : Pos} {x : Str} {C g : Addr} {k : Nat} {fd : FuncData} {ps : List Str} {spd : SpD}
end
section
variable {P : Program} {w : World} {K : PySem.W.Frag} {S : Sit} {mg : Str → Option Value} {base : Heap}
end
end DL
end
section
namespace PySem.W
open PySem PySem.Calls PyProof.Rows
section
variable {M : Model} {A : Around} {E : Value → Shared → Prop} {s : Shared}
end
end PySem.W
namespace PySem.W
open PySem PySem.Calls PyProof.Rows
section
variable {M : Model} {A : Around} {E : Value → Shared → Prop} {s : Shared} {K : Frag} {env : Env} {pos p : Pos} {f : Value} {first : List Value} {Q : Value → Shared → Prop} {h₀ : Heap} {e : Expr} {kws : List Keyword}
end
end PySem.W
namespace DL
open PySem PySem.Spec PyProof.Rows L2
section
variable {CX : CXT} {P : Program} {w : World} {K : PySem.W.Frag} {mg : Str → Option Value} {base : Heap} {k : Nat} {f : Addr} {name qual : Str} {params : Arguments} {body : List Stmt} {scope : Scope} {dV kV doc pm cdv ct oc : Value} {an od : Option Addr}
  {osl : Array (Option Value)} {N : List Str} {sp : Sp} {a0 kn pv : Str}
end
section
variable {X : Cx} {CX : CXT} {k : Nat} {f C : Addr} {sp : List V → V → Hp → VK → XK → Prop} {E : XK} {x kn : Str} {p p9 pos kpos : Pos} {e e2 : Expr} {es : List Expr} {te tk : TE} {t : TA}
end
end DL
end
section
namespace DL
open PySem PySem.Spec PyProof.Rows L2
section
variable {K : PySem.W.Frag} {S : Sit} {c : Cl} {C : Addr} {ta tk : TE} {a b : TED} {ts : TA} {as : TAD} {E : XK} {xd : XD} {ind : InD}
end
section
variable {K : PySem.W.Frag} {S : Sit} {c : Cl} {X : Cx} {ta tb : TE} {a b : TED} {ts : TA} {as : TAD} {e e1 e2 o : Expr} {es : List Expr} {pos pos' p1 p2 kpos : Pos} {x f kn : Str} {C : Addr} {E : XK} {xd : XD} {ind : InD} {CX : CXT} {k : Nat} {fi : Addr}
end
section
variable {P : Program} {w : World} {K : PySem.W.Frag} {S : Sit} {mg : Str → Option Value} {base : Heap}
end
end DL
end
section
namespace DL
open PySem PySem.Spec PyProof.Rows L2
end DL
end
section
namespace DL
open PySem PySem.Spec PyProof.Rows L2
section
variable {K : PySem.W.Frag} {S : Sit} {c : Cl} {te : TE} {ta : TA} {a : TED} {as : TAD}
def strD (x : Str) : List D := x.cps.toList.map fun k => .str ⟨#[k]⟩
def iStrD (a : TED) : TAD := fun ρ P => a ρ fun d => match d with
  | .str x => P (strD x)
  | _ => False
def D.tyN : D → String
  | .non => "NoneType"
  | .bl _ => "bool"
  | .int _ => "int"
  | .str _ => "str"
  | .lst _ => "list"
  | .tup _ => "tuple"
  | _ => ""
def kindsN : List String := ["NoneType", "bool", "int", "str", "list", "tuple"]
def D.kind (d : D) : Bool := kindsN.contains d.tyN
end
end DL
end
section
namespace DL
open PySem PySem.Spec PyProof.Rows L2
section
variable {prog : Program} {w : World} {A : Around} {R : Result → Shared → Prop} {J : Addr} {fp wr : List Addr} {G : Array GenState → Array GenState → Prop} {n : Nat} {P : Nat → Value → Prop} {St : Nat → Shared → Prop}
end
section
variable {prog : Program} {w : World} {A : Around} {E : Value → Shared → Prop} {s : Shared}
end
end DL
end
section
namespace DL
open PySem PySem.Spec PyProof.Rows L2
section
variable {K : PySem.W.Frag} {S : Sit} {c : Cl} {X : Cx} {ta tb te : TE} {a b t : TED} {ts : TA} {as : TAD} {e e1 e2 e3 e4 : Expr} {es : List Expr} {pos p1 p2 p3 tpos : Pos} {x : Str} {C : Addr}
section
variable {wi : TI} {it : TAD} {g : TG} {gd : TGD} {ix : List Nat} {tt : TT} {p : TTD} {elt tg iter : Expr} {ifs : List Expr} {scope : Scope} {own : List (Str × Nat)} {py lpos : Pos}
end
end
end DL
end
section
namespace DL
open PySem PySem.Spec PyProof.Rows L2
section
variable {K : PySem.W.Frag} {S : Sit} {c : Cl} {X : Cx} {ta : TE} {a : TED} {e : Expr} {pos p1 p2 : Pos} {x : Str} {C : Addr} {E : XK} {xd : XD} {ind : InD} {CX : CXT} {k : Nat} {fi : Addr} {sp : Sp}
end
end DL
end
section
namespace DL
open PySem PySem.Spec PyProof.Rows L2
theorem eqv_int (i j : Int) : PyData.eqv (D.py (.int i)) (D.py (.int j)) = decide (i = j) := by
  show (i == j) = _
  by_cases e : i = j
  · subst e; simp
  · simp [e]
theorem eq_int {i j : Int} {P : D → Prop} (hp : P (.bl (decide (i = j)))) : rEqDD (.int i) (.int j) P := by unfold rEqDD; exact ⟨⟨rfl, rfl⟩, by rw [eqv_int]; exact hp⟩
theorem ne_int {i j : Int} {P : D → Prop} (hp : P (.bl (!decide (i = j)))) : rNeDD (.int i) (.int j) P := by unfold rNeDD; exact ⟨⟨rfl, rfl⟩, by rw [eqv_int]; exact hp⟩
end DL
end
section
namespace DL
open PySem PySem.Spec PyProof.Rows L2
section
variable {K : PySem.W.Frag}
structure Scr (K : PySem.W.Frag) (Hs : Hp) (l p : Addr) (ns : List Int) : Prop where
  at_ : ∀ H, (∀ b o, Hs b = some o → b ≠ l → H b = some o) → SqL K H p (ns.map V.int)
end
end DL
end
section
namespace DL
open PySem PySem.Spec PyProof.Rows L2
section
variable {K : PySem.W.Frag} {S : Sit} {c : Cl} {X : Cx} {ta tb te tk : TE} {a b t : TED} {ts : TA} {as bs : TAD} {e e1 e2 e3 : Expr} {es : List Expr} {pos p1 p2 p3 p4 p5 p6 : Pos} {x y z : Str}
theorem RV.more {Z : Addr → Prop} {σ : L2.St} {H H1 : Hp} {ρ : EnvD} {p : Addr} {o : HO} (r : RV K S c Z σ H ρ) (k : Kp S H H1) (i : S.I H1) (hp : H p = none) (h1 : H1 p = some o) (hx : isX o = false := by rfl) : RV K S c (fun a => Z a ∨ a = p) σ H1 ρ := by
  have r1 := r.step k i
  have ex : Ex (hide H Z) (hide H1 (fun a => Z a ∨ a = p)) := fun b u e => by
    obtain ⟨n, e⟩ := hide_some.mp e
    have nb : b ≠ p := ne_of_none e hp
    exact hide_some.mpr ⟨fun z => z.elim n nb, k b u e fun w => n (r.wd.wz b w)⟩
  refine ⟨⟨fun b u e => ⟨(r1.wd.base b u e).1, fun z => z.elim (r1.wd.base b u e).2 fun q => by have q9 := (r.wd.base b u e).1; rw [q, hp] at q9; cases q9⟩, fun b w => .inl (r1.wd.wz b w), fun b zb => ?_, fun a u z e => z.elim (fun z => r1.wd.zx a u z e) (fun z => by rw [z, h1] at e; rw [← Option.some.inj e]; exact hx), i⟩, r1.kp, fun b zb => .inl (r.zz b zb), r.len, fun j d e n => ?_⟩
  · rcases zb with zb | zb
    · exact r1.wd.zin b zb
    · subst zb; exact ⟨o, h1⟩
  · obtain ⟨v, e1, q⟩ := r.sl j d e n
    exact ⟨v, e1, Rep.mono ex d v q⟩
def dParN (i j : Nat) (as bs : TAD) : TSD := fun Dd ρ => as ρ fun ds => bs ρ fun es => Dd.nx ((ρ.set i (some (.own .lst ds))).set j (some (.own .lst es)))
def dParN3 (i j l : Nat) (as bs : TAD) (t : TED) : TSD := fun Dd ρ => as ρ fun ds => bs ρ fun es => t ρ fun d => Dd.nx (((ρ.set i (some (.own .lst ds))).set j (some (.own .lst es))).set l (some d))
end
end DL
end
section
namespace DL
open PySem PySem.Spec PyProof.Rows L2
def D.key : D → Option Key
  | .int i => some (.inl i)
  | .str x => some (.inr x)
  | _ => none
section
variable {K : PySem.W.Frag} {H : Hp}
end
section
variable {K : PySem.W.Frag} {S : Sit} {c : Cl} {X : Cx} {ta tb te : TE} {a b t : TED} {ts : TA} {as : TAD} {e e2 : Expr} {es : List Expr} {pos p1 p2 p3 pos' : Pos} {x y : Str}
end
end DL
end
section
namespace DL
open PySem PySem.Spec PyProof.Rows L2
structure ClsTy (K : PySem.W.Frag) (C : Addr) : Prop where
  cl : Cls K C
  ha : PySem.W.findIn K (.ref C) "__class__" = some (some (.builtin "object.__class__"))
  hn : PySem.W.specialIn K (.builtin "object.__class__") "__get__" = some (some (.builtin "getset_descriptor.__get__"))
  htk : PySem.W.takesIn K (.builtin "object.__class__") = some true
  hm : PySem.W.mroIn K C (.type "object") = some true
section
variable {K : PySem.W.Frag} {S : Sit} {c : Cl} {X : Cx} {te ta : TE} {a : TED} {e : Expr} {pos p1 p2 : Pos} {x y : Str} {C : Addr}
structure DPop (K : PySem.W.Frag) (S : Sit) (c : Cl) (X : Cx) (j : Nat) (e : Expr) (tb : TE) (b : TED) : Prop where
  pe : PE X e (tBM K "list" rPopAt (tVar j) (tCons tb tNil))
  we : WE K S c tb b
end
end DL
end
section
namespace DL
open PySem PySem.Spec PyProof.Rows L2
section
variable {K : PySem.W.Frag} {S : Sit} {c : Cl} {X : Cx} {e : Expr} {pos p1 p2 p3 p4 p5 p6 : Pos} {x y : Str}
end
end DL
end
section
namespace DL
open PySem PySem.Spec PyProof.Rows L2
section
variable {K : PySem.W.Frag} {S : Sit} {c : Cl} {X : Cx} {ta tb te : TE} {a b t : TED} {ts : TA} {as : TAD} {e e1 e2 e3 e4 : Expr} {pos p1 p2 p3 p4 : Pos} {x : Str}
end
section
variable {K : PySem.W.Frag}
end
structure LawAt (K : PySem.W.Frag) where
  c : Cl
  Hs : Hp
  l : Addr
  p : Addr
  ns : List Int
  scr : Scr K Hs l p ns
end DL
namespace DL
open PySem PySem.Spec PyProof.Rows L2
section
variable {X : Cx} {x : Str} {pos p1 p2 : Pos} {j : Nat}
end
end DL
namespace DL
open PySem PySem.Spec PyProof.Rows L2
section
variable {K : PySem.W.Frag} {S : Sit} {c : Cl} {X : Cx} {ta : TA} {as : TAD} {e1 e2 : Expr} {pos : Pos} {x y : Str}
end
end DL
end
section
namespace DL
open PySem PySem.Spec PyProof.Rows L2
inductive At where
  | glo (x : Str)
  | meth (C m : Str)
  | prop (C f : Str)
def getterA (K : PySem.W.Frag) (p : Addr) : Addr := match PySem.W.recIn K p "property" with
  | some (.ref g :: _) => g
  | _ => 0
def At.ad (K : PySem.W.Frag) : At → Addr
  | .glo x => He.ga K x
  | .meth C m => He.ma K (He.ga K C) m
  | .prop C f => getterA K (He.ma K (He.ga K C) f)
structure DefX where
  at_ : At
  name : Str
  qual : Str
  st : Stmt
def DefX.look (K : PySem.W.Frag) (d : DefX) : He.FnV := match K.lookup (d.at_.ad K) with
  | some ⟨_, _, .func fd, _⟩ => some (fd.name, fd.qualname, fd.params, fd.body, fd.scope, fd.globals, fd.closure, fd.defaults, fd.builtins)
  | _ => none
def DefX.want (d : DefX) : He.FnV := some (d.name, d.qual, defArgs d.st, .stmts (defBody d.st), defScope d.st, mainGlobals, [], .none, builtinsNs)
def DefX.ok (K : PySem.W.Frag) (d : DefX) : Bool := PySem.W.keepIn K (.ref (d.at_.ad K)) && (match K.lookup (d.at_.ad K) with
  | some ⟨_, _, .func fd, _⟩ => PySem.W.codeIn K fd.code d.qual
  | _ => false)
inductive Fb where
  | a (f : He.Fa)
  | con (C f : Str) (i : Int)
  | cons (C f z : Str)
  | prop (C f : Str)
  | ty (C : Str)
  | sf (C : Str)
  | fnin (C m : Str)
  | imp (x : Str) (id : String)
  | cval (C f : Str) (i : Int)
def Fb.ok (K : PySem.W.Frag) : Fb → Bool
  | .a f => f.ok K
  | .con C f i => (match PySem.W.findIn K (.ref (He.ga K C)) f with
    | some (some (.int j t)) => decide (j = i) && decide (PySem.W.specialIn K (.int j t) "__get__" = some none)
    | _ => false) && !(PySem.W.copiedNames.contains f)
  | .cons C f z => (match PySem.W.findIn K (.ref (He.ga K C)) f with
    | some (some (.str j t)) => decide (j = z) && decide (PySem.W.specialIn K (.str j t) "__get__" = some none)
    | _ => false) && !(PySem.W.copiedNames.contains f)
  | .prop C f => He.eqO (PySem.W.findIn K (.ref (He.ga K C)) f) (some (some (.ref (He.ma K (He.ga K C) f)))) && (He.eqO (PySem.W.specialIn K (.ref (He.ma K (He.ga K C) f)) "__get__") (some (some (.builtin "property.__get__"))) && (decide (PySem.W.takesIn K (.ref (He.ma K (He.ga K C) f)) = some true) && (match PySem.W.recIn K (He.ma K (He.ga K C) f) "property" with
    | some (.ref g :: _) => true
    | _ => false)))
  | .ty C => (He.Fa.cls C).ok K && (He.eqO (PySem.W.findIn K (.ref (He.ga K C)) "__class__") (some (some (.builtin "object.__class__"))) && (He.eqO (PySem.W.specialIn K (.builtin "object.__class__") "__get__") (some (some (.builtin "getset_descriptor.__get__"))) && (decide (PySem.W.takesIn K (.builtin "object.__class__") = some true) && decide (PySem.W.mroIn K (He.ga K C) (.type "object") = some true))))
  | .sf C => PySem.W.selfFirst K (He.ga K C)
  | .fnin C m => PySem.W.fnIn K (He.ma K (He.ga K C) m)
  | .imp x id => He.eqO (PySem.W.nsIn K mainGlobals x) (some (some (.builtin id)))
  | .cval C f i => PySem.W.readsIn K (He.ga K C) (.type "type") && (He.eqO (PySem.W.specialIn K (.ref (He.ga K C)) "__getattribute__") (some (some (.builtin "type.__getattribute__"))) && (match PySem.W.findCls K (.ref (He.ga K C)) (.type "type") f with
    | some (.val (.int j _)) => decide (j = i)
    | _ => false))
section
variable {K : PySem.W.Frag} {h : Heap} {mg : Str → Option Value}
end
abbrev AlX : Type := Bool × List He.FnV
section
variable {fa : List Fb} {fn : List DefX} {K : PySem.W.Frag}
end
end DL
end
section
namespace DL
open PySem PySem.Spec PyProof.Rows L2
end DL
end
section
namespace DL
open PySem PySem.Spec PyProof.Rows L2
section
variable {K : PySem.W.Frag} {S : Sit} {c : Cl} {X : Cx} {te ta tb : TE} {a b t : TED} {as : TAD}
abbrev TXD := EnvD → (D → Prop) → Prop
def WX (K : PySem.W.Frag) (S : Sit) (c : Cl) (te : TE) (t : TXD) : Prop := ∀ Z σ H ρ (P : D → Prop), RV K S c Z σ H ρ → t ρ P →
  ∀ Q : VK, (∀ v H' d ft, Kp S H H' → S.I H' → (∀ a ∈ ft, H a = none) → ft.Nodup → Own K H' (fun a => Z a ∨ a ∈ ft) c.H0 d v ft → P d → Q v H') → te σ H Q
def xN (as : TAD) : TXD := fun ρ P => as ρ fun ds => P (.own .lst ds)
structure DX (K : PySem.W.Frag) (S : Sit) (c : Cl) (X : Cx) (e : Expr) (te : TE) (t : TXD) : Prop where
  pe : PE X e te
  wx : WX K S c te t
variable {e e1 e2 e3 : Expr} {t1 t2 t3 : TE} {a1 a2 a3 : TXD} {x y z : Str} {pos pos' p1 p2 p3 p4 p5 p6 : Pos}
theorem RZ.put {B : Hp} {Z : Addr → Prop} {σ : L2.St} {H H' : Hp} {ρ : EnvD} (r : RZ K S c B Z σ H ρ) (i : Nat) {d : D} {v : V} {ft : List Addr} (k : Kp S H H') (iv : S.I H') (hn : ∀ a ∈ ft, H a = none) (nd : ft.Nodup) (q : Own K H' (fun a => Z a ∨ a ∈ ft) c.H0 d v ft) :
    RZ K S c B (fun a => Z a ∨ a ∈ ft) (σ.set i (some v)) H' (ρ.set i (some d)) := by
  cases ho : d.isOwn with
  | true => exact r.setNew i k iv hn nd q ho
  | false =>
    obtain ⟨rfl, rd⟩ := (own_plain ho).mp q
    have ez : (fun a => Z a ∨ a ∈ ([] : List Addr)) = Z := by funext a; simp
    rw [ez] at rd ⊢
    exact (r.step k iv).set i rd
def dParX (i j : Nat) (a b : TXD) : TSD := fun Dd ρ => a ρ fun d => b ρ fun e => Dd.nx ((ρ.set i (some d)).set j (some e))
def dParX3 (i j l : Nat) (a b t : TXD) : TSD := fun Dd ρ => a ρ fun d => b ρ fun e => t ρ fun g => Dd.nx (((ρ.set i (some d)).set j (some e)).set l (some g))
end
section
variable {K : PySem.W.Frag} {S : Sit} {c : Cl} {X : Cx} {ta : TE} {a : TED} {ts : TA} {as : TAD} {o e : Expr} {es : List Expr} {apos cpos pos p : Pos} {T id : String} {name : Str} {r : V → List V → Hp → VK → Prop}
def tyD (T : String) : D → Prop
  | .str _ => T = "str"
  | .lst _ => T = "list"
  | .dic _ _ => T = "dict"
  | _ => False
abbrev RMD := D → List D → (D → Prop) → Prop
def dBM (T : String) (rd : RMD) (a : TED) (as : TAD) : TED := fun ρ P => a ρ fun x => tyD T x ∧ as ρ fun ds => rd x ds P
end
section
variable {K : PySem.W.Frag} {S : Sit} {c : Cl} {X : Cx} {te ta tb : TE} {a b t : TED} {as : TAD} {e e1 e2 : Expr} {x y : Str} {pos pos' p1 p2 p3 p4 p5 p6 : Pos}
structure CCon (K : PySem.W.Frag) (C : Addr) (f : Str) (v : V) : Prop where
  rd : ClX.CRead K C (.type "type")
  at_ : ∃ u, ClX.CVal K C (.type "type") f v u
end
section
variable {P : Program} {w : World} {K : PySem.W.Frag} {S : Sit} {c : Cl} {X : Cx} {mg : Str → Option Value} {base : Heap} {te ta : TE} {ts : TA} {as : TAD} {e : Expr} {es : List Expr} {x : Str} {p pos : Pos}
structure DSsN (K : PySem.W.Frag) (S : Sit) (c : Cl) (X : Cx) (i : Nat) (st : List Stmt) (ts : TS) (t : TSD) : Prop where
  pss : PSs X st ts
  ws : ∀ B σ H ρ (Dd : EndsD) (D : Ends), RS K S c B σ H ρ → t Dd ρ → (∀ σ H ρ, RS K S c B σ H ρ → Dd.nx ρ → tRet (tVar i) D σ H) → (∀ d, ¬ Dd.rt d) → (∀ ρ, ¬ Dd.bk ρ) → (∀ ρ, ¬ Dd.ct ρ) → ts D σ H
end
end DL
end
section
namespace DL
open PySem PySem.Spec PyProof.Rows L2
section
variable {K : PySem.W.Frag}
end
end DL
end
section
namespace DL
open PySem PySem.Spec PyProof.Rows L2
end DL
end
section
namespace EXK
open PySem PySem.W PySem.Calls PyProof.Rows PySem.HandSPX
open Builtin Builtin.ObjectAttr
section
variable {P : Program} {w : World} {M : Model} {Ar : Around} {Er : Value → Shared → Prop} {Rr : Result → Shared → Prop} {hh : Heap} {gs : Array GenState} {dr : Drawn} {tk : Nat} {oss : OsState}
variable {cn cq : Str} {C Nc : Addr} {bs bm bmB : List Value} {hdct : Bool} {sn : List Str} {sub : List Value} {ab : Bool} {col : Option Bool} {dd : Option Addr} {k0 k1 k2 k3 k5 : Option Value} {B newId initId : String} {kw : List (Str × Value)}
end
end EXK
end
section
namespace DL
open PySem PySem.Spec PyProof.Rows L2
structure SupX (X : Cx) (C D : Addr) : Prop where
  ks : X.env.kindOf "super" = some .globalImplicit
  kc : X.env.kindOf "__class__" = some .free
  k0 : X.env.kindOf "self" = some .local
  n0 : X.N[0]? = some ("self" : Str)
  fn : ∃ (f : Addr) (oc : Value) (od : Option Addr) (fd : FuncData) (osl : Array (Option Value)) (ar : Arg), X.env.func = some f ∧ X.K.lookup f = some ⟨oc, od, .func fd, osl⟩ ∧ (fd.params.posonlyargs ++ fd.params.args).head? = some ar ∧ ar.arg = "self"
  code : ∃ (cda : Addr) (ccl : Value) (cdd : Option Addr) (vs : Array Value) (ccs : Array (Option Value)) (file : Str) (tf : Tok), X.env.code = .ref cda ∧ X.K.lookup cda = some ⟨ccl, cdd, .fields vs, ccs⟩ ∧ vs[2]? = some (.str file tf) ∧ ((X.prog.main.file : Str) == file) = true
  top : (X.prog.main.scope.names.lookup ("super" : Str)).isSome = false
  mg : X.mg "super" = none
  cell : ∃ (cc : Addr) (cl : Value) (cld : Option Addr) (csl : Array (Option Value)), X.env.cells.lookup ("__class__" : Str) = some cc ∧ X.K.lookup cc = some ⟨cl, cld, .cell (some (.ref D)), csl⟩
  clsD : ∃ cdD, PySem.W.clsIn X.K D = some cdD
  clsC : ∃ cdC, PySem.W.clsIn X.K C = some cdC
  sub : PySem.W.mroIn X.K C (.ref D) = some true
  opq : PySem.W.nsIn X.K cStatics "thirdparty.any" = some none
section
variable {X : Cx} {pins : List (Addr × Obj)} {σ : L2.St} {H : Hp} {s : Shared} {C D a : Addr}
end
end DL
end
section
namespace DL
open PySem PySem.Spec PyProof.Rows L2
section
open PySem.W PySem.Calls
variable {P : Program} {w : World} {Ar : Around} {Er : Value → Shared → Prop} {hh : Heap} {gs : Array GenState} {dr : Drawn} {tk : Nat} {oss : OsState}
variable {cn cq : Str} {C Nc : Addr} {bs bm bmB : List Value} {hdct : Bool} {sn : List Str} {sub : List Value} {ab : Bool} {col : Option Bool} {dd : Option Addr} {k0 k1 k2 k3 k5 : Option Value} {B i newId : String}
end
section
variable {X : Cx} {pins : List (Addr × Obj)} {σ : L2.St} {H : Hp} {s : Shared} {C D a : Addr} {e : Expr} {es : List Expr} {ta : TA} {body : List Stmt} {p0 p1 p2 p3 pos : Pos} {Dn : Ends}
end
end DL
end
section
namespace DL
open PySem PySem.Spec PyProof.Rows L2
structure FunS (P : Program) (K : PySem.W.Frag) (x qual : Str) (st : Stmt) (D f : Addr) (fd : FuncData) : Prop where
  ex : ∃ (oc : Value) (od : Option Addr) (kV doc pm : Value) (an : Option Addr) (cda : Addr) (ct : Value) (osl : Array (Option Value)) (cc : Addr),
    fd = PySem.W.ksFn x qual (defArgs st) (defBody st) (defScope st) .none kV doc pm an (.ref cda) ct cc ∧ K.lookup f = some ⟨oc, od, .func fd, osl⟩ ∧ PySem.W.codeIn K (.ref cda) qual = true ∧
    (∃ (ccl : Value) (cdd : Option Addr) (vs : Array Value) (ccs : Array (Option Value)) (file : Str) (tf : Tok), K.lookup cda = some ⟨ccl, cdd, .fields vs, ccs⟩ ∧ vs[2]? = some (.str file tf) ∧ ((P.main.file : Str) == file) = true) ∧
    ∃ (cl : Value) (cld : Option Addr) (csl : Array (Option Value)), K.lookup cc = some ⟨cl, cld, .cell (some (.ref D)), csl⟩
  kp : PySem.W.keepIn K (.ref f) = true
structure SupK (P : Program) (K : PySem.W.Frag) (mg : Str → Option Value) (C D : Addr) : Prop where
  top : (P.main.scope.names.lookup ("super" : Str)).isSome = false
  mg : mg "super" = none
  clsD : ∃ cdD, PySem.W.clsIn K D = some cdD
  clsC : ∃ cdC, PySem.W.clsIn K C = some cdC
  sub : PySem.W.mroIn K C (.ref D) = some true
  opq : PySem.W.nsIn K cStatics "thirdparty.any" = some none
section
variable {P : Program} {w : World} {K : PySem.W.Frag} {mg : Str → Option Value} {base : Heap} {CX : CXT} {x qual : Str} {st : Stmt} {C D f : Addr} {fd : FuncData} {N ps : List Str} {k : Nat} {sp : Sp}
end
end DL
end
section
namespace DL
open PySem PySem.Spec PyProof.Rows L2
def Fm (v : V) : Prop := (∃ i : Int, v = .int i ∧ i.natAbs.log2 < 1920) ∨ ∃ y : Str, v = .str y ∧ y.length ≤ 100000 ∧ (reprText y).length ≤ 100000
def spXI (C : Addr) (fs : List Str) : Sp := fun vs H Q _ => ∃ (a : Addr) (ys : List V), vs = .ref a :: ys ∧ ys.length = fs.length ∧ (∀ y ∈ ys, Fm y) ∧ H a = some (exo a C none) ∧
  ∀ dx H', H dx = none → dx ≠ a → H' a = some (exo a C (some dx)) → H' dx = some (exd dx (fs.zip ys).reverse) → (∀ b, b ≠ a → b ≠ dx → H' b = H b) → Q .non H'
section
variable {P : Program} {w : World} {K : PySem.W.Frag} {mg : Str → Option Value} {base : Heap} {CX : CXT} {qual : Str} {st : Stmt} {C f : Addr} {fd : FuncData} {k : Nat}
end
section
variable {X : Cx} {CX : CXT} {x : Str} {C fI : Addr} {k : Nat} {fd : FuncData} {ps ks : List Str} {sp : Sp} {kws : List Keyword} {tk : TA} {p pos : Pos} {g : List Value → List Value → List Value} {gV : List V → List V → List V}
end
end DL
end
section
namespace LMX
open PySem PySem.Spec PyProof.Rows L2 LamX
structure LF where
  qual : Str
  params : Arguments
  body : Expr
  scope : Scope
  cl : List (Str × Addr)
  c : Addr
  dv : Option Addr
def LF.dV (F : LF) : Value := match F.dv with
  | none => .none
  | some t => .ref t
abbrev fdL (qual : Str) (params : Arguments) (body : Expr) (scope : Scope) (cl : List (Str × Addr)) (dV pm cdv ct : Value) : FuncData :=
  { PySem.W.kla_fn "<lambda>" qual params body scope cl pm cdv ct with defaults := dV }
def LamO (f : Addr) (F : LF) : HO := .ext fun h => ∃ (od : Option Addr) (sl : Array (Option Value)) (pm ctv : Value), h.get? f = some (⟨.type "function", od, .func (fdL F.qual F.params F.body F.scope F.cl F.dV pm (.ref F.c) ctv), sl⟩ : Obj)
section
variable {M : Model} {A : Around} {E : Value → Shared → Prop} {s : Shared} {q : Str} {pr : Arguments} {bd : Expr} {sc : Scope} {env : Env} {c P : Addr} {ps : Array Value} {pos : Pos} {ln : Nat} {mg : Str → Option Value} {cl : List (Str × Addr)} {dV : Value} {Qv : Value → Shared → Prop}
end
end LMX
end
section
namespace LMX
open PySem PySem.Spec PyProof.Rows L2 LamX
def LamAt (qual : Str) (params : Arguments) (body : Expr) (scope : Scope) (cl : List (Str × Addr)) (hasD : Bool) (H : Hp) (f : Addr) : Prop :=
  ∃ (c' : Addr) (dv : Option Addr), H f = some (LamO f ⟨qual, params, body, scope, cl, c', dv⟩) ∧ H c' = some (CodeO c' qual) ∧ dv.isSome = hasD ∧ ∀ t, dv = some t → H t = some (.tup [.int 0])
theorem LamAt.ext {qual : Str} {params : Arguments} {body : Expr} {scope : Scope} {cl : List (Str × Addr)} {hasD : Bool} {H H' : Hp} {f : Addr} (h : LamAt qual params body scope cl hasD H f) (e : ∀ b o, H b = some o → H' b = some o) : LamAt qual params body scope cl hasD H' f := by
  obtain ⟨c', dv, h1, h2, h3, h4⟩ := h
  exact ⟨c', dv, e _ _ h1, e _ _ h2, h3, fun t ht => e _ _ (h4 t ht)⟩
section
variable {X : Cx} {pins : List (Addr × Obj)} {σ : L2.St} {H : Hp} {s : Shared}
end
end LMX
end
section
namespace LMX
open PySem PySem.Spec PyProof.Rows L2 LamX
section
variable {X : Cx} {pins : List (Addr × Obj)} {σ : L2.St} {H : Hp} {s : Shared}
end
structure LScope (ps : List Str) (sc : Scope) : Prop where
  kind : sc.kind = .function
  co : sc.isCoroutine = false
  gen : sc.isGenerator = false
  nocell : ∀ y ∈ sc.names, y.2 ≠ .cell
  par : ∀ x ∈ ps, sc.names.lookup x = some .local
section
variable {P : Program} {w : World} {K : PySem.W.Frag} {mg : Str → Option Value} {base : Heap} {N ps : List Str} {F : LF} {f : Addr} {A : Around} {outer : List Env} {s : Shared} {H : Hp} {E : XK} {us : List Value} {σ : L2.St}
end
end LMX
end
section
namespace DL
open PySem PySem.Spec PyProof.Rows L2 LamX LMX
abbrev SpT := (D → Prop) → XD → Prop
section
variable {K : PySem.W.Frag} {S : Sit} {c : Cl} {X : Cx} {E : XK} {xd : XD} {k i : Nat} {x : Str} {p1 p2 : Pos} {Act : (Hp → Addr → Prop) → SpT → Prop}
end
section
variable {P : Program} {w : World} {K : PySem.W.Frag} {mg : Str → Option Value} {S : Sit} {c : Cl} {X : Cx}
end
end DL
end
section
namespace DL
open PySem PySem.Spec PyProof.Rows L2 LamX LMX
section
variable {K : PySem.W.Frag} {S : Sit} {c : Cl} {X : Cx}
abbrev ActT := (Hp → Addr → Prop) → SpT → Prop
variable {CX : CXT} {k j : Nat} {g : Addr} {fd : FuncData} {ps : List Str} {spA : ActT → SpD} {E : XK} {xd : XD} {x : Str} {p pos : Pos} {e : Expr} {es : List Expr} {ts : TA} {as : TAD} {tab : List ((Hp → Addr → Prop) × (XD → TED) × List Bool)}
def dLam (O : Hp → Addr → Prop) : TED := fun _ P => P (.sem O)
structure TabIn (S : Sit) (T : List (Addr × Str)) : Prop where
  w : ∀ p ∈ T, S.W p.1
  i : ∀ H, S.I H → Tabs T H
  put : ∀ H H' P q, (P, q) ∈ T → S.I H → (∀ b o, b ≠ P → H b = some o → H' b = some o) → TabS H' P q → S.I H'
end
end DL
end
section
namespace DL
open PySem PySem.Spec PyProof.Rows L2 LamX LMX
def tabSit (S : Sit) (T : List (Addr × Str)) : Sit where
  Hs := S.Hs
  W := fun a => S.W a ∨ ∃ q, (a, q) ∈ T
  I := fun H => S.I H ∧ Tabs T H
  stab := fun H H' h ⟨i, t⟩ => ⟨S.stab H H' (fun a o e w => h a o e (w.imp .inl id)) i, fun p hp => by
    obtain ⟨ps, h1, h2, h3⟩ := t p hp
    refine ⟨ps, h _ _ h1 (.inl (.inr ⟨p.2, hp⟩)), h2, fun pos cv hc => ?_⟩
    obtain ⟨c, e1, e2⟩ := h3 pos cv hc
    exact ⟨c, e1, h _ _ e2 (.inr rfl)⟩⟩
  there := fun H a ⟨i, t⟩ w => w.elim (fun w => S.there H a i w) fun ⟨q, hq⟩ => by
    obtain ⟨ps, h1, _⟩ := t _ hq
    exact ⟨_, h1⟩
  nox := fun H a o ⟨i, t⟩ w e => w.elim (fun w => S.nox H a o i w e) fun ⟨q, hq⟩ => by
    obtain ⟨ps, h1, _⟩ := t _ hq
    have h1 : H a = some (.tbl ps) := h1
    rw [h1] at e
    cases e
    rfl
def NoTab (S : Sit) : Prop := ∀ H a ps, S.I H → S.W a → H a ≠ some (.tbl ps)
section
variable {P : Program} {w : World} {K : PySem.W.Frag} {mg : Str → Option Value} {base : Heap} {CX : CXT} {k : Nat} {f : Addr} {fd : FuncData} {ps : List Str} {S : Sit} {T : List (Addr × Str)}
theorem wd_tab {Z : Addr → Prop} {H : Hp} (w : Wd (tabSit S T) Z H) : Wd S Z H := ⟨w.base, fun a h => w.wz a (.inl h), w.zin, w.zx, w.inv.1⟩
theorem tab_keep (nt : NoTab S) {H H' : Hp} (k : Kp S H H') (i : (tabSit S T).I H) (i' : S.I H') : (tabSit S T).I H' := by
  obtain ⟨i0, t⟩ := i
  refine ⟨i', fun p hp => ?_⟩
  obtain ⟨qs, h1, h2, h3⟩ := t p hp
  refine ⟨qs, k _ _ h1 fun w => nt H _ qs i0 w h1, h2, fun pos cv hc => ?_⟩
  obtain ⟨c, e1, e2⟩ := h3 pos cv hc
  exact ⟨c, e1, k _ _ e2 fun w => by
    have z := S.nox H c _ i0 w e2
    cases z⟩
theorem FnOk.tab {spd : SpD} (nt : NoTab S) (F : FnOk P w K mg base CX k f fd ps (liftSp K S spd)) : FnOk P w K mg base CX k f fd ps (liftSp K (tabSit S T) spd) :=
  F.imp fun vs H Q E ⟨Z, ds, Pd, x, wd, r, h, q, qe⟩ => ⟨Z, ds, Pd, x, wd_tab wd, r, h,
    fun v H' d k' i' r' h' => q v H' d (fun b o e n => k' b o e fun w => n (.inl w)) (tab_keep nt k' wd.inv i') r' h',
    fun cls dd H' fs k' i' xr hx => qe cls dd H' fs (fun b o e n => k' b o e fun w => n (.inl w)) (tab_keep nt k' wd.inv i') xr hx⟩
end
end DL
end
section
namespace DL
open PySem PySem.Spec PyProof.Rows L2 LamX LMX
structure XC (K : PySem.W.Frag) (S : Sit) (c : Cl) (X : Cx) : Prop where
  fit : XFit K S c
  tk : Takes X fun cls d _ H => c.E cls d H
  own : PassesOwn (model X.prog X.w) X.A X.env X.xe
section
variable {K : PySem.W.Frag} {S : Sit} {c : Cl} {X : Cx}
theorem XC.pass (h : XC K S c X) : Passes (L2.CX X.prog X.w) X c.E := passes_call h.tk fun _ _ _ _ h => h
theorem XC.ok (h : XC K S c X) : XOk K S c c.E c.x := h.fit
end
section
variable {P : Program} {w : World} {K : PySem.W.Frag} {S : Sit} {mg : Str → Option Value} {base : Heap}
end
section
variable {K : PySem.W.Frag} {S : Sit} {c : Cl} {X : Cx} {C : Addr} {te : TE} {a : TED} {ts : TA} {as : TAD} {fs : List Str} {E : XK} {xd : XD}
variable {x : Str} {e : Expr} {p pos rpos : Pos} {fI : Addr} {k : Nat} {fd : FuncData} {ps ks : List Str} {kws : List Keyword} {CX : CXT}
structure DK (K : PySem.W.Frag) (S : Sit) (c : Cl) (X : Cx) (kws : List Keyword) (ts : TA) (as : TAD) : Prop where
  pk : PK X kws ts
  wa : WA K S c ts as
structure XCls (P : Program) (w : World) (K : PySem.W.Frag) (mg : Str → Option Value) (base : Heap) (k : Nat) (x : Str) (C : Addr) (fs : List Str) : Prop where
  T : OexC K C
  m : mg x = some (.ref C)
  ex : ∃ (fI : Addr) (fd : FuncData) (ps : List Str), PySem.W.findIn K (.ref C) "__init__" = some (some (.ref fI)) ∧ PySem.W.typeIn K (.ref fI) = some (.type "function") ∧ FnOk P w K mg base CX0 k fI fd ps (spXI C fs) ∧
    KBn K fd ps 1 fs (fun us ws => us ++ ws) (fun us ws => us ++ ws)
structure XCls0 (K : PySem.W.Frag) (mg : Str → Option Value) (x : Str) (C : Addr) : Prop where
  q : ∃ (bmB : List Value) (B newId initId : String), ExcBaseFacts B newId initId bmB ∧ PySem.W.excIn K C bmB newId = true
  m : mg x = some (.ref C)
  kC : PySem.W.keepIn K (.ref C) = true
  exC : PySem.W.subIn K (.ref C) (.type "BaseException") = some true
  tyC : PySem.W.typeIn K (.ref C) = some (.type "type")
end
end DL
end
section
namespace DL
open PySem PySem.Spec PyProof.Rows L2 LamX LMX
structure Cls1 where
  c : Value
  i : Option Nat
  t : Addr → Value → Option Addr → TS
def Cls1.ends (k : Cls1) (D : Ends) : Ends := match k.i with
  | none => D
  | some i => { nx := fun σ H => D.nx (σ.set i none) H, rt := D.rt, bk := fun σ H => D.bk (σ.set i none) H, ct := fun σ H => D.ct (σ.set i none) H }
def Cls1.slots (k : Cls1) (a : Addr) (σ : L2.St) : L2.St := match k.i with
  | none => σ
  | some i => σ.set i (some (.ref a))
def wMix (K : PySem.W.Frag) (Wout : L2.WX) (D : Ends) : List Cls1 → L2.WX
  | [] => Wout
  | k :: r => fun cls d σ H => ∃ b, PySem.W.exmOne K cls k.c = some b ∧ (b = true → ∀ a, H a = none → k.t a cls d (k.ends D) (k.slots a σ) H) ∧ (b = false → wMix K Wout D r cls d σ H)
structure ClsOk (X : Cx) (h : ExceptHandler) (k : Cls1) : Prop where
  ex : ∃ (x : Str) (np pos : Pos) (on : Option Str) (b₀ : Stmt) (suite : List Stmt), h = .ExceptHandler (some (.Name x np)) on (b₀ :: suite) pos ∧ Names X x k.c ∧
    (∀ (a : Addr) (oe : Obj) (cls : Value) (d : Option Addr) (pn : List (Addr × Obj)), Zc cls d oe → (∃ vs, oe.data = .fields vs) → PSs (X.suite a ((a, oe) :: pn)) (b₀ :: suite) (k.t a cls d)) ∧
    ((on = none ∧ k.i = none) ∨ ∃ n i, on = some n ∧ k.i = some i ∧ X.N.Nodup ∧ X.N[i]? = some n ∧ X.env.kindOf n = some .local)
inductive ClssOk (X : Cx) : List ExceptHandler → List Cls1 → Prop
  | nil : ClssOk X [] []
  | cons {h : ExceptHandler} {k : Cls1} {hs : List ExceptHandler} {ks : List Cls1} (c : ClsOk X h k) (r : ClssOk X hs ks) : ClssOk X (h :: hs) (k :: ks)
structure HeldX (X : Cx) (pins : List (Addr × Obj)) (σ : L2.St) (H : Hp) (a : Addr) (cls : Value) (d : Option Addr) (B : Heap) (sI s : Shared) : Prop where
  J : Inv X pins σ H sI
  nb : ∀ b o, sI.heap.get? b = some o → b ∉ frs X.stack → B.get? b = some o
  fl : HandSPX.FlyingZ B (X.env :: X.outer) a (Zc cls d) s.heap
  up : sI.heap.UpToSlots s.heap
  os : s.os = sI.os
  ag : AllBare s.gens
  na : H a = none
section
variable {X : Cx} {pins : List (Addr × Obj)} {σ : L2.St} {H : Hp} {a : Addr} {cls : Value} {d : Option Addr} {B : Heap} {sI s : Shared}
theorem HeldX.inv (h : HeldX X pins σ H a cls d B sI s) (hf : X.env.frame = some X.env.locals) : ∃ (oe : Obj) (vs : Array Value), s.heap.get? a = some oe ∧ Zc cls d oe ∧ oe.data = .fields vs ∧ Inv (X.suite a ((a, oe) :: (X.pn ++ pins))) [] σ H s := by
  obtain ⟨oe, vs, e1, e2, e3⟩ := h.fl.there
  have notIn : a ∉ frs (X.env :: X.outer) := fun hm => by
    obtain ⟨_, o', e', hnf⟩ := h.fl.2.2.1.mem hm
    rw [e1] at e'
    cases e'
    exact hnf _ e3
  have J3 : Inv X pins σ H s := by
    obtain ⟨hh, g, dr, tk, os⟩ := s
    exact h.J.landed (s' := ⟨hh, g, dr, tk, os⟩) h.nb h.fl.1 h.up h.os h.ag
  refine ⟨oe, vs, e1, e2, e3, J3.suite e1 e3 h.na (fun z => notIn ?_) fun hm => notIn ?_⟩
  · exact List.mem_filterMap.mpr ⟨X.env, List.mem_cons_self, by rw [hf, z]⟩
  · obtain ⟨e, he, q⟩ := List.mem_filterMap.mp hm
    exact List.mem_filterMap.mpr ⟨e, List.mem_cons_of_mem _ he, q⟩
theorem HeldX.again (h : HeldX X pins σ H a cls d B sI s) {h' : Heap} (fl : HandSPX.FlyingZ B (X.env :: X.outer) a (Zc cls d) h') (up : s.heap.UpToSlots h') : HeldX X pins σ H a cls d B sI { s with heap := h' } :=
  ⟨h.J, h.nb, fl, h.up.trans up, h.os, h.ag, h.na⟩
theorem HeldX.pass (h : HeldX X pins σ H a cls d B sI s) (hs : X.stack = X.env :: X.outer) (hf : X.env.frame = some X.env.locals) {Wout : L2.WX} (tk : Takes X Wout) (w : Wout cls d σ H) {Q : Flow → Shared → Prop} :
    wpAny (model X.prog X.w) X.A (handleBy (.ref a) X.env []) Q X.xe s := by
  refine wpAny_handleBy_nil ?_
  obtain ⟨_, _, _, oe, vs, T, oT, ts', q1, q2, q3, q4, _⟩ := id h.fl
  unfold PySem.passOn
  refine wpAny_bind (wpAny_field q1 q3 q4 ?_)
  have nn : ¬ ((Value.ref T == Value.none) = true) := by simp
  rw [if_neg nn]
  have go : wpAny (model X.prog X.w) X.A (setFlight (.ref a) X.env.frame) (fun _ s4 => wpAny (model X.prog X.w) X.A (throw (.ref a) : Sem Flow) Q X.xe s4) X.xe s := by
    rw [hf]
    refine HandSPX.setFlight_upZ h.fl fun h4 hh4 up4 => wpAny_throw (tk _ _ ⟨a, B, sI, pins, σ, H, cls, d, rfl, h.J, h.nb, h.up.trans up4, .inr (.inr ?_), h.na, h.os, h.ag, w⟩)
    rw [hs]; exact hh4
  first
    | exact wpAny_bind (wpAny_pure (wpAny_bind go))
    | exact wpAny_bind go
theorem sp_of_suite {D : Ends} {f : Flow} {q : Addr × Obj} (ok : X.Ok) (h : SP (X.suite a (q :: (X.pn ++ pins))) [] D f s) : SP X pins D f s := by
  cases f with
  | next => obtain ⟨σ6, H6, S6, q6⟩ := h; exact ⟨_, _, S6.unsuite ok, q6⟩
  | brk => obtain ⟨σ6, H6, S6, q6⟩ := h; exact ⟨_, _, S6.unsuite ok, q6⟩
  | cont => obtain ⟨σ6, H6, S6, q6⟩ := h; exact ⟨_, _, S6.unsuite ok, q6⟩
  | ret u => obtain ⟨v6, σ6, H6, S6, r6, q6⟩ := h; exact ⟨_, _, _, S6.unsuite ok, r6, q6⟩
theorem HeldX.run (hs : X.stack = X.env :: X.outer) (hf : X.env.frame = some X.env.locals) {Wout : L2.WX} (tk : Takes X Wout) {D : Ends} : ∀ {hds : List ExceptHandler} {l : List Cls1} {s : Shared}, ClssOk X hds l → HeldX X pins σ H a cls d B sI s → wMix X.K Wout D l cls d σ H →
    wpAny (model X.prog X.w) X.A (handleBy (.ref a) X.env hds) (SP X pins D) X.xe s
  | _, _, s, .nil, h, w => h.pass hs hf tk w
  | _, _, s, .cons (h := hd) (k := k) (hs := hds) (ks := l) c r, h, w => by
    obtain ⟨b, hb1, hyes, hno⟩ := w
    obtain ⟨x, np, pos, on, b₀, suite, rfl, hc, hsu, hn⟩ := c.ex
    have ok := h.J.ok
    obtain ⟨oe3, vs3, e3, z3, d3, S3⟩ := h.inv hf
    refine wpAny_handleBy_cons (codeAny_handlers_test ?_) (fun q => nomatch q)
    have LT : PySem.W.Looks (model X.prog X.w) s.heap (typeOf (.ref a)) cls := fun A Q E t kp q => wpAny_typeOf_ref (kp _ _ e3) (by rw [z3.1]; exact q)
    have LM := PySem.W.exm_one (M := model X.prog X.w) S3.kIn LT hb1
    have look : ∀ {Q : Value → Shared → Prop} {E : Value → Shared → Prop}, Q k.c s → wpAny (model X.prog X.w) (X.A.mark (some (.ref a))) (eval (.Name x np) X.env) Q E s := fun {Q E} q => by
      obtain ⟨n1, n2, n3 | ⟨n3, n4, n5⟩⟩ := hc
      · exact ld_glob (X := X.suite a ((a, oe3) :: (X.pn ++ pins))) S3 n1 n3 q n2
      · exact ld_blt (X := X.suite a ((a, oe3) :: (X.pn ++ pins))) S3 n1 n3 n4 q n5 n2
    refine look (LM.here ?_)
    cases b with
    | false =>
      show wpAny _ X.A (handleBy (.ref a) X.env hds) _ _ _
      exact HeldX.run hs hf tk r h (hno rfl)
    | true =>
      have hrun := hyes rfl a h.na
      rcases hn with ⟨rfl, hi⟩ | ⟨n, i, rfl, hi, nd, hN, hl⟩
      · refine codeAny_handlers_suite (HandSPX.lands_againZ h.fl fun h4 fl4 up4 => ?_)
        have h4' := h.again fl4 up4
        obtain ⟨oe4, vs4, e4, z4, d4, S4⟩ := h4'.inv hf
        have hrun' : k.t a cls d D σ H := by
          have z := hrun
          unfold Cls1.ends Cls1.slots at z
          rw [hi] at z
          exact z
        exact wpAny_mono ((hsu a oe4 cls d (X.pn ++ pins) z4 ⟨_, d4⟩).run [] _ _ H _ S4 hrun') (fun f s6 hsp => sp_of_suite ok hsp) fun _ _ z => False.elim z
      · refine codeAny_handlers_suite_as (HandSPX.lands_againZ h.fl fun h4 fl4 up4 => ?_)
        have h4' := h.again fl4 up4
        obtain ⟨oe4, vs4, e4, z4, d4, S4⟩ := h4'.inv hf
        have hrun' : k.t a cls d { nx := fun σ H => D.nx (σ.set i none) H, rt := D.rt, bk := fun σ H => D.bk (σ.set i none) H, ct := fun σ H => D.ct (σ.set i none) H } (σ.set i (some (.ref a))) H := by
          have z := hrun
          unfold Cls1.ends Cls1.slots at z
          rw [hi] at z
          exact z
        refine store_ok (X := X.suite a ((a, oe4) :: (X.pn ++ pins))) (v := .ref a) S4 nd hN (.inl hl) rfl (fun s5 S5 => ?_) (.inr hl)
        refine wpAny_mono ((hsu a oe4 cls d (X.pn ++ pins) z4 ⟨_, d4⟩).run [] s5 _ H _ S5 hrun') (fun f s6 hsp => ?_) fun _ _ z => False.elim z
        have gone : ∀ {σ6 : L2.St} {H6 : Hp} {Q : Shared → Prop}, Inv (X.suite a ((a, oe4) :: (X.pn ++ pins))) [] σ6 H6 s6 → (∀ s7, Inv X pins (σ6.set i none) H6 s7 → Q s7) →
            wpAny (model X.prog X.w) X.A (do bindName X.env n .none; unbindBehindTheSuite X.env n pos) (fun _ s7 => Q s7) X.xe s6 := fun {σ6 H6 Q} S6 hq => gone_ok (S6.unsuite ok) nd hN hl hq
        cases f with
        | next => obtain ⟨σ6, H6, S6, q6⟩ := hsp; exact gone S6 fun s7 J7 => ⟨_, _, J7, q6⟩
        | brk => obtain ⟨σ6, H6, S6, q6⟩ := hsp; exact gone S6 fun s7 J7 => ⟨_, _, J7, q6⟩
        | cont => obtain ⟨σ6, H6, S6, q6⟩ := hsp; exact gone S6 fun s7 J7 => ⟨_, _, J7, q6⟩
        | ret u => obtain ⟨v6, σ6, H6, S6, r6, q6⟩ := hsp; exact gone S6 fun s7 J7 => ⟨_, _, _, J7, r6, q6⟩
end
end DL
end
section
namespace EXK
open PySem PySem.W PySem.Spec PySem.Calls PyProof.Rows L2
section
variable {prog : Program} {w : World} {Ar : Around} {Er : Value → Shared → Prop} {s : Shared} {K : Frag} {x D : Addr} {ox : Obj} {od : Option Obj}
end
end EXK
namespace DL
open PySem PySem.Spec PyProof.Rows L2 LamX LMX
end DL
end
section
namespace DL
open PySem PySem.Spec PyProof.Rows L2 LamX LMX
structure HdR where
  sub : Addr → Option Bool
  i : Option Nat
  t : Addr → List (Str × D) → (Hp → Addr → Prop) → TSD
def HdR.env (h : HdR) (n : Nat) (p : Hp → Addr → Prop) : EnvD := match h.i with
  | none => List.replicate n none
  | some i => (List.replicate n none).set i (some (.sem p))
def ExP (K : PySem.W.Frag) (a : Addr) (d : Option Addr) (fs : List (Str × D)) : Hp → Addr → Prop := fun G b => b = a ∧ XRep K G d fs
section
variable {K : PySem.W.Frag} {S : Sit} {c : Cl} {X : Cx} {E : XK} {xo : XD}
structure HdOk (K : PySem.W.Frag) (S : Sit) (c : Cl) (X : Cx) (h : ExceptHandler) (r : HdR) : Prop where
  ex : ∃ (x : Str) (np pos : Pos) (on : Option Str) (b₀ : Stmt) (suite : List Stmt) (C : Value), h = .ExceptHandler (some (.Name x np)) on (b₀ :: suite) pos ∧ Names X x C ∧ (∀ cls b, r.sub cls = some b → PySem.W.exmOne X.K (.ref cls) C = some b) ∧
    (∀ (a : Addr) (oe : Obj) (cls : Addr) (d : Option Addr) (fs : List (Str × D)) (pn : List (Addr × Obj)), Zc (.ref cls) d oe → (∃ vs, oe.data = .fields vs) → (∃ b, r.sub cls = some b) →
      ∃ t, DSs K S c (X.suite a ((a, oe) :: pn)) (b₀ :: suite) t (r.t cls fs (ExP K a d fs))) ∧
    ((on = none ∧ r.i = none) ∨ ∃ n i, on = some n ∧ r.i = some i ∧ X.N.Nodup ∧ X.N[i]? = some n ∧ X.env.kindOf n = some .local)
inductive HdsOk' (K : PySem.W.Frag) (S : Sit) (c : Cl) (X : Cx) : List ExceptHandler → List HdR → Prop
  | nil : HdsOk' K S c X [] []
  | cons {h : ExceptHandler} {r : HdR} {hs : List ExceptHandler} {rs : List HdR} (a : HdOk K S c X h r) (b : HdsOk' K S c X hs rs) : HdsOk' K S c X (h :: hs) (r :: rs)
end
end DL
end
section
namespace DL
open PySem PySem.Spec PyProof.Rows L2 LamX LMX
structure XkOk (K : PySem.W.Frag) (fs : List Str) (C : Addr) : Prop where
  xc : ExcC K C
  no : ∀ f ∈ fs, PySem.W.findIn K (.ref C) f = some none
section
variable {K : PySem.W.Frag} {S : Sit} {c : Cl} {X : Cx} {a cls C : Addr} {d : Option Addr} {oe : Obj} {fl : List (Str × D)} {pn : List (Addr × Obj)} {en f y : Str} {p1 p2 p3 pos : Pos}
end
section
variable {K : PySem.W.Frag} {S : Sit}
end
def dJs : List TED → Str → EnvD → (Str → Prop) → Prop
  | [], acc, _, P => P acc
  | d :: ds, acc, ρ, P => d ρ fun x => match x with
    | .str y => (acc ++ y).length ≤ 10000000 ∧ dJs ds (acc ++ y) ρ P
    | _ => False
section
variable {K : PySem.W.Frag} {S : Sit} {c : Cl} {X : Cx} {te : TE} {a : TED} {e : Expr} {pos : Pos}
inductive DJ (K : PySem.W.Frag) (S : Sit) (c : Cl) (X : Cx) : List Expr → List TE → List TED → Prop where
  | nil : DJ K S c X [] [] []
  | cons {e : Expr} {t : TE} {a : TED} {es : List Expr} {ts : List TE} {as : List TED} (h : DE K S c X e t a) (r : DJ K S c X es ts as) : DJ K S c X (e :: es) (t :: ts) (a :: as)
theorem DJ.run {es : List Expr} {ts : List TE} {as : List TED} (h : DJ K S c X es ts as) : ∀ (Z : Addr → Prop) (σ : L2.St) (H : Hp) (ρ : EnvD) (acc : Str) (P : Str → Prop), RV K S c Z σ H ρ → dJs as acc ρ P → ∀ Q : Str → Hp → Prop, (∀ out H', Kp S H H' → S.I H' → P out → Q out H') → tJs ts acc σ H Q := by
  induction h with
  | nil => exact fun Z σ H ρ acc P rv h Q q => q acc H (Kp.refl H) rv.wd.inv h
  | cons h r ih =>
    intro Z σ H ρ acc P rv hd Q q
    refine h.we Z σ H ρ _ rv hd _ fun v H1 d k i rd h1 => ?_
    cases d <;> try exact h1.elim
    rename_i y
    unfold Rep at rd
    exact ⟨y, rd, by rw [sizeLine_eq]; have := h1.1; omega, ih Z σ H1 ρ _ P (rv.step k i) h1.2 Q fun out H' k' i' hp => q out H' (k.trans k') i' hp⟩
end
end DL
end
section
namespace DL
open PySem PySem.Spec PyProof.Rows L2 LamX LMX
inductive Fc where
  | a (f : Fb)
  | b (g : PySem.W.Frag → Bool)
def Fc.ok (K : PySem.W.Frag) : Fc → Bool
  | .a f => f.ok K
  | .b g => g K
structure DefS where
  at_ : At
  name : Str
  qual : Str
  st : Stmt
  C : Str
def DefS.look (K : PySem.W.Frag) (d : DefS) : He.FnV := match K.lookup (d.at_.ad K) with
  | some ⟨_, _, .func fd, _⟩ => some (fd.name, fd.qualname, fd.params, fd.body, fd.scope, fd.globals, [], fd.defaults, fd.builtins)
  | _ => none
def DefS.want (d : DefS) : He.FnV := some (d.name, d.qual, defArgs d.st, .stmts (defBody d.st), defScope d.st, mainGlobals, [], .none, builtinsNs)
def cellB (K : PySem.W.Frag) (cl : List (Str × Addr)) (D : Addr) : Bool := match cl with
  | [(x, cc)] => decide (x = "__class__") && (match K.lookup cc with
    | some ⟨_, _, .cell (some (.ref D')), _⟩ => decide (D' = D)
    | _ => false)
  | _ => false
def fileB (K : PySem.W.Frag) (file : Str) (cd : Value) : Bool := match (cd : Value) with
  | .ref c => (match K.lookup c with
    | some ⟨_, _, .fields vs, _⟩ => (match (vs[2]? : Option Value) with
      | some (.str f _) => file == f
      | _ => false)
    | _ => false)
  | _ => false
def DefS.ok (file : Str) (K : PySem.W.Frag) (d : DefS) : Bool := PySem.W.keepIn K (.ref (d.at_.ad K)) && (match K.lookup (d.at_.ad K) with
  | some ⟨_, _, .func fd, _⟩ => PySem.W.codeIn K fd.code d.qual && (cellB K fd.closure (He.ga K d.C) && fileB K file fd.code)
  | _ => false)
structure XiOk (P : Program) (K : PySem.W.Frag) (mg : Str → Option Value) (C : Addr) (fs : List Str) (fI : Addr) : Prop where
  T : OexC K C
  U : SupK P K mg C C
  hm : PySem.W.ks_superIn K C C "__init__" = some (some (.builtin "ValueError.__init__"))
  hB : PySem.W.subIn K (.ref C) (.type "ValueError") = some true
  hg : ∀ f ∈ fs, PySem.W.findIn K (.ref C) f = some none
  i1 : PySem.W.findIn K (.ref C) "__init__" = some (some (.ref fI))
  i2 : PySem.W.typeIn K (.ref fI) = some (.type "function")
def refsX (o : Obj) : List Addr := He.refsO o ++ (match o.data with
  | .func fd => He.refV fd.kwdefaults ++ fd.closure.map (·.2)
  | _ => [])
def growX (g : Addr → Option Obj) (as : List Addr) : List Addr := (as ++ as.flatMap fun a => match g a with
  | some o => refsX o
  | none => []).eraseDups
def asX (g : Addr → Option Obj) : Nat → List Addr
  | 0 => [mainGlobals]
  | n + 1 => growX g (asX g n)
def lookZ (fa : List Fc) (fn : List DefX) (fs : List DefS) (file : Str) (K : PySem.W.Frag) : AlX := ((fa.all fun f => f.ok K) && ((fn.all fun d => d.ok K) && fs.all fun d => d.ok file K), (fn.map fun d => d.look K) ++ fs.map fun d => d.look K)
def wantZ (fn : List DefX) (fs : List DefS) : AlX := (true, fn.map DefX.want ++ fs.map DefS.want)
structure SaysZ (fa : List Fc) (fn : List DefX) (fs : List DefS) (file : Str) (tf : List He.Defn) (h : Heap) (K : PySem.W.Frag) : Prop where
  b : lookZ fa fn fs file K = wantZ fn fs
  hd : ∀ p ∈ tf, PySem.W.codeHdIn K (He.cT K p).1 (He.cT K p).2 = true
  out : ∀ p ∈ tf, K.lookup (He.cT K p).2 = none
  empty : ∀ p ∈ tf, h.get? (He.cT K p).2 = some { cls := .none, data := .fields #[] }
def seeZ (n : Nat) (fa : List Fc) (fn : List DefX) (fs : List DefS) (file : Str) (tf : List He.Defn) (g : Addr → Option Obj) : AlX :=
  ((lookZ fa fn fs file (He.frT g (cStatics :: asX g n))).1 && He.tabsB g tf (He.frT g (cStatics :: asX g n)), (lookZ fa fn fs file (He.frT g (cStatics :: asX g n))).2)
theorem saysZ_of {n : Nat} {fa : List Fc} {fn : List DefX} {fs : List DefS} {file : Str} {tf : List He.Defn} {h : Heap} (e : seeZ n fa fn fs file tf h.get? = wantZ fn fs) : SaysZ fa fn fs file tf h (He.frT h.get? (cStatics :: asX h.get? n)) := by
  have e1 : ((lookZ fa fn fs file (He.frT h.get? (cStatics :: asX h.get? n))).1 && He.tabsB h.get? tf (He.frT h.get? (cStatics :: asX h.get? n))) = true := congrArg (fun z : AlX => z.1) e
  have e2 : (lookZ fa fn fs file (He.frT h.get? (cStatics :: asX h.get? n))).2 = fn.map DefX.want ++ fs.map DefS.want := congrArg (fun z : AlX => z.2) e
  obtain ⟨h1, h2⟩ := He.ba e1
  have key : ∀ p ∈ tf, PySem.W.codeHdIn (He.frT h.get? (cStatics :: asX h.get? n)) (He.cT (He.frT h.get? (cStatics :: asX h.get? n)) p).1 (He.cT (He.frT h.get? (cStatics :: asX h.get? n)) p).2 = true ∧ ∃ o, h.get? (He.cT (He.frT h.get? (cStatics :: asX h.get? n)) p).2 = some o ∧ He.emptyTab o = true := fun p hp => by
    obtain ⟨h3, h4⟩ := He.ba (List.all_eq_true.mp h2 p hp)
    refine ⟨h3, ?_⟩
    split at h4
    · rename_i o q
      exact ⟨o, q, h4⟩
    · cases h4
  exact ⟨Prod.ext h1 e2, fun p hp => (key p hp).1, fun p hp => let ⟨_, o, q, z⟩ := key p hp; He.frT_none q z, fun p hp => by
    obtain ⟨_, o, q, z⟩ := key p hp
    rw [q, He.emptyTab_eq z]⟩
def hookZ (n : Nat) (fa : List Fc) (fn : List DefX) (fs : List DefS) (file : Str) (tf : List He.Defn) : PySem.W.Hook where
  α := AlX
  obs := fun s => seeZ n fa fn fs file tf s.heap.get?
  val := fun _ => wantZ fn fs
  says := fun _ h => ∃ K : PySem.W.Frag, K.In h ∧ SaysZ fa fn fs file tf h K
  of := fun _ _ e => ⟨_, He.frT_in, saysZ_of e⟩
  keeps := fun _ _ _ ⟨K, hK, c⟩ k => ⟨K, PySem.W.Frag.In.keeps hK k, ⟨c.b, c.hd, c.out, fun p hp => k _ _ (c.empty p hp)⟩⟩
section
variable {fa : List Fc} {fn : List DefX} {fs : List DefS} {file : Str} {tf : List He.Defn} {h : Heap} {K : PySem.W.Frag}
theorem SaysZ.alls (c : SaysZ fa fn fs file tf h K) : (fa.all fun f => f.ok K) = true ∧ (fn.all fun d => d.ok K) = true ∧ (fs.all fun d => d.ok file K) = true := by
  have c1 : ((fa.all fun f => f.ok K) && ((fn.all fun d => d.ok K) && fs.all fun d => d.ok file K)) = true := congrArg (fun z : AlX => z.1) c.b
  obtain ⟨a, b⟩ := He.ba c1
  exact ⟨a, He.ba b⟩
theorem SaysZ.bool (c : SaysZ fa fn fs file tf h K) (i : Nat) {g : PySem.W.Frag → Bool} (e : fa[i]? = some (.b g) := by rfl) : g K = true := List.all_eq_true.mp c.alls.1 (.b g) (List.mem_of_getElem? e)
end
end DL
end
section
namespace DL
open PySem PySem.Spec PyProof.Rows L2 LamX LMX
section
variable {K : PySem.W.Frag} {S : Sit} {c : Cl} {X : Cx} {CX : CXT} {E : XK} {xd : XD} {k n : Nat} {x m kn : Str} {p p1 p2 p3 p0 pos : Pos} {e o : Expr} {es : List Expr} {kws : List Keyword} {ts tk : TA} {as ks : TAD} {te ta : TE} {a : TED} {fa fi C D1 : Addr} {fd : FuncData} {ps kn' : List Str} {spd : SpD} {ind : InD}
end
section
variable {P : Program} {w : World} {K : PySem.W.Frag} {S : Sit} {mg : Str → Option Value} {base : Heap} {qual : Str} {st : Stmt} {f C D : Addr} {fd : FuncData} {N ps : List Str} {k : Nat} {ind : InD} {tD : XD → TSD}
end
end DL
end
section
namespace DL
open PySem PySem.Spec PyProof.Rows L2 LamX LMX
section
variable {K : PySem.W.Frag} {S : Sit} {c : Cl} {X : Cx} {te t1 t2 : TE} {a a1 a2 : TED} {e e1 e2 : Expr} {pos p0 p1 p2 : Pos} {x y : Str} {C c0 P : Addr} {T : List (Addr × Str)} {params : Arguments} {body : Expr} {scope : Scope}
end
end DL
end
section
namespace DL
open PySem PySem.Spec PyProof.Rows L2 LamX LMX
def kwdB (K : PySem.W.Frag) (f : Addr) (kn : Str) (z : Int) : Bool := match K.lookup f with
  | some ⟨_, _, .func fd, _⟩ => (match fd.kwdefaults with
    | .ref D => (match PySem.W.nsIn K D kn with
      | some (some (.int j _)) => decide (j = z)
      | _ => false)
    | _ => false)
  | _ => false
end DL
end
section
namespace DL
open PySem PySem.Spec PyProof.Rows L2 LamX LMX
structure DSup (K : PySem.W.Frag) (S : Sit) (c : Cl) (X : Cx) (body : List Stmt) (st0 : Stmt) (t0 : TS) (d0 : TSD) : Prop where
  at_ : ∀ (pins : List (Addr × Obj)) (s' : Shared) (σ : L2.St) (H' : Hp) (Dn : Ends), Inv X pins σ H' s' → t0 Dn σ H' → PySem.wpAt (model X.prog X.w) X.A (.func body X.env) (exec st0 X.env) (SP X pins Dn) X.xe s'
  ws : WS K S c t0 d0
section
variable {K : PySem.W.Frag} {S : Sit} {c : Cl} {X : Cx} {CX : CXT} {E : XK} {xd : XD} {k : Nat} {p1 p2 p3 p0 pos : Pos} {e : Expr} {es : List Expr} {ts : TA} {as : TAD} {C f2 : Addr} {fd : FuncData} {ps : List Str} {ind : InD} {body : List Stmt}
end
section
variable {P : Program} {w : World} {K : PySem.W.Frag} {S : Sit} {mg : Str → Option Value} {base : Heap} {qual : Str} {st : Stmt} {f C D : Addr} {fd : FuncData} {N ps : List Str} {k : Nat} {ind : InD} {tD : XD → TSD}
end
section
variable {K : PySem.W.Frag} {S : Sit} {c : Cl} {X : Cx} {CX : CXT} {E : XK} {xd : XD} {k n : Nat} {x : Str} {p pos : Pos} {e : Expr} {es : List Expr} {kws : List Keyword} {ts tk : TA} {as ks : TAD} {fi C : Addr} {fd : FuncData} {ps kn' : List Str} {ind : InD}
end
end DL
end
section
namespace Z
open PySem L2 DL
structure Cs where
  (Farm Plan Rule Cart RestingCart ShiftCart LateCart Moment Deed Book LiveFarm Trial PlanObserver FarmError InvalidFarm TooManyStates UnknownField InvalidPlan InvalidNumber NotHarmonic TooFewCarts Contradiction InvalidCart InvalidOperation InvalidText DecodeError : Addr)
  exm : Addr → Addr → Option Bool
  isa : Addr → Addr → Option Bool
  kin : Addr → Addr → Option Bool
  isv : Addr → Option Bool
abbrev Ns := List Str
abbrev Fs := List (Str × Int)
def isNm (w : Str) : Bool := decide (1 ≤ w.length) && decide (w.length ≤ 8) && w.cps.toList.all fun k => ("abcdefghijklmnopqrstuvwxyz" : Str).cps.toList.contains k
structure OkPlan (days : List Ns) (lead : Int) : Prop where
  len : days.length ≤ 5000
  nd : ∀ d ∈ days, d.Nodup ∧ d.length ≤ 4000
  lo : 0 ≤ lead
  hi : lead < days.length
structure OkFarm (fs : Fs) : Prop where
  ne : fs ≠ []
  len : fs.length ≤ 6
  nm : ∀ f ∈ fs, isNm f.1 = true
  lm : ∀ f ∈ fs, 1 ≤ f.2 ∧ f.2 ≤ 30
  nd : (fs.map (·.1)).Nodup
  prod : (fs.foldl (fun a f => a * f.2) 1) ≤ 4000
end Z
end
section
namespace Z
open PySem PySem.Spec PyProof.Rows L2 DL
structure XTab (A : Cs) (l : List Addr) : Prop where
  exm : ∀ c ∈ l, A.exm c A.FarmError = some true
  isa : ∀ (i j : Nat) (c d : Addr), l[i]? = some c → l[j]? = some d → A.isa c d = some (i == j)
  isv : ∀ c ∈ l, A.isv c = some true
section
variable {K : PySem.W.Frag} {ks ds fs : List Str} {c d : Addr} {b : Bool}
end
end Z
end
section
namespace Z
open PySem PySem.Spec PyProof.Rows L2 DL
structure XSub (A : Cs) (l : List Addr) : Prop where
  exm : ∀ (i j : Nat) (c d : Addr), l[i]? = some c → l[j]? = some d → A.exm c d = some (i == j)
end Z
end
section
namespace DL
open PySem PySem.Spec PyProof.Rows L2 LamX LMX
section
variable {X : Cx}
end
end DL
end
section
namespace DL
open PySem PySem.Spec PyProof.Rows L2 LamX LMX
section
variable {X : Cx}
end
end DL
end
section
namespace DL
open PySem PySem.Spec PyProof.Rows L2 LamX LMX
section
variable {K : PySem.W.Frag} {S : Sit} {c : Cl} {X : Cx} {wi : TI} {it : TAD} {g : TG} {gd : TGD} {ix vs : List Nat} {tt : TT} {p : TTD} {ts : TA} {as : TAD} {k : Nat} {spA : ActT → SpD} {tab : List ((Hp → Addr → Prop) × (XD → TED) × List Bool)}
variable {j : Nat} {fa : Addr} {fd : FuncData} {ps : List Str} {x : Str} {p1 pos pos' : Pos} {e : Expr} {es : List Expr} {tg iter : Expr} {ifs : List Expr} {sc : Scope} {own : List (Str × Nat)}
end
end DL
end
section
namespace DL
open PySem PySem.Spec PyProof.Rows L2 LamX LMX
section
variable {M : Model} {A : Around} {E : Value → Shared → Prop} {s : Shared} {env : Env}
end
end DL
end
section
namespace DL
open PySem PySem.Spec PyProof.Rows L2 LamX LMX
section
variable {X : Cx} {pins : List (Addr × Obj)} {σ : L2.St} {H : Hp} {s : Shared}
end
end DL
end
section
namespace DL
open PySem PySem.Spec PyProof.Rows L2 LamX LMX
section
variable {X : Cx}
end
end DL
end
section
namespace DL
open PySem PySem.Spec PyProof.Rows L2 LamX LMX
end DL
end
section
namespace DL
open PySem PySem.Spec PyProof.Rows L2 LamX LMX
section
variable {K : PySem.W.Frag} {S : Sit} {c : Cl} {X : Cx} {wi : TI} {it : TAD} {g : TG} {gd : TGD} {ix : List Nat} {tt : TT} {p : TTD} {te : TE} {t : TED}
end
end DL
end
section
namespace DL
open PySem PySem.Spec PyProof.Rows L2
end DL
end
section
namespace DL
open PySem PySem.Spec PyProof.Rows L2
def onB (P : Bool → Prop) : D → Prop := fun x => match x with
  | .bl b => P b
  | _ => False
def onIf (A B : Prop) : Bool → Prop := fun b => if b = true then A else B
def onInt (P : Option Int → Prop) : D → Prop := fun x => match x with
  | .int i => P (some i)
  | _ => False
def onLen (P : List D → Prop) : List D → Prop := fun ds => ds.length ≤ 1000000 ∧ P ds
def onLst (P : List D → Prop) : D → Prop := fun d => match d with
  | .lst ds => P ds
  | _ => False
def onTup (P : List D → Prop) : D → Prop := fun d => match d with
  | .tup ds => P ds
  | _ => False
def onStr (P : List D → Prop) : D → Prop := fun d => match d with
  | .str x => P (strD x)
  | _ => False
def onTru (P : Bool → Prop) : D → Prop := fun x => match x with
  | .non => P false
  | .bl b => P b
  | .int i => P (i != 0)
  | .lst ds => P (!ds.isEmpty)
  | .tup ds => P (!ds.isEmpty)
  | _ => False
def onFld (C : Addr) (f : Str) (P : D → Prop) : D → Prop := fun x => match x with
  | .ins C' fn ds => C' = C ∧ match fgetD fn ds f with
    | some d => P d
    | none => False
  | _ => False
def onIns (C : Addr) (spd : SpD) (P : D → Prop) : D → Prop := fun o => match o with
  | .ins C' fn ds => C' = C ∧ spd [.ins C' fn ds] P x0
  | _ => False
def onMeth (C : Addr) (m : Str) (spd : SpD) (x : XD) (as : TAD) (ρ : EnvD) (P : D → Prop) : D → Prop := fun o => match o with
  | .ins C' fn ds => (C' = C ∧ m ∉ fn) ∧ as ρ fun es => spd (.ins C' fn ds :: es) P x
  | _ => False
def onPar (i j : Nat) (N : EnvD → Prop) (ρ : EnvD) : List D → Prop := fun ds => match ds with
  | [x, y] => N ((ρ.set i (some x)).set j (some y))
  | _ => False
def onRng1 (P : List D → Prop) : List D → Prop := fun ds => match ds with
  | [.int n] => (-1000000000 ≤ n ∧ n ≤ 1000000000000000000000 ∧ n < 2 ^ 62) ∧ P (rngD 0 n.toNat)
  | _ => False
def onRng2 (P : List D → Prop) : List D → Prop := fun ds => match ds with
  | [.int lo, .int n] => (-(2 ^ 62) ≤ lo ∧ lo < 2 ^ 62 ∧ -(2 ^ 62) ≤ n ∧ n < 2 ^ 62) ∧ P (rngD lo (n - lo).toNat)
  | _ => False
def onBM (T : String) (rd : RMD) (as : TAD) (ρ : EnvD) (P : D → Prop) : D → Prop := fun x => tyD T x ∧ as ρ fun ds => rd x ds P
section
variable {i j l n : Nat} {a b c t : TED} {as bs ks : TAD} {p q : TTD} {d1 d2 body : TSD} {Dd : EndsD} {ρ : EnvD} {P : D → Prop} {PL : List D → Prop} {PB : Bool → Prop} {PO : Option Int → Prop} {d e : D} {r r' : R2D} {sp : SpD} {x : XD} {C : Addr} {f m : Str} {A B : Prop}
theorem s_seq (h : d1 { Dd with nx := d2 Dd } ρ) : dSeq d1 d2 Dd ρ := h
theorem s_next (h : Dd.nx ρ) : dNext Dd ρ := h
theorem s_ret (h : a (view ρ) Dd.rt) : dRet a Dd ρ := h
theorem s_retN (h : Dd.rt .non) : dRetN Dd ρ := h
theorem s_ifS (h : p (view ρ) (onIf (d1 Dd ρ) (d2 Dd ρ))) : dIfS p d1 d2 Dd ρ := h
theorem s_drop (h : a (view ρ) fun _ => Dd.nx ρ) : dDrop a Dd ρ := h
theorem s_set (h : a ρ fun d => Dd.nx (ρ.set i (some d))) : dSet i a Dd ρ := h
theorem s_setN (h : as ρ fun ds => Dd.nx (ρ.set i (some (.own .lst ds)))) : dSetN i as Dd ρ := h
theorem s_par (h : as ρ (onPar i j Dd.nx ρ)) : dPar i j as Dd ρ := h
theorem s_onPar {N : EnvD → Prop} (h : N ((ρ.set i (some d)).set j (some e))) : onPar i j N ρ [d, e] := h
theorem s_parX {a b : TXD} (h : a ρ fun d => b ρ fun e => Dd.nx ((ρ.set i (some d)).set j (some e))) : dParX i j a b Dd ρ := h
theorem s_parX3 {a b t : TXD} (h : a ρ fun d => b ρ fun e => t ρ fun g => Dd.nx (((ρ.set i (some d)).set j (some e)).set l (some g))) : dParX3 i j l a b t Dd ρ := h
theorem s_parN (h : as ρ fun ds => bs ρ fun es => Dd.nx ((ρ.set i (some (.own .lst ds))).set j (some (.own .lst es)))) : dParN i j as bs Dd ρ := h
theorem s_parN3 (h : as ρ fun ds => bs ρ fun es => t ρ fun d => Dd.nx (((ρ.set i (some (.own .lst ds))).set j (some (.own .lst es))).set l (some d))) : dParN3 i j l as bs t Dd ρ := h
theorem s_xN (h : as ρ fun ds => P (.own .lst ds)) : xN as ρ P := h
theorem s_for {it : TAD} {gd : TGD} (h : it ρ fun ds => loopD ds gd body Dd ρ) : dFor it gd body Dd ρ := h
theorem s_forV {it : TAD} {gd : TGD} (h : it (view ρ) fun ds => loopD ds gd body Dd ρ) : dForV it gd body Dd ρ := h
theorem s_app {ds : List D} (hi : ρ[i]? = some (some (.own .lst ds))) (h : a ρ fun d => ds.length < 1000000 ∧ Dd.nx (ρ.set i (some (.own .lst (ds ++ [d]))))) : dAppS i a Dd ρ := by
  refine ⟨⟨ds, hi⟩, ?_⟩
  unfold dApp
  rw [hi]
  exact h
theorem s_asg {gd : TGD} (h : a ρ fun d => gd d ρ Dd.nx) : dAsg a gd Dd ρ := h
theorem s_hName {N : EnvD → Prop} (h : N (ρ.set i (some d))) : hName i d ρ N := h
theorem s_hTup {g : List D → EnvD → (EnvD → Prop) → Prop} {ds : List D} {N : EnvD → Prop} (hl : Nat.beq ds.length n = true) (h : g ds ρ N) : hTup n g (.tup ds) ρ N := ⟨Nat.eq_of_beq_eq_true hl, h⟩
theorem s_hCons {gd : TGD} {g : List D → EnvD → (EnvD → Prop) → Prop} {ds : List D} {N : EnvD → Prop} (h : gd d ρ fun ρ' => g ds ρ' N) : hCons gd g (d :: ds) ρ N := h
theorem s_hNil {N : EnvD → Prop} (h : N ρ) : hNil [] ρ N := h
theorem s_c (h : P d) : dC d ρ P := h
theorem s_var (hi : ρ[i]? = some (some d)) (ho : d.isOwn = false) (h : P d) : dVar i ρ P := by
  unfold dVar
  rw [hi]
  cases d <;> first | exact h | cases ho
theorem thaw_no : ∀ d : D, d.thaw.isOwn = false
  | .own k _ => by cases k <;> rfl
  | .nest k _ => by cases k <;> (unfold D.thaw; rfl)
  | .non => rfl
  | .bl _ => rfl
  | .int _ => rfl
  | .str _ => rfl
  | .tup _ => rfl
  | .lst _ => rfl
  | .ins _ _ _ => rfl
  | .adr _ => rfl
  | .sem _ => rfl
  | .dic _ _ => rfl
theorem s_varV (hi : ρ[i]? = some (some d)) (ht : d.thaw = e) (h : P e) : dVar i (view ρ) P := by
  have e1 : (view ρ)[i]? = some (some e) := by unfold view; rw [List.getElem?_map, hi, ← ht]; rfl
  exact s_var e1 (ht ▸ thaw_no d) h
theorem s_varP (hi : ρ[i]? = some (some d)) (ho : d.isOwn = false) (h : P d) : dVar i (view ρ) P := s_varV hi (thaw_id ho) h
theorem s_varL {ds : List D} (hi : ρ[i]? = some (some (.own .lst ds))) (h : P (.lst ds)) : dVar i (view ρ) P := s_varV hi rfl h
theorem s_varK {kk : List Key} {ds : List D} (hi : ρ[i]? = some (some (.own (.dic kk) ds))) (h : P (.dic kk ds)) : dVar i (view ρ) P := s_varV hi rfl h
theorem s_op (h : a ρ fun x => b ρ fun y => r x y P) : dOp r a b ρ P := h
theorem s_nil (h : PL []) : dNil ρ PL := h
theorem s_cons (h : a ρ fun x => as ρ fun xs => PL (x :: xs)) : dCons a as ρ PL := h
theorem s_lst (h : as ρ (onLen fun ds => P (.lst ds))) : dLst as ρ P := h
theorem s_tup (h : as ρ (onLen fun ds => P (.tup ds))) : dTup as ρ P := h
theorem s_nLst (h : as ρ (onLen PL)) : nLst as ρ PL := h
theorem s_onLen {ds : List D} (hl : Nat.ble ds.length 1000000 = true) (h : PL ds) : onLen PL ds := ⟨Nat.le_of_ble_eq_true hl, h⟩
theorem s_test (h : a ρ (onB PB)) : dTest a ρ PB := h
theorem s_onB {b : Bool} (h : PB b) : onB PB (.bl b) := h
theorem s_and (h : p ρ (onIf (q ρ PB) (PB false))) : dAnd p q ρ PB := h
theorem s_or (h : p ρ (onIf (PB true) (q ρ PB))) : dOr p q ρ PB := h
theorem s_not (h : p ρ fun b => PB (!b)) : dNot p ρ PB := h
theorem s_if (h : p ρ (onIf (a ρ P) (b ρ P))) : dIf p a b ρ P := h
theorem s_andV (h : a ρ (onB (onIf (b ρ P) (P (.bl false))))) : dAndV a b ρ P := h
theorem s_orV (h : a ρ (onB (onIf (P (.bl true)) (b ρ P)))) : dOrV a b ρ P := h
theorem s_notV (h : a ρ (onB fun b => P (.bl (!b)))) : dNotV a ρ P := h
theorem s_chain (h : a ρ fun x => b ρ fun y => r x y (onB (onIf (c ρ fun w => r' y w P) (P (.bl false))))) : dChain r r' a b c ρ P := h
theorem s_ifT (h : A) : onIf A B true := h
theorem s_ifF (h : B) : onIf A B false := h
theorem s_ii {g : Int → Int → D} {x y : Int} (h : P (g x y)) : rII g (.int x) (.int y) P := h
theorem s_isN (h : P (.bl d.isNon)) : rIsND d .non P := h
theorem s_notN (h : P (.bl (!d.isNon))) : rNotND d .non P := h
theorem s_oNo (h : PO none) : oNo ρ PO := h
theorem s_oYes (h : a ρ (onInt PO)) : oYes a ρ PO := h
theorem s_onInt {k : Int} (h : PO (some k)) : onInt PO (.int k) := h
theorem s_sl {g : D → Option Int → Option Int → (D → Prop) → Prop} {lo hi : TOD} (h : a ρ fun x => lo ρ fun u => hi ρ fun v => g x u v P) : dSl g a lo hi ρ P := h
theorem s_slL {ds : List D} {u v : Option Int} (h : P (.lst (cutD ds u v))) : slLD (.lst ds) u v P := h
theorem s_slT {ds : List D} {u v : Option Int} (h : P (.tup (cutD ds u v))) : slTD (.tup ds) u v P := h
theorem s_cb {g : RCD} (h : as ρ fun ds => g ds P) : dCB g as ρ P := h
theorem s_lenL {ds : List D} (h : P (.int ds.length)) : rLenD [.lst ds] P := h
theorem s_lenT {ds : List D} (h : P (.int ds.length)) : rLenD [.tup ds] P := h
theorem s_listL {ds : List D} (h : P (.lst ds)) : rListD [.lst ds] P := h
theorem s_listT {ds : List D} (h : P (.lst ds)) : rListD [.tup ds] P := h
theorem s_tupL {ds : List D} (h : P (.tup ds)) : rTupleD [.lst ds] P := h
theorem s_tupT {ds : List D} (h : P (.tup ds)) : rTupleD [.tup ds] P := h
theorem s_ofN (h : as ρ fun ds => P (.lst ds)) : dOfN as ρ P := h
theorem s_lc {it : TAD} {gd : TGD} {vs : List Nat} (h : it ρ fun ds => compD ds gd p t (wipeD ρ vs) PL) : nLc it gd p t vs ρ PL := h
theorem s_iLst (h : a ρ (onLst PL)) : iLstD a ρ PL := h
theorem s_iTup (h : a ρ (onTup PL)) : iTupD a ρ PL := h
theorem s_iStr (h : a ρ (onStr PL)) : iStrD a ρ PL := h
theorem s_onLst {ds : List D} (h : PL ds) : onLst PL (.lst ds) := h
theorem s_onTup {ds : List D} (h : PL ds) : onTup PL (.tup ds) := h
theorem s_onStr {y : Str} (h : PL (strD y)) : onStr PL (.str y) := h
theorem s_rng1 (h : as ρ (onRng1 PL)) : iRng1D as ρ PL := h
theorem s_rng2 (h : as ρ (onRng2 PL)) : iRng2D as ρ PL := h
theorem s_tru (h : a ρ (onTru PB)) : dTru a ρ PB := h
theorem s_truL {ds : List D} (h : PB (!ds.isEmpty)) : onTru PB (.lst ds) := h
theorem s_truT {ds : List D} (h : PB (!ds.isEmpty)) : onTru PB (.tup ds) := h
theorem s_truN (h : PB false) : onTru PB .non := h
theorem s_truB {b : Bool} (h : PB b) : onTru PB (.bl b) := h
theorem s_yes (h : PB true) : dYes ρ PB := h
theorem s_fld (h : a ρ (onFld C f P)) : dFldC C f a ρ P := h
theorem s_onFld {fn : List Str} {ds : List D} (hg : fgetD fn ds f = some d) (h : P d) : onFld C f P (.ins C fn ds) := by
  refine ⟨rfl, ?_⟩
  rw [hg]
  exact h
theorem s_prop (h : a ρ (onIns C sp P)) : dProp C sp a ρ P := h
theorem s_onIns {fn : List Str} {ds : List D} (h : sp [.ins C fn ds] P x0) : onIns C sp P (.ins C fn ds) := ⟨rfl, h⟩
theorem s_call (h : as ρ fun ds => sp ds P x) : dCall sp x as ρ P := h
theorem s_meth (h : a ρ (onMeth C m sp x as ρ P)) : dMeth C m sp x a as ρ P := h
theorem s_onMeth {fn : List Str} {ds : List D} (hm : m ∉ fn) (h : as ρ fun es => sp (.ins C fn ds :: es) P x) : onMeth C m sp x as ρ P (.ins C fn ds) := ⟨⟨rfl, hm⟩, h⟩
theorem s_bm {T : String} {rd : RMD} (h : a ρ (onBM T rd as ρ P)) : dBM T rd a as ρ P := h
theorem s_onBM {T : String} {rd : RMD} (ht : tyD T d) (h : as ρ fun ds => rd d ds P) : onBM T rd as ρ P d := ⟨ht, h⟩
theorem s_lam {O : Hp → Addr → Prop} (h : P (.sem O)) : dLam O ρ P := h
end
local macro_rules | `(tactic| walk_at "s1") => `(tactic| (with_reducible first
  | refine s_seq ?_ | refine s_next ?_ | refine s_ret ?_ | refine s_retN ?_ | refine s_ifS ?_ | refine s_drop ?_ | refine s_set ?_ | refine s_setN ?_ | refine s_par ?_ | refine s_onPar ?_ | refine s_parX ?_ | refine s_parX3 ?_ | refine s_parN ?_ | refine s_parN3 ?_ | refine s_xN ?_
  | refine s_for ?_ | refine s_forV ?_ | refine s_asg ?_ | refine s_hName ?_ | refine s_hCons ?_ | refine s_hNil ?_
  | refine s_c ?_ | refine s_op ?_ | refine s_nil ?_ | refine s_cons ?_ | refine s_lst ?_ | refine s_tup ?_ | refine s_nLst ?_ | refine s_test ?_ | refine s_onB ?_ | refine s_and ?_ | refine s_or ?_ | refine s_not ?_ | refine s_if ?_ | refine s_andV ?_ | refine s_orV ?_ | refine s_notV ?_ | refine s_chain ?_
  | refine s_ifT ?_ | refine s_ifF ?_ | refine s_ii ?_ | refine s_isN ?_ | refine s_notN ?_ | refine s_oNo ?_ | refine s_oYes ?_ | refine s_onInt ?_ | refine s_sl ?_ | refine s_slL ?_ | refine s_slT ?_ | refine s_cb ?_ | refine s_lenL ?_ | refine s_lenT ?_ | refine s_listL ?_ | refine s_listT ?_ | refine s_tupL ?_ | refine s_tupT ?_
  | refine s_ofN ?_ | refine s_lc ?_ | refine s_iLst ?_ | refine s_iTup ?_ | refine s_iStr ?_ | refine s_onLst ?_ | refine s_onTup ?_ | refine s_onStr ?_ | refine s_rng1 ?_ | refine s_rng2 ?_ | refine s_tru ?_ | refine s_truL ?_ | refine s_truT ?_ | refine s_truN ?_ | refine s_truB ?_ | refine s_yes ?_
  | refine s_fld ?_ | refine s_prop ?_ | refine s_onIns ?_ | refine s_call ?_ | refine s_meth ?_ | refine s_bm ?_ | refine s_lam ?_))
local macro_rules | `(tactic| walk_at "s2") => `(tactic| first
  | (with_reducible refine s_varP (d := ?d) ?hi ?ho ?_); (case hi => rfl); (case ho => rfl)
  | (with_reducible refine s_varL (ds := ?ds) ?hi ?_); (case hi => rfl)
  | (with_reducible refine s_varK (kk := ?kk) (ds := ?ds) ?hi ?_); (case hi => rfl)
  | (with_reducible refine s_var (d := ?d) ?hi ?ho ?_); (case hi => rfl); (case ho => rfl)
  | (with_reducible refine s_onLen ?hl ?_); (case hl => rfl)
  | (with_reducible refine s_onBM ?hl ?_); (case hl => rfl)
  | (with_reducible refine s_hTup ?hl ?_); (case hl => rfl)
  | (with_reducible refine s_onFld (d := ?d) ?hl ?_); (case hl => rfl)
  | (with_reducible refine s_onMeth ?hl ?_); (case hl => decide)
  | (with_reducible refine s_app (ds := ?ds) ?hl ?_); (case hl => rfl)
  | (with_reducible refine eq_int ?_) | (with_reducible refine ne_int ?_))
local macro_rules | `(tactic| walk_at "s") => `(tactic| repeat first | walk_at "s1" | walk_at "s2")
end DL
end
section
namespace DL
open PySem PySem.Spec PyProof.Rows
section
variable {M : Model} {prog : Program} {w : World} {A : Around} {E : Value → Shared → Prop} {s : Shared} {K : PySem.W.Frag} {x C f : Addr} {ox : Obj} {od : Option Obj} {b : Value}
end
end DL
namespace DL
open PySem PySem.Spec PyProof.Rows L2
structure EqO (K : PySem.W.Frag) (C g : Addr) : Prop where
  at_ : PySem.W.findIn K (.ref C) "__eq__" = some (some (.ref g))
  fn : PySem.W.isFn K (.ref g) = true
  ne : PySem.W.findIn K (.ref C) "__ne__" = some (some (.builtin "object.__ne__"))
  ob : PySem.W.mroIn K C (.type "object") = some true
  tp : PySem.W.notFirst K C (.type "tuple") = true
def eqOB (K : PySem.W.Frag) (C g : Addr) : Bool := decide (PySem.W.findIn K (.ref C) "__eq__" = some (some (.ref g))) && (PySem.W.isFn K (.ref g) && (decide (PySem.W.findIn K (.ref C) "__ne__" = some (some (.builtin "object.__ne__"))) && (decide (PySem.W.mroIn K C (.type "object") = some true) && PySem.W.notFirst K C (.type "tuple"))))
structure BinT (K : PySem.W.Frag) (C : Addr) (nm T : String) (g : Addr) : Prop where
  at_ : PySem.W.findIn K (.ref C) (PySem.dunder nm) = some (some (.ref g))
  fn : PySem.W.isFn K (.ref g) = true
  sf : PySem.W.selfFirst K C = true
  rr : ∃ rc, PySem.W.findIn K (.ref C) (PySem.dunderR nm) = some rc ∧ (rc = none ∨ ∃ g : Addr, rc = some (.ref g))
  t1 : ∃ fo, PySem.W.findIn K (.type T) (PySem.dunder nm) = some fo
  t2 : ∃ ro, PySem.W.findIn K (.type T) (PySem.dunderR nm) = some ro
  sb : PySem.W.subIn K (.type T) (.ref C) = some false
def binTB (K : PySem.W.Frag) (C : Addr) (nm T : String) (g : Addr) : Bool := decide (PySem.W.findIn K (.ref C) (PySem.dunder nm) = some (some (.ref g))) && (PySem.W.isFn K (.ref g) && (PySem.W.selfFirst K C && (decide (PySem.W.findIn K (.ref C) (PySem.dunderR nm) = some none) &&
  ((PySem.W.findIn K (.type T) (PySem.dunder nm)).isSome && ((PySem.W.findIn K (.type T) (PySem.dunderR nm)).isSome && decide (PySem.W.subIn K (.type T) (.ref C) = some false))))))
section
variable {X : Cx} {CX : CXT} {k : Nat} {C g : Addr} {fd : FuncData} {ps : List Str} {sp : Sp} {E : XK} {e o : Expr} {pos : Pos} {ta tb : TE} {T nm : String}
end
section
variable {K : PySem.W.Frag} {S : Sit} {c : Cl} {X : Cx} {CX : CXT} {k : Nat} {C g : Addr} {fd : FuncData} {ps : List Str} {spd : SpD} {E : XK} {xd : XD} {e1 e2 fe e : Expr} {es : List Expr} {pos : Pos} {ta tb : TE} {a b : TED} {ts : TA} {as : TAD} {T : String}
end
end DL
namespace DL
open PySem PySem.Spec PyProof.Rows L2
def callOB (K : PySem.W.Frag) (C g : Addr) : Bool := decide (PySem.W.findIn K (.ref C) "__call__" = some (some (.ref g))) && (PySem.W.isFn K (.ref g) && PySem.W.fnIn K g)
end DL
end
section
namespace GnX
open PySem PySem.Spec PyProof.Rows L2
section
variable {M : Model} {A : Around} {R : GenEnd} {Y : Protocol} {n : Nat} {s₀ : Shared} {c : Code} {fs : List Frame} {s : Shared} {env : Env}
  {K : Flow → Sem PySem.Fin} {H : Value → Sem PySem.Fin} {gd : Bool → Bool} {lv : List Value → List Value}
end
section
variable {prog : Program} {w : World} {A : Around} {R : GenEnd} {Y : Protocol} {n : Nat} {s₀ : Shared} {fs : List Frame} {s : Shared} {env : Env}
end
section
variable {X : Cx} {test iter tg : Expr} {body els : List Stmt} {pos : Pos} {tc : TT} {t1 t2 tb : TGn} {wi : TI} {g : TG}
end
end GnX
end
section
namespace DL
open PySem PySem.Spec PyProof.Rows L2
structure GEndsD where
  nx : List D → EnvD → Prop
  rt : List D → D → Prop
  bk : List D → EnvD → Prop := fun _ _ => False
  ct : List D → EnvD → Prop := fun _ _ => False
abbrev TGnD := GEndsD → List D → EnvD → Prop
structure FitG (K : PySem.W.Frag) (S : Sit) (c : Cl) (B : Hp) (Dd : GEndsD) (D : GEnds) : Prop where
  nx : ∀ Z σ H ρ ys ds, RZ K S c B Z σ H ρ → RepL K (hide H Z) ds ys → Dd.nx ds ρ → D.nx ys σ H
  rt : ∀ ys v H es d, Kp S c.H0 H → S.I H → RepL K (hide H c.Z0) es ys → Rep K (hide H c.Z0) d v → Dd.rt es d → D.rt ys v H
  bk : ∀ Z σ H ρ ys ds, RZ K S c B Z σ H ρ → RepL K (hide H Z) ds ys → Dd.bk ds ρ → D.bk ys σ H
  ct : ∀ Z σ H ρ ys ds, RZ K S c B Z σ H ρ → RepL K (hide H Z) ds ys → Dd.ct ds ρ → D.ct ys σ H
def WGn (K : PySem.W.Frag) (S : Sit) (c : Cl) (t : TGn) (td : TGnD) : Prop := ∀ B Z σ H ρ ys ds (Dd : GEndsD) (D : GEnds), RZ K S c B Z σ H ρ → RepL K (hide H Z) ds ys → td Dd ds ρ → FitG K S c B Dd D → t D ys σ H
section
variable {K : PySem.W.Frag} {S : Sit} {c : Cl} {te : TE} {tt : TT} {a : TED} {p : TTD} {ts : TS} {t : TSD} {g1 g2 : TGn} {t1 t2 : TGnD} {wi : TI} {it : TAD} {g : TG} {gd : TGD} {ix : List Nat}
theorem FitG.base {B B' : Hp} {Dd : GEndsD} {D : GEnds} (f : FitG K S c B Dd D) (e : Ex B B') : FitG K S c B' Dd D :=
  ⟨fun Z σ H ρ ys ds r => f.nx Z σ H ρ ys ds (r.base e), f.rt, fun Z σ H ρ ys ds r => f.bk Z σ H ρ ys ds (r.base e), fun Z σ H ρ ys ds r => f.ct Z σ H ρ ys ds (r.base e)⟩
end
structure DGn (K : PySem.W.Frag) (S : Sit) (c : Cl) (X : Cx) (st : Stmt) (t : TGn) (td : TGnD) : Prop where
  gs : GS X st t
  wg : WGn K S c t td
structure DGns (K : PySem.W.Frag) (S : Sit) (c : Cl) (X : Cx) (st : List Stmt) (t : TGn) (td : TGnD) : Prop where
  gss : GSs X st t
  wg : WGn K S c t td
section
variable {K : PySem.W.Frag} {S : Sit} {c : Cl} {X : Cx} {te : TE} {tt : TT} {a : TED} {p : TTD} {ts : TS} {t : TSD} {g1 g2 : TGn} {t1 t2 : TGnD} {wi : TI} {it : TAD} {g : TG} {gd : TGD} {ix : List Nat} {st : Stmt} {rest body els : List Stmt} {e tg : Expr} {pos ypos : Pos}
end
abbrev SpGD := List D → (List D → Prop) → XD → Prop
section
variable {P : Program} {w : World} {K : PySem.W.Frag} {S : Sit} {mg : Str → Option Value} {base : Heap}
end
section
variable {K : PySem.W.Frag} {S : Sit} {c : Cl} {X : Cx} {k : Nat} {f C : Addr} {fd : FuncData} {ps : List Str} {spd : SpGD} {E : XK} {xd : XD} {x m nm : Str} {p p0 pos pos' apos : Pos} {e o : Expr} {es : List Expr} {ta : TE} {a : TED} {ts : TA} {as : TAD}
end
end DL
end
section
namespace DL
open PySem PySem.Spec PyProof.Rows L2
section
variable {CX : CXT} {P : Program} {w : World} {K : PySem.W.Frag} {mg : Str → Option Value} {base : Heap} {k : Nat} {f : Addr} {name qual : Str} {params : Arguments} {body : List Stmt} {scope : Scope} {doc pm cdv ct oc : Value} {an od : Option Addr}
  {osl : Array (Option Value)} {N : List Str} {sp : Sp} {a0 kn pv : Str} {Dd : Addr} {z : Int}
end
section
variable {P : Program} {w : World} {K : PySem.W.Frag} {S : Sit} {mg : Str → Option Value} {base : Heap} {C : Addr} {ind : InD} {z : Int}
end
end DL
namespace DL
open PySem PySem.Spec PyProof.Rows L2
section
variable {K : PySem.W.Frag} {S : Sit} {c : Cl} {X : Cx} {te ta : TE} {a : TED} {e : Expr} {pos p1 p2 : Pos} {x y : Str} {C : Addr}
end
def kitFB (K : PySem.W.Frag) (C : Addr) : Bool := decide (PySem.W.kitOne K (.type "tuple") (.ref C) = some false)
end DL
namespace DL
open PySem PySem.Spec PyProof.Rows L2
section
variable {i j n : Nat} {a b : TED} {as : TAD} {p : TTD} {d1 d2 : TSD} {t1 t2 : TGnD} {Gd : GEndsD} {ds es : List D} {ρ : EnvD} {P : D → Prop} {PL : List D → Prop} {d e : D} {sp : SpD} {sg : SpGD} {x : XD} {C : Addr} {m : Str} {fn : List Str} {ind : InD}
end
end DL
end
section
namespace Z
open PySem PySem.Spec PyProof.Rows L2 DL LMX LamX
def top (i : Nat) : Stmt := PySem.Challenge.pw_harvestcarts_k55_whole_plans_shifted_and.main.body.getD i (.Pass ⟨0, 0, 0, 0⟩)
def fileN : Str := PySem.Challenge.pw_harvestcarts_k55_whole_plans_shifted_and.main.file
abbrev s_is_number : Stmt := top 10
abbrev s_check_numberX : Stmt := top 11
abbrev s_check_number : Stmt := top 11
abbrev s_is_name : Stmt := top 12
abbrev s_first_wrong_day : Stmt := top 16
abbrev s_place : Stmt := top 17
abbrev s_Plan_init : Stmt := inClass (top 18) 0
abbrev s_Plan_days : Stmt := inClass (top 18) 1
abbrev s_Plan_lead : Stmt := inClass (top 18) 2
abbrev s_Plan_len : Stmt := inClass (top 18) 6
abbrev s_Plan_names_on : Stmt := inClass (top 18) 5
abbrev s_Plan_harvests : Stmt := inClass (top 18) 4
abbrev s_Plan_getitem : Stmt := inClass (top 18) 7
abbrev s_Plan_rshiftX : Stmt := inClass (top 18) 9
abbrev s_Plan_eq : Stmt := inClass (top 18) 10
abbrev s_Plan_callX : Stmt := inClass (top 18) 11
abbrev s_row_of : Stmt := top 24
abbrev s_format_plan : Stmt := top 25
abbrev s_is_lead : Stmt := top 26
abbrev s_lead_of : Stmt := top 27
abbrev s_names_of : Stmt := top 28
abbrev s_parse_plan : Stmt := top 29
abbrev s_mlaw_mix : Stmt := top 31
abbrev s_mlaw_next : Stmt := top 32
abbrev s_mlaw_alike : Stmt := top 33
abbrev s_mlaw_text : Stmt := top 34
abbrev s_mlaw_some : Stmt := top 35
abbrev s_mlaw_day : Stmt := top 36
abbrev s_law : Stmt := top 37
def fa0 : List Fc := [.a (.a (.glo "is_number")), .a (.a (.glo "check_number")), .a (.a (.glo "is_name")), .a (.a (.glo "_first_wrong_day")), .a (.a (.glo "_place")), .b (fun K => kwdB K (At.ad K (.meth "Plan" "__init__")) "lead" 0), .a (.prop "Plan" "days"), .a (.prop "Plan" "lead"), .a (.a (.meth "Plan" "_names_on")), .a (.a (.meth "Plan" "harvests")), .a (.a (.meth "Plan" "__getitem__")), .a (.fnin "Plan" "__getitem__"), .a (.a (.glo "_row_of")), .a (.a (.glo "format_plan")), .a (.a (.glo "_is_lead")), .a (.a (.glo "_lead_of")), .a (.a (.glo "_names_of")), .a (.a (.glo "parse_plan")), .a (.a (.glo "_law_mix")), .a (.a (.glo "_law_next")), .a (.a (.glo "_law_alike")), .a (.a (.glo "_law_text")), .a (.a (.glo "_law_some")), .a (.a (.glo "_law_day")), .a (.a (.glo "law")), .b (fun K => kitFB K (He.ga K "Plan")), .b (fun K => eqOB K (He.ga K "Plan") (He.ma K (He.ga K "Plan") "__eq__")), .b (fun K => binTB K (He.ga K "Plan") "rshift" "int" (He.ma K (He.ga K "Plan") "__rshift__")), .b (fun K => callOB K (He.ga K "Plan") (He.ma K (He.ga K "Plan") "__call__")), .a (.a (.glo "InvalidNumber"))]
def fa1 : List Fc := [.a (.a (.exc "InvalidNumber")), .a (.a (.cls "Plan")), .a (.a (.glo "Plan")), .a (.ty "Plan"), .a (.a (.mkr "Plan")), .a (.a (.noat "Plan" "_days")), .a (.a (.noat "Plan" "_lead")), .a (.a (.free "all")), .a (.a (.free "bool")), .a (.a (.free "dict")), .a (.a (.free "enumerate")), .a (.a (.free "int")), .a (.a (.free "isinstance")), .a (.a (.free "len")), .a (.a (.free "list")), .a (.a (.free "max")), .a (.a (.free "min")), .a (.a (.free "range")), .a (.a (.free "set")), .a (.a (.free "str")), .a (.a (.free "tuple")), .a (.a (.str "DIGITS" "0123456789")), .a (.a (.int "LAST_DAY" 1000000000000000000)), .a (.a (.str "LEAD_WORD" "lead")), .a (.a (.str "LETTERS" "abcdefghijklmnopqrstuvwxyz")), .a (.a (.int "MAX_DAYS" 5000)), .a (.a (.int "MAX_LEAD_DIGITS" 4)), .a (.a (.int "MAX_NAME" 8)), .a (.a (.int "MAX_RANGE" 10000)), .a (.a (.str "NOTHING" "-"))]
def fa : List Fc := fa0 ++ fa1
def fn0 : List DefX := [⟨.glo "is_number", "is_number", "is_number", s_is_number⟩, ⟨.glo "check_number", "check_number", "check_number", s_check_numberX⟩, ⟨.glo "check_number", "check_number", "check_number", s_check_number⟩, ⟨.glo "is_name", "is_name", "is_name", s_is_name⟩, ⟨.glo "_first_wrong_day", "_first_wrong_day", "_first_wrong_day", s_first_wrong_day⟩, ⟨.glo "_place", "_place", "_place", s_place⟩, ⟨.meth "Plan" "__init__", "__init__", "Plan.__init__", s_Plan_init⟩, ⟨.prop "Plan" "days", "days", "Plan.days", s_Plan_days⟩, ⟨.prop "Plan" "lead", "lead", "Plan.lead", s_Plan_lead⟩, ⟨.meth "Plan" "__len__", "__len__", "Plan.__len__", s_Plan_len⟩, ⟨.meth "Plan" "_names_on", "_names_on", "Plan._names_on", s_Plan_names_on⟩, ⟨.meth "Plan" "harvests", "harvests", "Plan.harvests", s_Plan_harvests⟩, ⟨.meth "Plan" "__getitem__", "__getitem__", "Plan.__getitem__", s_Plan_getitem⟩, ⟨.meth "Plan" "__rshift__", "__rshift__", "Plan.__rshift__", s_Plan_rshiftX⟩, ⟨.meth "Plan" "__eq__", "__eq__", "Plan.__eq__", s_Plan_eq⟩, ⟨.meth "Plan" "__call__", "__call__", "Plan.__call__", s_Plan_callX⟩, ⟨.glo "_row_of", "_row_of", "_row_of", s_row_of⟩, ⟨.glo "format_plan", "format_plan", "format_plan", s_format_plan⟩, ⟨.glo "_is_lead", "_is_lead", "_is_lead", s_is_lead⟩, ⟨.glo "_lead_of", "_lead_of", "_lead_of", s_lead_of⟩, ⟨.glo "_names_of", "_names_of", "_names_of", s_names_of⟩, ⟨.glo "parse_plan", "parse_plan", "parse_plan", s_parse_plan⟩, ⟨.glo "_law_mix", "_law_mix", "_law_mix", s_mlaw_mix⟩, ⟨.glo "_law_next", "_law_next", "_law_next", s_mlaw_next⟩, ⟨.glo "_law_alike", "_law_alike", "_law_alike", s_mlaw_alike⟩, ⟨.glo "_law_text", "_law_text", "_law_text", s_mlaw_text⟩, ⟨.glo "_law_some", "_law_some", "_law_some", s_mlaw_some⟩, ⟨.glo "_law_day", "_law_day", "_law_day", s_mlaw_day⟩, ⟨.glo "law", "law", "law", s_law⟩]
def fn : List DefX := fn0
def fS0 : List DefS := []
def fS : List DefS := fS0
def tf : List He.Defn := []
def nm0 : List Str := ["_wall", "FarmError", "InvalidPlan", "InvalidNumber", "InvalidText", "LETTERS", "LAST_DAY", "MAX_NAME", "is_number", "check_number", "is_name", "MAX_DAYS", "MAX_RANGE", "_first_wrong_day", "_place", "Plan", "DIGITS", "LEAD_WORD", "NOTHING", "MAX_LEAD_DIGITS", "_row_of", "format_plan", "_is_lead", "_lead_of", "_names_of", "parse_plan", "_law_mix", "_law_next", "_law_alike", "_law_text"]
def nm1 : List Str := ["_law_some", "_law_day"]
def nms : List Str := nm0 ++ nm1
abbrev Rw : PySem.W.OpenRow := PySem.W.OpenLaw.row PySem.Challenge.rw_harvestcarts_k55_whole_plans_shifted_and
abbrev hk : PySem.W.Hook := hookZ 6 fa fn fS fileN tf
def ob (s : PySem.W.SharedT) : AlX := seeZ 6 fa fn fS fileN tf (HandSHeadRun.getT s)
theorem run (w : World) : HandSHeadRun.RunEq Rw (PySem.W.view Rw.prog [37]) hk ob 6000 nms w := by
  intro os
  kernel_rfl
end Z
end
set_option Elab.async false
set_option linter.all false
set_option maxRecDepth 100000
set_option maxHeartbeats 4000000
section
namespace DL
open PySem PySem.Spec PyProof.Rows L2
theorem ex_l {K : PySem.W.Frag} {H H' : Hp} {a : Addr} {xs : List V} (e : Ex H H') (h : SqL K H a xs) : SqL K H' a xs := by
  rcases h with (h | ⟨o, h⟩) | h
  · exact .inl (.inl (e _ _ h))
  · exact .inl (.inr ⟨o, e _ _ h⟩)
  · exact .inr h
section
variable {K : PySem.W.Frag} {H : Hp}
theorem RepL.get : ∀ {ds : List D} {vs : List V} {i : Nat} {d : D}, RepL K H ds vs → ds[i]? = some d → ∃ v, vs[i]? = some v ∧ Rep K H d v
  | [], _, _, _, _, e => by simp at e
  | d :: ds, _, i, d', h, e => by
    unfold RepL at h
    obtain ⟨v, vs, rfl, h1, h2⟩ := h
    cases i with
    | zero => simp at e; subst e; exact ⟨v, rfl, h1⟩
    | succ i => simpa using RepL.get (i := i) h2 (by simpa using e)
theorem RepL.strs : ∀ (ns : List Str), RepL K H (ns.map D.str) (ns.map V.str)
  | [] => RepL.nil
  | n :: ns => RepL.cons (by unfold Rep; rfl) (RepL.strs ns)
theorem RepL.of_strs : ∀ {ns : List Str} {vs : List V}, RepL K H (ns.map D.str) vs → vs = ns.map V.str
  | [], _, h => by unfold RepL at h; exact h
  | n :: ns, vs, h => by
    simp only [List.map_cons] at h
    unfold RepL at h
    obtain ⟨v, vs', rfl, h1, h2⟩ := h
    unfold Rep at h1
    rw [h1, RepL.of_strs h2, List.map_cons]
end
theorem hide_ex {H : Hp} {Z : Addr → Prop} : Ex (hide H Z) H := fun _ _ h => (hide_some.mp h).2
theorem Kp.new {S : Sit} {H : Hp} {p : Addr} {o : HO} (h : H p = none) : Kp S H (upd H p o) := fun b u e _ => by
  rw [upd_ne (ne_of_none e h)]
  exact e
section
variable {S : Sit} {Z Z' : Addr → Prop} {H H' : Hp}
theorem Wd.inew (w : Wd S Z H) {p : Addr} {o : HO} (h : H p = none) : S.I (upd H p o) := S.stab H _ (fun a o e _ => by
  rw [upd_ne (ne_of_none e h)]; exact e) w.inv
theorem Wd.fresh (w : Wd S Z H) {p : Addr} (h : H p = none) : ¬ Z p := fun z => by
  obtain ⟨o, e⟩ := w.zin p z
  rw [h] at e; cases e
end
section
variable {K : PySem.W.Frag} {S : Sit} {c : Cl} {ta tb te : TE} {a b t : TED} {tt tu : TT} {p q : TTD} {ts : TA} {as : TAD}
theorem we_var {i : Nat} : WE K S c (tVar i) (dVar i) := by
  intro Z σ H ρ P r h Q q
  unfold dVar at h
  split at h
  · exact h.elim
  · exact h.elim
  · rename_i d hn hm e
    obtain ⟨v, e1, h1⟩ := r.sl i d e (by cases d <;> first | rfl | exact (hn _ _ rfl).elim | exact (hm _ _ rfl).elim)
    exact ⟨v, e1, q v H d (Kp.refl H) r.wd.inv h1 h⟩
  · exact h.elim
theorem we_c {d : D} {v : V} (h : ∀ H, Rep K H d v) : WE K S c (tC v) (dC d) := fun Z σ H ρ P r hp Q q => q v H d (Kp.refl H) r.wd.inv (h _) hp
theorem we_int {i : Int} : WE K S c (tC (.int i)) (dC (.int i)) := we_c fun _ => by unfold Rep; rfl
theorem we_str {i : Str} : WE K S c (tC (.str i)) (dC (.str i)) := we_c fun _ => by unfold Rep; rfl
theorem we_bl {i : Bool} : WE K S c (tC (.bl i)) (dC (.bl i)) := we_c fun _ => by unfold Rep; rfl
theorem we_non : WE K S c (tC .non) (dC .non) := we_c fun _ => by unfold Rep; rfl
def WR (K : PySem.W.Frag) (S : Sit) (r : R2) (rd : R2D) : Prop := ∀ Z H x y d e (P : D → Prop), Wd S Z H → Rep K (hide H Z) d x → Rep K (hide H Z) e y → rd d e P →
  ∀ Q : VK, (∀ v H' d, Kp S H H' → S.I H' → Rep K (hide H' Z) d v → P d → Q v H') → r x y H Q
theorem we_op {r : R2} {rd : R2D} (hr : WR K S r rd) (ha : WE K S c ta a) (hb : WE K S c tb b) : WE K S c (tOp r ta tb) (dOp rd a b) := by
  intro Z σ H ρ P rv h Q q
  refine ha Z σ H ρ _ rv h _ fun x H1 d k1 i1 r1 h1 => ?_
  have rv1 := rv.step k1 i1
  refine hb Z σ H1 ρ _ rv1 h1 _ fun y H2 e k2 i2 r2 h2 => ?_
  have rv2 := rv1.step k2 i2
  refine hr Z H2 x y d e P rv2.wd (Rep.mono (rv1.wd.ex k2) d x r1) r2 h2 Q fun v H3 d3 k3 i3 r3 h3 => ?_
  exact q v H3 d3 ((k1.trans k2).trans k3) i3 r3 h3
theorem wa_nil : WA K S c tNil dNil := fun Z σ H ρ P r h Q q => q [] H [] (Kp.refl H) r.wd.inv RepL.nil h
theorem wa_cons (ha : WE K S c ta a) (hs : WA K S c ts as) : WA K S c (tCons ta ts) (dCons a as) := by
  intro Z σ H ρ P rv h Q q
  refine ha Z σ H ρ _ rv h _ fun x H1 d k1 i1 r1 h1 => ?_
  have rv1 := rv.step k1 i1
  refine hs Z σ H1 ρ _ rv1 h1 _ fun ys H2 es k2 i2 r2 h2 => ?_
  exact q (x :: ys) H2 (d :: es) (k1.trans k2) i2 (RepL.cons (Rep.mono (rv1.wd.ex k2) d x r1) r2) h2
theorem sz {n : Nat} (h : n ≤ 1000000) : n ≤ sizeLine := Nat.le_trans h (by decide)
theorem szl {n : Nat} (h : n < 1000000) : n < sizeLine := Nat.lt_of_lt_of_le h (by decide)
theorem new_tup {Z : Addr → Prop} {H : Hp} {ds : List D} {vs : List V} {l : Addr} (w : Wd S Z H) (hl : H l = none) (r : RepL K (hide H Z) ds vs) : Rep K (hide (upd H l (.tup vs)) Z) (.tup ds) (.ref l) := by
  unfold Rep
  refine ⟨l, vs, rfl, .inl (.inl (hide_some.mpr ⟨w.fresh hl, upd_same⟩)), RepL.mono (w.ex (Kp.new hl)) ds vs r⟩
theorem new_lst {Z : Addr → Prop} {H : Hp} {ds : List D} {vs : List V} {l : Addr} (w : Wd S Z H) (hl : H l = none) (r : RepL K (hide H Z) ds vs) : Rep K (hide (upd H l (.lst vs)) Z) (.lst ds) (.ref l) := by
  unfold Rep
  refine ⟨l, vs, rfl, hide_some.mpr ⟨w.fresh hl, upd_same⟩, RepL.mono (w.ex (Kp.new hl)) ds vs r⟩
theorem we_tup (hs : WA K S c ts as) : WE K S c (tTup ts) (dTup as) := by
  intro Z σ H ρ P rv h Q q
  refine hs Z σ H ρ _ rv h _ fun vs H1 ds k1 i1 r1 ⟨hz, h1⟩ => ?_
  have rv1 := rv.step k1 i1
  refine ⟨sz (by rw [← r1.len]; exact hz), fun l hl => ?_⟩
  exact q _ _ (.tup ds) (k1.trans (Kp.new hl)) (rv1.wd.inew hl) (new_tup rv1.wd hl r1) h1
theorem we_lst (hs : WA K S c ts as) : WE K S c (tLst ts) (dLst as) := by
  intro Z σ H ρ P rv h Q q
  refine hs Z σ H ρ _ rv h _ fun vs H1 ds k1 i1 r1 ⟨hz, h1⟩ => ?_
  have rv1 := rv.step k1 i1
  refine ⟨sz (by rw [← r1.len]; exact hz), fun l hl => ?_⟩
  exact q _ _ (.lst ds) (k1.trans (Kp.new hl)) (rv1.wd.inew hl) (new_lst rv1.wd hl r1) h1
theorem wt_test (ha : WE K S c ta a) : WT K S c (tTest ta) (dTest a) := by
  intro Z σ H ρ P rv h Q q
  refine ha Z σ H ρ _ rv h _ fun x H1 d k1 i1 r1 h1 => ?_
  cases d <;> first | exact h1.elim | skip
  rename_i k
  unfold Rep at r1
  exact ⟨k, r1, q k H1 k1 i1 h1⟩
theorem wt_B (ha : WE K S c ta a) : WT K S c (tB ta) (dTest a) := by
  intro Z σ H ρ P rv h Q q
  refine ha Z σ H ρ _ rv h _ fun x H1 d k1 i1 r1 h1 => ?_
  cases d <;> first | exact h1.elim | skip
  rename_i k
  unfold Rep at r1
  exact ⟨k, r1, q k H1 k1 i1 h1⟩
theorem wt_and (hp : WT K S c tt p) (hq : WT K S c tu q) : WT K S c (tAnd tt tu) (dAnd p q) := by
  intro Z σ H ρ P rv h Q k
  refine hp Z σ H ρ _ rv h _ fun b H1 k1 i1 h1 => ?_
  cases b with
  | true =>
    rw [if_pos rfl] at h1
    show tu σ H1 Q
    exact hq Z σ H1 ρ P (rv.step k1 i1) h1 Q fun b2 H2 k2 i2 h2 => k b2 H2 (k1.trans k2) i2 h2
  | false =>
    rw [if_neg Bool.false_ne_true] at h1
    exact k false H1 k1 i1 h1
theorem wt_or (hp : WT K S c tt p) (hq : WT K S c tu q) : WT K S c (tOr tt tu) (dOr p q) := by
  intro Z σ H ρ P rv h Q k
  refine hp Z σ H ρ _ rv h _ fun b H1 k1 i1 h1 => ?_
  cases b with
  | false =>
    rw [if_neg Bool.false_ne_true] at h1
    show tu σ H1 Q
    exact hq Z σ H1 ρ P (rv.step k1 i1) h1 Q fun b2 H2 k2 i2 h2 => k b2 H2 (k1.trans k2) i2 h2
  | true =>
    rw [if_pos rfl] at h1
    exact k true H1 k1 i1 h1
theorem wt_not (hp : WT K S c tt p) : WT K S c (tNot tt) (dNot p) := fun Z σ H ρ P rv h Q k => hp Z σ H ρ _ rv h _ fun b H1 k1 i1 h1 => k (!b) H1 k1 i1 h1
theorem we_if (hp : WT K S c tt p) (ha : WE K S c ta a) (hb : WE K S c tb b) : WE K S c (tIf tt ta tb) (dIf p a b) := by
  intro Z σ H ρ P rv h Q k
  refine hp Z σ H ρ _ rv h _ fun b H1 k1 i1 h1 => ?_
  cases b with
  | true =>
    rw [if_pos rfl] at h1
    show ta σ H1 Q
    exact ha Z σ H1 ρ P (rv.step k1 i1) h1 Q fun v H2 d k2 i2 r2 h2 => k v H2 d (k1.trans k2) i2 r2 h2
  | false =>
    rw [if_neg Bool.false_ne_true] at h1
    show tb σ H1 Q
    exact hb Z σ H1 ρ P (rv.step k1 i1) h1 Q fun v H2 d k2 i2 r2 h2 => k v H2 d (k1.trans k2) i2 r2 h2
theorem we_andV (ha : WE K S c ta a) (hb : WE K S c tb b) : WE K S c (tAndV ta tb) (dAndV a b) := by
  intro Z σ H ρ P rv h Q q
  refine ha Z σ H ρ _ rv h _ fun x H1 d k1 i1 r1 h1 => ?_
  cases d <;> first | exact h1.elim | skip
  rename_i k
  unfold Rep at r1
  refine ⟨k, r1, ?_⟩
  cases k with
  | true =>
    rw [if_pos rfl]
    exact hb Z σ H1 ρ P (rv.step k1 i1) h1 Q fun v H2 d k2 i2 r2 h2 => q v H2 d (k1.trans k2) i2 r2 h2
  | false =>
    rw [if_neg Bool.false_ne_true]
    exact q _ H1 (.bl false) k1 i1 (by unfold Rep; rfl) h1
theorem we_orV (ha : WE K S c ta a) (hb : WE K S c tb b) : WE K S c (tOrV ta tb) (dOrV a b) := by
  intro Z σ H ρ P rv h Q q
  refine ha Z σ H ρ _ rv h _ fun x H1 d k1 i1 r1 h1 => ?_
  cases d <;> first | exact h1.elim | skip
  rename_i k
  unfold Rep at r1
  refine ⟨k, r1, ?_⟩
  cases k with
  | true =>
    rw [if_pos rfl]
    exact q _ H1 (.bl true) k1 i1 (by unfold Rep; rfl) h1
  | false =>
    rw [if_neg Bool.false_ne_true]
    exact hb Z σ H1 ρ P (rv.step k1 i1) h1 Q fun v H2 d k2 i2 r2 h2 => q v H2 d (k1.trans k2) i2 r2 h2
theorem we_notV (ha : WE K S c ta a) : WE K S c (tNotV ta) (dNotV a) := by
  intro Z σ H ρ P rv h Q q
  refine ha Z σ H ρ _ rv h _ fun x H1 d k1 i1 r1 h1 => ?_
  cases d <;> first | exact h1.elim | skip
  rename_i k
  unfold Rep at r1
  exact ⟨k, r1, q _ H1 (.bl (!k)) k1 i1 (by unfold Rep; rfl) h1⟩
end
theorem rep_notOwn {K : PySem.W.Frag} {H : Hp} {d : D} {v : V} (h : Rep K H d v) : d.isOwn = false := by
  cases d <;> first | rfl | (unfold Rep at h; exact h.elim)
end DL
end
section
namespace DL
open PySem PySem.Spec PyProof.Rows L2
section
variable {K : PySem.W.Frag} {S : Sit} {c : Cl} {ta tb te : TE} {a b t : TED} {tt tu : TT} {p q : TTD} {ts : TA} {as : TAD}
def rIIc (C : Int → Int → Prop) (g : Int → Int → D) : R2D := fun x y P => match x, y with
  | .int i, .int j => C i j ∧ P (g i j)
  | _, _ => False
theorem wr_I0 {g : Int → Int → V} {gd : Int → Int → D} (h : ∀ H i j, Rep K H (gd i j) (g i j)) : WR K S (rI0 g) (rII gd) := by
  intro Z H x y d e P w r1 r2 hp Q q
  cases d <;> try exact hp.elim
  cases e <;> try exact hp.elim
  unfold Rep at r1 r2
  exact ⟨_, _, r1, r2, q _ H _ (Kp.refl H) w.inv (h _ _ _) hp⟩
theorem wr_I {C C' : Int → Int → Prop} {g : Int → Int → V} {gd : Int → Int → D} (hc : ∀ i j, C' i j → C i j) (h : ∀ H i j, Rep K H (gd i j) (g i j)) : WR K S (rI C g) (rIIc C' gd) := by
  intro Z H x y d e P w r1 r2 hp Q q
  cases d <;> try exact hp.elim
  cases e <;> try exact hp.elim
  unfold Rep at r1 r2
  obtain ⟨h1, h2⟩ := hp
  exact ⟨_, _, r1, r2, hc _ _ h1, q _ H _ (Kp.refl H) w.inv (h _ _ _) h2⟩
abbrev rAddD : R2D := rII fun i j => .int (i + j)
abbrev rSubD : R2D := rII fun i j => .int (i - j)
abbrev rMulD : R2D := rIIc CMul fun i j => .int (i * j)
abbrev rModD : R2D := rIIc (fun _ j => 0 < j) fun i j => .int (i % j)
abbrev rLtD : R2D := rII fun i j => .bl (decide (i < j))
abbrev rLeD : R2D := rII fun i j => .bl (decide (i ≤ j))
abbrev rGtD : R2D := rII fun i j => .bl (decide (j < i))
abbrev rGeD : R2D := rII fun i j => .bl (decide (j ≤ i))
theorem repI {H : Hp} {i : Int} : Rep K H (.int i) (.int i) := by unfold Rep; rfl
theorem repB {H : Hp} {i : Bool} : Rep K H (.bl i) (.bl i) := by unfold Rep; rfl
theorem repS {H : Hp} {i : Str} : Rep K H (.str i) (.str i) := by unfold Rep; rfl
theorem repN {H : Hp} : Rep K H .non .non := by unfold Rep; rfl
theorem wr_add : WR K S (rI0 fun i j => .int (i + j)) rAddD := wr_I0 fun _ _ _ => repI
theorem wr_sub : WR K S (rI0 fun i j => .int (i - j)) rSubD := wr_I0 fun _ _ _ => repI
theorem wr_mul : WR K S (rI CMul fun i j => .int (i * j)) rMulD := wr_I (fun _ _ h => h) fun _ _ _ => repI
theorem wr_mod : WR K S (rI (fun _ j => 0 < j) fun i j => .int (i % j)) rModD := wr_I (fun _ _ h => h) fun _ _ _ => repI
theorem wr_lt : WR K S (rI0 fun i j => .bl (decide (i < j))) rLtD := wr_I0 fun _ _ _ => repB
theorem wr_le : WR K S (rI0 fun i j => .bl (decide (i ≤ j))) rLeD := wr_I0 fun _ _ _ => repB
theorem wr_gt : WR K S (rI0 fun i j => .bl (decide (j < i))) rGtD := wr_I0 fun _ _ _ => repB
theorem wr_ge : WR K S (rI0 fun i j => .bl (decide (j ≤ i))) rGeD := wr_I0 fun _ _ _ => repB
theorem we_chain {r r' : R2} {rd rd' : R2D} {tc : TE} {c' : TED} (hr : WR K S r rd) (hr' : WR K S r' rd') (ha : WE K S c ta a) (hb : WE K S c tb b) (hc : WE K S c tc c') : WE K S c (tChain r r' ta tb tc) (dChain rd rd' a b c') := by
  intro Z σ H ρ P rv h Q q
  refine ha Z σ H ρ _ rv h _ fun x H1 d k1 i1 r1 h1 => ?_
  have rv1 := rv.step k1 i1
  refine hb Z σ H1 ρ _ rv1 h1 _ fun y H2 e k2 i2 r2 h2 => ?_
  have rv2 := rv1.step k2 i2
  refine hr Z H2 x y d e _ rv2.wd (Rep.mono (rv1.wd.ex k2) d x r1) r2 h2 _ fun z H3 d3 k3 i3 r3 h3 => ?_
  have rv3 := rv2.step k3 i3
  cases d3 <;> try exact h3.elim
  rename_i k
  unfold Rep at r3
  refine ⟨k, r3, ?_⟩
  cases k with
  | true =>
    rw [if_pos rfl]
    refine hc Z σ H3 ρ _ rv3 h3 _ fun w H4 d4 k4 i4 r4 h4 => ?_
    have rv4 := rv3.step k4 i4
    refine hr' Z H4 y w e d4 P rv4.wd (Rep.mono (rv3.wd.ex k4) e y (Rep.mono (rv2.wd.ex k3) e y r2)) r4 h4 Q fun v H5 d5 k5 i5 r5 h5 => ?_
    exact q v H5 d5 ((((k1.trans k2).trans k3).trans k4).trans k5) i5 r5 h5
  | false =>
    rw [if_neg Bool.false_ne_true]
    exact q _ H3 (.bl false) ((k1.trans k2).trans k3) i3 repB h3
theorem rep_non {H : Hp} {d : D} {x : V} (r : Rep K H d x) : decide (x = .non) = d.isNon := by
  cases d <;> unfold Rep at r
  · subst r; rfl
  · subst r; rfl
  · subst r; rfl
  · subst r; rfl
  · obtain ⟨_, _, rfl, _⟩ := r; rfl
  · obtain ⟨_, _, rfl, _⟩ := r; rfl
  · obtain ⟨_, _, _, rfl, _⟩ := r; rfl
  · subst r; rfl
  · obtain ⟨_, _, rfl, _⟩ := r; rfl
  · obtain ⟨_, _, rfl, _⟩ := r; rfl
  · exact r.elim
  · exact r.elim
theorem wr_isN : WR K S (fun x y H Q => y = .non ∧ Q (.bl (decide (x = .non))) H) rIsND := by
  intro Z H x y d e P w r1 r2 hp Q q
  cases e <;> try exact hp.elim
  unfold Rep at r2
  refine ⟨r2, q _ H (.bl d.isNon) (Kp.refl H) w.inv ?_ hp⟩
  rw [rep_non r1]
  exact repB
theorem wr_notN : WR K S (fun x y H Q => y = .non ∧ Q (.bl (!decide (x = .non))) H) rNotND := by
  intro Z H x y d e P w r1 r2 hp Q q
  cases e <;> try exact hp.elim
  unfold Rep at r2
  refine ⟨r2, q _ H (.bl (!d.isNon)) (Kp.refl H) w.inv ?_ hp⟩
  rw [rep_non r1]
  exact repB
mutual
theorem rep_dp {H : Hp} : ∀ (n : Nat) (d : D) (v : V), D.flat n d = true → Rep K H d v → Dp K H v d.py
  | _, .non, _, _, r => by unfold Rep at r; subst r; exact .non
  | _, .bl b, _, _, r => by unfold Rep at r; subst r; exact .bl b
  | _, .int i, _, _, r => by unfold Rep at r; subst r; exact .int i
  | _, .str x, _, _, r => by unfold Rep at r; subst r; exact .str x
  | n, .tup ds, _, h, r => by
    cases n with
    | zero => exact nomatch h
    | succ n =>
      unfold Rep at r
      obtain ⟨a, xs, rfl, h1, h2⟩ := r
      unfold D.flat at h
      exact .tup h1 (rep_dpL n ds xs h h2)
  | n, .lst ds, _, h, r => by
    cases n with
    | zero => exact nomatch h
    | succ n =>
      unfold Rep at r
      obtain ⟨a, xs, rfl, h1, h2⟩ := r
      unfold D.flat at h
      exact .lst (.inl (.inl h1)) (rep_dpL n ds xs h h2)
  | 0, .ins _ _ _, _, h, _ => nomatch h
  | _ + 1, .ins _ _ _, _, h, _ => nomatch h
  | 0, .adr _, _, h, _ => nomatch h
  | _ + 1, .adr _, _, h, _ => nomatch h
  | 0, .sem _, _, h, _ => nomatch h
  | _ + 1, .sem _, _, h, _ => nomatch h
  | 0, .dic _ _, _, h, _ => nomatch h
  | _ + 1, .dic _ _, _, h, _ => nomatch h
  | 0, .own _ _, _, h, _ => nomatch h
  | _ + 1, .own _ _, _, h, _ => nomatch h
  | 0, .nest _ _, _, h, _ => nomatch h
  | _ + 1, .nest _ _, _, h, _ => nomatch h
theorem rep_dpL {H : Hp} : ∀ (n : Nat) (ds : List D) (vs : List V), D.flatL n ds = true → RepL K H ds vs → DpAll K H vs (D.pyL ds)
  | _, [], _, _, r => by unfold RepL at r; subst r; exact .nil
  | n, d :: ds, _, h, r => by
    unfold RepL at r
    obtain ⟨v, vs, rfl, h1, h2⟩ := r
    unfold D.flatL at h
    obtain ⟨f1, f2⟩ := Bool.and_eq_true_iff.mp h
    exact .cons (rep_dp n d v f1 h1) (rep_dpL n ds vs f2 h2)
end
mutual
theorem flat_lay : ∀ (n : Nat) (d : D), D.flat n d = true → d.py.canLay0 = true ∧ d.py.depth ≤ n
  | _, .non, _ => ⟨rfl, Nat.zero_le _⟩
  | _, .bl b, _ => ⟨rfl, Nat.zero_le _⟩
  | _, .int i, _ => ⟨rfl, Nat.zero_le _⟩
  | n, .str x, h => ⟨by cases n <;> (unfold D.flat at h; exact h), Nat.zero_le _⟩
  | n, .tup ds, h => by
    cases n with
    | zero => exact nomatch h
    | succ n =>
      unfold D.flat at h
      obtain ⟨h1, h2⟩ := flat_layL n ds h
      exact ⟨h1, Nat.succ_le_succ h2⟩
  | n, .lst ds, h => by
    cases n with
    | zero => exact nomatch h
    | succ n =>
      unfold D.flat at h
      obtain ⟨h1, h2⟩ := flat_layL n ds h
      exact ⟨h1, Nat.succ_le_succ h2⟩
  | 0, .ins _ _ _, h => nomatch h
  | _ + 1, .ins _ _ _, h => nomatch h
  | 0, .adr _, h => nomatch h
  | _ + 1, .adr _, h => nomatch h
  | 0, .sem _, h => nomatch h
  | _ + 1, .sem _, h => nomatch h
  | 0, .dic _ _, h => nomatch h
  | _ + 1, .dic _ _, h => nomatch h
  | 0, .own _ _, h => nomatch h
  | _ + 1, .own _ _, h => nomatch h
  | 0, .nest _ _, h => nomatch h
  | _ + 1, .nest _ _, h => nomatch h
theorem flat_layL : ∀ (n : Nat) (ds : List D), D.flatL n ds = true → PyData.canLayAll0 (D.pyL ds) = true ∧ PyData.depthAll (D.pyL ds) ≤ n
  | _, [], _ => ⟨rfl, Nat.zero_le _⟩
  | n, d :: ds, h => by
    unfold D.flatL at h
    obtain ⟨f1, f2⟩ := Bool.and_eq_true_iff.mp h
    obtain ⟨a1, a2⟩ := flat_lay n d f1
    obtain ⟨b1, b2⟩ := flat_layL n ds f2
    exact ⟨Bool.and_eq_true_iff.mpr ⟨a1, b1⟩, Nat.max_le.mpr ⟨a2, b2⟩⟩
end
theorem flat_shaped {d : D} (h : D.flat 60 d = true) : SeqAt.shaped d.py = true := by
  obtain ⟨a, b⟩ := flat_lay 60 d h
  exact Bool.and_eq_true_iff.mpr ⟨a, decide_eq_true (by omega)⟩
theorem wr_eq : WR K S (rEqD K) rEqDD := by
  intro Z H x y d e P w r1 r2 hp0 Q q
  unfold rEqDD at hp0
  obtain ⟨⟨f1, f2⟩, hp⟩ := hp0
  exact ⟨d.py, e.py, rep_dp 60 d x f1 (Rep.mono hide_ex d x r1), rep_dp 60 e y f2 (Rep.mono hide_ex e y r2), flat_shaped f1, flat_shaped f2, q _ H _ (Kp.refl H) w.inv repB hp⟩
theorem wr_ne : WR K S (rNeD K) rNeDD := by
  intro Z H x y d e P w r1 r2 hp0 Q q
  unfold rNeDD at hp0
  obtain ⟨⟨f1, f2⟩, hp⟩ := hp0
  exact ⟨d.py, e.py, rep_dp 60 d x f1 (Rep.mono hide_ex d x r1), rep_dp 60 e y f2 (Rep.mono hide_ex e y r2), flat_shaped f1, flat_shaped f2, q _ H _ (Kp.refl H) w.inv repB hp⟩
theorem atI_rep {H : Hp} {ds : List D} {vs : List V} {i : Int} {d : D} (r : RepL K H ds vs) (h : atI ds i = some d) : ∃ v, atI vs i = some v ∧ Rep K H d v := by
  unfold atI at h ⊢
  rw [← r.len]
  cases e : ixN ds.length i with
  | none => rw [e] at h; cases h
  | some j =>
    rw [e] at h
    exact r.get h
@[irreducible] def rIxD : R2D := fun x y P => match x, y with
  | .lst ds, .int i => match atI ds i with
    | some d => P d
    | none => False
  | .tup ds, .int i => match atI ds i with
    | some d => P d
    | none => False
  | .str z, .int i => z.length ≤ 1000000 ∧ match atI z.cps.toList i with
    | some ch => P (.str ⟨#[ch]⟩)
    | none => False
  | _, _ => False
theorem wr_ix : WR K S (rIx K) rIxD := by
  intro Z H x y d e P w r1 r2 hp Q q
  unfold rIxD at hp
  cases d <;> try exact hp.elim
  case str z =>
    cases e <;> try exact hp.elim
    rename_i i
    unfold Rep at r1 r2
    obtain ⟨hz, hp⟩ := hp
    split at hp
    · rename_i ch e
      exact .inr (.inr ⟨z, i, ch, r1, r2, sz hz, e, q _ H _ (Kp.refl H) w.inv repS hp⟩)
    · exact hp.elim
  case tup ds =>
    cases e <;> try exact hp.elim
    rename_i i
    simp only at hp
    split at hp
    · rename_i d e
      unfold Rep at r1 r2
      obtain ⟨a, xs, rfl, h1, h2⟩ := r1
      obtain ⟨v, e2, r3⟩ := atI_rep h2 e
      exact .inr (.inl ⟨a, xs, i, v, rfl, r2, ex_t hide_ex h1, e2, q _ H _ (Kp.refl H) w.inv r3 hp⟩)
    · exact hp.elim
  case lst ds =>
    cases e <;> try exact hp.elim
    rename_i i
    simp only at hp
    split at hp
    · rename_i d e
      unfold Rep at r1 r2
      obtain ⟨a, xs, rfl, h1, h2⟩ := r1
      obtain ⟨v, e2, r3⟩ := atI_rep h2 e
      exact .inl ⟨a, xs, i, v, rfl, r2, .inl (.inl (hide_ex _ _ h1)), e2, q _ H _ (Kp.refl H) w.inv r3 hp⟩
    · exact hp.elim
theorem cut_rep {H : Hp} {ds : List D} {vs : List V} {lo hi : Option Int} (r : RepL K H ds vs) : RepL K H (cutD ds lo hi) (cutV vs lo hi) := by
  unfold cutD cutV
  rw [← r.len]
  exact (r.drop _).take _
theorem wo_no : WO K S c tNoPart oNo := fun Z σ H ρ P r h Q q => q none H (Kp.refl H) r.wd.inv h
theorem wo_yes (ha : WE K S c ta a) : WO K S c (tPart ta) (oYes a) := by
  intro Z σ H ρ P rv h Q q
  refine ha Z σ H ρ _ rv h _ fun x H1 d k1 i1 r1 h1 => ?_
  cases d <;> try exact h1.elim
  unfold Rep at r1
  exact ⟨_, r1, q _ H1 k1 i1 h1⟩
theorem sIx_full {α : Type} {xs : List α} {lo hi : Option Int} (h : HT.sIx xs.length 0 lo = 0 ∧ HT.sIx xs.length xs.length hi = xs.length) : (xs.drop (HT.sIx xs.length 0 lo)).take (HT.sIx xs.length xs.length hi - HT.sIx xs.length 0 lo) = xs := by
  rw [h.1, h.2]
  simp
theorem we_slL {tl th : TO} {l h : TOD} (ha : WE K S c ta a) (hl : WO K S c tl l) (hh : WO K S c th h) : WE K S c (tSl (rSlL K) ta tl th) (dSl slLD a l h) := by
  intro Z σ H ρ P rv hp Q q
  refine ha Z σ H ρ _ rv hp _ fun x H1 d k1 i1 r1 h1 => ?_
  have rv1 := rv.step k1 i1
  refine hl Z σ H1 ρ _ rv1 h1 _ fun lo H2 k2 i2 h2 => ?_
  have rv2 := rv1.step k2 i2
  refine hh Z σ H2 ρ _ rv2 h2 _ fun hi H3 k3 i3 h3 => ?_
  have rv3 := rv2.step k3 i3
  cases d <;> try exact h3.elim
  have r3 := Rep.mono (rv2.wd.ex k3) _ x (Rep.mono (rv1.wd.ex k2) _ x r1)
  unfold Rep at r3
  obtain ⟨a', xs, rfl, e1, e2⟩ := r3
  refine ⟨a', xs, rfl, .inl (.inl (hide_ex _ _ e1)), fun p hp' => ?_⟩
  exact q _ _ _ (((k1.trans k2).trans k3).trans (Kp.new hp')) (rv3.wd.inew hp') (new_lst rv3.wd hp' (cut_rep e2)) h3
theorem we_slT {tl th : TO} {l h : TOD} (ha : WE K S c ta a) (hl : WO K S c tl l) (hh : WO K S c th h) : WE K S c (tSl (rSlA K) ta tl th) (dSl slTD a l h) := by
  intro Z σ H ρ P rv hp Q q
  refine ha Z σ H ρ _ rv hp _ fun x H1 d k1 i1 r1 h1 => ?_
  have rv1 := rv.step k1 i1
  refine hl Z σ H1 ρ _ rv1 h1 _ fun lo H2 k2 i2 h2 => ?_
  have rv2 := rv1.step k2 i2
  refine hh Z σ H2 ρ _ rv2 h2 _ fun hi H3 k3 i3 h3 => ?_
  have rv3 := rv2.step k3 i3
  cases d <;> try exact h3.elim
  rename_i ds
  have r3 := Rep.mono (rv2.wd.ex k3) _ x (Rep.mono (rv1.wd.ex k2) _ x r1)
  have r4 := r3
  unfold Rep at r3
  obtain ⟨a', xs, rfl, e1, e2⟩ := r3
  refine ⟨a', xs, rfl, ex_t hide_ex e1, fun hw => ?_, fun hw p hp' => ?_⟩
  · have e3 : cutD ds lo hi = ds := by
      unfold cutD
      rw [← e2.len] at hw
      exact sIx_full hw
    unfold slTD at h3
    simp only [e3] at h3
    exact q _ H3 _ ((k1.trans k2).trans k3) i3 r4 h3
  · exact q _ _ _ (((k1.trans k2).trans k3).trans (Kp.new hp')) (rv3.wd.inew hp') (new_tup rv3.wd hp' (cut_rep e2)) h3
def rCatLD : R2D := fun x y P => match x, y with
  | .lst ds, .lst es => ds.length + es.length ≤ 1000000 ∧ P (.lst (ds ++ es))
  | _, _ => False
theorem wr_catL : WR K S rCat rCatLD := by
  intro Z H x y d e P w r1 r2 hp Q q
  cases d <;> try exact hp.elim
  cases e <;> try exact hp.elim
  unfold Rep at r1 r2
  obtain ⟨a, xs, rfl, h1, h2⟩ := r1
  obtain ⟨a', ys, rfl, h3, h4⟩ := r2
  obtain ⟨hz, hp⟩ := hp
  refine ⟨a, a', xs, ys, rfl, rfl, hide_ex _ _ h1, hide_ex _ _ h3, sz (by rw [← h2.len, ← h4.len]; exact hz), fun p hp' => ?_⟩
  exact q _ _ _ (Kp.new hp') (w.inew hp') (new_lst w hp' (h2.append h4)) hp
def rCatTD : R2D := fun x y P => match x, y with
  | .tup ds, .tup es => ds.length + es.length ≤ 1000000 ∧ P (.tup (ds ++ es))
  | _, _ => False
theorem nil_rep {H : Hp} {ds : List D} (r : RepL K H ds []) : ds = [] := by
  cases ds with
  | nil => rfl
  | cons d ds => have := r.len; simp at this
theorem wr_catT : WR K S (rCatA K) rCatTD := by
  intro Z H x y d e P w r1 r2 hp Q q
  cases d <;> try exact hp.elim
  cases e <;> try exact hp.elim
  rename_i ds es
  have q1 := r1
  have q2 := r2
  unfold Rep at r1 r2
  obtain ⟨a, xs, rfl, h1, h2⟩ := r1
  obtain ⟨a', ys, rfl, h3, h4⟩ := r2
  obtain ⟨hz, hp⟩ := hp
  refine ⟨a, a', xs, ys, rfl, rfl, ex_t hide_ex h1, ex_t hide_ex h3, sz (by rw [← h2.len, ← h4.len]; exact hz), fun e1 => ?_, fun e1 e2 => ?_, fun e1 e2 p hp' => ?_⟩
  · subst e1
    have := nil_rep h2
    subst this
    exact q _ H (.tup es) (Kp.refl H) w.inv q2 (by simpa using hp)
  · subst e2
    have := nil_rep h4
    subst this
    exact q _ H (.tup ds) (Kp.refl H) w.inv q1 (by simpa using hp)
  · exact q _ _ _ (Kp.new hp') (w.inew hp') (new_tup w hp' (h2.append h4)) hp
def D.atom : D → Bool
  | .non => true
  | .bl _ => true
  | .int _ => true
  | .str _ => true
  | _ => false
theorem atom_rep {H : Hp} {d : D} {x : V} (h : d.atom = true) (r : Rep K H d x) : x = d.v := by
  cases d <;> (try (cases h; done))
  all_goals (unfold Rep at r; exact r)
theorem rep_atom {H : Hp} {d : D} (h : d.atom = true) : Rep K H d d.v := by
  cases d <;> (try (cases h; done))
  all_goals (unfold Rep; rfl)
theorem atom_flat {d : D} (h : d.atom = true) : flatV d.v = true := by
  cases d <;> (try (cases h; done))
  all_goals rfl
theorem atoms_rep {H : Hp} : ∀ {ds : List D} {vs : List V}, ds.all D.atom = true → RepL K H ds vs → vs = ds.map D.v
  | [], _, _, r => by unfold RepL at r; exact r
  | d :: ds, _, h, r => by
    unfold RepL at r
    obtain ⟨v, vs, rfl, h1, h2⟩ := r
    rw [List.all_cons] at h
    obtain ⟨f1, f2⟩ := Bool.and_eq_true_iff.mp h
    rw [atom_rep f1 h1, atoms_rep f2 h2, List.map_cons]
theorem atoms_flat {ds : List D} (h : ds.all D.atom = true) : (ds.map D.v).all flatV = true := by
  rw [List.all_eq_true] at h ⊢
  intro v hv
  obtain ⟨d, hd, rfl⟩ := List.mem_map.mp hv
  exact atom_flat (h d hd)
@[irreducible] def rInD (neg : Bool) : R2D := fun x y P => match y.items with
  | some ds => (x.atom = true ∧ ds.all D.atom = true) ∧ P (.bl (if neg then !inV x.v (ds.map D.v) else inV x.v (ds.map D.v)))
  | none => False
theorem items_rep {H : Hp} {d : D} {x : V} {ds : List D} (h : d.items = some ds) (r : Rep K H d x) : ∃ p xs, x = .ref p ∧ (SqL K H p xs ∨ SqT K H p xs) ∧ RepL K H ds xs := by
  cases d <;> (try (cases h; done))
  · cases h
    unfold Rep at r
    obtain ⟨a, xs, e, h1, h2⟩ := r
    exact ⟨a, xs, e, .inr h1, h2⟩
  · cases h
    unfold Rep at r
    obtain ⟨a, xs, e, h1, h2⟩ := r
    exact ⟨a, xs, e, .inl (.inl (.inl h1)), h2⟩
theorem sq_hide {H : Hp} {Z : Addr → Prop} {p : Addr} {xs : List V} (h : SqL K (hide H Z) p xs ∨ SqT K (hide H Z) p xs) : SqL K H p xs ∨ SqT K H p xs := by
  rcases h with h | h
  · exact .inl (ex_l hide_ex h)
  · exact .inr (ex_t hide_ex h)
theorem wr_in {neg : Bool} : WR K S (rIn K neg) (rInD neg) := by
  intro Z H x y d e P w r1 r2 hp Q q
  unfold rInD at hp
  split at hp
  · rename_i ds he
    obtain ⟨⟨f1, f2⟩, hp⟩ := hp
    obtain ⟨p, xs, rfl, h1, h2⟩ := items_rep he r2
    have e1 := atom_rep f1 r1
    have e2 := atoms_rep f2 h2
    subst e1 e2
    exact ⟨p, _, rfl, sq_hide h1, atom_flat f1, atoms_flat f2, q _ H _ (Kp.refl H) w.inv repB hp⟩
  · exact hp.elim
def rInSD : R2D := fun x y P => match x, y with
  | .str s, .str z => ∃ ch, s = ⟨#[ch]⟩ ∧ P (.bl (decide (ch ∈ z.cps.toList)))
  | _, _ => False
theorem wr_inS : WR K S (fun x y H Q => ∃ (c : Nat) (z : Str), x = .str ⟨#[c]⟩ ∧ y = .str z ∧ Q (.bl (decide (c ∈ z.cps.toList))) H) rInSD := by
  intro Z H x y d e P w r1 r2 hp Q q
  cases d <;> try exact hp.elim
  cases e <;> try exact hp.elim
  unfold Rep at r1 r2
  obtain ⟨ch, rfl, hp⟩ := hp
  exact ⟨ch, _, r1, r2, q _ H _ (Kp.refl H) w.inv repB hp⟩
def WC (K : PySem.W.Frag) (S : Sit) (r : List V → Hp → VK → Prop) (rd : RCD) : Prop := ∀ Z H xs ds (P : D → Prop), Wd S Z H → RepL K (hide H Z) ds xs → rd ds P →
  ∀ Q : VK, (∀ v H' d, Kp S H H' → S.I H' → Rep K (hide H' Z) d v → P d → Q v H') → r xs H Q
theorem we_cb {r : List V → Hp → VK → Prop} {rd : RCD} (hr : WC K S r rd) (hs : WA K S c ts as) : WE K S c (tCB r ts) (dCB rd as) := by
  intro Z σ H ρ P rv h Q q
  refine hs Z σ H ρ _ rv h _ fun xs H1 ds k1 i1 r1 h1 => ?_
  have rv1 := rv.step k1 i1
  exact hr Z H1 xs ds P rv1.wd r1 h1 Q fun v H2 d k2 i2 r2 h2 => q v H2 d (k1.trans k2) i2 r2 h2
theorem repL1 {H : Hp} {d : D} {xs : List V} (r : RepL K H [d] xs) : ∃ v, xs = [v] ∧ Rep K H d v := by
  unfold RepL at r
  obtain ⟨v, vs, rfl, h1, h2⟩ := r
  unfold RepL at h2
  subst h2
  exact ⟨v, rfl, h1⟩
theorem repL2 {H : Hp} {d e : D} {xs : List V} (r : RepL K H [d, e] xs) : ∃ v u, xs = [v, u] ∧ Rep K H d v ∧ Rep K H e u := by
  unfold RepL at r
  obtain ⟨v, vs, rfl, h1, h2⟩ := r
  obtain ⟨u, rfl, h3⟩ := repL1 h2
  exact ⟨v, u, rfl, h1, h3⟩
theorem wc_len : WC K S (fun xs H Q => (∃ p ys, xs = [.ref p] ∧ (SqL K H p ys ∨ SqT K H p ys) ∧ Q (.int ys.length) H) ∨ ∃ z, xs = [.str z] ∧ z.length ≤ sizeLine ∧ Q (.int z.length) H) rLenD := by
  intro Z H xs ds P w r hp Q q
  unfold rLenD at hp
  split at hp
  · obtain ⟨v, rfl, r1⟩ := repL1 r
    obtain ⟨p, ys, rfl, h1, h2⟩ := items_rep rfl r1
    exact .inl ⟨p, ys, rfl, sq_hide h1, q _ H _ (Kp.refl H) w.inv (by rw [← h2.len]; exact repI) hp⟩
  · obtain ⟨v, rfl, r1⟩ := repL1 r
    obtain ⟨p, ys, rfl, h1, h2⟩ := items_rep rfl r1
    exact .inl ⟨p, ys, rfl, sq_hide h1, q _ H _ (Kp.refl H) w.inv (by rw [← h2.len]; exact repI) hp⟩
  · obtain ⟨v, rfl, r1⟩ := repL1 r
    unfold Rep at r1
    subst r1
    exact .inr ⟨_, rfl, sz hp.1, q _ H _ (Kp.refl H) w.inv repI hp.2⟩
  · exact hp.elim
theorem wc_tuple : WC K S (fun xs H Q => ∃ p ys, xs = [.ref p] ∧ ((SqL K H p ys ∧ ∀ l, H l = none → Q (.ref l) (upd H l (.tup ys))) ∨ (SqT K H p ys ∧ Q (.ref p) H))) rTupleD := by
  intro Z H xs ds P w r hp Q q
  unfold rTupleD at hp
  split at hp
  · obtain ⟨v, rfl, r1⟩ := repL1 r
    unfold Rep at r1
    obtain ⟨p, ys, rfl, h1, h2⟩ := r1
    exact ⟨p, ys, rfl, .inl ⟨.inl (.inl (hide_ex _ _ h1)), fun l hl => q _ _ _ (Kp.new hl) (w.inew hl) (new_tup w hl h2) hp⟩⟩
  · obtain ⟨v, rfl, r1⟩ := repL1 r
    have r2 := r1
    unfold Rep at r1
    obtain ⟨p, ys, rfl, h1, h2⟩ := r1
    exact ⟨p, ys, rfl, .inr ⟨ex_t hide_ex h1, q _ H _ (Kp.refl H) w.inv r2 hp⟩⟩
  · exact hp.elim
def rMin2D : RCD := fun ds P => match ds with
  | [.int i, .int j] => P (.int (if j < i then j else i))
  | _ => False
theorem wc_min2 : WC K S (fun xs H Q => ∃ i j, xs = [.int i, .int j] ∧ Q (.int (if j < i then j else i)) H) rMin2D := by
  intro Z H xs ds P w r hp Q q
  unfold rMin2D at hp
  split at hp
  · obtain ⟨v, u, rfl, r1, r2⟩ := repL2 r
    unfold Rep at r1 r2
    exact ⟨_, _, by rw [r1, r2], q _ H _ (Kp.refl H) w.inv repI hp⟩
  · exact hp.elim
theorem RepL.of_bls {H : Hp} : ∀ {ns : List Bool} {vs : List V}, RepL K H (ns.map D.bl) vs → vs = ns.map V.bl
  | [], _, h => by unfold RepL at h; exact h
  | n :: ns, vs, h => by
    simp only [List.map_cons] at h
    unfold RepL at h
    obtain ⟨v, vs', rfl, h1, h2⟩ := h
    unfold Rep at h1
    rw [h1, RepL.of_bls h2, List.map_cons]
def rAllD : RCD := fun ds P => match ds with
  | [.lst xs] => ∃ ns : List Bool, xs = ns.map D.bl ∧ P (.bl (ns.all id))
  | _ => False
theorem wc_all : WC K S (rAll K) rAllD := by
  intro Z H xs ds P w r hp Q q
  unfold rAllD at hp
  split at hp
  · obtain ⟨v, rfl, r1⟩ := repL1 r
    obtain ⟨ns, rfl, h⟩ := hp
    unfold Rep at r1
    obtain ⟨p, ys, rfl, h1, h2⟩ := r1
    have e := RepL.of_bls h2
    subst e
    exact ⟨p, ns, rfl, .inl (.inl (hide_ex _ _ h1)), q _ H _ (Kp.refl H) w.inv repB h⟩
  · exact hp.elim
end
end DL
end
section
namespace DL
open PySem PySem.Spec PyProof.Rows L2
section
variable {K : PySem.W.Frag} {H H' H0 : Hp} {Z Z' : Addr → Prop}
theorem hide_upd {a : Addr} {o : HO} (z : Z a) : hide (upd H a o) Z = hide H Z := by
  funext b
  unfold hide
  by_cases hb : Z b
  · rw [if_pos hb, if_pos hb]
  · rw [if_neg hb, if_neg hb, upd_ne (fun e => hb (by rw [e]; exact z))]
end
section
variable {K : PySem.W.Frag} {S : Sit} {c : Cl} {B B' : Hp} {Z : Addr → Prop} {σ : L2.St} {H H' : Hp} {ρ : EnvD}
theorem RZ.rebase (r : RZ K S c B Z σ H ρ) : RZ K S c (hide H Z) Z σ H ρ := ⟨r.rv, r.w0, fun a o h => h, r.fp⟩
theorem RZ.fresh0 (r : RZ K S c B Z σ H ρ) {p : Addr} (hp : H p = none) : c.H0 p = none := by
  cases e : c.H0 p with
  | none => rfl
  | some o =>
    have hw : ¬ S.W p := fun w => by
      obtain ⟨u, e'⟩ := S.there H p r.rv.wd.inv w
      rw [hp] at e'; cases e'
    have := r.rv.kp p o e hw
    rw [hp] at this; cases this
theorem RZ.setOwn (r : RZ K S c B Z σ H ρ) (i : Nat) {kd : OwnK} {ds : List D} {p : Addr} {xs : List V} {H1 : Hp} (k : Kp S H H1) (iv : S.I H1) (hp : H p = none) (h1 : H1 p = some (kd.ho xs)) (hf : kd.fits p xs) (q : RepL K (hide H1 (fun a => Z a ∨ a = p)) ds xs) :
    RZ K S c B (fun a => Z a ∨ a = p) (σ.set i (some (.ref p))) H1 (ρ.set i (some (.own kd ds))) := by
  have ez : (fun a => Z a ∨ a ∈ [p]) = fun a => Z a ∨ a = p := by funext a; rw [List.mem_singleton]
  have z := r.setNew i (d := .own kd ds) (v := .ref p) (ft := [p]) k iv (fun a ha => by rw [List.mem_singleton.mp ha]; exact hp) (List.nodup_cons.mpr ⟨by simp, List.nodup_nil⟩) (by
    unfold Own
    exact ⟨p, xs, rfl, rfl, .inr List.mem_cons_self, r.fresh0 hp, h1, hf, by rw [ez]; exact q⟩) rfl
  rw [ez] at z
  exact z
theorem RZ.change (r : RZ K S c B Z σ H ρ) {i : Nat} {d d' : D} {v : V} {H' : Hp} {Z' : Addr → Prop} (hi : ρ[i]? = some (some d)) (ho : d.isOwn = true) (hs : σ[i]? = some (some v)) (zz : ∀ a, Z a → Z' a) (zn : ∀ a, Z' a → ¬ Z a → H a = none ∧ ∃ o, H' a = some o ∧ isX o = false)
    (kp : ∀ ft, Own K H Z c.H0 d v ft → ft.Nodup → (∀ a o, H a = some o → a ∉ ft → H' a = some o) ∧ (∀ a ∈ ft, ∃ o, H' a = some o ∧ isX o = false) ∧ ∃ ft', Own K H' Z' c.H0 d' v ft' ∧ ft'.Nodup ∧ ∀ a ∈ ft', a ∈ ft ∨ H a = none) (ho' : d'.isOwn = true) : RZ K S c B Z' σ H' (ρ.set i (some d')) := by
  have hl := r.rv.len
  obtain ⟨FT, f1, f2⟩ := r.fp
  obtain ⟨u, e1, q, nd⟩ := f1 i d hi ho
  rw [hs] at e1
  cases e1
  obtain ⟨k1, k2, ft', q', nd', sub⟩ := kp (FT i) q nd
  have nw : ∀ a ∈ FT i, c.H0 a = none := fun a ha => (q.in_ a ha).2.1
  have zi : ∀ a ∈ FT i, Z a := fun a ha => (q.in_ a ha).1
  have ih : S.I H' := S.stab H H' (fun w o eo hw => k1 w o eo fun hm => hw.elim (fun hw => r.notW (nw w hm) hw) fun hx => by
    rw [q.noX w hm o eo] at hx; cases hx) r.rv.wd.inv
  have exz : Ex (hide H Z) (hide H' Z') := fun a o e => by
    obtain ⟨n, e⟩ := hide_some.mp e
    refine hide_some.mpr ⟨fun z => ?_, k1 a o e fun hm => n (zi a hm)⟩
    have := (zn a z n).1
    rw [e] at this; cases this
  have zall : ∀ a, Z' a → ∃ o, H' a = some o ∧ isX o = false := fun a z => by
    by_cases za : Z a
    · by_cases hm : a ∈ FT i
      · exact k2 a hm
      · obtain ⟨o, e⟩ := r.rv.wd.zin a za
        exact ⟨o, k1 a o e hm, r.rv.wd.zx a o za e⟩
    · exact (zn a z za).2
  refine ⟨⟨⟨fun b o e => ?_, fun a w => zz a (r.rv.wd.wz a w), fun a z => (zall a z).imp fun o h => h.1, fun a o z e => by
    obtain ⟨u, h1, h2⟩ := zall a z
    rw [h1] at e
    rw [← Option.some.inj e]
    exact h2, ih⟩, fun b o e n => ?_, fun a z => zz a (r.rv.zz a z), by rw [List.length_set]; exact hl, fun j e h n => ?_⟩, r.w0, fun a o e => exz a o (r.ex a o e), fun j => if j = i then ft' else FT j, fun j e h o => ?_, fun j l e e' a h1 o1 h2 o2 m1 m2 => ?_⟩
  · obtain ⟨h1, h2⟩ := r.rv.wd.base b o e
    refine ⟨k1 b o h1 fun hm => ?_, fun z9 => by have q9 := (zn b z9 h2).1; rw [h1] at q9; cases q9⟩
    have := (r.w0.base b o e).1
    rw [nw b hm] at this; cases this
  · exact k1 b o (r.rv.kp b o e n) fun hm => by rw [nw b hm] at e; cases e
  · rcases set_cases h with ⟨rfl, rfl, hb⟩ | ⟨hne, h⟩
    · rw [ho'] at n; cases n
    · obtain ⟨u, e1, q1⟩ := r.rv.sl j e h n
      exact ⟨u, e1, Rep.mono exz e u q1⟩
  · rcases set_cases h with ⟨rfl, rfl, hb⟩ | ⟨hne, h⟩
    · refine ⟨v, hs, ?_, ?_⟩
      · show Own _ _ _ _ _ _ (if j = j then ft' else FT j)
        rw [if_pos rfl]; exact q'
      · show (if j = j then ft' else FT j).Nodup
        rw [if_pos rfl]; exact nd'
    · obtain ⟨u, e1, q1, n1⟩ := f1 j e h o
      refine ⟨u, e1, ?_, ?_⟩
      · show Own _ _ _ _ _ _ (if j = i then ft' else FT j)
        rw [if_neg hne]
        exact Own.mono exz zz (fun a ha u hu => k1 a u hu fun hm => hne (f2 j i e d a h o hi ho ha hm)) q1
      · show (if j = i then ft' else FT j).Nodup
        rw [if_neg hne]; exact n1
  · have m1' : a ∈ (if j = i then ft' else FT j) := m1
    have m2' : a ∈ (if l = i then ft' else FT l) := m2
    have at_ : ∀ j e, ρ[j]? = some (some e) → e.isOwn = true → j ≠ i → a ∈ FT j → a ∈ ft' → False := fun j e h o hne ha hf => by
      rcases sub a hf with hm | hm
      · exact hne (f2 j i e d a h o hi ho ha hm)
      · obtain ⟨u, _, q1, _⟩ := f1 j e h o
        obtain ⟨_, _, o', e'⟩ := q1.in_ a ha
        rw [hm] at e'; cases e'
    rcases set_cases h1 with ⟨ej, _, hb⟩ | ⟨hne, g1⟩
    · rcases set_cases h2 with ⟨el, _, hb'⟩ | ⟨hne', g2⟩
      · rw [ej, el]
      · rw [if_pos ej] at m1'
        rw [if_neg hne'] at m2'
        exact (at_ l e' g2 o2 hne' m2' m1').elim
    · rw [if_neg hne] at m1'
      rcases set_cases h2 with ⟨el, _, hb'⟩ | ⟨hne', g2⟩
      · rw [if_pos el] at m2'
        exact (at_ j e g1 o1 hne m1' m2').elim
      · rw [if_neg hne'] at m2'
        exact f2 j l e e' a g1 o1 g2 o2 m1' m2'
theorem RZ.write (r : RZ K S c B Z σ H ρ) {i : Nat} {kd kd' : OwnK} {ds ds' : List D} {a : Addr} {xs' : List V} (hi : ρ[i]? = some (some (.own kd ds))) (hs : σ[i]? = some (some (.ref a))) (hf : kd'.fits a xs') (q : RepL K (hide H Z) ds' xs') :
    RZ K S c B Z σ (upd H a (kd'.ho xs')) (ρ.set i (some (.own kd' ds'))) := by
  refine r.change hi rfl hs (fun _ z => z) (fun a z n => (n z).elim) (fun ft o nd => ?_) rfl
  unfold Own at o
  obtain ⟨b, xs, e1, rfl, z, n, e2, _, _⟩ := o
  cases e1
  refine ⟨fun b o e hb => by rw [upd_ne (fun q => hb (by rw [q]; exact List.mem_cons_self))]; exact e, fun b hb => by rw [List.mem_singleton.mp hb]; exact ⟨_, upd_same, ho_noX⟩, [a], ?_, nd, fun b hb => .inl hb⟩
  unfold Own
  exact ⟨a, xs', rfl, rfl, z, n, upd_same, hf, by rw [hide_upd z]; exact q⟩
end
section
variable {K : PySem.W.Frag} {S : Sit} {c : Cl} {te : TE} {ta : TA} {tt : TT} {a t : TED} {as : TAD} {p : TTD} {s1 s2 : TS} {d1 d2 : TSD}
theorem ws_next : WS K S c tNext dNext := fun _ σ H ρ _ _ r h f => f.nx σ H ρ r h
def dNever : TSD := fun _ _ => False
theorem ws_never : WS K S c tNever dNever := fun _ _ _ _ _ _ _ h _ => h.elim
theorem ws_seq (h1 : WS K S c s1 d1) (h2 : WS K S c s2 d2) : WS K S c (tSeq s1 s2) (dSeq d1 d2) := fun B σ H ρ Dd D r h f =>
  h1 B σ H ρ _ _ r h ⟨fun σ' H' ρ' r' h' => h2 B σ' H' ρ' Dd D r' h' f, f.rt, f.bk, f.ct⟩
theorem ws_ret (ha : WE K S c te a) : WS K S c (tRet te) (dRet a) := by
  rintro B σ H ρ Dd D ⟨Z, r⟩ h f
  exact ha c.Z0 σ H (view ρ) _ r.view h _ fun v H' d k i q hd => f.rt v H' d (r.rv.kp.trans k) i q hd
theorem ws_if (hp : WT K S c tt p) (h1 : WS K S c s1 d1) (h2 : WS K S c s2 d2) : WS K S c (tIfS tt s1 s2) (dIfS p d1 d2) := by
  rintro B σ H ρ Dd D ⟨Z, r⟩ h f
  refine hp c.Z0 σ H (view ρ) _ r.view h _ fun b H' k i hb => ?_
  cases b with
  | true =>
    rw [if_pos rfl] at hb ⊢
    exact h1 B σ H' ρ Dd D ⟨Z, r.step k i⟩ hb f
  | false =>
    rw [if_neg Bool.false_ne_true] at hb ⊢
    exact h2 B σ H' ρ Dd D ⟨Z, r.step k i⟩ hb f
theorem ws_drop (ha : WE K S c te a) : WS K S c (tDrop te) (dDrop a) := by
  rintro B σ H ρ Dd D ⟨Z, r⟩ h f
  exact ha c.Z0 σ H (view ρ) _ r.view h _ fun v H' d k i q hd => f.nx σ H' ρ ⟨Z, r.step k i⟩ hd
theorem ws_set {i : Nat} (ha : WE K S c te a) : WS K S c (tAsg te (gName i)) (dSet i a) := by
  rintro B σ H ρ Dd D ⟨Z, r⟩ h f
  exact ha Z σ H ρ _ r.rv h _ fun v H' d k iv q hd => f.nx _ H' _ ⟨Z, (r.step k iv).set i q⟩ hd
theorem we_of_wn (h : WN K S c te as) : WE K S c te (dOfN as) := by
  intro Z σ H ρ P r hp Q q
  refine h Z σ H ρ _ r hp Q fun p H' ds xs k i e0 e1 rl hd => q _ H' (.lst ds) k i ?_ hd
  unfold Rep
  exact ⟨p, xs, rfl, hide_some.mpr ⟨r.wd.fresh e0, e1⟩, RepL.mono (hide_weak fun a z => .inl z) ds xs rl⟩
theorem new_own {Z : Addr → Prop} {H : Hp} {ds : List D} {vs : List V} {l : Addr} (w : Wd S Z H) (hl : H l = none) (r : RepL K (hide H Z) ds vs) {o : HO} : RepL K (hide (upd H l o) (fun a => Z a ∨ a = l)) ds vs :=
  RepL.mono (fun a u e => by
    obtain ⟨n, e⟩ := hide_some.mp e
    have hne : a ≠ l := ne_of_none e hl
    exact hide_some.mpr ⟨fun z => z.elim n hne, by rw [upd_ne hne]; exact e⟩) ds vs r
theorem wn_lst (hs : WA K S c ta as) : WN K S c (tLst ta) (nLst as) := by
  intro Z σ H ρ P rv h Q q
  refine hs Z σ H ρ _ rv h _ fun vs H1 ds k1 i1 r1 ⟨hz, h1⟩ => ?_
  have rv1 := rv.step k1 i1
  refine ⟨sz (by rw [← r1.len]; exact hz), fun l hl => ?_⟩
  have h0 : H l = none := by
    cases e : H l with
    | none => rfl
    | some o =>
      have hw : ¬ S.W l := fun w => by
        obtain ⟨u, e'⟩ := S.there H1 l i1 w
        rw [hl] at e'; cases e'
      have := k1 l o e hw
      rw [hl] at this; cases this
  exact q l _ ds vs (k1.trans (Kp.new hl)) (rv1.wd.inew hl) h0 upd_same (new_own rv1.wd hl r1) h1
theorem back_none {H H1 : Hp} {l : Addr} (k : Kp S H H1) (i1 : S.I H1) (hl : H1 l = none) : H l = none := by
  cases e : H l with
  | none => rfl
  | some o =>
    have hw : ¬ S.W l := fun w => by
      obtain ⟨u, e'⟩ := S.there H1 l i1 w
      rw [hl] at e'; cases e'
    have := k l o e hw
    rw [hl] at this; cases this
def nList (as : TAD) : TAD := fun ρ P => as ρ fun ds => match ds with
  | [x] => match x.items with
    | some xs => P xs
    | none => False
  | _ => False
theorem wn_list (hs : WA K S c ta as) : WN K S c (tCB (fun xs H Q => ∃ p ys, xs = [.ref p] ∧ (SqL K H p ys ∨ SqT K H p ys) ∧ ∀ l, H l = none → Q (.ref l) (upd H l (.lst ys))) ta) (nList as) := by
  intro Z σ H ρ P rv h Q q
  refine hs Z σ H ρ _ rv h _ fun vs H1 ds k1 i1 r1 h1 => ?_
  have rv1 := rv.step k1 i1
  split at h1
  · obtain ⟨v, rfl, r9⟩ := repL1 r1
    split at h1
    · rename_i e
      obtain ⟨p, ys, rfl, g1, g2⟩ := items_rep e r9
      exact ⟨p, ys, rfl, sq_hide g1, fun l hl => q l _ _ ys (k1.trans (Kp.new hl)) (rv1.wd.inew hl) (back_none k1 i1 hl) upd_same (new_own rv1.wd hl g2) h1⟩
    · exact h1.elim
  · exact h1.elim
theorem ws_setN {i : Nat} (ha : WN K S c te as) : WS K S c (tAsg te (gName i)) (dSetN i as) := by
  rintro B σ H ρ Dd D ⟨Z, r⟩ h f
  exact ha Z σ H ρ _ r.rv h _ fun p H' ds xs k iv e0 e1 rl hd => f.nx _ H' _ ⟨_, r.setOwn (kd := .lst) i k iv e0 e1 trivial rl⟩ hd
end
section
variable {K : PySem.W.Frag} {S : Sit} {c : Cl} {te : TE} {a : TED} {g : TG} {gs : TGs} {gd : TGD} {gds : List D → EnvD → (EnvD → Prop) → Prop} {ix iy : List Nat}
theorem wg_name {i : Nat} : WG K (gName i) (hName i) [i] := fun Z H R hR σ ρ d v P r q h Q k => k _ _ (hR σ ρ i d v (by simp) r q) h
theorem wgs_nil : WGs K gNil hNil [] := by
  intro Z H R hR σ ρ ds vs P r q h Q k
  cases ds with
  | nil =>
    unfold RepL at q
    exact ⟨q, k σ ρ r h⟩
  | cons _ _ => exact h.elim
theorem wgs_cons (h1 : WG K g gd ix) (h2 : WGs K gs gds iy) : WGs K (gCons g gs) (hCons gd gds) (ix ++ iy) := by
  intro Z H R hR σ ρ ds vs P r q h Q k
  cases ds with
  | nil => exact h.elim
  | cons d ds =>
    unfold RepL at q
    obtain ⟨v, vs', rfl, q1, q2⟩ := q
    refine ⟨v, vs', rfl, ?_⟩
    refine h1 Z H R (fun σ ρ i d v hi => hR σ ρ i d v (List.mem_append_left _ hi)) σ ρ d v _ r q1 h _ fun σ' ρ' r' h' => ?_
    exact h2 Z H R (fun σ ρ i d v hi => hR σ ρ i d v (List.mem_append_right _ hi)) σ' ρ' ds vs' P r' q2 h' Q k
theorem wg_tup {n : Nat} (h : WGs K gs gds ix) : WG K (gTup K n gs) (hTup n gds) ix := by
  intro Z H R hR σ ρ d v P r q hp Q k
  cases d <;> try exact hp.elim
  obtain ⟨hl, hp⟩ := hp
  unfold Rep at q
  obtain ⟨p, xs, rfl, h1, h2⟩ := q
  exact ⟨p, xs, rfl, ex_t hide_ex h1, by rw [← h2.len]; exact hl, h Z H R hR σ ρ _ xs P r h2 hp Q k⟩
end
section
variable {K : PySem.W.Frag} {S : Sit} {c : Cl} {te : TE} {ta : TA} {a : TED} {as : TAD}
theorem wi_list (ha : WE K S c te a) : WI K S c (iList K te) (iLstD a) := by
  intro Z σ H ρ P rv h Q q
  refine ha Z σ H ρ _ rv h _ fun v H1 d k iv r hd => ?_
  cases d <;> try exact hd.elim
  rename_i ds
  unfold Rep at r
  obtain ⟨p, xs, rfl, h1, h2⟩ := r
  refine ⟨p, rfl, ⟨xs, .inl (.inl (hide_ex _ _ h1))⟩, q _ H1 ds k iv hd fun H2 Z2 e z => ?_⟩
  have g1 : H2 p = some (.lst xs) := hide_ex _ _ (e _ _ h1)
  have g2 : SqL K H2 p xs := .inl (.inl g1)
  refine ⟨fun i d hi => ?_, ⟨xs, g2, by rw [h2.len]; exact Nat.le_refl _⟩⟩
  obtain ⟨x, hx, rx⟩ := h2.get hi
  refine ⟨⟨xs, x, g2, hx⟩, fun y H' ⟨e1, e2⟩ => ?_⟩
  subst e1
  have e3 := e2 xs g2
  rw [hx] at e3
  cases e3
  exact ⟨fun _ _ h => h, Rep.mono e d x rx⟩
theorem wi_tup (ha : WE K S c te a) : WI K S c (iTup K te) (iTupD a) := by
  intro Z σ H ρ P rv h Q q
  refine ha Z σ H ρ _ rv h _ fun v H1 d k iv r hd => ?_
  cases d <;> try exact hd.elim
  rename_i ds
  unfold Rep at r
  obtain ⟨p, xs, rfl, h1, h2⟩ := r
  refine ⟨p, rfl, ⟨xs, ex_t hide_ex h1⟩, q _ H1 ds k iv hd fun H2 Z2 e z => ?_⟩
  have g2 : SqT K H2 p xs := ex_t (fun a o q => hide_ex _ _ (e a o q)) h1
  refine ⟨fun i d hi => ?_, ⟨xs, g2, by rw [h2.len]; exact Nat.le_refl _⟩⟩
  obtain ⟨x, hx, rx⟩ := h2.get hi
  refine ⟨⟨xs, x, g2, hx⟩, fun y H' ⟨e1, e2⟩ => ?_⟩
  subst e1
  have e3 := e2 xs g2
  rw [hx] at e3
  cases e3
  exact ⟨fun _ _ h => h, Rep.mono e d x rx⟩
theorem rng_yields {lo : Int} {n : Nat} {B : Hp} : Yields K (Itr lo n) B (rngD lo n) := by
  intro H2 Z2 e z
  have hl : (rngD lo n).length = n := by unfold rngD; simp
  refine ⟨fun i d hi => ?_, by rw [hl]; exact Nat.le_refl n⟩
  have hb : i < n := by
    have := (List.getElem?_eq_some_iff.mp hi).1
    omega
  have e1 : d = .int (lo + (i : Int)) := by
    unfold rngD at hi
    rw [List.getElem?_map, List.getElem?_range hb] at hi
    cases hi
    rfl
  subst e1
  refine ⟨hb, fun y H' ⟨e1, e2⟩ => ?_⟩
  subst e1 e2
  exact ⟨fun _ _ h => h, repI⟩
theorem wi_rng1 (hs : WA K S c ta as) : WI K S c (iRng1 ta) (iRng1D as) := by
  intro Z σ H ρ P rv h Q q
  refine hs Z σ H ρ _ rv h _ fun vs H1 ds k iv r hd => ?_
  split at hd
  · obtain ⟨v, rfl, r1⟩ := repL1 r
    unfold Rep at r1
    subst r1
    exact ⟨_, rfl, by omega, by omega, q _ H1 _ k iv hd.2 rng_yields⟩
  · exact hd.elim
theorem wi_rng2 (hs : WA K S c ta as) : WI K S c (iRng2 ta) (iRng2D as) := by
  intro Z σ H ρ P rv h Q q
  refine hs Z σ H ρ _ rv h _ fun vs H1 ds k iv r hd => ?_
  split at hd
  · obtain ⟨v, u, rfl, r1, r2⟩ := repL2 r
    unfold Rep at r1 r2
    subst r1 r2
    exact ⟨_, _, rfl, hd.1, q _ H1 _ k iv hd.2 rng_yields⟩
  · exact hd.elim
theorem wiv_rng1 (hs : WA K S c ta as) : WIv K S c (iRng1 ta) (iRng1D as) := by
  intro Z σ H ρ P rv h Q q
  refine hs Z σ H ρ _ rv h _ fun vs H1 ds k iv r hd => ?_
  split at hd
  · obtain ⟨v, rfl, r1⟩ := repL1 r
    unfold Rep at r1
    subst r1
    exact ⟨_, rfl, by omega, by omega, q _ H1 _ k iv hd.2 fun _ => rng_yields⟩
  · exact hd.elim
end
section
variable {K : PySem.W.Frag} {S : Sit} {c : Cl} {wi : TI} {it : TAD} {g : TG} {gd : TGD} {ix : List Nat} {tb : TS} {body : TSD} {tt : TT} {p : TTD}
theorem loop_ok (hg : WG K g gd ix) (hb : WS K S c tb body) {J : It} {B B1 : Hp} {Z : Addr → Prop} {σ : L2.St} {H : Hp} {ρ : EnvD} {ds : List D} {Dd : EndsD} {D : Ends} (r : RZ K S c B1 Z σ H ρ) (eB : Ex B B1) (y : Yields K J B1 ds) (h : loopD ds gd body Dd ρ) (f : Fit K S c B Dd D) :
    ∃ W : Nat → Nat → L2.St → Hp → Prop, (∃ m, W 0 m σ H) ∧ ∀ i m σ H, W i m σ H →
      (J.stop i H ∧ D.nx σ H) ∨ (J.go i H ∧ ∃ N : L2.St → Hp → Prop, (∀ σ' H', N σ' H' → ∃ m', m' < m ∧ W (i + 1) m' σ' H') ∧ ∀ x H', J.yld i H x H' → g x σ H' fun σ2 H2 => tb { D with nx := N, ct := N, bk := D.nx } σ2 H2) := by
  unfold loopD at h
  obtain ⟨Jd, j0, jt, je⟩ := h
  refine ⟨fun i m σ' H' => i + m = ds.length ∧ ∃ ρ', RS K S c B1 σ' H' ρ' ∧ Jd i ρ', ⟨ds.length, by omega, ρ, ⟨Z, r⟩, j0⟩, fun i m σ1 H1 ⟨hm, ρ1, ⟨Z1, r1⟩, j1⟩ => ?_⟩
  obtain ⟨y1, y2⟩ := y H1 Z1 r1.ex r1.rv.wd.zin
  by_cases hi : i = ds.length
  · subst hi
    exact .inl ⟨y2, f.nx σ1 H1 ρ1 ⟨Z1, r1.base eB⟩ (je ρ1 j1)⟩
  · have hlt : i < ds.length := by omega
    obtain ⟨g1, g2⟩ := y1 i ds[i] (List.getElem?_eq_getElem hlt)
    refine .inr ⟨g1, fun σ' H' => i + 1 + (m - 1) = ds.length ∧ ∃ ρ', RS K S c B1 σ' H' ρ' ∧ Jd (i + 1) ρ', fun σ' H' hw => ⟨m - 1, by omega, hw⟩, fun x H2 hx => ?_⟩
    obtain ⟨e2, rx⟩ := g2 x H2 hx
    have k2 : Kp S H1 H2 := Kp.of e2
    have i2 : S.I H2 := S.stab H1 H2 (fun w o eo _ => e2 w o eo) r1.rv.wd.inv
    refine hg Z1 H2 (fun σ ρ => RZ K S c B1 Z1 σ H2 ρ) (fun σ ρ i d v _ r q => r.set i q) σ1 ρ1 ds[i] x _ (r1.step k2 i2) rx (jt i _ ρ1 (List.getElem?_eq_getElem hlt) j1) _ fun σ3 ρ3 r3 h3 => ?_
    refine hb B1 σ3 H2 ρ3 _ _ ⟨Z1, r3⟩ h3 ⟨fun σ' H' ρ' r' h' => ⟨by omega, ρ', r', h'⟩, f.rt, fun σ' H' ρ' r' h' => ?_, fun σ' H' ρ' r' h' => ⟨by omega, ρ', r', h'⟩⟩
    obtain ⟨Z', r'⟩ := r'
    exact f.nx σ' H' ρ' ⟨Z', r'.base eB⟩ h'
theorem ws_for (hi : WI K S c wi it) (hg : WG K g gd ix) (hb : WS K S c tb body) : WS K S c (tFor wi g tb) (dFor it gd body) := by
  rintro B σ H ρ Dd D ⟨Z, r⟩ h f
  refine hi Z σ H ρ _ r.rv h _ fun J H1 ds k iv hd y => ?_
  have r1 := r.step k iv
  exact loop_ok hg hb r1.rebase (fun a o e => r1.ex a o e) y hd f
theorem ws_forV (hi : WIv K S c wi it) (hg : WG K g gd ix) (hb : WS K S c tb body) : WS K S c (tFor wi g tb) (dForV it gd body) := by
  rintro B σ H ρ Dd D ⟨Z, r⟩ h f
  refine hi c.Z0 σ H (view ρ) _ r.view h _ fun J H1 ds k iv hd y => ?_
  have r1 := r.step k iv
  exact loop_ok hg hb r1.rebase (fun a o e => r1.ex a o e) (y _) hd f
end
end DL
end
section
namespace DL
open PySem PySem.Spec PyProof.Rows L2
theorem wipeD_len (ρ : EnvD) : ∀ vs : List Nat, (wipeD ρ vs).length = ρ.length
  | [] => rfl
  | v :: vs => by unfold wipeD; rw [List.length_set, wipeD_len ρ vs]
theorem wipeD_some {ρ : EnvD} {i : Nat} {x : D} : ∀ {vs : List Nat}, (wipeD ρ vs)[i]? = some (some x) → ρ[i]? = some (some x) ∧ i ∉ vs
  | [], h => ⟨h, by simp⟩
  | v :: vs, h => by
    unfold wipeD at h
    by_cases hi : v = i
    · subst hi
      by_cases hv : v < (wipeD ρ vs).length
      · rw [List.getElem?_set_self hv] at h; cases h
      · rw [List.getElem?_eq_none (by simpa using hv)] at h; cases h
    · rw [List.getElem?_set_ne hi] at h
      obtain ⟨h1, h2⟩ := wipeD_some h
      exact ⟨h1, by simp only [List.mem_cons, not_or]; exact ⟨fun e => hi e.symm, h2⟩⟩
theorem wipe_get {σ : L2.St} {i : Nat} : ∀ {vs : List Nat}, (wipe σ vs)[i]? = if i ∈ vs then (if i < σ.length then some none else none) else σ[i]?
  | [] => by simp [wipe]
  | v :: vs => by
    unfold wipe
    by_cases hv : v = i
    · subst hv
      rw [if_pos List.mem_cons_self]
      by_cases hb : v < σ.length
      · rw [if_pos hb, List.getElem?_set_self (by rw [wipe_length]; exact hb)]
      · rw [if_neg hb, List.getElem?_eq_none (by rw [List.length_set, wipe_length]; omega)]
    · rw [List.getElem?_set_ne hv, wipe_get]
      have e : (i ∈ v :: vs) ↔ i ∈ vs := by
        simp only [List.mem_cons]
        exact ⟨fun h => h.elim (fun h => (hv h.symm).elim) id, .inr⟩
      simp only [e]
theorem wipe_set {σ : L2.St} {i : Nat} {x : Option V} {vs : List Nat} (h : i ∈ vs) : wipe (σ.set i x) vs = wipe σ vs := by
  apply List.ext_getElem?
  intro j
  rw [wipe_get, wipe_get, List.length_set]
  by_cases hj : j ∈ vs
  · rw [if_pos hj, if_pos hj]
  · rw [if_neg hj, if_neg hj, List.getElem?_set_ne (fun e => hj (by rw [← e]; exact h))]
theorem wipe_wipe {σ : L2.St} {vs : List Nat} : wipe (wipe σ vs) vs = wipe σ vs := by
  apply List.ext_getElem?
  intro j
  rw [wipe_get, wipe_length]
  by_cases hj : j ∈ vs
  · rw [if_pos hj, wipe_get, if_pos hj]
  · rw [if_neg hj]
section
variable {K : PySem.W.Frag} {S : Sit} {c : Cl} {wi : TI} {it : TAD} {g : TG} {gd : TGD} {ix vs : List Nat} {tt : TT} {p : TTD} {te : TE} {e : TED}
theorem wt_yes : WT K S c tYes dYes := fun Z σ H ρ P r h Q q => q true H (Kp.refl H) r.wd.inv h
theorem wn_lc (hi : WI K S c wi it) (hg : WG K g gd ix) (hix : ∀ i ∈ ix, i ∈ vs) (hp : WT K S c tt p) (he : WE K S c te e) : WN K S c (tLc wi g tt te vs) (nLc it gd p e vs) := by
  intro Z σ H ρ P rv h Q q
  refine hi Z σ H ρ _ rv h _ fun J H1 ds k iv hd y => ?_
  have rv1 := rv.step k iv
  intro Dl hD
  unfold compD at hd
  obtain ⟨Jd, j0, jt, je⟩ := hd
  have h0 : H Dl = none := back_none k iv hD
  have zD : ¬ Z Dl := rv.wd.fresh h0
  have ex0 : ∀ {H2 : Hp}, Kp S H1 H2 → Ex (hide H1 Z) (hide H2 (fun a => Z a ∨ a = Dl)) := fun {H2} k2 a o e => by
    obtain ⟨n, e⟩ := hide_some.mp e
    have hne : a ≠ Dl := ne_of_none e hD
    exact hide_some.mpr ⟨fun z => z.elim n hne, k2 a o e fun w => n (rv1.wd.wz a w)⟩
  have RV1 : ∀ {H2 : Hp}, Kp S H1 H2 → S.I H2 → (∃ o, H2 Dl = some o ∧ isX o = false) → RV K S c (fun a => Z a ∨ a = Dl) (wipe σ vs) H2 (wipeD ρ vs) := fun {H2} k2 i2 hDl => by
    have r2 := rv1.step k2 i2
    refine ⟨⟨fun b u e => ⟨(r2.wd.base b u e).1, fun z => z.elim (r2.wd.base b u e).2 fun q => by have q9 := (rv1.wd.base b u e).1; rw [q, hD] at q9; cases q9⟩, fun a w => .inl (r2.wd.wz a w), fun a z => ?_, fun a o z e => z.elim (fun z => r2.wd.zx a o z e) (fun z => by
      obtain ⟨u, h1, h2⟩ := hDl
      rw [z, h1] at e
      rw [← Option.some.inj e]
      exact h2), i2⟩, r2.kp, fun a z => .inl (rv.zz a z), by rw [wipe_length, wipeD_len]; exact rv.len, fun i d hi n => ?_⟩
    · rcases z with z | z
      · exact r2.wd.zin a z
      · subst z; exact hDl.imp fun o h => h.1
    · obtain ⟨h1, h2⟩ := wipeD_some hi
      obtain ⟨v, e1, q1⟩ := rv1.sl i d h1 n
      exact ⟨v, by rw [wipe_get, if_neg h2]; exact e1, Rep.mono (ex0 k2) d v q1⟩
  refine ⟨fun i m H2 => i + m = ds.length ∧ Kp S H1 H2 ∧ S.I H2 ∧ ∃ acc xs, H2 Dl = some (.lst xs) ∧ RepL K (hide H2 (fun a => Z a ∨ a = Dl)) acc xs ∧ Jd i acc, ⟨ds.length, by omega, Kp.new hD, rv1.wd.inew hD, [], [], upd_same, RepL.nil, j0⟩, ?_⟩
  rintro i m H2 ⟨hm, k2, i2, acc, xs, hl, rl, jd⟩
  have r2 := RV1 k2 i2 ⟨_, hl, rfl⟩
  obtain ⟨y1, y2⟩ := y H2 (fun a => Z a ∨ a = Dl) (ex0 k2) r2.wd.zin
  by_cases hi' : i = ds.length
  · subst hi'
    exact .inl ⟨y2, q Dl H2 acc xs (k.trans k2) i2 h0 hl rl (je acc jd)⟩
  · have hlt : i < ds.length := by omega
    obtain ⟨g1, g2⟩ := y1 i ds[i] (List.getElem?_eq_getElem hlt)
    refine .inr ⟨g1, fun H' => i + 1 + (m - 1) = ds.length ∧ Kp S H1 H' ∧ S.I H' ∧ ∃ acc xs, H' Dl = some (.lst xs) ∧ RepL K (hide H' (fun a => Z a ∨ a = Dl)) acc xs ∧ Jd (i + 1) acc, fun H' hw => ⟨m - 1, by omega, hw⟩, fun x H3 hx => ?_⟩
    obtain ⟨e3, rx⟩ := g2 x H3 hx
    have k3 : Kp S H2 H3 := Kp.of e3
    have i3 : S.I H3 := S.stab H2 H3 (fun w o eo _ => e3 w o eo) i2
    have r3 := r2.step k3 i3
    obtain ⟨hz, ht⟩ := jt i ds[i] acc (List.getElem?_eq_getElem hlt) jd
    refine hg (fun a => Z a ∨ a = Dl) H3 (fun σ' ρ' => RV K S c (fun a => Z a ∨ a = Dl) σ' H3 ρ' ∧ wipe σ' vs = wipe σ vs) (fun σ' ρ' j d v hj r q => ⟨r.1.set j q, by rw [wipe_set (hix j hj)]; exact r.2⟩) (wipe σ vs) (wipeD ρ vs) ds[i] x _ ⟨r3, wipe_wipe⟩ rx ht _ fun σ4 ρ4 ⟨r4, w4⟩ h4 => ?_
    refine ⟨w4, ?_⟩
    refine hp _ σ4 H3 ρ4 _ r4 h4 _ fun b H5 k5 i5 h5 => ?_
    have r5 := r4.step k5 i5
    have hl3 : H3 Dl = some (.lst xs) := e3 Dl _ hl
    have hwD : ¬ S.W Dl := fun w => zD (rv.wd.wz Dl w)
    have hl5 : H5 Dl = some (.lst xs) := k5 Dl _ hl3 hwD
    have rl5 := RepL.mono (r4.wd.ex k5) acc xs (RepL.mono (r2.wd.ex k3) acc xs rl)
    cases b with
    | true =>
      rw [if_pos rfl] at h5 ⊢
      refine he _ σ4 H5 ρ4 _ r5 h5 _ fun v H6 d6 k6 i6 r6 h6 => ?_
      have hl6 : H6 Dl = some (.lst xs) := k6 Dl _ hl5 hwD
      have rl6 := RepL.mono (r5.wd.ex k6) acc xs rl5
      have k16 : Kp S H1 H6 := ((k2.trans k3).trans k5).trans k6
      refine ⟨xs, hl6, szl (by rw [← rl.len]; exact hz), by omega, fun b o e n => ?_, S.stab H6 _ (fun w o eo hw => by
        rw [upd_ne fun e => hw.elim (fun hw => hwD (by rw [← e]; exact hw)) fun hx => by
          rw [e, hl6] at eo; cases eo; cases hx]
        exact eo) i6, acc ++ [d6], xs ++ [v], upd_same, ?_, h6⟩
      · rw [upd_ne (ne_of_none e hD)]
        exact k16 b o e n
      · rw [hide_upd (.inr rfl)]
        exact rl6.append (RepL.cons r6 RepL.nil)
    | false =>
      rw [if_neg Bool.false_ne_true] at h5 ⊢
      exact ⟨by omega, (k2.trans k3).trans k5, i5, acc, xs, hl5, rl5, h5⟩
end
theorem fget_rep {K : PySem.W.Frag} {H : Hp} : ∀ {fn : List Str} {ds : List D} {xs : List V} {g : Str} {d : D}, RepL K H ds xs → fgetD fn ds g = some d → ∃ v, (fn.zip xs).lookup g = some v ∧ Rep K H d v
  | [], _, _, _, _, _, h => by simp [fgetD] at h
  | _ :: _, [], _, _, _, _, h => by simp [fgetD] at h
  | f :: fs, d :: ds, _, g, d', r, h => by
    unfold RepL at r
    obtain ⟨v, vs, rfl, h1, h2⟩ := r
    unfold fgetD at h
    by_cases e : g = f
    · rw [if_pos e] at h
      cases h
      subst e
      exact ⟨v, by simp [List.lookup], h1⟩
    · rw [if_neg e] at h
      obtain ⟨v', e1, r1⟩ := fget_rep h2 h
      have qw : (g == f) = false := by simpa using e
      exact ⟨v', by simp [List.lookup, qw]; exact e1, r1⟩
theorem zip_none : ∀ {fn : List Str} {xs : List V} {g : Str}, g ∉ fn → (fn.zip xs).lookup g = none
  | [], _, _, _ => by simp
  | _ :: _, [], _, _ => by simp
  | f :: fs, x :: xs, g, h => by
    have e : ¬ g = f := fun e => h (by simp [e])
    have qw : (g == f) = false := by simpa using e
    simp only [List.zip_cons_cons, List.lookup, qw]
    exact zip_none fun q => h (List.mem_cons_of_mem _ q)
section
variable {K : PySem.W.Frag} {S : Sit} {c : Cl} {ta : TE} {a : TED} {ts : TA} {as : TAD} {C : Addr} {f m : Str}
theorem we_fld (hc : Cls K C) (hn : NoAttr K C f) (ha : WE K S c ta a) : WE K S c (tFld K ta f) (dFldC C f a) := by
  intro Z σ H ρ P rv h Q q
  refine ha Z σ H ρ _ rv h _ fun v H1 d k iv r hd => ?_
  cases d <;> try exact hd.elim
  obtain ⟨rfl, hd⟩ := hd
  unfold Rep at r
  obtain ⟨p, dx, xs, rfl, h1, h2, h3⟩ := r
  split at hd
  · rename_i d e
    obtain ⟨v, e1, r1⟩ := fget_rep h3 e
    exact ⟨p, _, dx, _, v, rfl, hide_ex _ _ h1, hc, hn, e1, q v H1 d k iv r1 hd⟩
  · exact hd.elim
theorem we_call0 {spd : SpD} (hs : WA K S c ts as) : WE K S c (tCall (liftSp K S spd) [] E0 ts) (dCall spd x0 as) := by
  intro Z σ H ρ P rv h Q q
  refine hs Z σ H ρ _ rv h _ fun vs H1 ds k iv r hd => ?_
  have rv1 := rv.step k iv
  rw [List.append_nil]
  exact ⟨Z, ds, P, x0, rv1.wd, r, hd, fun v H' d k' i' r' h' => q v H' d (k.trans k') i' r' h', fun _ _ _ _ _ _ _ h => h.elim⟩
theorem we_meth0 {spd : SpD} (ha : WE K S c ta a) (hs : WA K S c ts as) : WE K S c (tMeth C m (liftSp K S spd) [] E0 ta ts) (dMeth C m spd x0 a as) := by
  intro Z σ H ρ P rv h Q q
  refine ha Z σ H ρ _ rv h _ fun v H1 d k iv r hd => ?_
  have rv1 := rv.step k iv
  cases d <;> try exact hd.elim
  obtain ⟨⟨rfl, hm⟩, hd⟩ := hd
  have r0 := r
  unfold Rep at r
  obtain ⟨p, dx, xs, rfl, h1, h2, h3⟩ := r
  refine ⟨p, dx, _, rfl, hide_ex _ _ h1, zip_none hm, ?_⟩
  refine hs Z σ H1 ρ _ rv1 hd _ fun vs H2 es k2 i2 r2 h4 => ?_
  have rv2 := rv1.step k2 i2
  rw [List.append_nil]
  exact ⟨Z, _, P, x0, rv2.wd, RepL.cons (Rep.mono (rv1.wd.ex k2) _ _ r0) r2, h4, fun v H' d k' i' r' h' => q v H' d ((k.trans k2).trans k') i' r' h', fun _ _ _ _ _ _ _ h => h.elim⟩
theorem we_prop {spd : SpD} (ha : WE K S c ta a) : WE K S c (tProp C (liftSp K S spd) [] E0 ta) (dProp C spd a) := by
  intro Z σ H ρ P rv h Q q
  refine ha Z σ H ρ _ rv h _ fun v H1 d k iv r hd => ?_
  have rv1 := rv.step k iv
  cases d <;> try exact hd.elim
  obtain ⟨rfl, hd⟩ := hd
  have r0 := r
  unfold Rep at r
  obtain ⟨p, dx, xs, rfl, h1, h2, h3⟩ := r
  exact ⟨p, dx, _, rfl, hide_ex _ _ h1, Z, _, P, x0, rv1.wd, RepL.cons r0 RepL.nil, hd, fun v H' d k' i' r' h' => q v H' d (k.trans k') i' r' h', fun _ _ _ _ _ _ _ h => h.elim⟩
def liftIn (K : PySem.W.Frag) (S : Sit) (C : Addr) (spd : InD) : Sp := fun us H Q E => ∃ (p dx : Addr) (vs : List V) (Z : Addr → Prop) (ds : List D) (P : List Str → List D → Prop) (x : XD), us = .ref p :: vs ∧ H p = some (.ins C dx []) ∧ Wd S Z H ∧ Z p ∧ ¬ S.W p ∧
  S.Hs p = none ∧ RepL K (hide H Z) ds vs ∧ spd ds P x ∧
  (∀ H' fn es xs, (∀ b o, H b = some o → b ≠ p → ¬ S.W b → H' b = some o) → S.I H' → H' p = some (.ins C dx (fn.zip xs)) → fn.length = xs.length → RepL K (hide H' Z) es xs → P fn es → Q .non H') ∧
  (∀ cls dd H' fs, (∀ b o, H b = some o → b ≠ p → ¬ S.W b → H' b = some o) → S.I H' → XRep K (hide H' (fun a => Z a ∧ a ≠ p)) dd fs → x cls fs → E (.ref cls) dd H')
theorem in_of {spd : InD} {Z : Addr → Prop} {H1 H2 : Hp} {ds : List D} {vs : List V} {x dx : Addr} {P : D → Prop} {xd : XD} {Q : VK} {E : XK} (w : Wd S Z H1) (k1 : Kp S H1 H2) (i1 : S.I H2) (hx : H1 x = none) (hdx : H1 dx = none)
    (h2x : H2 x = some (.ins C dx [])) (h2d : ∃ o, H2 dx = some o ∧ isX o = false) (r : RepL K (hide H2 (fun a => Z a ∨ a = x ∨ a = dx)) ds vs)
    (h : spd ds (fun fn es => P (.ins C fn es)) xd) (q : ∀ v H' d, Kp S H1 H' → S.I H' → Rep K (hide H' Z) d v → P d → Q v H')
    (qe : ∀ cls dd H' fs, Kp S H1 H' → S.I H' → XRep K (hide H' Z) dd fs → xd cls fs → E (.ref cls) dd H') :
    liftIn K S C spd (.ref x :: vs) H2 (fun v H2 => v = .non ∧ Q (.ref x) H2) E := by
  have nw : ∀ {y : Addr}, H1 y = none → ¬ S.W y := fun {y} hy wy => by
    obtain ⟨o, e⟩ := w.zin y (w.wz y wy)
    rw [hy] at e; cases e
  have hs : ∀ {y : Addr}, H1 y = none → S.Hs y = none := fun {y} hy => by
    cases e : S.Hs y with
    | none => rfl
    | some o =>
      have := (w.base y o e).1
      rw [hy] at this; cases this
  have kk : ∀ {H' : Hp}, (∀ b o, H2 b = some o → b ≠ x → ¬ S.W b → H' b = some o) → Kp S H1 H' := fun {H'} k b o e n => k b o (k1 b o e n) (ne_of_none e hx) n
  refine ⟨x, dx, vs, fun a => Z a ∨ a = x ∨ a = dx, ds, _, xd, rfl, h2x, ⟨fun b o e => ?_, fun a wa => .inl (w.wz a wa), fun a z => ?_, fun a o z e => z.elim (fun z => (w.step k1 i1).zx a o z e) (fun z => z.elim (fun z => by rw [z, h2x] at e; cases e; rfl) (fun z => by
    obtain ⟨u, h1, h2⟩ := h2d
    rw [z, h1] at e
    rw [← Option.some.inj e]
    exact h2)), i1⟩, .inr (.inl rfl), nw hx, hs hx, r, h, fun H' fn es xs k i' e1 e2 rl hp => ⟨rfl, ?_⟩, fun cls dd H' fs k i' xr hxd => ?_⟩
  · obtain ⟨h1, h2⟩ := w.base b o e
    exact ⟨k1 b o h1 fun q => h2 (w.wz b q), fun z => z.elim h2 fun z => z.elim (fun q => by rw [q, hx] at h1; cases h1) fun q => by rw [q, hdx] at h1; cases h1⟩
  · rcases z with z | z | z
    · exact (w.step k1 i1).zin a z
    · subst z; exact ⟨_, h2x⟩
    · subst z; exact h2d.imp fun o h => h.1
  · refine q _ H' (.ins C fn es) (kk k) i' ?_ hp
    unfold Rep
    exact ⟨x, dx, xs, rfl, hide_some.mpr ⟨w.fresh hx, e1⟩, e2, RepL.mono (hide_weak fun a z => .inl z) es xs rl⟩
  · exact qe cls dd H' fs (kk k) i' (XRep.mono (hide_weak fun a z => ⟨.inl z, fun e => by rw [e] at z; exact w.fresh hx z⟩) xr) hxd
theorem made_heap {Z : Addr → Prop} {H1 : Hp} {x dx : Addr} (w : Wd S Z H1) (hx : H1 x = none) (hdx : H1 dx = none) (hne : dx ≠ x) :
    Kp S H1 (upd (upd H1 dx (.own x)) x (.ins C dx [])) ∧ S.I (upd (upd H1 dx (.own x)) x (.ins C dx [])) ∧ upd (upd H1 dx (.own x)) x (.ins C dx []) dx = some (.own x) ∧
      Ex (hide H1 Z) (hide (upd (upd H1 dx (.own x)) x (.ins C dx [])) (fun a => Z a ∨ a = x ∨ a = dx)) := by
  have k1 : Kp S H1 (upd (upd H1 dx (.own x)) x (.ins C dx [])) := fun b o e _ => by
    rw [upd_ne (ne_of_none e hx), upd_ne (ne_of_none e hdx)]
    exact e
  have nw : ∀ {y : Addr}, H1 y = none → ¬ S.W y := fun {y} hy wy => by
    obtain ⟨o, e⟩ := w.zin y (w.wz y wy)
    rw [hy] at e; cases e
  refine ⟨k1, S.stab H1 _ (fun b o e _ => by
    rw [upd_ne (ne_of_none e hx), upd_ne (ne_of_none e hdx)]; exact e) w.inv, by rw [upd_ne hne, upd_same], fun a o e => ?_⟩
  obtain ⟨n, e⟩ := hide_some.mp e
  refine hide_some.mpr ⟨fun z => ?_, k1 a o e fun wa => n (w.wz a wa)⟩
  rcases z with z | z | z
  · exact n z
  · subst z; rw [hx] at e; cases e
  · subst z; rw [hdx] at e; cases e
theorem xok0 {E : XK} : XOk K S c E x0 := fun _ _ _ _ _ _ _ h => h.elim
def putD (f : Str) (d : D) : List Str → List D → List Str × List D
  | g :: gs, e :: es => if f = g then (g :: gs, d :: es) else let r := putD f d gs es; (g :: r.1, e :: r.2)
  | _, _ => ([f], [d])
theorem put_rep {H : Hp} {f : Str} {d : D} {v : V} (q : Rep K H d v) : ∀ {fn : List Str} {ds : List D} {xs : List V}, fn.length = xs.length → RepL K H ds xs →
    ∃ ys, putF f v (fn.zip xs) = (putD f d fn ds).1.zip ys ∧ (putD f d fn ds).1.length = ys.length ∧ RepL K H (putD f d fn ds).2 ys
  | [], ds, xs, hl, r => by
    cases xs with
    | nil =>
      have e := r.len
      cases ds with
      | nil => exact ⟨[v], rfl, rfl, RepL.cons q RepL.nil⟩
      | cons _ _ => simp at e
    | cons _ _ => simp at hl
  | g :: gs, ds, xs, hl, r => by
    cases xs with
    | nil => simp at hl
    | cons y ys =>
      cases ds with
      | nil => have e := r.len; simp at e
      | cons e es =>
        unfold RepL at r
        obtain ⟨v', vs, e1, r1, r2⟩ := r
        cases e1
        show ∃ ys', putF f v ((g, y) :: gs.zip ys) = _ ∧ _
        unfold putD
        by_cases hg : f = g
        · rw [if_pos hg]
          refine ⟨v :: ys, ?_, by simpa using hl, RepL.cons q r2⟩
          show (if g = f then (g, v) :: gs.zip ys else _) = _
          rw [if_pos hg.symm]
          rfl
        · rw [if_neg hg]
          obtain ⟨ys', p1, p2, p3⟩ := put_rep q (by simpa using hl) r2
          refine ⟨y :: ys', ?_, by simpa using p2, RepL.cons r1 p3⟩
          show (if g = f then (g, v) :: gs.zip ys else (g, y) :: putF f v (gs.zip ys)) = _
          rw [if_neg (fun e => hg e.symm), p1]
          rfl
end
end DL
end
section
namespace DL
open PySem PySem.Spec PyProof.Rows L2
section
variable {K : PySem.W.Frag} {S : Sit} {c : Cl} {X : Cx} {ta tb te tc : TE} {a b t c' : TED} {tt tu : TT} {p q : TTD} {ts : TA} {as : TAD} {e e1 e2 e3 o : Expr} {es rest : List Expr} {pos pos' pos2 p1 p2 p3 : Pos} {x f m : Str} {C : Addr}
theorem de_var (i : Nat) (hN : X.N[i]? = some x := by rfl) (hv : Vis X.env.scope x := by first | exact Or.inl rfl | exact Or.inr (Or.inl rfl) | exact Or.inr (Or.inr rfl)) (hd : (x == ("__debug__" : Str)) = false := by decide)
    (hcd : (x == ("__classdict__" : Str)) = false := by decide) : DE K S c X (.Name x pos) (tVar i) (dVar i) := ⟨pe_var hN hv hd hcd, we_var⟩
theorem de_int {i : Int} {j} : DE K S c X (.Constant (.int i) j pos) (tC (.int i)) (dC (.int i)) := ⟨pe_int, we_int⟩
theorem de_bl {i : Bool} {j} : DE K S c X (.Constant (.bool i) j pos) (tC (.bl i)) (dC (.bl i)) := ⟨pe_bl, we_bl⟩
theorem de_str {i : Str} {j} : DE K S c X (.Constant (.str i) j pos) (tC (.str i)) (dC (.str i)) := ⟨pe_str, we_str⟩
theorem de_non {j} : DE K S c X (.Constant .none j pos) (tC .non) (dC .non) := ⟨pe_non, we_non⟩
theorem de_glob {d : D} {u : Value} (hat : d.atom = true) (hm : X.mg x = some u) (r : RelV d.v u) (hg : Gl X x := by rfl) (hd : (x == ("__debug__" : Str)) = false := by decide) : DE K S c X (.Name x pos) (tC d.v) (dC d) :=
  ⟨pe_glob hg hm r hd, we_c fun _ => rep_atom hat⟩
theorem de_op {op : Operator} {r : R2} {rd : R2D} (ho : OpR X (binaryOp op) r) (hr : WR K S r rd) (ha : DE K S c X e1 ta a) (hb : DE K S c X e2 tb b) : DE K S c X (.BinOp e1 op e2 pos) (tOp r ta tb) (dOp rd a b) :=
  ⟨pe_op ho ha.pe hb.pe, we_op hr ha.we hb.we⟩
theorem de_cmp {op : CmpOp} {r : R2} {rd : R2D} (ho : OpR X (compareOp op) r) (hr : WR K S r rd) (ha : DE K S c X e1 ta a) (hb : DE K S c X e2 tb b) (hm : behindInMarks op e2 = false) : DE K S c X (.Compare e1 [op] [e2] pos) (tOp r ta tb) (dOp rd a b) :=
  ⟨pe_cmpR ho ha.pe hb.pe hm, we_op hr ha.we hb.we⟩
theorem dt_cmp {op : CmpOp} {r : R2} {rd : R2D} (ho : OpR X (compareOp op) r) (hr : WR K S r rd) (ha : DE K S c X e1 ta a) (hb : DE K S c X e2 tb b) (hm : behindInMarks op e2 = false) : DT K S c X (.Compare e1 [op] [e2] pos) (tTest (tOp r ta tb)) (dTest (dOp rd a b)) :=
  ⟨pt_cmpR ho ha.pe hb.pe hm, wt_test (we_op hr ha.we hb.we)⟩
theorem de_and (ha : DE K S c X e1 ta a) (hb : DE K S c X (.BoolOp .And (e2 :: rest) pos) tb b) : DE K S c X (.BoolOp .And (e1 :: e2 :: rest) pos) (tAndV ta tb) (dAndV a b) := ⟨pe_and ha.pe hb.pe, we_andV ha.we hb.we⟩
theorem de_or (ha : DE K S c X e1 ta a) (hb : DE K S c X (.BoolOp .Or (e2 :: rest) pos) tb b) : DE K S c X (.BoolOp .Or (e1 :: e2 :: rest) pos) (tOrV ta tb) (dOrV a b) := ⟨pe_or ha.pe hb.pe, we_orV ha.we hb.we⟩
theorem de_one {op} (ha : DE K S c X e1 ta a) : DE K S c X (.BoolOp op [e1] pos) ta a := ⟨pe_one ha.pe, ha.we⟩
theorem de_not (ha : DE K S c X e1 ta a) : DE K S c X (.UnaryOp .Not e1 pos) (tNotV ta) (dNotV a) := ⟨pe_not ha.pe, we_notV ha.we⟩
theorem dt_val (ha : DE K S c X e1 ta a) (he : ∀ whole, isTrue e1 X.env whole = (do let v ← whole; standAt e1.pos; holding [v] (truthy v)) := by intro _; rfl) : DT K S c X e1 (tB ta) (dTest a) := ⟨pt_val ha.pe he, wt_B ha.we⟩
theorem dt_not (ha : DT K S c X e1 tt p) : DT K S c X (.UnaryOp .Not e1 pos) (tNot tt) (dNot p) := ⟨pt_not ha.pt, wt_not ha.wt⟩
theorem dw_and (ha : DT K S c X e1 tt p) (hb : DW K S c X (.BoolOp .And (e2 :: rest) pos) tu q) : DW K S c X (.BoolOp .And (e1 :: e2 :: rest) pos) (tAnd tt tu) (dAnd p q) := ⟨pw_and ha.pt hb.pw, wt_and ha.wt hb.wt⟩
theorem dw_or (ha : DT K S c X e1 tt p) (hb : DW K S c X (.BoolOp .Or (e2 :: rest) pos) tu q) : DW K S c X (.BoolOp .Or (e1 :: e2 :: rest) pos) (tOr tt tu) (dOr p q) := ⟨pw_or ha.pt hb.pw, wt_or ha.wt hb.wt⟩
theorem dw_and1 (ha : DT K S c X e1 tt p) : DW K S c X (.BoolOp .And [e1] pos) tt p := ⟨pw_and1 ha.pt, ha.wt⟩
theorem dw_or1 (ha : DT K S c X e1 tt p) : DW K S c X (.BoolOp .Or [e1] pos) tt p := ⟨pw_or1 ha.pt, ha.wt⟩
theorem DW.tst (h : DW K S c X e1 tt p) : DT K S c X e1 tt p := ⟨h.pw.pt, h.wt⟩
theorem de_if (hp : DT K S c X e1 tt p) (ha : DE K S c X e2 ta a) (hb : DE K S c X e3 tb b) : DE K S c X (.IfExp e1 e2 e3 pos) (tIf tt ta tb) (dIf p a b) := ⟨pe_ifExp hp.pt ha.pe hb.pe, we_if hp.wt ha.we hb.we⟩
theorem de_chain {op op' : CmpOp} {r r' : R2} {rd rd' : R2D} (ho : OpR X (compareOp op) r) (hr : WR K S r rd) (ho' : OpR X (compareOp op') r') (hr' : WR K S r' rd') (ha : DE K S c X e1 ta a) (hb : DE K S c X e2 tb b) (hc : DE K S c X e3 tc c') (hm : lastMarks [op, op'] [e2, e3] = false := by rfl) :
    DE K S c X (.Compare e1 [op, op'] [e2, e3] pos) (tChain r r' ta tb tc) (dChain rd rd' a b c') := ⟨pe_chain ho ho' ha.pe hb.pe hc.pe hm, we_chain hr hr' ha.we hb.we hc.we⟩
theorem isEmpty_rep {H : Hp} {ds : List D} {xs : List V} (r : RepL K H ds xs) : ds.isEmpty = xs.isEmpty := by
  have := r.len
  cases ds <;> cases xs <;> simp at this <;> rfl
theorem wt_tru (ha : WE K S c ta a) : WT K S c (fun σ H Q => ta σ H fun x H' => ∃ k, TruV K x H' k ∧ Q k H') (dTru a) := by
  intro Z σ H ρ P rv h Q k
  refine ha Z σ H ρ _ rv h _ fun v H1 d k1 i1 r1 h1 => ?_
  cases d <;> try exact h1.elim
  · unfold Rep at r1; subst r1; exact ⟨_, rfl, k _ H1 k1 i1 h1⟩
  · unfold Rep at r1; subst r1; exact ⟨_, rfl, k _ H1 k1 i1 h1⟩
  · unfold Rep at r1; subst r1; exact ⟨_, rfl, k _ H1 k1 i1 h1⟩
  · unfold Rep at r1
    obtain ⟨a', xs, rfl, g1, g2⟩ := r1
    exact ⟨_, .inr (.inl ⟨xs, ex_t hide_ex g1, by rw [← isEmpty_rep g2]⟩), k _ H1 k1 i1 h1⟩
  · unfold Rep at r1
    obtain ⟨a', xs, rfl, g1, g2⟩ := r1
    exact ⟨_, .inl ⟨xs, .inl (.inl (hide_ex _ _ g1)), by rw [← isEmpty_rep g2]⟩, k _ H1 k1 i1 h1⟩
theorem dt_tru (hK : X.K = K) (ha : DE K S c X e1 ta a) (he : ∀ whole, isTrue e1 X.env whole = (do let v ← whole; standAt e1.pos; holding [v] (truthy v)) := by intro _; rfl) : DT K S c X e1 (fun σ H Q => ta σ H fun x H' => ∃ k, TruV K x H' k ∧ Q k H') (dTru a) := by
  subst hK
  exact ⟨pt_truth ha.pe he, wt_tru ha.we⟩
theorem da_nil : DA K S c X [] tNil dNil := ⟨pa_nil, wa_nil⟩
theorem da_cons (ha : DE K S c X e ta a) (hs : DA K S c X es ts as) (h : starEach (e :: es) X.env = (false, eval e X.env) :: starEach es X.env := by rfl) : DA K S c X (e :: es) (tCons ta ts) (dCons a as) := ⟨pa_cons ha.pe hs.pa h, wa_cons ha.we hs.wa⟩
def dStar (a : TED) (as : TAD) : TAD := fun ρ P => a ρ fun x => match x.items with
  | some xs => as ρ fun ys => P (xs ++ ys)
  | none => False
theorem wa_star (ha : WE K S c ta a) (hs : WA K S c ts as) : WA K S c (StX.tStar K ta ts) (dStar a as) := by
  intro Z σ H ρ P rv h Q k
  refine ha Z σ H ρ _ rv h _ fun v H1 d k1 i1 r1 h1 => ?_
  have rv1 := rv.step k1 i1
  cases hd : d.items with
  | none => rw [hd] at h1; exact h1.elim
  | some xs =>
    rw [hd] at h1
    obtain ⟨pp, vs, rfl, g1, g2⟩ := items_rep hd r1
    refine ⟨pp, vs, rfl, (sq_hide g1).symm, ?_⟩
    refine hs Z σ H1 ρ _ rv1 h1 _ fun us H2 ds k2 i2 r2 h2 => ?_
    exact k _ H2 _ (k1.trans k2) i2 ((RepL.mono (rv1.wd.ex k2) _ _ g2).append r2) h2
theorem de_tup {k} (hs : DA K S c X es ts as) : DE K S c X (.Tuple es k pos) (tTup ts) (dTup as) := ⟨pe_tup hs.pa, we_tup hs.wa⟩
theorem de_lst (hs : DA K S c X es ts as) : DE K S c X (.List es pos) (tLst ts) (dLst as) := ⟨pe_lst hs.pa, we_lst hs.wa⟩
theorem dn_lst (hs : DA K S c X es ts as) : DN K S c X (.List es pos) (tLst ts) (nLst as) := ⟨pe_lst hs.pa, wn_lst hs.wa⟩
theorem de_n {as : TAD} (h : DN K S c X e ta as) : DE K S c X e ta (dOfN as) := ⟨h.pe, we_of_wn h.wn⟩
theorem de_ix (hK : X.K = K) (ha : DE K S c X e1 ta a) (hb : DE K S c X e2 tb b) (hs : PlainIx e2 := by exact fun _ _ => rfl) : DE K S c X (.Subscript e1 e2 pos) (tOp (rIx K) ta tb) (dOp rIxD a b) := by
  subst hK
  exact ⟨pe_ix ix_seq ha.pe hb.pe hs, we_op wr_ix ha.we hb.we⟩
theorem do_no : DO K S c X none tNoPart oNo := ⟨po_none, wo_no⟩
theorem do_yes (ha : DE K S c X e ta a) : DO K S c X (some e) (tPart ta) (oYes a) := ⟨po_some ha.pe, wo_yes ha.we⟩
theorem de_slL {lo hi : Option Expr} {tl th : TO} {l h : TOD} (hK : X.K = K) (ha : DE K S c X e ta a) (hl : DO K S c X lo tl l) (hh : DO K S c X hi th h) : DE K S c X (.Subscript e (.Slice lo hi none p2) pos) (tSl (rSlL K) ta tl th) (dSl slLD a l h) := by
  subst hK
  exact ⟨pe_slice sl_list ha.pe hl.po hh.po, we_slL ha.we hl.wo hh.wo⟩
theorem de_slT {lo hi : Option Expr} {tl th : TO} {l h : TOD} (hK : X.K = K) (ha : DE K S c X e ta a) (hl : DO K S c X lo tl l) (hh : DO K S c X hi th h) : DE K S c X (.Subscript e (.Slice lo hi none p2) pos) (tSl (rSlA K) ta tl th) (dSl slTD a l h) := by
  subst hK
  exact ⟨pe_slice sl_tupA ha.pe hl.po hh.po, we_slT ha.we hl.wo hh.wo⟩
theorem de_cb {id : String} {r : List V → Hp → VK → Prop} {rd : RCD} (hc : CallR X (.builtin id) r) (hr : WC K S r rd) (hm : X.mg x = none) (hv : bootBuiltins x = some (.builtin id)) (hs : DA K S c X (e :: es) ts as) (hg : Gl X x := by rfl) (hn : x ≠ "__name__" := by decide) (hdb : (x == ("__debug__" : Str)) = false := by decide)
    (he : starEach (e :: es) X.env = (false, eval e X.env) :: starEach es X.env := by rfl) (hpl : (backTo pos (starEach es X.env)).any (·.1) = false := by rfl) : DE K S c X (.Call (.Name x p1) (e :: es) [] pos) (tCB r ts) (dCB rd as) :=
  ⟨pe_callB hc hg hm hv hs.pa hn hdb he hpl, we_cb hr hs.wa⟩
theorem de_cty {T : String} {r : List V → Hp → VK → Prop} {rd : RCD} (hc : CallR X (.type T) r) (hr : WC K S r rd) (hm : X.mg x = none) (hv : bootBuiltins x = some (.type T)) (hs : DA K S c X (e :: es) ts as) (hg : Gl X x := by rfl) (hn : x ≠ "__name__" := by decide) (hdb : (x == ("__debug__" : Str)) = false := by decide)
    (he : starEach (e :: es) X.env = (false, eval e X.env) :: starEach es X.env := by rfl) (hpl : (backTo pos (starEach es X.env)).any (·.1) = false := by rfl) : DE K S c X (.Call (.Name x p1) (e :: es) [] pos) (tCB r ts) (dCB rd as) :=
  ⟨pe_callTy hc hg hm hv hs.pa hn hdb he hpl, we_cb hr hs.wa⟩
theorem dn_list (hK : X.K = K) (hm : X.mg x = none) (hv : bootBuiltins x = some (.type "list")) (hs : DA K S c X (e :: es) ts as) (hg : Gl X x := by rfl) (hn : x ≠ "__name__" := by decide) (hdb : (x == ("__debug__" : Str)) = false := by decide)
    (he : starEach (e :: es) X.env = (false, eval e X.env) :: starEach es X.env := by rfl) (hpl : (backTo pos (starEach es X.env)).any (·.1) = false := by rfl) : DN K S c X (.Call (.Name x p1) (e :: es) [] pos) (tCB (fun xs H Q => ∃ p ys, xs = [.ref p] ∧ (SqL K H p ys ∨ SqT K H p ys) ∧ ∀ l, H l = none → Q (.ref l) (upd H l (.lst ys))) ts) (nList as) := by
  subst hK
  exact ⟨pe_callTy call_list_of hg hm hv hs.pa hn hdb he hpl, wn_list hs.wa⟩
theorem de_fld (hK : X.K = K) (hc : Cls K C) (hn : NoAttr K C f) (ha : DE K S c X e ta a) (hb : attributeBase e f X.env (eval e X.env) = eval e X.env := by rfl) : DE K S c X (.Attribute e f pos) (tFld K ta f) (dFldC C f a) := by
  subst hK
  exact ⟨pe_fld ha.pe hb, we_fld hc hn ha.we⟩
section
variable {k : Nat} {fa : Addr} {fd : FuncData} {ps : List Str} {spd : SpD} {ind : InD}
theorem de_call0 (F : FnOk X.prog X.w X.K X.mg X.base CX0 k fa fd ps (liftSp K S spd)) (hr : Room k X.A) (hm : X.mg x = some (.ref fa)) (hk : PySem.W.keepIn X.K (.ref fa) = true) (hb : Binds X.K fd ps []) (hs : DA K S c X (e :: es) ts as) (hg : Gl X x := by rfl) (hdb : (x == ("__debug__" : Str)) = false := by decide)
    (he : starEach (e :: es) X.env = (false, eval e X.env) :: starEach es X.env := by rfl) (hpl : (backTo pos (starEach es X.env)).any (·.1) = false := by rfl) : DE K S c X (.Call (.Name x p1) (e :: es) [] pos) (tCall (liftSp K S spd) [] E0 ts) (dCall spd x0 as) :=
  ⟨pe_call F hr hg hm hk hb .nil pass0 hs.pa hdb he hpl, we_call0 hs.wa⟩
theorem de_meth0 {pl : Sem Bool} (hc : Cls X.K C) (hm : Meth X.K C m fa) (F : FnOk X.prog X.w X.K X.mg X.base CX0 k fa fd ps (liftSp K S spd)) (hr : Room k X.A) (hb : Binds X.K fd ps []) (ha : DE K S c X o ta a) (hs : DA K S c X (e :: es) ts as)
    (hst : starEach (e :: es) X.env = (false, eval e X.env) :: starEach es X.env := by rfl) (hpl : (backTo pos (starEach es X.env)).any (·.1) = false := by rfl)
    (ht : eval (.Call (.Attribute o m p1) (e :: es) [] pos) X.env = (do
      let ov ← eval o X.env
      standAt p1.atName
      let (f, first) ← holding [ov] (getMethod ov m pl)
      callWith pos f first (backTo pos (starEach (e :: es) X.env)) (backToKw pos (keywordEach [] X.env))) := by rfl) : DE K S c X (.Call (.Attribute o m p1) (e :: es) [] pos) (tMeth C m (liftSp K S spd) [] E0 ta ts) (dMeth C m spd x0 a as) :=
  ⟨pe_meth ha.pe hc hm F hr hb .nil pass0 hs.pa hst hpl ht, we_meth0 ha.we hs.wa⟩
theorem passE0 {X : Cx} : Passes CX0 X E0 := fun _ _ _ _ _ _ _ h => h.elim
theorem de_prop {pp g : Addr} (hc : Cls X.K C) (hp : PropOf X.K C f pp g) (F : FnOk X.prog X.w X.K X.mg X.base CX0 k g fd ps (liftSp K S spd)) (hr : Room (k + 1) X.A) (hb : Binds X.K fd ps []) (ha : DE K S c X e ta a) (hab : attributeBase e f X.env (eval e X.env) = eval e X.env := by rfl) :
    DE K S c X (.Attribute e f pos) (tProp C (liftSp K S spd) [] E0 ta) (dProp C spd a) :=
  ⟨pe_prop ha.pe hc hp F hr hb .nil passE0 hab, we_prop ha.we⟩
end
theorem di_list {tg : Expr} (hK : X.K = K) (ha : DE K S c X e ta a) : DI K S c X tg e (iList K ta) (iLstD a) := by subst hK; exact ⟨pi_list ha.pe, wi_list ha.we⟩
theorem di_tup {tg : Expr} (hK : X.K = K) (ha : DE K S c X e ta a) : DI K S c X tg e (iTup K ta) (iTupD a) := by subst hK; exact ⟨pi_tup ha.pe, wi_tup ha.we⟩
theorem di_rng1 {tg : Expr} (hm : X.mg "range" = none) (hs : DA K S c X [e] ts as) (hg : Gl X "range" := by rfl) (h : starEach [e] X.env = [(false, eval e X.env)] := by rfl) : DI K S c X tg (.Call (.Name "range" p1) [e] [] pos) (iRng1 ts) (iRng1D as) := ⟨pi_range1 hg hm hs.pa h, wi_rng1 hs.wa⟩
theorem dv_rng1 {tg : Expr} (hm : X.mg "range" = none) (hs : DA K S c X [e] ts as) (hg : Gl X "range" := by rfl) (h : starEach [e] X.env = [(false, eval e X.env)] := by rfl) : DIv K S c X tg (.Call (.Name "range" p1) [e] [] pos) (iRng1 ts) (iRng1D as) := ⟨pi_range1 hg hm hs.pa h, wiv_rng1 hs.wa⟩
theorem dg_name (i : Nat) (hN : X.N.Nodup) (hi : X.N[i]? = some x := by rfl) (hx : Loc X.env.scope x := by first | exact Or.inl rfl | exact Or.inr rfl) (hf : X.fn x = true ∨ X.env.scope.names.lookup x = some .local := by first | exact .inl rfl | exact .inr rfl) : DG K X (.Name x pos) (gName i) (hName i) [i] := ⟨pg_name hN hi hx hf, wg_name⟩
section
variable {g : TG} {gs : TGs} {gd : TGD} {gds : List D → EnvD → (EnvD → Prop) → Prop} {ix iy : List Nat}
theorem dgs_nil : DGs K X [] gNil hNil [] := ⟨pgs_nil, wgs_nil⟩
theorem dgs_cons (h1 : DG K X e g gd ix) (h2 : DGs K X es gs gds iy) (hs : (assignEach (e :: es) X.env).map (·.2) = assign e X.env :: (assignEach es X.env).map (·.2) := by rfl) : DGs K X (e :: es) (gCons g gs) (hCons gd gds) (ix ++ iy) := ⟨pgs_cons h1.pg h2.pgs hs, wgs_cons h1.wg h2.wgs⟩
theorem dg_tup {k n : Nat} (hK : X.K = K) (hc : X.calm = true) (h : DGs K X es gs gds ix) (hn : (assignEach es X.env).length = n := by rfl) (hst : (assignEach es X.env).findIdx? (·.1) = none := by rfl) : DG K X (.Tuple es k pos) (gTup K n gs) (hTup n gds) ix := by
  subst hK
  exact ⟨pg_tup hc h.pgs hn hst, wg_tup h.wgs⟩
end
end
end DL
end
section
namespace DL
open PySem PySem.Spec PyProof.Rows L2
section
variable {K : PySem.W.Frag} {S : Sit} {c : Cl} {X : Cx} {ta tb te tc : TE} {a b t : TED} {tt tu : TT} {p q : TTD} {ts : TA} {as : TAD} {e e1 e2 e3 o : Expr} {es : List Expr} {pos pos' pos2 p1 p2 p3 : Pos} {x y f m : Str} {C : Addr}
  {st : Stmt} {body els rest : List Stmt} {s1 s2 tbd : TS} {d1 d2 : TSD} {g : TG} {gd : TGD} {ix : List Nat} {wi : TI} {it : TAD}
theorem dss_nil : DSs K S c X [] tNext dNext := ⟨pss_nil, ws_next⟩
theorem dss_cons (h1 : DS K S c X st s1 d1) (h2 : DSs K S c X rest s2 d2) : DSs K S c X (st :: rest) (tSeq s1 s2) (dSeq d1 d2) := ⟨pss_cons h1.ps h2.pss, ws_seq h1.ws h2.ws⟩
theorem dss_one (h1 : DS K S c X st s1 d1) : DSs K S c X [st] s1 d1 := ⟨pss_one h1.ps, h1.ws⟩
theorem dss_never : DSs K S c X rest tNever dNever := ⟨pss_never, ws_never⟩
theorem ds_ret (ha : DE K S c X e ta a) : DS K S c X (.Return (some e) pos) (tRet ta) (dRet a) := ⟨ps_ret ha.pe, ws_ret ha.we⟩
theorem ds_if (hp : DT K S c X e tt p) (h1 : DSs K S c X body s1 d1) (h2 : DSs K S c X els s2 d2) : DS K S c X (.If e body els pos) (tIfS tt s1 s2) (dIfS p d1 d2) := ⟨ps_if hp.pt h1.pss h2.pss, ws_if hp.wt h1.ws h2.ws⟩
theorem ds_drop (ha : DE K S c X e ta a) (hs : swapsWith e none pos.line X.env = pure false := by rfl) : DS K S c X (.Expr e pos) (tDrop ta) (dDrop a) := ⟨ps_expr ha.pe hs, ws_drop ha.we⟩
theorem ds_set (i : Nat) (hN : X.N.Nodup) (ha : DE K S c X e ta a) (hi : X.N[i]? = some x := by rfl) (hx : Loc X.env.scope x := by first | exact Or.inl rfl | exact Or.inr rfl) (hs : swapsWith e (some (.Name x pos')) pos.line X.env = pure false := by rfl)
    (hf : X.fn x = true ∨ X.env.scope.names.lookup x = some .local := by first | exact .inl rfl | exact .inr rfl) : DS K S c X (.Assign [.Name x pos'] e pos) (tAsg ta (gName i)) (dSet i a) := ⟨ps_set hN hi hx ha.pe hs hf, ws_set ha.we⟩
theorem ds_setN (i : Nat) (hN : X.N.Nodup) (ha : DN K S c X e ta as) (hi : X.N[i]? = some x := by rfl) (hx : Loc X.env.scope x := by first | exact Or.inl rfl | exact Or.inr rfl) (hs : swapsWith e (some (.Name x pos')) pos.line X.env = pure false := by rfl)
    (hf : X.fn x = true ∨ X.env.scope.names.lookup x = some .local := by first | exact .inl rfl | exact .inr rfl) : DS K S c X (.Assign [.Name x pos'] e pos) (tAsg ta (gName i)) (dSetN i as) := ⟨ps_set hN hi hx ha.pe hs hf, ws_setN ha.wn⟩
theorem ds_for {tg : Expr} (hp : PassesOwn (model X.prog X.w) X.A X.env X.xe) (hc : X.calm = true) (hi : DI K S c X tg e wi it) (hg : DG K X tg g gd ix) (hb : DSs K S c X body tbd d1) (hs : ∀ x, foldedSetIterable e X.env x = pure x := by intro _; rfl) :
    DS K S c X (.For tg e body [] pos) (tFor wi g tbd) (dFor it gd d1) := ⟨ps_for hp hc hi.pi hg.pg hb.pss hs, ws_for hi.wi hg.wg hb.ws⟩
theorem ds_forV {tg : Expr} (hp : PassesOwn (model X.prog X.w) X.A X.env X.xe) (hc : X.calm = true) (hi : DIv K S c X tg e wi it) (hg : DG K X tg g gd ix) (hb : DSs K S c X body tbd d1) (hs : ∀ x, foldedSetIterable e X.env x = pure x := by intro _; rfl) :
    DS K S c X (.For tg e body [] pos) (tFor wi g tbd) (dForV it gd d1) := ⟨ps_for hp hc hi.pi hg.pg hb.pss hs, ws_forV hi.wi hg.wg hb.ws⟩
theorem dts_nil : DTs K S c X [] tYes dYes := ⟨pts_nil, wt_yes⟩
theorem dts_one (h : DT K S c X e tt p) : DTs K S c X [e] tt p := ⟨pts_one h.pt, h.wt⟩
theorem dn_lc {elt tg iter : Expr} {ifs : List Expr} {scope : Scope} {own : List (Str × Nat)} (hc : X.calm = true) (hN : X.N.Nodup) (hi : DI K S c X tg iter wi it) (ok : BlkOk X.N X.env.scope scope own)
    (hg : ∀ (s : Shared) (H : Hp) (C : Addr) (cl : List (Str × Addr)) (fp : List Addr), DG K (X.blk s H scope (compEnvC scope cl C X.env) fp) tg g gd ix) (ht : ∀ (s : Shared) (H : Hp) (C : Addr) (cl : List (Str × Addr)) (fp : List Addr), DTs K S c (X.blk s H scope (compEnvC scope cl C X.env) fp) ifs tt p)
    (he : ∀ (s : Shared) (H : Hp) (C : Addr) (cl : List (Str × Addr)) (fp : List Addr), DE K S c (X.blk s H scope (compEnvC scope cl C X.env) fp) elt te t) (hix : ∀ i ∈ ix, i ∈ own.map (·.2)) (hs : ∀ x, foldedSetIterable iter X.env x = pure x := by intro _; rfl) :
    DN K S c X (.ListComp elt [⟨tg, iter, ifs, 0⟩] scope pos) (tLc wi g tt te (own.map (·.2))) (nLc it gd p t (own.map (·.2))) := by
  exact ⟨pe_lc hc hN hi.pi ok (fun s H C cl fp => (hg s H C cl fp).pg) (fun s H C cl fp => (ht s H C cl fp).pts) (fun s H C cl fp => (he s H C cl fp).pe) hs,
    wn_lc hi.wi (hg X.s_0 (fun _ => none) 0 [] []).wg hix (ht X.s_0 (fun _ => none) 0 [] []).wt (he X.s_0 (fun _ => none) 0 [] []).we⟩
end
end DL
end
section
namespace DL
open PySem PySem.Spec PyProof.Rows L2
section
variable {X : Cx} {CX : CXT} {k : Nat} {C g a dx : Addr} {fs : List (Str × V)} {fd : FuncData} {ps : List Str} {sp : Sp} {E : XK} {e o : Expr} {pos : Pos} {ta tb : TE}
theorem inst_of {pins : List (Addr × Obj)} {σ : L2.St} {H : Hp} {s : Shared} (I : Inv X pins σ H s) (ea : H a = some (.ins C dx fs)) : ∃ ox od, PySem.W.InstAt s.heap a ox C od := by
  obtain ⟨mA, O, _⟩ := ins_get I.hok ea
  obtain ⟨od, J, _⟩ := O.look
  exact ⟨_, _, J⟩
def rIxO (C : Addr) (sp : Sp) (E : XK) : R2 := fun x y H Q => ∃ a dx fs, x = .ref a ∧ H a = some (.ins C dx fs) ∧ sp [.ref a, y] H Q E
theorem pe_ixO {e1 e2 : Expr} (c : OpO X.K C "__getitem__" g) (hf : PySem.W.fnIn X.K g = true) (F : FnOk X.prog X.w X.K X.mg X.base CX k g fd ps sp) (hr : Room (k + 1) X.A) (hb : Binds X.K fd ps []) (hx : Passes CX X E) (ha : PE X e1 ta) (hb2 : PE X e2 tb)
    (hsl : ∀ x i, subscripted e2 true x i = runValue (.builtin "lifetime.subscript" ⟨[x, i], []⟩) := by intro _ _; rfl) : PE X (.Subscript e1 e2 pos) (tOp (rIxO C sp E) ta tb) := by
  refine ⟨fun pins s σ H Q I h => ?_⟩
  refine Subscript_ (binT ha hb2 I h fun v u s2 x y H2 I2 rx ry q => ?_)
  obtain ⟨a, dx, fs, rfl, ea, h⟩ := q
  obtain rfl : v = Value.ref a := rx
  obtain ⟨ox, od, J⟩ := inst_of I2 ea
  obtain ⟨m, fr⟩ := I2.fr
  have hl : ([Value.ref a, u] ++ ([] : List Value)).length = ps.length := by rw [← F.len _ _ _ _ h] <;> rfl
  refine PySem.W.sub_K fr I2.mod.kin J c.at_ hf c.fn (wpAny_call ?_) (hsl _ _)
  refine codeAny_mono (F.run X.A.in1 X.stack s2 H2 ⟨[.ref a, u], []⟩ [.ref a, u] [.ref a, y] _ E hr.in1 I2.env0.in1 (hb s2 [.ref a, u] I2.kIn hl) (.cons rfl (.cons ry .nil)) h) fun r s' hq => ?_
  cases r with
  | error er => exact hx pins σ H2 s2 er s' I2 hq
  | ok fl =>
    cases fl with
    | ret u' => exact I2.after hq
    | next => exact False.elim hq
    | brk => exact False.elim hq
    | cont => exact False.elim hq
theorem notImpl_back {v : V} {u : Value} {s : Shared} {pins : List (Addr × Obj)} {σ : L2.St} {Q : VK} (r : RelV v u) (h : EP X pins σ Q u s) : PySem.W.CmpBack (EP X pins σ Q) u s := by
  cases v with
  | non => cases r; exact h
  | bl _ => cases r; exact h
  | int _ => obtain ⟨t, rfl⟩ := r; exact h
  | str _ => obtain ⟨t, rfl⟩ := r; exact h
  | byt _ => obtain ⟨t, rfl⟩ := r; exact h
  | flt _ => obtain ⟨t, rfl⟩ := r; exact h
  | ref _ => cases r; exact h
  | ty _ => cases r; exact h
end
section
variable {K : PySem.W.Frag} {S : Sit} {C : Addr} {spd : SpD}
def rLenOD (C : Addr) (spd : SpD) : RCD := fun ds P => match ds with
  | [.ins C' fn es] => C' = C ∧ spd [.ins C' fn es] (fun d => match d with
    | .int n => (0 ≤ n ∧ n < 2 ^ 63) ∧ P (.int n)
    | _ => False) x0
  | _ => False
def rIxOD (C : Addr) (spd : SpD) : R2D := fun x y P => match x with
  | .ins C' fn es => C' = C ∧ spd [.ins C' fn es, y] P x0
  | _ => False
theorem wr_ixO : WR K S (rIxO C (liftSp K S spd) E0) (rIxOD C spd) := by
  intro Z H x y d e P w r1 r2 hp Q q
  cases d <;> try exact hp.elim
  obtain ⟨rfl, hp⟩ := hp
  have r0 := r1
  unfold Rep at r1
  obtain ⟨p, dx, ys, rfl, h1, h2, h3⟩ := r1
  exact ⟨p, dx, _, rfl, hide_ex _ _ h1, Z, _, P, x0, w, RepL.cons r0 (RepL.cons r2 RepL.nil), hp, q, fun _ _ _ _ _ _ _ h => h.elim⟩
end
section
variable {K : PySem.W.Frag} {S : Sit} {c : Cl} {X : Cx} {ta tb : TE} {a b : TED} {ts : TA} {as : TAD} {e e1 e2 : Expr} {es : List Expr} {pos p1 : Pos} {x : Str} {C g : Addr} {k : Nat} {fd : FuncData} {ps : List Str} {spd : SpD}
theorem de_ixO (o : OpO X.K C "__getitem__" g) (hf : PySem.W.fnIn X.K g = true) (F : FnOk X.prog X.w X.K X.mg X.base CX0 k g fd ps (liftSp K S spd)) (hr : Room (k + 1) X.A) (hb : Binds X.K fd ps []) (ha : DE K S c X e1 ta a) (hb2 : DE K S c X e2 tb b)
    (hsl : ∀ x i, subscripted e2 true x i = runValue (.builtin "lifetime.subscript" ⟨[x, i], []⟩) := by intro _ _; rfl) : DE K S c X (.Subscript e1 e2 pos) (tOp (rIxO C (liftSp K S spd) E0) ta tb) (dOp (rIxOD C spd) a b) :=
  ⟨pe_ixO o hf F hr hb pass0 ha.pe hb2.pe hsl, we_op wr_ixO ha.we hb2.we⟩
end
def startD (N : List Str) (ds : List D) : EnvD := ds.map some ++ List.replicate (N.length - ds.length) none
section
variable {P : Program} {w : World} {K : PySem.W.Frag} {S : Sit} {mg : Str → Option Value} {base : Heap}
theorem start_get {N : List Str} {vs : List V} {i : Nat} {v : V} (h : vs[i]? = some v) : (start N vs)[i]? = some (some v) := by
  unfold L2.start
  have hi := (List.getElem?_eq_some_iff.mp h).1
  rw [List.getElem?_append_left (by simpa using hi), List.getElem?_map, h]
  rfl
theorem startD_get {N : List Str} {ds : List D} {i : Nat} {d : D} (h : (startD N ds)[i]? = some (some d)) : ds[i]? = some d := by
  unfold startD at h
  by_cases hi : i < ds.length
  · rw [List.getElem?_append_left (by simpa using hi), List.getElem?_map] at h
    cases e : ds[i]? with
    | none => rw [e] at h; cases h
    | some x => rw [e] at h; cases h; rfl
  · rw [List.getElem?_append_right (by simpa using hi)] at h
    have := List.mem_of_getElem? h
    rw [List.mem_replicate] at this
    exact nomatch this.2
theorem start_len {N : List Str} {vs : List V} {ds : List D} (h : ds.length = vs.length) : (start N vs).length = (startD N ds).length := by
  unfold L2.start startD
  simp [h]
theorem rz_start {Z : Addr → Prop} {H : Hp} {N : List Str} {vs : List V} {ds : List D} {E : XK} {x : XD} (w : Wd S Z H) (r : RepL K (hide H Z) ds vs) : RZ K S ⟨Z, H, E, x⟩ (fun _ => none) Z (start N vs) H (startD N ds) := by
  have noOwn : ∀ (i : Nat) d, (startD N ds)[i]? = some (some d) → d.isOwn = true → False := fun i d h o => by
    obtain ⟨v, _, q⟩ := r.get (startD_get h)
    rw [rep_notOwn q] at o; cases o
  refine ⟨⟨w, Kp.refl H, fun _ z => z, start_len r.len, fun i d h n => ?_⟩, w, (fun _ _ h => by cases h), fun _ => [], (fun i d h o => (noOwn i d h o).elim), (fun i j d e a h o _ _ _ _ => (noOwn i d h o).elim)⟩
  obtain ⟨v, e, q⟩ := r.get (startD_get h)
  exact ⟨v, start_get e, q⟩
theorem fit_of {Z : Addr → Prop} {H : Hp} {E : XK} {x : XD} {Q : VK} {Pd : D → Prop} (hq : ∀ v H' d, Kp S H H' → S.I H' → Rep K (hide H' Z) d v → Pd d → Q v H') :
    Fit K S ⟨Z, H, E, x⟩ (fun _ => none) { nx := fun _ => Pd .non, rt := Pd } { nx := fun _ H' => Q .non H', rt := Q } :=
  ⟨fun σ H' ρ ⟨Z', r⟩ h => hq .non H' .non r.rv.kp r.rv.wd.inv repN h, fun v H' d k i q h => hq v H' d k i q h, fun _ _ _ _ h => h.elim, fun _ _ _ _ h => h.elim⟩
theorem fn_deep {x qual : Str} {st : Stmt} {f : Addr} {fd : FuncData} {N ps : List Str} {k : Nat} {spd : SpD} {tD : TSD} (F : Fun K x qual st f fd) (sc : FnScope N ps (defScope st)) (hlen : ∀ ds P x, spd ds P x → ds.length = ps.length)
    (hpure : ∀ ds P x, spd ds P x → tD { nx := fun _ => P .non, rt := P } (startD N ds))
    (hbody : ∀ (c : Cl) (cdv : Value) (A : Around) (outer : List Env) (s : Shared) (H : Hp) (E : XK), Room k (A.deeper (envOfC qual (defScope st) s.heap.objs.size f cdv)) →
      ∃ ts, DSs K S c (cxOf CX0 P w K mg base N qual (defScope st) f cdv A outer s H E).nox (defBody st) ts tD) : FnOk P w K mg base CX0 (k + 1) f fd ps (liftSp K S spd) := by
  refine F.ok sc (fun vs H Q E h => ?_) (fun cdv A outer s H vs Q E hr h => ?_)
  · obtain ⟨Z, ds, Pd, x, w, r, hs, _⟩ := h
    rw [← r.len]
    exact hlen ds Pd x hs
  · obtain ⟨Z, ds, Pd, x, w, r, hs, hq, hx⟩ := h
    obtain ⟨ts, d⟩ := hbody ⟨Z, H, E, x⟩ cdv A outer s H E hr
    exact ⟨ts, d.pss, d.ws (fun _ => none) _ H _ _ _ ⟨Z, rz_start w r⟩ (hpure ds Pd x hs) (fit_of hq)⟩
end
end DL
end
section
namespace PySem.W
open PySem PySem.Calls PyProof.Rows
section
variable {M : Model} {A : Around} {E : Value → Shared → Prop} {s : Shared}
theorem dlk_lone {f : Value} {x : Sem Value} {pos : Pos} {Q : Args → Shared → Prop} {kws : List (Option Str × Sem Value)} (hall : kws.all (·.1.isSome) = true)
    (h : wpAny M A x (fun v s₁ => wpAny M A (evalAll (kws.map (·.2))) (fun ks s₂ => StarOf M A E v (fun vs s₃ => Q ⟨vs, (kws.filterMap (·.1)).zip ks⟩ s₃) s₂) E s₁) E s) :
    wpAny M A (evalArgs f true [(true, (do let v ← x; standAt pos; pure v))] kws) Q E s := by
  unfold evalArgs
  refine wpAny_bind (wpAny_bind (wpAny_mono h (fun v s₁ h₁ => wpAny_bind (wpAny_standAt (wpAny_pure ?_))) fun _ _ x => x))
  refine wpAny_holding ?_
  simp only [hall, if_true]
  refine wpAny_bind (wpAny_mono h₁ (fun ks s₂ h₂ => ?_) fun _ _ x => x)
  unfold StarOf at h₂
  refine wpAny_bind (wpAny_bind (wpAny_mono h₂ (fun b s₃ h₃ => ?_) fun _ _ x => x))
  obtain ⟨rfl, h₃⟩ := h₃
  have z := wpAny_holding (vs := ((kws.filterMap (·.1)).zip ks).map (·.2)) (wpAny_mono h₃ (fun vs s₃ h₃ => (wpAny_pure h₃ : wpAny M A (pure (⟨vs, (kws.filterMap (·.1)).zip ks⟩ : Args)) Q E s₃)) fun _ _ x => x)
  try simp only [Bool.false_eq_true, if_false]
  first
    | exact z
    | exact wpAny_bind (wpAny_pure z)
end
end PySem.W
namespace PySem.W
open PySem PySem.Calls PyProof.Rows
section
variable {M : Model} {A : Around} {E : Value → Shared → Prop} {s : Shared} {K : Frag} {env : Env} {pos p : Pos} {f : Value} {first : List Value} {Q : Value → Shared → Prop} {h₀ : Heap} {e : Expr} {kws : List Keyword}
theorem dlk_call {args : List (Bool × Sem Value)} {kw : List (Option Str × Sem Value)} {P : Heap → Prop} (hst : args.any (·.1) = true)
    (hk : ∀ h, P h → ∃ k, (k = Keeper.frame ∨ k = Keeper.machine ∨ k = Keeper.boundFrame) ∧ Looks M h (keeperOf f) k)
    (h : wpAny M A (evalArgs f true args kw) (fun a s₁ => P s₁.heap ∧ wpAny M A (call f (first ++ a.pos) a.kw) Q E s₁) E s) : wpAny M A (callWith pos f first args kw) Q E s := by
  unfold callWith
  refine wpAny_bind (wpAny_holding (wpAny_mono h (fun a s₁ h₁ => wpAny_bind (wpAny_standAt ?_)) fun _ _ x => x))
  obtain ⟨k, hk', L⟩ := hk _ h₁.1
  simp only [hst, Bool.true_or]
  refine wpAny_bind (L.here ?_)
  have tail : ∀ {t : Sem Value}, wpAny M A t Q E s₁ → wpAny M A (t >>= fun r => holding [r] point >>= fun _ => pure r) Q E s₁ :=
    fun ht => wpAny_bind (wpAny_mono ht (fun r s₂ hr => wpAny_bind (wpAny_holding (wpAny_point (wpAny_pure hr)))) fun _ _ x => x)
  have marked (mk : Value) : wpAny M A (callMarked mk f (first ++ a.pos) a.kw) Q E s₁ := by unfold callMarked; exact Calls.wpAny_keep h₁.2
  rcases hk' with rfl | rfl | rfl <;> dsimp only <;> first | exact tail (marked _) | exact tail (wpAny_operating h₁.2)
theorem callWith_SK (hk : keepIn K f = true) (hall : (backToKw pos (keywordEach kws env)).all (·.1.isSome) = true)
    (h : wpAny M A (eval e env) (fun v s₁ => wpAny M A (evalAll ((backToKw pos (keywordEach kws env)).map (·.2))) (fun ks s₂ => StarOf M A E v (fun vs s₃ => K.In s₃.heap ∧ wpAny M A (call f (first ++ vs) (((backToKw pos (keywordEach kws env)).filterMap (·.1)).zip ks)) Q E s₃) s₂) E s₁) E s)
    (he : starEach [.Starred e p] env = [(true, eval e env)] := by rfl) :
    wpAny M A (callWith pos f first (backTo pos (starEach [.Starred e p] env)) (backToKw pos (keywordEach kws env))) Q E s := by
  rw [he]
  exact dlk_call rfl (keeps_K hk) (dlk_lone hall h)
end
end PySem.W
namespace DL
open PySem PySem.Spec PyProof.Rows L2
def FnKw (P : Program) (w : World) (K : PySem.W.Frag) (mg : Str → Option Value) (base : Heap) (CX : CXT) (k : Nat) (f : Addr) (kn : Str) (sp : List V → V → Hp → VK → XK → Prop) : Prop :=
  ∀ (A : Around) (outer : List Env) (s : Shared) (H : Hp) (us : List Value) (vs : List V) (u : Value) (v : V) (Q : VK) (E : XK), Room k A → Env0 P w K mg base A outer s H → Vals vs us → RelV v u → sp vs v H Q E →
    codeAny (model P w) A (.call (.ref f) ⟨us, [(kn, u)]⟩) (CR CX outer P w H s Q E) s
section
variable {CX : CXT} {P : Program} {w : World} {K : PySem.W.Frag} {mg : Str → Option Value} {base : Heap} {k : Nat} {f : Addr} {name qual : Str} {params : Arguments} {body : List Stmt} {scope : Scope} {dV kV doc pm cdv ct oc : Value} {an od : Option Addr}
  {osl : Array (Option Value)} {N : List Str} {sp : Sp} {a0 kn pv : Str}
theorem fn_starko (lk : K.lookup f = some ⟨oc, od, .func (PySem.W.fnOf name qual params body scope dV kV doc pm an cdv ct), osl⟩) (hcd : PySem.W.codeIn K cdv qual = true) (S : FnScope N [a0, kn, pv] scope) (hCX : StX.CXUp CX)
    (h0 : ∀ a z : Value, bindArgs (PySem.W.fnOf name qual params body scope dV kV doc pm an cdv ct) ⟨[a], [(kn, z)]⟩ = (newTuple [] >>= fun t => pure [(a0, a), (kn, z), (pv, t)]))
    (h1 : ∀ (a z r : Value) (rest : List Value), bindArgs (PySem.W.fnOf name qual params body scope dV kV doc pm an cdv ct) ⟨a :: r :: rest, [(kn, z)]⟩ = (newTuple (r :: rest) >>= fun t => pure [(a0, a), (kn, z), (pv, t)]))
    (hbody : ∀ (A : Around) (outer : List Env) (s : Shared) (H : Hp) (vs : List V) (Q : VK) (E : XK), Room k (A.deeper (envOfC qual scope s.heap.objs.size f cdv)) → sp vs H Q E →
      ∃ t, PSs (cxOf CX P w K mg base N qual scope f cdv A outer s H E) body t ∧ t { nx := fun _ H' => Q .non H', rt := Q } (L2.start N vs) H) :
    FnKw P w K mg base CX (k + 1) f kn (fun vs v H Q E => ∃ x rest, vs = x :: rest ∧ rest.length ≤ sizeLine ∧ ∀ p, H p = Option.none → sp [x, v, V.ref p] (upd H p (.tup rest)) Q E) := by
  intro A outer s H us vs u v Q E hr e0 r rv hsp
  obtain ⟨x, rest, ev, hz, hq⟩ := hsp
  subst ev
  cases r with
  | cons rx r2 =>
    rename_i ux u2
    have hn : H s.heap.objs.size = Option.none := e0.hok.fresh (Nat.le_refl _)
    have hl2 : u2.length ≤ sizeLine := by rw [← r2.length]; exact hz
    have hb : bindArgs (PySem.W.fnOf name qual params body scope dV kV doc pm an cdv ct) ⟨ux :: u2, [(kn, u)]⟩ = (newTuple u2 >>= fun t => pure [(a0, ux), (kn, u), (pv, t)]) := by
      cases u2 with
      | nil => exact h0 ux u
      | cons r rr => exact h1 ux u r rr
    refine StX.run_bnd lk hcd S hr e0 (G := fun xs H2 => ∃ p, H p = Option.none ∧ xs = [x, v, V.ref p] ∧ H2 = upd H p (.tup rest)) (fun A' Ex Q' h => ?_) fun s2 H2 xs ⟨p, hp, ex, eH⟩ hr' => ?_
    · rw [hb]
      refine wpAny_bind (wpAny_newTuple (wpAny_pure ?_) hl2)
      have new : ObjOk P w (upd H s.heap.objs.size (.tup rest)) (s.heap.push ({ cls := .type "tuple", data := .seq u2.toArray } : Obj)) s.heap.objs.size (.tup rest) := ⟨hz, u2, r2, ⟨_, Heap.get?_push_size _ rfl, rfl, _, rfl⟩⟩
      have un := StX.un_laid (fs := frs outer) (s := s) (o := ({ cls := .type "tuple", data := .seq u2.toArray } : Obj)) (u := .tup rest) hn
      exact h _ _ [x, v, V.ref s.heap.objs.size] [ux, u, Value.ref s.heap.objs.size] (StX.env0_laid e0 new) un rfl (fun e s' => hCX outer s H _ _ E e s' un (fun b o q => Heap.get?_push_of_some _ q) rfl) (.cons rx (.cons rv (.cons rfl .nil)))
        rfl ⟨_, hn, rfl, rfl⟩
    · subst ex eH
      exact hbody A outer s2 _ _ Q E hr' (hq p hp)
end
def tMakeSK (K : PySem.W.Frag) (C : Addr) (sp : List V → V → Hp → VK → XK → Prop) (E : XK) (te tk : TE) : TE := fun σ H Q => te σ H fun y H1 => ∃ a, y = V.ref a ∧ tk σ H1 fun z H2 => ∃ xs, (SqT K H2 a xs ∨ SqL K H2 a xs) ∧ ∀ x dx, H2 x = Option.none → H2 dx = Option.none → dx ≠ x →
  sp (.ref x :: xs) z (upd (upd H2 dx (.own x)) x (.ins C dx [])) (fun v H3 => v = .non ∧ Q (.ref x) H3) E
section
variable {X : Cx} {CX : CXT} {k : Nat} {f C : Addr} {sp : List V → V → Hp → VK → XK → Prop} {E : XK} {x kn : Str} {p p9 pos kpos : Pos} {e e2 : Expr} {es : List Expr} {te tk : TE} {t : TA}
theorem run_makeKw {pins : List (Addr × Obj)} {σ : L2.St} {H : Hp} {s : Shared} {Q : VK} {us : List Value} {u : Value} {vs : List V} {z : V} (M : Mk X.K C f) (F : FnKw X.prog X.w X.K X.mg X.base CX k f kn sp) (hr : Room (k + 1) X.A) (hx : Passes CX X E)
    (I : Inv X pins σ H s) (r : Vals vs us) (rz : RelV z u)
    (h : ∀ x dx, H x = Option.none → H dx = Option.none → dx ≠ x → sp (.ref x :: vs) z (upd (upd H dx (.own x)) x (.ins C dx [])) (fun v H2 => v = .non ∧ Q (.ref x) H2) E) :
    wpAny (model X.prog X.w) X.A (call (.ref C) us [(kn, u)]) (EP X pins σ Q) X.xe s := by
  have hq := h (s.heap.objs.size + 1) s.heap.objs.size (I.hok.fresh (Nat.le_succ _)) (I.hok.fresh (Nat.le_refl _)) (Nat.ne_of_lt (Nat.lt_succ_self _))
  have I2 := Inv.made (C := C) I
  refine wpAny_call (make_map (f := f) I.kIn M.makes M.init (beq_iff_eq.mp M.fn) (codeAny_mono (F _ X.stack _ _ (Value.ref (s.heap.objs.size + 1) :: us) (V.ref (s.heap.objs.size + 1) :: vs) u z _ E (hr.make C us [(kn, u)])
    (I2.env0.make C us [(kn, u)]) (.cons rfl r) rz hq) fun r s' hq' => ?_))
  cases r with
  | error e => exact hx pins σ _ _ e s' I2 hq'
  | ok fl =>
    cases fl with
    | ret u =>
      obtain ⟨v, H', I3, rv, ev, q3⟩ := I2.after hq'
      subst ev
      exact ⟨rv, ⟨V.ref (s.heap.objs.size + 1), H', I3, rfl, q3⟩⟩
    | next => exact False.elim hq'
    | brk => exact False.elim hq'
    | cont => exact False.elim hq'
theorem pe_makeSK (M : Mk X.K C f) (F : FnKw X.prog X.w X.K X.mg X.base CX k f kn sp) (hr : Room (k + 1) X.A) (hm : X.mg x = some (.ref C)) (hx : Passes CX X E) (he : PE X e te) (hk : PE X e2 tk) (hg : Gl X x := by rfl) (hdb : (x == ("__debug__" : Str)) = false := by decide)
    (hst : starEach [.Starred e p9] X.env = [(true, eval e X.env)] := by rfl) (hkw : backToKw pos (keywordEach [⟨some kn, e2, kpos⟩] X.env) = [(some kn, (do let v ← eval e2 X.env; standAt pos; pure v))] := by rfl) :
    PE X (.Call (.Name x p) [.Starred e p9] [⟨some kn, e2, kpos⟩] pos) (tMakeSK X.K C sp E te tk) := by
  refine ⟨fun pins s σ H Q I h => ?_⟩
  refine wpAny_Call_Name_kw (ld_glob I hg hm ?_ hdb)
  refine PySem.W.callWith_SK M.kp (by rw [hkw] <;> rfl) (thn (he.run pins s σ H _ I h) fun v s1 ⟨y, H1, I1, ry, a, ey, q⟩ => ?_) hst
  subst ey
  obtain rfl : v = Value.ref a := ry
  rw [hkw]
  refine wpAny_evalAll_cons (wpAny_bind (thn (hk.run pins s1 σ H1 _ I1 q) fun u s2 ⟨z, H2, I2, rz, xs, hxs, q2⟩ => wpAny_bind (wpAny_standAt (wpAny_pure (wpAny_evalAll_nil ?_)))))
  refine StX.star_any I2 hxs fun us s3 I3 rv => ⟨I3.kIn, ?_⟩
  exact run_makeKw M F hr hx I3 rv rz q2
end
end DL
end
section
namespace DL
open PySem PySem.Spec PyProof.Rows L2
section
variable {K : PySem.W.Frag} {S : Sit} {c : Cl} {C : Addr} {ta tk : TE} {a b : TED} {ts : TA} {as : TAD} {E : XK} {xd : XD} {ind : InD}
def spInR (K : PySem.W.Frag) (S : Sit) (C : Addr) (ind : InD) : Sp := fun vs H Q E => ∃ ws rest, vs = ws ++ rest ∧ ws.length = 1 ∧ rest.length ≤ sizeLine ∧ ∀ p, H p = none → liftIn K S C ind (ws ++ [V.ref p]) (upd H p (.tup rest)) Q E
def dMakeR (ind : InD) (C : Addr) (xd : XD) (as : TAD) : TED := fun ρ P => as ρ fun ds => ds.length ≤ 1000000 ∧ ind [.tup ds] (fun fn es => P (.ins C fn es)) xd
theorem star_heap {Z : Addr → Prop} {H1 : Hp} {x dx p : Addr} {xs : List V} (w : Wd S Z H1) (hx : H1 x = none) (hdx : H1 dx = none) (hne : dx ≠ x) (hp : upd (upd H1 dx (.own x)) x (.ins C dx []) p = none) :
    Kp S H1 (upd (upd (upd H1 dx (.own x)) x (.ins C dx [])) p (.tup xs)) ∧ S.I (upd (upd (upd H1 dx (.own x)) x (.ins C dx [])) p (.tup xs)) ∧ upd (upd (upd H1 dx (.own x)) x (.ins C dx [])) p (.tup xs) x = some (.ins C dx []) ∧
      (∃ o, upd (upd (upd H1 dx (.own x)) x (.ins C dx [])) p (.tup xs) dx = some o ∧ isX o = false) ∧ Ex (hide H1 Z) (hide (upd (upd (upd H1 dx (.own x)) x (.ins C dx [])) p (.tup xs)) (fun a => Z a ∨ a = x ∨ a = dx)) ∧ ¬ (Z p ∨ p = x ∨ p = dx) := by
  obtain ⟨k2, i2, e2, ex⟩ := made_heap (C := C) w hx hdx hne
  have nx : p ≠ x := fun e => by rw [e, upd_same] at hp; cases hp
  have ndx : p ≠ dx := fun e => by rw [e, e2] at hp; cases hp
  have h1p : H1 p = none := by rw [upd_ne nx, upd_ne ndx] at hp; exact hp
  have nz : ¬ Z p := w.fresh h1p
  have k3 : Kp S (upd (upd H1 dx (.own x)) x (.ins C dx [])) (upd (upd (upd H1 dx (.own x)) x (.ins C dx [])) p (.tup xs)) := Kp.new hp
  refine ⟨k2.trans k3, S.stab _ _ (fun b o e _ => by rw [upd_ne (ne_of_none e hp)]; exact e) i2, by rw [upd_ne (Ne.symm nx), upd_same], ⟨.own x, by rw [upd_ne (Ne.symm ndx)]; exact e2, rfl⟩, fun a o e => ?_, ?_⟩
  · obtain ⟨n, e⟩ := hide_some.mp (ex a o e)
    exact hide_some.mpr ⟨n, by rw [upd_ne (ne_of_none e hp)]; exact e⟩
  · rintro (z | z | z)
    · exact nz z
    · exact nx z
    · exact ndx z
theorem we_makeR (hE : XOk K S c E xd) (hs : WA K S c ts as) : WE K S c (StX.tMakeR C (spInR K S C ind) E ts) (dMakeR ind C xd as) := by
  intro Z σ H ρ P rv h Q q
  refine hs Z σ H ρ _ rv h _ fun vs H1 ds k iv r hd => ?_
  have rv1 := rv.step k iv
  intro x dx hx hdx hne
  refine ⟨[V.ref x], vs, rfl, rfl, sz (by rw [← r.len]; exact hd.1), fun p hp => ?_⟩
  obtain ⟨k2, i2, e2, e3, ex, nz⟩ := star_heap (C := C) (xs := vs) rv1.wd hx hdx hne hp
  refine in_of rv1.wd k2 i2 hx hdx e2 e3 (ds := [.tup ds]) (RepL.cons ?_ RepL.nil) hd.2 (fun v H' d k' i' r' h' => q v H' d (k.trans k') i' r' h') (hE.at rv1)
  unfold Rep
  exact ⟨p, vs, rfl, .inl (.inl (hide_some.mpr ⟨nz, upd_same⟩)), RepL.mono ex ds vs r⟩
def spInK (K : PySem.W.Frag) (S : Sit) (C : Addr) (ind : InD) : List V → V → Hp → VK → XK → Prop := fun vs v H Q E => ∃ x rest, vs = x :: rest ∧ rest.length ≤ sizeLine ∧ ∀ p, H p = none → liftIn K S C ind [x, v, V.ref p] (upd H p (.tup rest)) Q E
def dMakeSK (ind : InD) (C : Addr) (xd : XD) (a b : TED) : TED := fun ρ P => a ρ fun y => match y.items with
  | some ds => b ρ fun z => ds.length ≤ 1000000 ∧ ind [z, .tup ds] (fun fn es => P (.ins C fn es)) xd
  | none => False
theorem we_makeSK (hE : XOk K S c E xd) (ha : WE K S c ta a) (hb : WE K S c tk b) : WE K S c (tMakeSK K C (spInK K S C ind) E ta tk) (dMakeSK ind C xd a b) := by
  intro Z σ H ρ P rv h Q q
  refine ha Z σ H ρ _ rv h _ fun u H0 y k0 iv0 r0 hd => ?_
  have rv0 := rv.step k0 iv0
  cases hy : y.items with
  | none => rw [hy] at hd; exact hd.elim
  | some ds =>
    rw [hy] at hd
    obtain ⟨pa, _, ha, _⟩ := items_rep hy r0
    refine ⟨pa, ha, ?_⟩
    refine hb Z σ H0 ρ _ rv0 hd _ fun v H1 z k iv rz hd => ?_
    have rv1 := rv0.step k iv
    obtain ⟨p', vs, e, h1, r⟩ := items_rep hy (Rep.mono (rv0.wd.ex k) y u r0)
    rw [ha] at e
    cases e
    refine ⟨vs, (sq_hide h1).symm, ?_⟩
    intro x dx hx hdx hne
    refine ⟨V.ref x, vs, rfl, sz (by rw [← r.len]; exact hd.1), fun p hp => ?_⟩
    obtain ⟨k2, i2, e2, e3, ex, nz⟩ := star_heap (C := C) (xs := vs) rv1.wd hx hdx hne hp
    refine in_of rv1.wd k2 i2 hx hdx e2 e3 (ds := [z, .tup ds]) (RepL.cons (Rep.mono ex z v rz) (RepL.cons ?_ RepL.nil)) hd.2 (fun v H' d k' i' r' h' => q v H' d ((k0.trans k).trans k') i' r' h') (hE.at rv1)
    unfold Rep
    exact ⟨p, vs, rfl, .inl (.inl (hide_some.mpr ⟨nz, upd_same⟩)), RepL.mono ex ds vs r⟩
def dFldS (i : Nat) (C : Addr) (f : Str) (a : TED) : TSD := fun Dd ρ => (∃ p dx fn es, ρ[i]? = some (some (.own (.ins C p dx fn) es))) ∧ a ρ fun d => match ρ[i]? with
  | some (some (.own (.ins C' p dx fn) es)) => fn.length < 1000 ∧ Dd.nx (ρ.set i (some (.own (.ins C' p dx (putD f d fn es).1) (putD f d fn es).2)))
  | _ => False
theorem ws_fldS {i : Nat} {f : Str} (hc : Cls K C) (hn : NoAttr K C f) (ha : WE K S c ta a) : WS K S c (sFld K (tVar i) ta f) (dFldS i C f a) := by
  rintro B σ H ρ Dd D ⟨Z, r⟩ ⟨⟨p, dx, fn, es, hi⟩, h⟩ F
  refine ha Z σ H ρ _ r.rv h _ fun v H1 d k iv q hd => ?_
  have r1 := r.step k iv
  obtain ⟨p', xs, e1, z, h0, e2, ⟨hp, hl⟩, rl⟩ := r1.own i _ es hi
  subst hp
  rw [hi] at hd
  obtain ⟨hz, hd⟩ := hd
  refine ⟨_, e1, p', C, dx, _, rfl, e2, hc, hn, ?_, ?_⟩
  · rw [List.length_zip, hl, Nat.min_self, ← hl]
    exact hz
  · obtain ⟨ys, g1, g2, g3⟩ := put_rep (f := f) q hl rl
    rw [g1]
    exact F.nx σ _ _ ⟨Z, r1.write (kd' := .ins C p' dx _) hi e1 ⟨rfl, g2⟩ g3⟩ hd
end
section
variable {K : PySem.W.Frag} {S : Sit} {c : Cl} {X : Cx} {ta tb : TE} {a b : TED} {ts : TA} {as : TAD} {e e1 e2 o : Expr} {es : List Expr} {pos pos' p1 p2 kpos : Pos} {x f kn : Str} {C : Addr} {E : XK} {xd : XD} {ind : InD} {CX : CXT} {k : Nat} {fi : Addr}
theorem ds_fldS (i : Nat) (hK : X.K = K) (hc : Cls K C) (hn : NoAttr K C f) (hv : DE K S c X e ta a) (hN : X.N[i]? = some x := by rfl) (hvis : Vis X.env.scope x := by first | exact Or.inl rfl | exact Or.inr (Or.inl rfl)) (hd : (x == ("__debug__" : Str)) = false := by decide)
    (hcd : (x == ("__classdict__" : Str)) = false := by decide) (hs : swapsWith e (some (.Attribute (.Name x p1) f pos')) pos.line X.env = pure false := by rfl) :
    DS K S c X (.Assign [.Attribute (.Name x p1) f pos'] e pos) (sFld K (tVar i) ta f) (dFldS i C f a) := by
  subst hK
  exact ⟨ps_fld (pe_var hN hvis hd hcd) hv.pe hs, ws_fldS hc hn hv.we⟩
theorem de_makeSK (hK : X.K = K) (M : Mk X.K C fi) (F : FnKw X.prog X.w X.K X.mg X.base CX k fi kn (spInK K S C ind)) (hr : Room (k + 1) X.A) (hm : X.mg x = some (.ref C)) (hx : Passes CX X E) (hE : XOk K S c E xd) (ha : DE K S c X e ta a) (hb : DE K S c X e2 tb b) (hg : Gl X x := by rfl) (hdb : (x == ("__debug__" : Str)) = false := by decide)
    (hst : starEach [.Starred e p2] X.env = [(true, eval e X.env)] := by rfl) (hkw : backToKw pos (keywordEach [⟨some kn, e2, kpos⟩] X.env) = [(some kn, (do let v ← eval e2 X.env; standAt pos; pure v))] := by rfl) :
    DE K S c X (.Call (.Name x p1) [.Starred e p2] [⟨some kn, e2, kpos⟩] pos) (tMakeSK K C (spInK K S C ind) E ta tb) (dMakeSK ind C xd a b) := by
  subst hK
  exact ⟨pe_makeSK M F hr hm hx ha.pe hb.pe hg hdb hst hkw, we_makeSK hE ha.we hb.we⟩
end
section
variable {P : Program} {w : World} {K : PySem.W.Frag} {S : Sit} {mg : Str → Option Value} {base : Heap}
open Classical in
noncomputable def cutP (H : Hp) (p : Addr) : Hp := fun b => if b = p then none else H b
theorem cutP_ne {H : Hp} {p b : Addr} (h : b ≠ p) : cutP H p b = H b := by unfold cutP; rw [if_neg h]
theorem cutP_at {H : Hp} {p : Addr} : cutP H p p = none := by unfold cutP; rw [if_pos rfl]
theorem cutP_some {H : Hp} {p b : Addr} {o : HO} (h : cutP H p b = some o) : b ≠ p ∧ H b = some o := by
  by_cases e : b = p
  · subst e; rw [cutP_at] at h; cases h
  · exact ⟨e, by rw [cutP_ne e] at h; exact h⟩
theorem rz_init {Z : Addr → Prop} {H : Hp} {N : List Str} {vs : List V} {ds : List D} {E : XK} {x : XD} {C p dx : Addr} (wd : Wd S Z H) (hp : H p = some (.ins C dx [])) (zp : Z p) (np : ¬ S.W p) (hs : S.Hs p = none) (r : RepL K (hide H Z) ds vs) :
    RZ K S ⟨fun a => Z a ∧ a ≠ p, cutP H p, E, x⟩ (fun _ => none) Z (L2.start N (.ref p :: vs)) H (startD N (.own (.ins C p dx []) [] :: ds)) := by
  have cut : ∀ (i : Nat) d, (startD N (.own (.ins C p dx []) [] :: ds))[i]? = some (some d) → (i = 0 ∧ d = .own (.ins C p dx []) []) ∨ ∃ j, i = j + 1 ∧ ds[j]? = some d := fun i d h => by
    have e := startD_get h
    cases i with
    | zero => exact .inl ⟨rfl, (Option.some.inj e).symm⟩
    | succ j => exact .inr ⟨j, rfl, e⟩
  have noOwn : ∀ (j : Nat) d, ds[j]? = some d → d.isOwn = true → False := fun j d h o => by
    obtain ⟨v, _, q⟩ := r.get h
    rw [rep_notOwn q] at o; cases o
  refine ⟨⟨wd, fun b o e n => (cutP_some e).2, fun a z => z.1, start_len (by simp [r.len]), fun i d h n => ?_⟩, ⟨fun b o e => ?_, fun a wa => ⟨wd.wz a wa, fun e => by rw [e] at wa; exact np wa⟩, fun a z => ?_, fun a o z e => wd.zx a o z.1 (cutP_some e).2, S.stab H _ (fun a o eo hw => by
    show cutP H p a = some o
    rw [cutP_ne fun e => hw.elim (fun wa => by rw [e] at wa; exact np wa) fun hx => by rw [e, hp] at eo; cases eo; cases hx]
    exact eo) wd.inv⟩, (fun _ _ h => by cases h), fun i => if i = 0 then [p] else [], fun i d h o => ?_, fun i j d e a h1 o1 h2 o2 _ _ => ?_⟩
  · rcases cut i d h with ⟨_, rfl⟩ | ⟨j, rfl, e⟩
    · cases n
    · obtain ⟨v, e1, q⟩ := r.get e
      exact ⟨v, start_get (by simpa using e1), q⟩
  · obtain ⟨h1, h2⟩ := wd.base b o e
    exact ⟨by show cutP H p b = some o; rw [cutP_ne (fun e' => by rw [e', hs] at e; cases e)]; exact h1, fun z => h2 z.1⟩
  · obtain ⟨o, e⟩ := wd.zin a z.1
    exact ⟨o, by show cutP H p a = some o; rw [cutP_ne z.2]; exact e⟩
  · rcases cut i _ h with ⟨rfl, rfl⟩ | ⟨j, rfl, e⟩
    · refine ⟨.ref p, start_get rfl, ?_, (List.nodup_cons.mpr ⟨by simp, List.nodup_nil⟩ : ([p] : List Addr).Nodup)⟩
      show Own K H Z (cutP H p) _ _ [p]
      unfold Own
      exact ⟨p, [], rfl, rfl, zp, cutP_at, hp, ⟨rfl, rfl⟩, RepL.nil⟩
    · exact (noOwn j d e o).elim
  · rcases cut i _ h1 with ⟨rfl, _⟩ | ⟨i', rfl, e1⟩
    · rcases cut j _ h2 with ⟨rfl, _⟩ | ⟨j', rfl, e2⟩
      · rfl
      · exact (noOwn j' e e2 o2).elim
    · exact (noOwn i' d e1 o1).elim
def InitEnds (C p dx : Addr) (Pd : List Str → List D → Prop) : EndsD := { nx := fun ρ => ∃ fn es, ρ[0]? = some (some (.own (.ins C p dx fn) es)) ∧ Pd fn es, rt := fun _ => False }
theorem fit_init {Z : Addr → Prop} {H : Hp} {E : XK} {x : XD} {C p dx : Addr} {Pd : List Str → List D → Prop} {Q : VK} (zp : Z p)
    (hq : ∀ H' fn es xs, (∀ b o, H b = some o → b ≠ p → ¬ S.W b → H' b = some o) → S.I H' → H' p = some (.ins C dx (fn.zip xs)) → fn.length = xs.length → RepL K (hide H' Z) es xs → Pd fn es → Q .non H') :
    Fit K S ⟨fun a => Z a ∧ a ≠ p, cutP H p, E, x⟩ (fun _ => none) (InitEnds C p dx Pd) { nx := fun _ H' => Q .non H', rt := Q } := by
  refine ⟨fun σ H' ρ ⟨Z', r⟩ ⟨fn, es, h1, h2⟩ => ?_, fun _ _ _ _ _ _ h => h.elim, fun _ _ _ _ h => h.elim, fun _ _ _ _ h => h.elim⟩
  obtain ⟨p', xs, e1, z, h0, e2, ⟨hp, hl⟩, rl⟩ := r.own 0 _ es h1
  subst hp
  refine hq H' fn es xs (fun b o e n nw => r.rv.kp b o (by show cutP H p' b = some o; rw [cutP_ne n]; exact e) nw) r.rv.wd.inv e2 hl (RepL.mono (hide_weak fun a za => ?_) es xs rl) h2
  by_cases ea : a = p'
  · rw [ea]; exact z
  · exact r.rv.zz a ⟨za, ea⟩
theorem fn_initK {qual pv kn : Str} {st : Stmt} {f C : Addr} {fd : FuncData} {N : List Str} {k : Nat} {ind : InD} {tD : TSD} (F : Fun K "__init__" qual st f fd) (sc : FnScope N ["self", kn, pv] (defScope st))
    (h0 : ∀ (kV doc pm : Value) (an : Option Addr) (cdv ct a z : Value), bindArgs (PySem.W.fnOf "__init__" qual (defArgs st) (defBody st) (defScope st) .none kV doc pm an cdv ct) ⟨[a], [(kn, z)]⟩ = (newTuple [] >>= fun t => pure [(("self" : Str), a), (kn, z), (pv, t)]))
    (h1 : ∀ (kV doc pm : Value) (an : Option Addr) (cdv ct a z r : Value) (rs : List Value), bindArgs (PySem.W.fnOf "__init__" qual (defArgs st) (defBody st) (defScope st) .none kV doc pm an cdv ct) ⟨a :: r :: rs, [(kn, z)]⟩ = (newTuple (r :: rs) >>= fun t => pure [(("self" : Str), a), (kn, z), (pv, t)]))
    (hpure : ∀ p dx ds Pd x, ind ds Pd x → tD (InitEnds C p dx Pd) (startD N (.own (.ins C p dx []) [] :: ds)))
    (hbody : ∀ (c : Cl) (cdv : Value) (A : Around) (outer : List PySem.Env) (s : Shared) (H : Hp) (E : XK), Room k (A.deeper (envOfC qual (defScope st) s.heap.objs.size f cdv)) →
      ∃ ts, DSs K S c (cxOf CX0 P w K mg base N qual (defScope st) f cdv A outer s H E).nox (defBody st) ts tD) : FnKw P w K mg base CX0 (k + 1) f kn (spInK K S C ind) := by
  obtain ⟨oc, od, kV, doc, pm, an, cdv, ct, osl, rfl, lk, hcd⟩ := F.ex
  refine fn_starko (sp := liftIn K S C ind) lk hcd sc StX.cxUp_none (h0 kV doc pm an cdv ct) (h1 kV doc pm an cdv ct) fun A outer s H vs Q E hr h => ?_
  obtain ⟨p, dx, us, Z, ds, Pd, x, rfl, hp, wd, zp, np, hs, r, hi, hq, hx⟩ := h
  obtain ⟨ts, d⟩ := hbody ⟨fun a => Z a ∧ a ≠ p, cutP H p, E, x⟩ cdv A outer s H E hr
  exact ⟨ts, d.pss.nox, d.ws (fun _ => none) _ H _ _ _ ⟨Z, rz_init wd hp zp np hs r⟩ (hpure p dx ds Pd x hi) (fit_init zp hq)⟩
end
end DL
end
section
namespace DL
open PySem PySem.Spec PyProof.Rows L2
theorem en_new {v : Value} {o : Obj} {H : Heap → Prop} (B : Begins v o H) : Meets (Builtin.«enumerate.__new__» ⟨[.type "enumerate", v], []⟩) (fun _ R s => H s.heap ∧
    R (.ok (.ret (.ref (s.heap.push o).objs.size))) { s with heap := (s.heap.push o).push { cls := .type "enumerate", data := .fields #[.none, .bool false, .ref s.heap.objs.size, rawInt 0, .none, .none] } }) :=
  .of_wp fun prog w A R s h => by
    obtain ⟨hp, g, d, tk, os⟩ := s
    obtain ⟨hB, hR⟩ := h
    have hsu := sub_enumerate
    have qq : ∀ {A' : Around} {E Q : Value → Shared → Prop}, Q (.ref hp.objs.size) ⟨hp.push o, g, d, tk, os⟩ → wpAny (model prog w) A' (pyIter v) Q E ⟨hp, g, d, tk, os⟩ := fun q => B.iter prog w _ _ ⟨hp, g, d, tk, os⟩ _ hB q
    wp_walk using qq
    refine wpAny_stack_any fun st => wpAny_pure ?_
    split
    · rename_i c _ _ _ _ _
      cases (c == Value.type "enumerate") <;> (wp_walk using qq; exact ⟨_, rfl, hR⟩)
    · (wp_walk using qq; exact ⟨_, rfl, hR⟩)
theorem en_call {prog : Program} {w : World} {A : Around} {E : Value → Shared → Prop} {s : Shared} {v : Value} {o : Obj} {H : Heap → Prop} {Q : Value → Shared → Prop} (B : Begins v o H) (hB : H s.heap)
    (h : ∀ h', IsEnum h' (s.heap.objs.size + 1) s.heap.objs.size 0 .none → h'.get? s.heap.objs.size = some o → h'.objs.size = s.heap.objs.size + 2 → (∀ b ob, s.heap.get? b = some ob → h'.get? b = some ob) → Q (.ref (s.heap.objs.size + 1)) { s with heap := h' }) :
    wpAny (model prog w) A (call (.type "enumerate") [v]) Q E s := by
  refine callType_new F.called_enumerate (by decide) (F.typeCall_enumerate_1 _) (F.newCall_enumerate_1 _) (fun obj => F.args_object_init_2 obj _) F.entry_enumerate_new (en_new B) ⟨hB, ?_⟩
  have z1 : (s.heap.push o).objs.size = s.heap.objs.size + 1 := Heap.size_push ..
  have en : IsEnum ((s.heap.push o).push { cls := .type "enumerate", data := .fields #[.none, .bool false, .ref s.heap.objs.size, rawInt 0, .none, .none] }) (s.heap.objs.size + 1) s.heap.objs.size 0 .none := by
    have q := Heap.get?_push_size (s.heap.push o) (o := { cls := .type "enumerate", data := .fields #[.none, .bool false, .ref s.heap.objs.size, rawInt 0, .none, .none] }) rfl
    rw [z1] at q
    exact q
  show _ ∧ _
  rw [z1]
  exact ⟨⟨_, en, rfl⟩, h _ en (Heap.get?_push_of_some _ (Heap.get?_push_size _ B.free)) (by rw [Heap.size_push, z1]) fun b ob e => Heap.get?_push_of_some _ (Heap.get?_push_of_some _ e)⟩
theorem en_end {prog : Program} {w : World} {A : Around} {E : Value → Shared → Prop} {s : Shared} {e it t : Addr} {k : Int} {i : Nat} {items : Array Value} {old : Value} {Q : Option Value → Shared → Prop} (hh : A.handled = none) (he : IsEnum s.heap e it k old) (hit : s.heap.IsTupleIter it t i)
    (ht : s.heap.IsTuple t items) (hx : items[i]? = none) (hQ : ∀ h', Heap.ExtBut it s.heap h' → Q none { s with heap := h' }) : wpAny (model prog w) A (pyNext (.ref e)) Q E s := by
  have ty : s.TypeIs (.ref e) "enumerate" := ⟨_, he, rfl⟩
  unfold pyNext
  refine wpAny_bind (wpAny_attempt (wpAny_callSpecial?_slot (name := Str.ofString "__next__") ty F.slot_enumerate_next (wpAny_call_entry F.slot_enumerate_next ty F.entry_enumerate_next ?_ (F.args_enumerate_next_1 _))))
  show wpAny _ _ (field (.ref e) 2 >>= _) _ _ _
  refine wpAny_bind (wpAny_field he rfl (x := .ref it) rfl (wpAny_bind (wpAny_nextOf_tuple_end (by simpa using hh) hit ht hx fun h' x xb ⟨o, ho, hc⟩ => ?_)))
  exact wpAny_bind (wpAny_isInstance (T := "StopIteration") (b := true) ⟨o, ho, hc⟩ isSubtype_stop (wpAny_pure (hQ _ xb)))
def IeT (K : PySem.W.Frag) (a : Addr) : It :=
  ⟨fun i H => ∃ (xs : List V) (x : V), SqT K H a xs ∧ xs[i]? = some x, fun i H v H' => ∃ T x, v = .ref T ∧ H T = none ∧ H' = upd H T (.tup [.int (i : Nat), x]) ∧ ∀ xs, SqT K H a xs → xs[i]? = some x, fun i H => ∃ xs : List V, SqT K H a xs ∧ xs.length ≤ i⟩
theorem turn_enT {P : Program} {w : World} {K : PySem.W.Frag} {elts : List Expr} {kk : Nat} {tpos : Pos} (a e it : Addr) (hai : a ≠ it) (hea : e ≠ a) :
    Turn P w K (.Tuple elts kk tpos) (IeT K a) [e, it] e (fun i h => (∃ old, IsEnum h e it ((i : Nat) : Int) old) ∧ h.IsTupleIter it a i ∧ e ≠ it) where
  mem := by simp
  obj := fun i h st b hb => by
    obtain ⟨⟨old, he⟩, ⟨o, ho, hc, hd⟩, _⟩ := st
    rcases (by simpa using hb : b = e ∨ b = it) with z | z
    · rw [z]; exact ⟨_, he, fun v q => nomatch q⟩
    · rw [z]; exact ⟨o, ho, fun v q => by rw [hd] at q; cases q⟩
  keep := fun i h h' st k => let ⟨⟨old, he⟩, hi, hne⟩ := st; ⟨⟨old, k e (by simp) _ he⟩, hi.at fun o q => k it (by simp) o q, hne⟩
  item := by
    intro X hP hw hK hc i pins s σ H E I hf st hg
    subst hP hw hK
    obtain ⟨⟨old, he⟩, hit, hne⟩ := st
    obtain ⟨xs, x, hq, hx⟩ := hg
    obtain ⟨its, rv, p, hz⟩ := I.tuple hq
    obtain ⟨u, hu, ru⟩ := rv.get hx
    have hel : e < s.heap.objs.size := Heap.lt_size he
    have hil : it < s.heap.objs.size := by obtain ⟨_, q, _⟩ := hit; exact Heap.lt_size q
    have hlt : i < its.toArray.size := by
      rw [List.size_toArray]
      exact (List.getElem?_eq_some_iff.mp hu).1
    refine wpAny_pyNext_enum_itemD (Draws.tuple (by simpa using I.ok.hd hc) it a hai its.toArray) he ⟨hit, p⟩ hlt hne (by simp only [List.mem_cons, List.not_mem_nil, or_false, not_or]; exact ⟨hne, hea⟩) fun x' h' tk hx' ho hst hT hsz hk => ?_
    have ex : x' = u := by
      have e2 : its[i]? = some x' := by simpa using hx'
      rw [hu] at e2
      cases e2
      rfl
    subst ex
    refine ⟨_, rfl, wpAny_letOwnedTupleGo_enum (s := { s with heap := h', toks := tk + 1 }) ho fun h'' he' sb => ?_⟩
    have hT2 : h''.get? s.heap.objs.size = some { cls := .type "tuple", data := .seq #[.int i tk, x'] } := (sb.2 _ (Nat.ne_of_gt hel)).trans hT
    have new : ObjOk X.prog X.w (upd H s.heap.objs.size (.tup [.int (i : Nat), x])) h'' s.heap.objs.size (.tup [.int (i : Nat), x]) :=
      ⟨by show 2 ≤ sizeLine; decide, [.int i tk, x'], .cons ⟨_, rfl⟩ (.cons ru .nil), ⟨_, hT2, rfl, _, rfl⟩⟩
    have I1 : Inv X pins σ (upd H s.heap.objs.size (.tup [.int (i : Nat), x])) { s with heap := h'', toks := tk + 1 } :=
      I.turnedNew (ch := [e, it]) (fun b ob hb q => (sb.2 b (fun z => hb (by simp [z]))).trans (hk b ob (fun z => hb (by simp [z])) (fun z => hb (by simp [z])) q)) hf (Nat.le_refl _) new
    refine ⟨.ref s.heap.objs.size, _, I1, rfl, ⟨_, x, rfl, I.hok.fresh (Nat.le_refl _), rfl, fun ys hy => by rw [I.tuple_inj hy hq]; exact hx⟩, ⟨⟨x', ?_⟩, hst.1.at fun o q => (sb.2 it (Ne.symm hne)).trans q, hne⟩, fun b hb => ?_⟩
    · rw [Int.natCast_add, Int.natCast_one]; exact he'
    · have hb' : b < s.heap.objs.size := by
        rcases (by simpa using hb : b = e ∨ b = it) with z | z
        · rw [z]; exact hel
        · rw [z]; exact hil
      rw [upd_ne (Nat.ne_of_lt hb')]
      exact (hf b hb).1
  done := by
    intro X hP hw hK hc i pins s σ H E I hf st hg
    subst hP hw hK
    obtain ⟨⟨old, he⟩, hit, hne⟩ := st
    obtain ⟨xs, hq, hx⟩ := hg
    obtain ⟨its, rv, p, hz⟩ := I.tuple hq
    obtain ⟨f0, f1, f2, f3, f4, f5⟩ := hf it (by simp)
    have hl := rv.length
    exact en_end (I.ok.hd hc) he hit p (Array.getElem?_eq_none (by rw [List.size_toArray, ← hl]; exact hx)) fun h' eb => ⟨rfl, I.turned (t' := s.toks) (fun b o hb q => eb b o hb q) f0 f1 f3 f4 f5⟩
  self := fun A i s Q E st h => let ⟨⟨_, he⟩, _⟩ := st; wpAny_pyIter_enum he h
def iEnT (K : PySem.W.Frag) (ta : TA) : TI := fun σ H R => ta σ H fun vs H1 => ∃ a xs, vs = [.ref a] ∧ SqT K H1 a xs ∧ R (IeT K a) H1
theorem pi_enT {X : Cx} {e : Expr} {ta : TA} {p pos tpos : Pos} {elts : List Expr} {kk : Nat} (hg : Gl X "enumerate") (hm : X.mg "enumerate" = none) (ha : PA X [e] ta) (hs : starEach [e] X.env = [(false, eval e X.env)] := by rfl) :
    PI X (.Tuple elts kk tpos) (.Call (.Name "enumerate" p) [e] [] pos) (iEnT X.K ta) := by
  refine ⟨fun pins s σ H R I h => ?_⟩
  refine Call_ (ld_blt I hg hm boot_enumerate (PyProof.Rows.callWith_type1 (thn (ha.run pos pins s σ H _ I h) fun us s1 ⟨vs, H1, I1, r1, a, xs, ex, hq, q⟩ => ?_) hs rfl))
  subst ex
  obtain ⟨u, rfl, ru⟩ := vals1 r1
  obtain rfl : u = Value.ref a := ru
  obtain ⟨its, rv, p', hz⟩ := I1.tuple hq
  have la : a < s1.heap.objs.size := by obtain ⟨_, q', _⟩ := p'; exact Heap.lt_size q'
  refine en_call (begins_tuple a its.toArray) p' fun h' he hit hsz hk => wpAny_pyIter_enum he ?_
  have I2 : Inv X pins σ H1 { s1 with heap := h' } := I1.kept (t' := s1.toks) hk
  refine ⟨s1.heap.objs.size + 1, [s1.heap.objs.size + 1, s1.heap.objs.size], _, _, H1, rfl, I2, turn_enT a (s1.heap.objs.size + 1) s1.heap.objs.size (Nat.ne_of_lt la) (Nat.ne_of_gt (Nat.lt_succ_of_lt la)), ⟨⟨.none, he⟩, ⟨_, hit, rfl, rfl⟩, Nat.succ_ne_self _⟩, fun b hb => ?_, q⟩
  have hle : s1.heap.objs.size ≤ b := by
    rcases (by simpa using hb : b = s1.heap.objs.size + 1 ∨ b = s1.heap.objs.size) with z | z <;> (rw [z]; first | exact Nat.le_refl _ | exact Nat.le_add_right _ _)
  exact I1.fpOk hle (I1.hok.fresh hle)
end DL
end
section
namespace DL
open PySem PySem.Spec PyProof.Rows L2
def enD (ds : List D) : List D := ds.mapIdx fun i d => .tup [.int (i : Nat), d]
theorem enD_get {ds : List D} {i : Nat} {d : D} (h : (enD ds)[i]? = some d) : ∃ x, ds[i]? = some x ∧ d = .tup [.int (i : Nat), x] := by
  unfold enD at h
  rw [List.getElem?_mapIdx] at h
  cases q : ds[i]? with
  | none => rw [q] at h; cases h
  | some x => rw [q] at h; cases h; exact ⟨x, rfl, rfl⟩
theorem enD_len {ds : List D} : (enD ds).length = ds.length := by unfold enD; simp
section
variable {K : PySem.W.Frag} {S : Sit} {c : Cl} {te : TE} {ta : TA} {a : TED} {as : TAD}
def iEnumLD (as : TAD) : TAD := fun ρ P => as ρ fun ds => match ds with
  | [.lst es] => P (enD es)
  | _ => False
def iEnumTD (as : TAD) : TAD := fun ρ P => as ρ fun ds => match ds with
  | [.tup es] => P (enD es)
  | _ => False
theorem pair_rep {H2 : Hp} {Z2 : Addr → Prop} {T : Addr} {i : Nat} {y : V} {x : D} (z : ∀ a, Z2 a → ∃ o, H2 a = some o) (hT : H2 T = none) (r : Rep K (hide H2 Z2) x y) : Rep K (hide (upd H2 T (.tup [.int (i : Nat), y])) Z2) (.tup [.int (i : Nat), x]) (.ref T) := by
  have nz : ¬ Z2 T := fun q => by
    obtain ⟨o, e⟩ := z T q
    rw [hT] at e; cases e
  have ex : Ex (hide H2 Z2) (hide (upd H2 T (.tup [.int (i : Nat), y])) Z2) := fun b o e => by
    obtain ⟨n, e⟩ := hide_some.mp e
    exact hide_some.mpr ⟨n, by rw [upd_ne (ne_of_none e hT)]; exact e⟩
  unfold Rep
  exact ⟨T, [.int (i : Nat), y], rfl, .inl (.inl (hide_some.mpr ⟨nz, upd_same⟩)), RepL.cons repI (RepL.cons (Rep.mono ex _ _ r) RepL.nil)⟩
theorem wi_enumT (hs : WA K S c ta as) : WI K S c (iEnT K ta) (iEnumTD as) := by
  intro Z σ H ρ P rv h Q q
  refine hs Z σ H ρ _ rv h _ fun vs H1 ds k iv r hd => ?_
  split at hd
  · rename_i es
    obtain ⟨v, rfl, r1⟩ := repL1 r
    unfold Rep at r1
    obtain ⟨p, xs, rfl, h1, h2⟩ := r1
    refine ⟨p, xs, rfl, ex_t hide_ex h1, q _ H1 _ k iv hd fun H2 Z2 e z => ?_⟩
    have g2 : SqT K H2 p xs := ex_t (fun a o q => hide_ex _ _ (e a o q)) h1
    refine ⟨fun i d hi => ?_, ⟨xs, g2, by rw [enD_len, h2.len]; exact Nat.le_refl _⟩⟩
    obtain ⟨x, hx, rfl⟩ := enD_get hi
    obtain ⟨y, hy, ry⟩ := h2.get hx
    refine ⟨⟨xs, y, g2, hy⟩, fun v H' ⟨T, y', e1, hT, e2, e3⟩ => ?_⟩
    have e4 := e3 xs g2
    rw [hy] at e4
    cases e4
    subst e1 e2
    exact ⟨fun b o eb => by rw [upd_ne (ne_of_none eb hT)]; exact eb, pair_rep z hT (Rep.mono e x y ry)⟩
  · exact hd.elim
theorem wi_enumL (hs : WA K S c ta as) : WI K S c (iEnum K ta) (iEnumLD as) := by
  intro Z σ H ρ P rv h Q q
  refine hs Z σ H ρ _ rv h _ fun vs H1 ds k iv r hd => ?_
  split at hd
  · rename_i es
    obtain ⟨v, rfl, r1⟩ := repL1 r
    unfold Rep at r1
    obtain ⟨p, xs, rfl, h1, h2⟩ := r1
    refine ⟨p, xs, rfl, .inl (.inl (hide_ex _ _ h1)), q _ H1 _ k iv hd fun H2 Z2 e z => ?_⟩
    have g2 : SqL K H2 p xs := .inl (.inl (hide_ex _ _ (e _ _ h1)))
    refine ⟨fun i d hi => ?_, ⟨xs, g2, by rw [enD_len, h2.len]; exact Nat.le_refl _⟩⟩
    obtain ⟨x, hx, rfl⟩ := enD_get hi
    obtain ⟨y, hy, ry⟩ := h2.get hx
    refine ⟨⟨xs, y, g2, hy⟩, fun v H' ⟨T, y', e1, hT, e2, e3⟩ => ?_⟩
    have e4 := e3 xs g2
    rw [hy] at e4
    cases e4
    subst e1 e2
    exact ⟨fun b o eb => by rw [upd_ne (ne_of_none eb hT)]; exact eb, pair_rep z hT (Rep.mono e x y ry)⟩
  · exact hd.elim
def isiD (T : String) (d : D) : Bool := d.tyN == T || (T == "int" && d.tyN == "bool")
def KitT (T : String) : Prop := ∀ n ∈ kindsN, kitB n T = some (n == T || (T == "int" && n == "bool"))
theorem kit_int : KitT "int" := by unfold KitT; decide +kernel
theorem kit_bool : KitT "bool" := by unfold KitT; decide +kernel
theorem kit_str : KitT "str" := by unfold KitT; decide +kernel
theorem kit_list : KitT "list" := by unfold KitT; decide +kernel
theorem kit_tuple : KitT "tuple" := by unfold KitT; decide +kernel
theorem ty_rep {H : Hp} {Z : Addr → Prop} {d : D} {x : V} (hn : d.tyN ∈ kindsN) (r : Rep K (hide H Z) d x) : TyX K H x (.type d.tyN) := by
  cases d with
  | non => unfold Rep at r; subst r; exact .base .non
  | bl b => unfold Rep at r; subst r; exact .base (.bl b)
  | int b => unfold Rep at r; subst r; exact .base (.int b)
  | str b => unfold Rep at r; subst r; exact .base (.str b)
  | lst ds =>
    unfold Rep at r
    obtain ⟨p, xs, rfl, h1, h2⟩ := r
    exact .base (.lst (hide_ex _ _ h1))
  | tup ds =>
    unfold Rep at r
    obtain ⟨p, xs, rfl, h1, h2⟩ := r
    have h3 : SqT K H p xs := ex_t hide_ex h1
    rcases h3 with (h3 | ⟨o, h3⟩) | ⟨o, its, n, h3, h4, _⟩
    · exact .base (.tup h3)
    · exact .fTuple h3
    · exact .kTuple h3 h4
  | _ => exact absurd hn (by show ¬ ("" ∈ kindsN); decide)
theorem D.kind_mem {d : D} (h : d.kind = true) : d.tyN ∈ kindsN := by
  unfold D.kind at h
  simpa using h
theorem kit_rep {T : String} (k : KitT T) {d : D} (h : d.tyN ∈ kindsN) : PySem.W.kitOne K (.type d.tyN) (.type T) = some (isiD T d) := kit_ty (k _ h)
def dIsi (T : String) (a : TED) : TED := fun ρ P => a ρ fun d => d.kind = true ∧ P (.bl (isiD T d))
theorem we_isi {T : String} (k : KitT T) (ha : WE K S c te a) : WE K S c (tCB (rIsi K) (tCons te (tCons (tC (.ty T)) tNil))) (dIsi T a) := by
  intro Z σ H ρ P rv h Q q
  refine ha Z σ H ρ _ rv h _ fun v H1 d k1 i1 r1 ⟨hk, h1⟩ => ?_
  exact ⟨v, .ty T, _, _, _, rfl, .ty T, ty_rep (D.kind_mem hk) r1, kit_rep k (D.kind_mem hk), q _ H1 _ k1 i1 repB h1⟩
theorem kitAny2 {t : Value} {a b : String} {x y : Bool} (h1 : PySem.W.kitOne K t (.type a) = some x) (h2 : PySem.W.kitOne K t (.type b) = some y) : PySem.W.kitAny K t [.type a, .type b] = some (x || y) := by
  cases x with
  | true => exact kitAny_cons h1 (fun e => nomatch e) fun _ => rfl
  | false => exact kitAny_cons h1 (fun _ => kitAny_cons h2 (fun e => by rw [e]; exact kitAny_nil) fun e => e) fun e => nomatch e
def dIsiTL (a : TED) : TED := fun ρ P => a ρ fun d => d.kind = true ∧ P (.bl (isiD "tuple" d || isiD "list" d))
theorem we_isiTL (ha : WE K S c te a) : WE K S c (tCB (rIsiT K) (tCons te (tCons (tTup (tCons (tC (.ty "tuple")) (tCons (tC (.ty "list")) tNil))) tNil))) (dIsiTL a) := by
  intro Z σ H ρ P rv h Q q
  refine ha Z σ H ρ _ rv h _ fun v H1 d k1 i1 r1 ⟨hk, h1⟩ => ?_
  have rv1 := rv.step k1 i1
  refine ⟨by show 2 ≤ sizeLine; decide, fun T hT => ?_⟩
  have m := D.kind_mem hk
  have r2 := Rep.mono (rv1.wd.ex (Kp.new (o := .tup [.ty "tuple", .ty "list"]) hT)) _ _ r1
  exact ⟨v, T, _, .type d.tyN, _, _, rfl, upd_same, .cons (.ty "tuple") (.cons (.ty "list") .nil), ty_rep m r2, kitAny2 (kit_rep kit_tuple m) (kit_rep kit_list m), q _ _ _ (k1.trans (Kp.new hT)) (rv1.wd.inew hT) repB h1⟩
theorem wi_str (ha : WE K S c te a) : WI K S c (iStr te) (iStrD a) := by
  intro Z σ H ρ P rv h Q q
  refine ha Z σ H ρ _ rv h _ fun v H1 d k iv r hd => ?_
  cases d <;> try exact hd.elim
  rename_i x
  unfold Rep at r
  subst r
  have hl : (strD x).length = x.cps.size := by unfold strD; simp
  refine ⟨x, rfl, q _ H1 _ k iv hd fun H2 Z2 e z => ⟨fun i d hi => ?_, by rw [hl]; exact Nat.le_refl _⟩⟩
  have hb : i < x.cps.size := by rw [← hl]; exact (List.getElem?_eq_some_iff.mp hi).1
  have ed : d = .str ⟨#[x.cps[i]]⟩ := by
    unfold strD at hi
    rw [List.getElem?_map, Array.getElem?_toList, Array.getElem?_eq_getElem hb] at hi
    cases hi
    rfl
  subst ed
  refine ⟨hb, fun y H' ⟨e1, k', e2, e3⟩ => ?_⟩
  subst e1 e3
  rw [Array.getElem?_eq_getElem hb] at e2
  cases e2
  exact ⟨fun _ _ h => h, repS⟩
def rAddSD : R2D := fun x y P => match x, y with
  | .str i, .str j => i.length + j.length ≤ 1000000 ∧ P (.str (i ++ j))
  | _, _ => False
theorem wr_addS : WR K S (fun x y H Q => ∃ i j, x = .str i ∧ y = .str j ∧ i.length + j.length ≤ sizeLine ∧ Q (.str (i ++ j)) H) rAddSD := by
  intro Z H x y d e P w r1 r2 hp Q q
  cases d <;> try exact hp.elim
  cases e <;> try exact hp.elim
  unfold Rep at r1 r2
  subst r1 r2
  exact ⟨_, _, rfl, rfl, sz hp.1, q _ H _ (Kp.refl H) w.inv repS hp.2⟩
end
end DL
end
section
namespace DL
open PySem PySem.Spec PyProof.Rows L2
def metN (xs : List Str) : Nat → Nat
  | 0 => 0
  | i + 1 => if (xs.take i).any (· == xs.getD i Str.empty) then metN xs i else metN xs i + 1
theorem metN_le (xs : List Str) : ∀ i, metN xs i ≤ i
  | 0 => Nat.le_refl 0
  | i + 1 => by
    have ih := metN_le xs i
    unfold metN
    split <;> omega
section
variable {prog : Program} {w : World} {A : Around} {R : Result → Shared → Prop} {J : Addr} {fp wr : List Addr} {G : Array GenState → Array GenState → Prop} {n : Nat} {P : Nat → Value → Prop} {St : Nat → Shared → Prop}
abbrev HasN (prog : Program) (w : World) (h : Heap) (a : Addr) (xs : List Str) (i : Nat) : Prop := h.SetOf (PySem.strKind prog w) a (fun y => (xs.take i).any (· == y)) (metN xs i)
theorem has_move {h h' : Heap} {a : Addr} {xs : List Str} {i : Nat} (z : HasN prog w h a xs i) (k : ∀ o, h.get? a = some o → h'.get? a = some o) : HasN prog w h' a xs i := by
  obtain ⟨o, es, ep, t, ho, rest⟩ := z
  exact ⟨o, es, ep, t, k o ho, rest⟩
theorem take_any {xs : List Str} {i : Nat} (h : i < xs.length) (y : Str) : ((xs.take i).any (· == y) || decide (y = xs.getD i Str.empty)) = (xs.take (i + 1)).any (· == y) := by
  rw [List.take_succ, List.any_append, List.getElem?_eq_getElem h, List.getD_eq_getElem?_getD, List.getElem?_eq_getElem h]
  congr 1
  simp only [Option.getD_some, Option.toList_some, List.any_cons, List.any_nil, Bool.or_false]
  by_cases e : y = xs[i]
  · subst e; simp
  · rw [decide_eq_false e]
    symm
    exact beq_eq_false_iff_ne.mpr fun q => e q.symm
theorem met_loop (W : WalksS prog w A.in1 J fp wr G n P St) (D : Addr) (hD : D ∉ fp) (xs : List Str) (hl : xs.length = n) (hb : n + 1 < scanBound) (hv : ∀ i v, P i v → ∃ t, v = .str (xs.getD i Str.empty) t) :
    ∀ (m i : Nat) (s : Shared), n - i = m → i ≤ n → St i s → HasN prog w s.heap D xs i → (∀ s', Moved (D :: wr) G s s' → HasN prog w s'.heap D xs n → R (.ok (.ret .none)) s') →
      codeAny (model prog w) A (.builtin "set.update.loop" ⟨[.ref D, .ref J], []⟩) R s := by
  have nD : D ∉ wr := fun q => hD (W.sub _ q)
  have up : ∀ b ∈ wr, b ∈ D :: wr := fun b q => List.mem_cons_of_mem _ q
  intro m
  induction m with
  | zero =>
    intro i s hm hi st hs hR
    obtain rfl : i = n := by omega
    refine codeAny_builtin PyProof.Rows.F.entry_set_update_loop ?_
    rw [Around.under_plainId PyProof.Rows.F.plain_set_update_loop _]
    show wpAny _ A.in1 (pyNext (.ref J) >>= _) _ _ s
    refine wpAny_bind (W.done s _ _ st fun s1 mv => ?_)
    show wpAny _ A.in1 (ret Value.none) _ _ s1
    exact wpAny_pure (hR s1 (mv.mono up) (has_move hs fun o e => mv.heap D o nD e))
  | succ m ih =>
    intro i s hm hi st hs hR
    have lt : i < n := by omega
    have le := metN_le xs i
    refine codeAny_builtin PyProof.Rows.F.entry_set_update_loop ?_
    rw [Around.under_plainId PyProof.Rows.F.plain_set_update_loop _]
    show wpAny _ A.in1 (pyNext (.ref J) >>= _) _ _ s
    refine wpAny_bind (W.item i s _ _ lt st fun v s1 hp st1 mv => ?_)
    obtain ⟨t, rfl⟩ := hv i v hp
    have hs1 : HasN prog w s1.heap D xs i := has_move hs fun o e => mv.heap D o nD e
    show wpAny _ A.in1 (holding [Value.str (xs.getD i Str.empty) t] (setAdd D (.str (xs.getD i Str.empty) t)) >>= _) _ _ s1
    refine wpAny_bind (wpAny_holding ?_)
    unfold setAdd
    refine wpAny_holding (wpAny_bind ((PySem.strKind prog w).pyHash (k := xs.getD i Str.empty) (strKind_is _ _ _ _) ?_))
    refine wpAny_setAddHashed_of (knd := PySem.strKind prog w) (s := { s1 with toks := s1.toks + 1 }) (strKind_is _ _ _ _) rfl hs1 (by omega) fun h1 sb hs2 => ?_
    have hs3 : HasN prog w h1 D xs (i + 1) := SetOf_congr hs2 (fun y => take_any (by omega) y) rfl
    refine wpAny_pure ⟨plainId_quiet PyProof.Rows.F.plain_set_update_loop _, ih (i + 1) _ (by omega) lt (W.frame _ s1 _ _ st1 (Nat.le_succ _) fun b hb' o e => ?_) hs3 fun s2 mv2 hs4 => ?_⟩
    · rw [sb.2 b fun q : b = D => hD (by rw [← q]; exact hb')]
      exact e
    · refine hR s2 (Moved.trans W.gtrans ((mv.mono up).then_heap (Nat.le_succ _) fun b o hb' e => ?_) mv2) hs4
      rw [sb.2 b fun q : b = D => hb' (by rw [q]; exact List.mem_cons_self)]
      exact e
end
section
variable {prog : Program} {w : World} {A : Around} {E : Value → Shared → Prop} {s : Shared}
theorem set_of_lst {l : Addr} {items : Array Value} {xs : List Str} {Q : Value → Shared → Prop} (calm : A.handled = none) (isq : s.heap.IsList l items) (texts : PyProof.Rows.StrsAre items.toList xs) (few : xs.length + 1 < scanBound)
    (fin : ∀ (h1 : Heap) (tk : Nat), HasN prog w h1 s.heap.objs.size xs xs.length → (∀ b o, b < s.heap.objs.size → s.heap.get? b = some o → h1.get? b = some o) → Q (.ref s.heap.objs.size) { s with heap := h1, toks := tk }) :
    wpAny (model prog w) A (call (.type "set") [.ref l]) Q E s := by
  obtain ⟨c, tl, f_mro⟩ := PySem.F.called_set.mro
  have f_made := PySem.F.called_set.made; have f_sub := PySem.F.called_set.sub
  refine wpAny_call (codeAny_of_tree ?_)
  show wpAny _ _ (callAny (.type "set") _) _ _ _
  refine wpAny_pure ⟨Code.quiet_builtin _ (by decide +kernel), codeAny_builtin PySem.F.entry_type_call ?_⟩
  rw [Around.under_plain (weight_type_call_type "set" [.ref l] []) rfl]
  have f_nt := PySem.F.called_set.notType; have f_cc := PySem.F.called_set.canCreate; have f_tc := PySem.F.typeCall_set_1 (.ref l)
  repeat (any_goals (first | assumption | wp_step))
  refine codeAny_mono (code_set_new_1 (.ref l) (E := E) (Q₁ := fun obj s1 => ∃ led : Bool, obj = .ref s.heap.objs.size ∧ s1 = { s with heap := s.heap.push { cls := .type "set", dict := none, data := .set #[] 0 (.fresh 0 0 led) } }) fun led => ⟨led, rfl, rfl⟩) fun r s1 hr => ?_
  cases r with
  | error e => exact hr
  | ok fl =>
    cases fl with
    | ret obj =>
      obtain ⟨led, rfl, rfl⟩ := hr
      have so_get : (s.heap.push { cls := .type "set", dict := none, data := .set #[] 0 (.fresh 0 0 led) }).get? s.heap.objs.size = some { cls := .type "set", dict := none, data := .set #[] 0 (.fresh 0 0 led) } := Heap.get?_push_size _ rfl
      have so_ty : Shared.TypeIs { s with heap := s.heap.push { cls := .type "set", dict := none, data := .set #[] 0 (.fresh 0 0 led) } } (.ref s.heap.objs.size) "set" := ⟨_, so_get, rfl⟩
      have f_li := PySem.F.called_set.init.lookup; have f_bi := PySem.F.called_set.init.bind (.ref s.heap.objs.size)
      repeat (any_goals (first | assumption | wp_step))
      refine codeAny_mono (codeAny_call_builtin (R := wants (fun r s2 => r = .none ∧ ∃ h1 tk, s2 = { s with heap := h1, toks := tk } ∧ HasN prog w h1 s.heap.objs.size xs xs.length ∧ ∀ b o, b < s.heap.objs.size → s.heap.get? b = some o → h1.get? b = some o) E)
        PySem.F.called_set.init.plain PySem.F.entry_set_init (check_set_init_1 so_ty ?_)) fun r2 s2 hr2 => ?_
      · obtain ⟨⟨ocls, odict, odata, oslots⟩, hol, hcl, nl, hdl⟩ := isq
        simp only at hcl hdl
        subst hcl; subst hdl
        have old : (s.heap.push { cls := .type "set", dict := none, data := .set #[] 0 (.fresh 0 0 led) }).get? l = some { cls := .type "list", dict := odict, data := .seq items nl, slots := oslots } := Heap.get?_push_of_some _ hol
        have f_1 := PySem.F.sub_list_set; have f_2 := PySem.F.sub_list_frozenset
        have f_3 : (Value.type "list" == Value.type "dict") = false := by decide
        have isq1 : (s.heap.push { cls := .type "set", dict := none, data := .set #[] 0 (.fresh 0 0 led) }).IsList l items := ⟨_, old, rfl, nl, rfl⟩
        unfold Builtin.«set.__init__» noKeywords Builtin.Frozenset.updateFrom
        generalize ePI : pyIter = PI
        wp_walk
        subst ePI
        refine wpAny_pyIter_list isq1 ?_
        refine wpAny_bind (wpAny_runValue ?_)
        have ll : l < s.heap.objs.size := Heap.lt_size hol
        have zI : (s.heap.push { cls := .type "set", dict := none, data := .set #[] 0 (.fresh 0 0 led) }).objs.size = s.heap.objs.size + 1 := Heap.size_push ..
        have apart : s.heap.objs.size ∉ [(s.heap.push { cls := .type "set", dict := none, data := .set #[] 0 (.fresh 0 0 led) }).objs.size, l] := by
          rw [zI]; simp only [List.mem_cons, List.mem_singleton, List.not_mem_nil, or_false, not_or]
          exact ⟨Nat.ne_of_lt (Nat.lt_succ_self _), Nat.ne_of_gt ll⟩
        have len : xs.length = items.size := by rw [← StrsAre.len_eq texts, Array.length_toList]
        refine met_loop (n := items.size) ((Walks.list (by simpa using calm) _ l (by rw [zI]; exact Nat.ne_of_lt (Nat.lt_succ_of_lt ll)) items).toS) s.heap.objs.size apart xs len (by rw [← len]; exact few) (fun i v hv => SS.strs_at texts i v (by rw [Array.getElem?_toList]; exact hv))
          (items.size - 0) 0 _ (by omega) (Nat.zero_le _) ⟨⟨_, Heap.get?_push_size _ rfl, rfl, rfl⟩, isq1.push _⟩ ?first ?last
        case first =>
          exact PyProof.Rows.SetOf_congr ((PyProof.Rows.setObjOf_fresh (knd := PySem.strKind prog w) led).setOf (Heap.get?_push_of_some _ so_get) (by unfold scanBound; omega)) (fun _ => rfl) rfl
        case last =>
          intro s3 mv hs3
          obtain ⟨h1, g1, d1, tk, os1⟩ := s3
          obtain rfl : g1 = s.gens := mv.gens
          obtain rfl : d1 = s.drawn := mv.drawn
          obtain rfl : os1 = s.os := mv.os
          show wpAny _ _ _ _ _ _
          refine wpAny_pure ?_
          show wpAny _ _ (ret Value.none) _ _ _
          refine wpAny_pure ⟨rfl, h1, tk, rfl, by rw [len]; exact hs3, fun b o hb e => mv.heap b o ?_ (Heap.get?_push_of_some _ (Heap.get?_push_of_some _ e))⟩
          simp only [List.mem_cons, List.mem_singleton, List.not_mem_nil, or_false, not_or]
          exact ⟨Nat.ne_of_lt hb, by rw [zI]; exact Nat.ne_of_lt (Nat.lt_succ_of_lt hb)⟩
      · cases r2 with
        | error e => exact hr2
        | ok fl2 =>
          cases fl2 with
          | ret r =>
            obtain ⟨rfl, h1, tk, rfl, hs', hk'⟩ := hr2
            repeat (any_goals (first | assumption | wp_step))
            exact fin _ _ hs' hk'
          | _ => exact hr2.elim
    | _ => exact hr.elim
theorem set_of_tup {l : Addr} {items : Array Value} {xs : List Str} {Q : Value → Shared → Prop} (calm : A.handled = none) (isq : s.heap.IsTuple l items) (texts : PyProof.Rows.StrsAre items.toList xs) (few : xs.length + 1 < scanBound)
    (fin : ∀ (h1 : Heap) (tk : Nat), HasN prog w h1 s.heap.objs.size xs xs.length → (∀ b o, b < s.heap.objs.size → s.heap.get? b = some o → h1.get? b = some o) → Q (.ref s.heap.objs.size) { s with heap := h1, toks := tk }) :
    wpAny (model prog w) A (call (.type "set") [.ref l]) Q E s := by
  obtain ⟨c, tl, f_mro⟩ := PySem.F.called_set.mro
  have f_made := PySem.F.called_set.made; have f_sub := PySem.F.called_set.sub
  refine wpAny_call (codeAny_of_tree ?_)
  show wpAny _ _ (callAny (.type "set") _) _ _ _
  refine wpAny_pure ⟨Code.quiet_builtin _ (by decide +kernel), codeAny_builtin PySem.F.entry_type_call ?_⟩
  rw [Around.under_plain (weight_type_call_type "set" [.ref l] []) rfl]
  have f_nt := PySem.F.called_set.notType; have f_cc := PySem.F.called_set.canCreate; have f_tc := PySem.F.typeCall_set_1 (.ref l)
  repeat (any_goals (first | assumption | wp_step))
  refine codeAny_mono (code_set_new_1 (.ref l) (E := E) (Q₁ := fun obj s1 => ∃ led : Bool, obj = .ref s.heap.objs.size ∧ s1 = { s with heap := s.heap.push { cls := .type "set", dict := none, data := .set #[] 0 (.fresh 0 0 led) } }) fun led => ⟨led, rfl, rfl⟩) fun r s1 hr => ?_
  cases r with
  | error e => exact hr
  | ok fl =>
    cases fl with
    | ret obj =>
      obtain ⟨led, rfl, rfl⟩ := hr
      have so_get : (s.heap.push { cls := .type "set", dict := none, data := .set #[] 0 (.fresh 0 0 led) }).get? s.heap.objs.size = some { cls := .type "set", dict := none, data := .set #[] 0 (.fresh 0 0 led) } := Heap.get?_push_size _ rfl
      have so_ty : Shared.TypeIs { s with heap := s.heap.push { cls := .type "set", dict := none, data := .set #[] 0 (.fresh 0 0 led) } } (.ref s.heap.objs.size) "set" := ⟨_, so_get, rfl⟩
      have f_li := PySem.F.called_set.init.lookup; have f_bi := PySem.F.called_set.init.bind (.ref s.heap.objs.size)
      repeat (any_goals (first | assumption | wp_step))
      refine codeAny_mono (codeAny_call_builtin (R := wants (fun r s2 => r = .none ∧ ∃ h1 tk, s2 = { s with heap := h1, toks := tk } ∧ HasN prog w h1 s.heap.objs.size xs xs.length ∧ ∀ b o, b < s.heap.objs.size → s.heap.get? b = some o → h1.get? b = some o) E)
        PySem.F.called_set.init.plain PySem.F.entry_set_init (check_set_init_1 so_ty ?_)) fun r2 s2 hr2 => ?_
      · obtain ⟨⟨ocls, odict, odata, oslots⟩, hol, hcl, nl, hdl⟩ := isq
        simp only at hcl hdl
        subst hcl; subst hdl
        have old : (s.heap.push { cls := .type "set", dict := none, data := .set #[] 0 (.fresh 0 0 led) }).get? l = some { cls := .type "tuple", dict := odict, data := .seq items nl, slots := oslots } := Heap.get?_push_of_some _ hol
        have f_1 := PySem.F.sub_tuple_set; have f_2 := PySem.F.sub_tuple_frozenset
        have f_3 : (Value.type "tuple" == Value.type "dict") = false := by decide
        have isq1 : (s.heap.push { cls := .type "set", dict := none, data := .set #[] 0 (.fresh 0 0 led) }).IsTuple l items := ⟨_, old, rfl, nl, rfl⟩
        unfold Builtin.«set.__init__» noKeywords Builtin.Frozenset.updateFrom
        generalize ePI : pyIter = PI
        wp_walk
        subst ePI
        refine wpAny_pyIter_tuple isq1 ?_
        refine wpAny_bind (wpAny_runValue ?_)
        have ll : l < s.heap.objs.size := Heap.lt_size hol
        have zI : (s.heap.push { cls := .type "set", dict := none, data := .set #[] 0 (.fresh 0 0 led) }).objs.size = s.heap.objs.size + 1 := Heap.size_push ..
        have apart : s.heap.objs.size ∉ [(s.heap.push { cls := .type "set", dict := none, data := .set #[] 0 (.fresh 0 0 led) }).objs.size, l] := by
          rw [zI]; simp only [List.mem_cons, List.mem_singleton, List.not_mem_nil, or_false, not_or]
          exact ⟨Nat.ne_of_lt (Nat.lt_succ_self _), Nat.ne_of_gt ll⟩
        have len : xs.length = items.size := by rw [← StrsAre.len_eq texts, Array.length_toList]
        refine met_loop (n := items.size) ((Walks.tuple (by simpa using calm) _ l (by rw [zI]; exact Nat.ne_of_lt (Nat.lt_succ_of_lt ll)) items).toS) s.heap.objs.size apart xs len (by rw [← len]; exact few) (fun i v hv => SS.strs_at texts i v (by rw [Array.getElem?_toList]; exact hv))
          (items.size - 0) 0 _ (by omega) (Nat.zero_le _) ⟨⟨_, Heap.get?_push_size _ rfl, rfl, rfl⟩, isq1.push _⟩ ?first ?last
        case first =>
          exact PyProof.Rows.SetOf_congr ((PyProof.Rows.setObjOf_fresh (knd := PySem.strKind prog w) led).setOf (Heap.get?_push_of_some _ so_get) (by unfold scanBound; omega)) (fun _ => rfl) rfl
        case last =>
          intro s3 mv hs3
          obtain ⟨h1, g1, d1, tk, os1⟩ := s3
          obtain rfl : g1 = s.gens := mv.gens
          obtain rfl : d1 = s.drawn := mv.drawn
          obtain rfl : os1 = s.os := mv.os
          show wpAny _ _ _ _ _ _
          refine wpAny_pure ?_
          show wpAny _ _ (ret Value.none) _ _ _
          refine wpAny_pure ⟨rfl, h1, tk, rfl, by rw [len]; exact hs3, fun b o hb e => mv.heap b o ?_ (Heap.get?_push_of_some _ (Heap.get?_push_of_some _ e))⟩
          simp only [List.mem_cons, List.mem_singleton, List.not_mem_nil, or_false, not_or]
          exact ⟨Nat.ne_of_lt hb, by rw [zI]; exact Nat.ne_of_lt (Nat.lt_succ_of_lt hb)⟩
      · cases r2 with
        | error e => exact hr2
        | ok fl2 =>
          cases fl2 with
          | ret r =>
            obtain ⟨rfl, h1, tk, rfl, hs', hk'⟩ := hr2
            repeat (any_goals (first | assumption | wp_step))
            exact fin _ _ hs' hk'
          | _ => exact hr2.elim
    | _ => exact hr.elim
end
end DL
end
section
namespace DL
open PySem PySem.Spec PyProof.Rows L2
def D.strs : List D → Option (List Str)
  | [] => some []
  | .str x :: ds => (D.strs ds).map (x :: ·)
  | _ :: _ => none
theorem strs_map : ∀ (xs : List Str), D.strs (xs.map D.str) = some xs
  | [] => rfl
  | x :: xs => by unfold D.strs; rw [List.map_cons] <;> simp [strs_map xs, D.strs]
theorem strs_of : ∀ {ds : List D} {xs : List Str}, D.strs ds = some xs → ds = xs.map D.str
  | [], xs, h => by unfold D.strs at h; cases h; rfl
  | .str x :: ds, xs, h => by
    unfold D.strs at h
    cases e : D.strs ds with
    | none => rw [e] at h; cases h
    | some ys => rw [e] at h; cases h; rw [strs_of e]; rfl
  | .non :: _, _, h => nomatch h
  | .bl _ :: _, _, h => nomatch h
  | .int _ :: _, _, h => nomatch h
  | .tup _ :: _, _, h => nomatch h
  | .lst _ :: _, _, h => nomatch h
  | .ins _ _ _ :: _, _, h => nomatch h
  | .adr _ :: _, _, h => nomatch h
  | .sem _ :: _, _, h => nomatch h
  | .dic _ _ :: _, _, h => nomatch h
  | .own _ _ :: _, _, h => nomatch h
  | .nest _ _ :: _, _, h => nomatch h
def tMet (K : PySem.W.Frag) (ta : TE) : TE := fun σ H Q => ta σ H fun x H1 => ∃ l, ∃ xs : List Str, x = .ref l ∧ (SqL K H1 l (xs.map V.str) ∨ SqT K H1 l (xs.map V.str)) ∧ xs.length ≤ 4000 ∧ Q (.int (metN xs xs.length)) H1
theorem pe_met {X : Cx} {a : Expr} {ta : TE} {p p2 q pos : Pos} (calm : X.calm = true) (hg : Gl X "len") (hm : X.mg "len" = none) (hg2 : Gl X "set") (hm2 : X.mg "set" = none) (ha : PE X a ta)
    (na : starEach [a] X.env = (false, eval a X.env) :: starEach [] X.env := by rfl) : PE X (.Call (.Name "len" p) [.Call (.Name "set" p2) [a] [] q] [] pos) (tMet X.K ta) := by
  constructor
  intro pins s τ H Q I h
  refine Call_ (ld_blt I hg hm PySem.boot_len (PyProof.Rows.callWith_builtin1 (PyProof.Rows.args_cons ?_ rfl) rfl rfl))
  refine Call_ (ld_blt I hg2 hm2 PyProof.Rows.boot_set ?_)
  refine PyProof.Rows.callWith_type1 (PyProof.Rows.args_cons (thn (ha.run pins s τ H _ I h) fun v s1 ⟨x, H1, I1, r1, q1⟩ => PyProof.Rows.args_nil ?_) na) na rfl
  obtain ⟨l, xs, rfl, seq, few, q1⟩ := q1
  cases r1
  have last : ∀ (h1 : Heap) (tk : Nat), HasN X.prog X.w h1 s1.heap.objs.size xs xs.length → (∀ b o, b < s1.heap.objs.size → s1.heap.get? b = some o → h1.get? b = some o) →
      wpAny (model X.prog X.w) X.A (spliced (backTo pos (starEach [] X.env))) (fun vs s2 => wpAny (model X.prog X.w) X.A (call (.builtin "len") (Value.ref s1.heap.objs.size :: vs)) (EP X pins τ Q) X.xe s2) X.xe { s1 with heap := h1, toks := tk } := fun h1 tk hs hk => by
    refine PyProof.Rows.args_nil ?_
    obtain ⟨o, es, ep, t, ho, ex, hd, _, _, _, fits, cnt⟩ := hs
    have le := metN_le xs xs.length
    have I2 : Inv X pins τ H1 { s1 with heap := h1, toks := tk } := I1.kept fun b o e => hk b o (Heap.lt_size e) e
    exact call_len_set ho ex hd fits (by rw [cnt]; omega) ⟨.int (metN xs xs.length), H1, I2.tok _, ⟨_, by rw [cnt]⟩, q1⟩
  rcases seq with seq | seq
  · obtain ⟨its, r, pl, _⟩ := I1.list seq
    exact set_of_lst (I1.ok.hd calm) pl.isList (by simpa using strsAre_of r) (by unfold scanBound; omega) last
  · obtain ⟨its, r, pl, _⟩ := I1.tuple seq
    exact set_of_tup (I1.ok.hd calm) pl (by simpa using strsAre_of r) (by unfold scanBound; omega) last
section
variable {K : PySem.W.Frag} {S : Sit} {c : Cl} {X : Cx} {ta tb te : TE} {a b t : TED} {ts : TA} {as : TAD} {e e1 e2 e3 e4 : Expr} {es : List Expr} {pos p1 p2 p3 tpos : Pos} {x : Str} {C : Addr}
def dMet (a : TED) : TED := fun ρ P => a ρ fun d => match d.items with
  | some ds => match D.strs ds with
    | some xs => xs.length ≤ 4000 ∧ P (.int (metN xs xs.length))
    | none => False
  | none => False
theorem we_met (ha : WE K S c ta a) : WE K S c (tMet K ta) (dMet a) := by
  intro Z σ H ρ P rv h Q q
  refine ha Z σ H ρ _ rv h _ fun v H1 d k1 i1 r1 h1 => ?_
  cases hd : d.items with
  | none => rw [hd] at h1; exact h1.elim
  | some ds =>
    rw [hd] at h1
    simp only at h1
    cases hs : D.strs ds with
    | none => rw [hs] at h1; exact h1.elim
    | some xs =>
      rw [hs] at h1
      have ed := strs_of hs
      subst ed
      obtain ⟨p, vs, rfl, g1, g2⟩ := items_rep hd r1
      have ev := RepL.of_strs g2
      subst ev
      exact ⟨p, xs, rfl, sq_hide g1, h1.1, q _ H1 _ k1 i1 repI h1.2⟩
theorem de_met (hK : X.K = K) (calm : X.calm = true) (hm : X.mg "len" = none) (hm2 : X.mg "set" = none) (ha : DE K S c X e ta a) (hg : Gl X "len" := by rfl) (hg2 : Gl X "set" := by rfl) (na : starEach [e] X.env = (false, eval e X.env) :: starEach [] X.env := by rfl) :
    DE K S c X (.Call (.Name "len" p1) [.Call (.Name "set" p2) [e] [] p3] [] pos) (tMet K ta) (dMet a) := by
  subst hK
  exact ⟨pe_met calm hg hm hg2 hm2 ha.pe na, we_met ha.we⟩
theorem de_globE {d : D} (hat : d.atom = true) (h : ∃ u, X.mg x = some u ∧ RelV d.v u) (hg : Gl X x := by rfl) (hd : (x == ("__debug__" : Str)) = false := by decide) : DE K S c X (.Name x pos) (tC d.v) (dC d) := by
  obtain ⟨u, hm, r⟩ := h
  exact de_glob hat hm r hg hd
theorem room64 {k : Nat} {A : Around} (r : Room k A) : A.units + 64 < cLine := by have := r.un; omega
theorem opK_eq (hK : X.K = K) (hu : X.A.units + 64 < cLine) : OpR X (compareOp .Eq) (rEqD K) := by subst hK; exact op_eqD hu
theorem opK_ne (hK : X.K = K) (hu : X.A.units + 64 < cLine) : OpR X (compareOp .NotEq) (rNeD K) := by subst hK; exact op_neD hu
theorem opK_in (hK : X.K = K) : OpR X (compareOp .In) (rIn K false) := by subst hK; exact op_in_seq
theorem opK_catA (hK : X.K = K) : OpR X (binaryOp .Add) (rCatA K) := by subst hK; exact op_catA
theorem call_lenK (hK : X.K = K) : CallR X (.builtin "len") (fun xs H Q => (∃ p ys, xs = [.ref p] ∧ (SqL K H p ys ∨ SqT K H p ys) ∧ Q (.int ys.length) H) ∨ ∃ z, xs = [.str z] ∧ z.length ≤ sizeLine ∧ Q (.int z.length) H) := by
  subst hK
  exact CallR.or call_len_seq call_len_str
theorem crK_all (hK : X.K = K) (hc : X.calm = true) : CallR X (.builtin "all") (rAll K) := by subst hK; exact cr_all hc
theorem ctK_list (hK : X.K = K) : CallR X (.type "list") (fun xs H Q => ∃ p ys, xs = [.ref p] ∧ (SqL K H p ys ∨ SqT K H p ys) ∧ ∀ l, H l = none → Q (.ref l) (upd H l (.lst ys))) := by subst hK; exact call_list_of
theorem ctK_tuple (hK : X.K = K) : CallR X (.type "tuple") (fun xs H Q => ∃ p ys, xs = [.ref p] ∧ ((SqL K H p ys ∧ ∀ l, H l = none → Q (.ref l) (upd H l (.tup ys))) ∨ (SqT K H p ys ∧ Q (.ref p) H))) := by subst hK; exact call_tuple_of
theorem de_isi {T : String} {y : Str} (hK : X.K = K) (k : KitT T) (hm : X.mg "isinstance" = none) (hm2 : X.mg y = none) (hv : bootBuiltins y = some (.type T)) (ha : DE K S c X e ta a) (hg : Gl X "isinstance" := by rfl) (hg2 : Gl X y := by rfl)
    (hn : y ≠ "__name__" := by decide) (hd : (y == ("__debug__" : Str)) = false := by decide)
    (he : starEach (e :: [.Name y p2]) X.env = (false, eval e X.env) :: starEach [.Name y p2] X.env := by rfl) (he2 : starEach (.Name y p2 :: []) X.env = (false, eval (.Name y p2) X.env) :: starEach [] X.env := by rfl)
    (hpl : (backTo pos (starEach [.Name y p2] X.env)).any (·.1) = false := by rfl) :
    DE K S c X (.Call (.Name "isinstance" p1) [e, .Name y p2] [] pos) (tCB (rIsi K) (tCons ta (tCons (tC (.ty T)) tNil))) (dIsi T a) := by
  subst hK
  exact ⟨pe_callB call_isi hg hm PyProof.Rows.boot_isinstance (pa_cons ha.pe (pa_cons (pe_bltn hg2 hm2 hv rfl hn hd) pa_nil he2) he) (by decide) (by decide) he hpl, we_isi k ha.we⟩
theorem de_isiTL {k : Nat} (hK : X.K = K) (hm : X.mg "isinstance" = none) (hmt : X.mg "tuple" = none) (hml : X.mg "list" = none) (ha : DE K S c X e ta a) (hg : Gl X "isinstance" := by rfl) (hgt : Gl X "tuple" := by rfl) (hgl : Gl X "list" := by rfl)
    (he : starEach (e :: [.Tuple [.Name "tuple" p2, .Name "list" p3] k tpos]) X.env = (false, eval e X.env) :: starEach [.Tuple [.Name "tuple" p2, .Name "list" p3] k tpos] X.env := by rfl)
    (he1 : starEach (.Tuple [.Name "tuple" p2, .Name "list" p3] k tpos :: []) X.env = (false, eval (.Tuple [.Name "tuple" p2, .Name "list" p3] k tpos) X.env) :: starEach [] X.env := by rfl)
    (he2 : starEach (.Name "tuple" p2 :: [.Name "list" p3]) X.env = (false, eval (.Name "tuple" p2) X.env) :: starEach [.Name "list" p3] X.env := by rfl)
    (he3 : starEach (.Name "list" p3 :: []) X.env = (false, eval (.Name "list" p3) X.env) :: starEach [] X.env := by rfl)
    (hpl : (backTo pos (starEach [.Tuple [.Name "tuple" p2, .Name "list" p3] k tpos] X.env)).any (·.1) = false := by rfl) :
    DE K S c X (.Call (.Name "isinstance" p1) [e, .Tuple [.Name "tuple" p2, .Name "list" p3] k tpos] [] pos) (tCB (rIsiT K) (tCons ta (tCons (tTup (tCons (tC (.ty "tuple")) (tCons (tC (.ty "list")) tNil))) tNil))) (dIsiTL a) := by
  subst hK
  exact ⟨pe_callB call_isiT hg hm PyProof.Rows.boot_isinstance (pa_cons ha.pe (pa_cons (pe_tup (pa_cons (pe_bltn hgt hmt PyProof.Rows.boot_tuple rfl) (pa_cons (pe_bltn hgl hml PyProof.Rows.boot_list rfl) pa_nil he3) he2)) pa_nil he1) he) (by decide) (by decide) he hpl, we_isiTL ha.we⟩
theorem di_rng2 {tg : Expr} (hm : X.mg "range" = none) (hs : DA K S c X [e1, e2] ts as) (hg : Gl X "range" := by rfl) (h : starEach [e1, e2] X.env = [(false, eval e1 X.env), (false, eval e2 X.env)] := by rfl) (h2 : starEach [e2] X.env = [(false, eval e2 X.env)] := by rfl) : DI K S c X tg (.Call (.Name "range" p1) [e1, e2] [] pos) (iRng2 ts) (iRng2D as) := ⟨pi_range2 hg hm hs.pa h h2, wi_rng2 hs.wa⟩
theorem di_str {tg : Expr} (ha : DE K S c X e ta a) : DI K S c X tg e (iStr ta) (iStrD a) := ⟨pi_str ha.pe, wi_str ha.we⟩
theorem di_enumL {elts : List Expr} {kk : Nat} (hK : X.K = K) (hm : X.mg "enumerate" = none) (hs : DA K S c X [e] ts as) (hg : Gl X "enumerate" := by rfl) (h : starEach [e] X.env = [(false, eval e X.env)] := by rfl) : DI K S c X (.Tuple elts kk tpos) (.Call (.Name "enumerate" p1) [e] [] pos) (iEnum K ts) (iEnumLD as) := by
  subst hK
  exact ⟨pi_enum hg hm hs.pa h, wi_enumL hs.wa⟩
theorem di_enumT {elts : List Expr} {kk : Nat} (hK : X.K = K) (hm : X.mg "enumerate" = none) (hs : DA K S c X [e] ts as) (hg : Gl X "enumerate" := by rfl) (h : starEach [e] X.env = [(false, eval e X.env)] := by rfl) : DI K S c X (.Tuple elts kk tpos) (.Call (.Name "enumerate" p1) [e] [] pos) (iEnT K ts) (iEnumTD as) := by
  subst hK
  exact ⟨pi_enT hg hm hs.pa h, wi_enumT hs.wa⟩
section
variable {wi : TI} {it : TAD} {g : TG} {gd : TGD} {ix : List Nat} {tt : TT} {p : TTD} {elt tg iter : Expr} {ifs : List Expr} {scope : Scope} {own : List (Str × Nat)} {py lpos : Pos}
theorem ds_setLc (i : Nat) (hc : X.calm = true) (hN : X.N.Nodup) (hi : DI K S c X tg iter wi it) (ok : BlkOk X.N X.env.scope scope own)
    (hg : ∀ (s : Shared) (H : Hp) (C : Addr) (cl : List (Str × Addr)) (fp : List Addr), DG K (X.blk s H scope (compEnvC scope cl C X.env) fp) tg g gd ix) (ht : ∀ (s : Shared) (H : Hp) (C : Addr) (cl : List (Str × Addr)) (fp : List Addr), DTs K S c (X.blk s H scope (compEnvC scope cl C X.env) fp) ifs tt p)
    (he : ∀ (s : Shared) (H : Hp) (C : Addr) (cl : List (Str × Addr)) (fp : List Addr), DE K S c (X.blk s H scope (compEnvC scope cl C X.env) fp) elt te t) (hix : ∀ i ∈ ix, i ∈ own.map (·.2)) (hy : X.N[i]? = some x := by rfl) (hyl : X.env.scope.names.lookup x = some .local := by rfl)
    (hsw : swapsWith (.ListComp elt [⟨tg, iter, ifs, 0⟩] scope lpos) (some (.Name x py)) pos.line X.env = pure true := by exact sw_true rfl rfl rfl rfl) (hs : ∀ x, foldedSetIterable iter X.env x = pure x := by intro _; rfl) :
    DS K S c X (.Assign [.Name x py] (.ListComp elt [⟨tg, iter, ifs, 0⟩] scope lpos) pos) (tAsg (tLc wi g tt te (own.map (·.2))) (gName i)) (dSet i (dOfN (nLc it gd p t (own.map (·.2))))) :=
  ⟨ps_setLc hc hN hy hyl hsw hi.pi ok (fun s H C cl fp => (hg s H C cl fp).pg) (fun s H C cl fp => (ht s H C cl fp).pts) (fun s H C cl fp => (he s H C cl fp).pe) hs,
    ws_set (we_of_wn (wn_lc hi.wi (hg X.s_0 (fun _ => none) 0 [] []).wg hix (ht X.s_0 (fun _ => none) 0 [] []).wt (he X.s_0 (fun _ => none) 0 [] []).we))⟩
end
end
end DL
end
section
namespace DL
open PySem PySem.Spec PyProof.Rows L2
section
variable {K : PySem.W.Frag} {S : Sit} {c : Cl} {X : Cx} {ta : TE} {a : TED} {e : Expr} {pos p1 p2 : Pos} {x : Str} {C : Addr} {E : XK} {xd : XD} {ind : InD} {CX : CXT} {k : Nat} {fi : Addr} {sp : Sp}
theorem pe_makeS1 (M : Mk X.K C fi) (F : FnR X.prog X.w X.K X.mg X.base CX k fi sp) (hr : Room (k + 1) X.A) (hm : X.mg x = some (.ref C)) (hx : Passes CX X E) (he : PE X e ta) (hg : Gl X x := by rfl) (hdb : (x == ("__debug__" : Str)) = false := by decide)
    (hst : starEach [.Starred e p2] X.env = [(true, eval e X.env)] := by rfl) : PE X (.Call (.Name x p1) [.Starred e p2] [] pos) (StX.tMakeR C sp E (StX.tStar X.K ta tNil)) := by
  constructor
  intro pins s τ H Q I h
  refine wpAny_Call_Name_kw (ld_glob I hg hm (PySem.W.callWith_S (h₀ := X.base) I.ok.mod.kin M.kp (thn (he.run pins s τ H _ I h) fun v s1 ⟨y, H1, I1, ry, l, xs, ey, sq, q⟩ => ?_) hst) hdb)
  subst ey
  cases ry
  refine StX.star_any I1 sq fun us s2 I2 rv => ⟨I2.kIn, StX.run_makeR M F hr hx I2 rv ?_⟩
  have q1 := q
  unfold tNil at q1
  simp only [List.append_nil] at q1
  exact q1
theorem de_makeS1 (hK : X.K = K) (M : Mk X.K C fi) (F : FnR X.prog X.w X.K X.mg X.base CX k fi (spInR K S C ind)) (hr : Room (k + 1) X.A) (hm : X.mg x = some (.ref C)) (hx : Passes CX X E) (hE : XOk K S c E xd) (ha : DE K S c X e ta a) (hg : Gl X x := by rfl)
    (hdb : (x == ("__debug__" : Str)) = false := by decide) (hst : starEach [.Starred e p2] X.env = [(true, eval e X.env)] := by rfl) :
    DE K S c X (.Call (.Name x p1) [.Starred e p2] [] pos) (StX.tMakeR C (spInR K S C ind) E (StX.tStar K ta tNil)) (dMakeR ind C xd (dStar a dNil)) := by
  subst hK
  exact ⟨pe_makeS1 M F hr hm hx ha.pe hg hdb hst, we_makeR hE (wa_star ha.we wa_nil)⟩
end
end DL
end
section
namespace DL
open PySem PySem.Spec PyProof.Rows L2
theorem drop_cons {α : Type} {xs : List α} {i : Nat} {x : α} (h : xs[i]? = some x) : xs.drop i = x :: xs.drop (i + 1) := by
  obtain ⟨hi, rfl⟩ := List.getElem?_eq_some_iff.mp h
  exact List.drop_eq_getElem_cons hi
theorem loop_of {α : Type} {xs : List α} {enc : α → D} {gd : TGD} {body : TSD} {Dd : EndsD} {ρ : EnvD} (J : List α → EnvD → Prop) (h0 : J xs ρ)
    (hs : ∀ x r ρ', J (x :: r) ρ' → ∀ (N B : EnvD → Prop) (R : D → Prop), (∀ ρ', J r ρ' → N ρ') → B = Dd.nx → R = Dd.rt → gd (enc x) ρ' fun ρ2 => body { nx := N, ct := N, bk := B, rt := R } ρ2) (he : ∀ ρ', J [] ρ' → Dd.nx ρ') : loopD (xs.map enc) gd body Dd ρ := by
  unfold loopD
  refine ⟨fun i ρ' => J (xs.drop i) ρ', h0, fun i d ρ' hi hj => ?_, fun ρ' hj => he ρ' ?_⟩
  · rw [List.getElem?_map] at hi
    cases hx : xs[i]? with
    | none => rw [hx] at hi; cases hi
    | some x =>
      rw [hx] at hi
      cases hi
      rw [drop_cons hx] at hj
      exact hs x _ ρ' hj _ _ _ (fun _ h => h) rfl rfl
  · rw [List.length_map, List.drop_length] at hj
    exact hj
theorem comp_of {α : Type} {xs : List α} {enc f : α → D} {gd : TGD} {e : TED} {ρ : EnvD} {P : List D → Prop} (hz : xs.length ≤ 1000000)
    (h : ∀ x ∈ xs, ∀ Q : D → Prop, Q (f x) → gd (enc x) ρ fun ρ2 => e ρ2 Q) (hp : P (xs.map f)) : compD (xs.map enc) gd dYes e ρ P := by
  unfold compD
  refine ⟨fun i acc => acc = (xs.take i).map f, by simp, fun i d acc hi hj => ?_, fun acc hj => ?_⟩
  · rw [List.getElem?_map] at hi
    cases hx : xs[i]? with
    | none => rw [hx] at hi; cases hi
    | some x =>
      rw [hx] at hi
      cases hi
      have lt := (List.getElem?_eq_some_iff.mp hx).1
      subst hj
      refine ⟨by rw [List.length_map, List.length_take]; omega, h x (List.mem_of_getElem? hx) _ ?_⟩
      show _ = List.map f (xs.take (i + 1))
      rw [List.take_succ, hx]
      simp
  · rw [List.length_map, List.take_length] at hj
    subst hj
    exact hp
theorem comp_if {α : Type} {xs : List α} {enc f : α → D} {p : α → Bool} {gd : TGD} {t : TTD} {e : TED} {ρ : EnvD} {P : List D → Prop} (hz : xs.length ≤ 1000000)
    (h : ∀ x ∈ xs, ∀ (Q : D → Prop) (N : Prop), (if p x = true then Q (f x) else N) → gd (enc x) ρ fun ρ2 => t ρ2 fun b => if b = true then e ρ2 Q else N) (hp : P ((xs.filter p).map f)) : compD (xs.map enc) gd t e ρ P := by
  unfold compD
  refine ⟨fun i acc => acc = ((xs.take i).filter p).map f, by simp, fun i d acc hi hj => ?_, fun acc hj => ?_⟩
  · rw [List.getElem?_map] at hi
    cases hx : xs[i]? with
    | none => rw [hx] at hi; cases hi
    | some x =>
      rw [hx] at hi
      cases hi
      have lt := (List.getElem?_eq_some_iff.mp hx).1
      subst hj
      have le := List.length_filter_le p (xs.take i)
      refine ⟨by rw [List.length_map]; rw [List.length_take] at le; omega, h x (List.mem_of_getElem? hx) _ _ ?_⟩
      by_cases e : p x = true
      · rw [if_pos e]
        show _ = List.map f ((xs.take (i + 1)).filter p)
        rw [List.take_succ, hx]
        simp [List.filter_append, e]
      · rw [if_neg e]
        show _ = List.map f ((xs.take (i + 1)).filter p)
        rw [List.take_succ, hx]
        simp [List.filter_append, e]
  · rw [List.length_map, List.take_length] at hj
    subst hj
    exact hp
theorem enD_map {α : Type} (xs : List α) (enc : α → D) : enD (xs.map enc) = xs.zipIdx.map fun q => .tup [.int (q.2 : Nat), enc q.1] := by
  unfold enD
  apply List.ext_getElem?
  intro i
  rw [List.getElem?_mapIdx, List.getElem?_map, List.getElem?_map, List.getElem?_zipIdx]
  cases xs[i]? <;> simp
theorem rngD_map (lo : Int) (n : Nat) : rngD lo n = ((List.range n).map fun k : Nat => lo + (k : Int)).map D.int := by
  unfold rngD
  rw [List.map_map]
  rfl
theorem strD_map (x : Str) : strD x = x.cps.toList.map fun k => .str ⟨#[k]⟩ := rfl
theorem eqv_str (i j : Str) : PyData.eqv (D.py (.str i)) (D.py (.str j)) = decide (i = j) := by
  show (i == j) = _
  by_cases e : i = j
  · subst e; simp
  · rw [decide_eq_false e]; exact beq_eq_false_iff_ne.mpr e
theorem atoms_strs (xs : List Str) : (xs.map D.str).all D.atom = true := by
  rw [List.all_map]; exact List.all_eq_true.mpr fun _ _ => rfl
theorem in_strs (x : Str) (xs : List Str) : inV (D.str x).v ((xs.map D.str).map D.v) = decide (x ∈ xs) := by
  induction xs with
  | nil => simp [inV]
  | cons y ys ih =>
    unfold inV at ih ⊢
    rw [List.map_cons, List.map_cons, List.any_cons, ih]
    show ((y == x) || _) = _
    by_cases e : x = y
    · subst e; simp
    · have e' : (y == x) = false := beq_eq_false_iff_ne.mpr fun q => e q.symm
      rw [e']
      simp [e]
theorem metN_nodup {xs : List Str} (h : xs.Nodup) : ∀ i, i ≤ xs.length → metN xs i = i
  | 0, _ => rfl
  | i + 1, hi => by
    have lt : i < xs.length := hi
    unfold metN
    have no : ¬ (xs.take i).any (· == xs.getD i Str.empty) = true := fun q => by
      obtain ⟨y, hy, e⟩ := List.any_eq_true.mp q
      rw [List.getD_eq_getElem?_getD, List.getElem?_eq_getElem lt, Option.getD_some] at e
      have ey : y = xs[i] := by
        by_cases e' : y = xs[i]
        · exact e'
        · have e'' : (y == xs[i]) = false := beq_eq_false_iff_ne.mpr e'
          rw [e''] at e; cases e
      obtain ⟨j, hj, e2⟩ := List.getElem_of_mem hy
      have hj' : j < i := by rw [List.length_take] at hj; omega
      rw [List.getElem_take] at e2
      exact List.pairwise_iff_getElem.mp h j i (Nat.lt_trans hj' lt) lt hj' (by rw [e2, ey])
    rw [if_neg no, metN_nodup h i (Nat.le_of_lt lt)]
theorem cut_map {α : Type} (xs : List α) (f : α → D) (lo hi : Option Int) : cutD (xs.map f) lo hi = ((xs.drop (HT.sIx xs.length 0 lo)).take (HT.sIx xs.length xs.length hi - HT.sIx xs.length 0 lo)).map f := by
  unfold cutD
  rw [List.length_map, List.map_take, List.map_drop]
theorem cut_from {α : Type} {xs : List α} (f : α → D) {i : Int} {k : Nat} (e : i = (k : Int)) (h : k ≤ xs.length) : cutD (xs.map f) (some i) none = (xs.drop k).map f := by
  subst e
  rw [cut_map, HT.sIx_nat, HT.sIx_none, Nat.min_eq_left h, ← List.length_drop, List.take_length]
theorem atI_map {α : Type} {xs : List α} {f : α → D} {i : Int} {x : α} (h0 : 0 ≤ i) (h : xs[i.toNat]? = some x) : atI (xs.map f) i = some (f x) := by
  have lt := (List.getElem?_eq_some_iff.mp h).1
  have e : ixN (xs.map f).length i = some i.toNat := by
    unfold ixN
    rw [if_pos h0, List.length_map, if_pos (by omega)]
  unfold atI
  rw [e]
  show (xs.map f)[i.toNat]? = _
  rw [List.getElem?_map, h]
  rfl
theorem at_lst {α : Type} {xs : List α} {f : α → D} {i : Int} {x : α} {P : D → Prop} (h0 : 0 ≤ i) (h : xs[i.toNat]? = some x) (hp : P (f x)) : rIxD (.lst (xs.map f)) (.int i) P := by
  unfold rIxD
  show match atI (xs.map f) i with
    | some d => P d
    | none => False
  rw [atI_map h0 h]
  exact hp
theorem at_tup {α : Type} {xs : List α} {f : α → D} {i : Int} {x : α} {P : D → Prop} (h0 : 0 ≤ i) (h : xs[i.toNat]? = some x) (hp : P (f x)) : rIxD (.tup (xs.map f)) (.int i) P := by
  unfold rIxD
  show match atI (xs.map f) i with
    | some d => P d
    | none => False
  rw [atI_map h0 h]
  exact hp
theorem in_str {x : Str} {xs : List Str} {P : D → Prop} (neg : Bool) {y : D} (hy : y.items = some (xs.map D.str)) (hp : P (.bl (if neg then !decide (x ∈ xs) else decide (x ∈ xs)))) : rInD neg (.str x) y P := by
  unfold rInD
  rw [hy]
  refine ⟨⟨rfl, atoms_strs xs⟩, ?_⟩
  rw [in_strs]
  exact hp
theorem eq_str {i j : Str} {P : D → Prop} (h1 : PyData.strOk i = true) (h2 : PyData.strOk j = true) (hp : P (.bl (decide (i = j)))) : rEqDD (.str i) (.str j) P := by unfold rEqDD; exact ⟨⟨by unfold D.flat; exact h1, by unfold D.flat; exact h2⟩, by rw [eqv_str]; exact hp⟩
theorem ne_str {i j : Str} {P : D → Prop} (h1 : PyData.strOk i = true) (h2 : PyData.strOk j = true) (hp : P (.bl (!decide (i = j)))) : rNeDD (.str i) (.str j) P := by unfold rNeDD; exact ⟨⟨by unfold D.flat; exact h1, by unfold D.flat; exact h2⟩, by rw [eqv_str]; exact hp⟩
end DL
end
section
namespace DL
open PySem PySem.Spec PyProof.Rows L2
def spDrawn (l : Addr) : SpD := fun ds P _ => ∃ c : Int, ds = [.adr l, .int c] ∧ (0 < c ∧ c < 1073741824) ∧ ∀ r : Int, 0 ≤ r → r < c → P (.int r)
section
variable {K : PySem.W.Frag}
def tSt (K : PySem.W.Frag) (k : Int) : TE := tOp (rIx K) (tVar 0) (tC (.int k))
theorem st_at {σ : L2.St} {H : Hp} {Q : VK} {l : Addr} {xs : List V} {k : Int} {v : V} (h0 : σ[0]? = some (some (.ref l))) (h : H l = some (.lst xs)) (ha : atI xs k = some v) (q : Q v H) : tSt K k σ H Q :=
  ⟨_, h0, .inl ⟨l, xs, k, v, rfl, rfl, .inl (.inl h), ha, q⟩⟩
theorem st_put {σ : L2.St} {H : Hp} {Q : L2.St → Hp → Prop} {l : Addr} {xs : List V} {k : Int} {j : Nat} {v : V} (h0 : σ[0]? = some (some (.ref l))) (h : H l = some (.lst xs)) (ha : ixN xs.length k = some j) (q : Q σ (upd H l (.lst (xs.set j v)))) : gSub (tVar 0) (tC (.int k)) rSetL v σ H Q :=
  ⟨_, h0, l, xs, k, j, rfl, rfl, h, ha, q⟩
abbrev xMod : R2 := rI (fun _ j => 0 < j) fun i j => .int (i % j)
abbrev xFdv : R2 := rI CDiv fun i j => .int (i / j)
abbrev xAdd : R2 := rI0 fun i j => .int (i + j)
abbrev xMul : R2 := rI CMul fun i j => .int (i * j)
abbrev xPow : R2 := rI CPow fun i j => .int (i ^ j.toNat)
abbrev xGe : R2 := rI0 fun i j => .bl (decide (j ≤ i))
abbrev xLen (K : PySem.W.Frag) : List V → Hp → VK → Prop := fun xs H Q => ∃ p ys, xs = [.ref p] ∧ (SqL K H p ys ∨ SqT K H p ys) ∧ Q (.int ys.length) H
end
end DL
end
section
namespace DL
open PySem PySem.Spec PyProof.Rows L2
section
variable {K : PySem.W.Frag} {S : Sit} {c : Cl} {X : Cx} {ta tb te tk : TE} {a b t : TED} {ts : TA} {as bs : TAD} {e e1 e2 e3 : Expr} {es : List Expr} {pos p1 p2 p3 p4 p5 p6 : Pos} {x y z : Str}
theorem ws_parN {i j : Nat} (ha : WN K S c ta as) (hb : WN K S c tb bs) : WS K S c (tPar i j (tCons ta (tCons tb tNil))) (dParN i j as bs) := by
  rintro B σ H ρ Dd De ⟨Z, r⟩ h f
  refine ha Z σ H ρ _ r.rv h _ fun p H1 ds xs k iv e0 e1 rl hd => ?_
  have rm := r.rv.more k iv e0 e1
  refine hb _ σ H1 ρ _ rm hd _ fun q H2 es ys k2 iv2 f0 f1 rl2 he => ?_
  have r1 := r.setOwn (kd := .lst) i k iv e0 e1 trivial rl
  exact ⟨_, _, rfl, f.nx _ H2 _ ⟨_, r1.setOwn (kd := .lst) j k2 iv2 f0 f1 trivial rl2⟩ he⟩
theorem ds_parN {kt k2 : Nat} {px py pt pt2 : Pos} (i j : Nat) (calm : X.calm = true) (hN : X.N.Nodup) (ha : DN K S c X e1 ta as) (hb : DN K S c X e2 tb bs) (hij : i ≠ j := by decide) (hi : X.N[i]? = some x := by rfl) (hj : X.N[j]? = some y := by rfl)
    (hx : X.env.scope.names.lookup x = some .local := by rfl) (hy : X.env.scope.names.lookup y = some .local := by rfl) (he1 : starEach (e1 :: [e2]) X.env = (false, eval e1 X.env) :: starEach [e2] X.env := by rfl) (he2 : starEach (e2 :: []) X.env = (false, eval e2 X.env) :: starEach [] X.env := by rfl)
    (hw : swappedStores [.Tuple [.Name x px, .Name y py] kt pt] (.Tuple [e1, e2] k2 pt2) X.env = pure (some [x, y]) := by rfl) (hsw : swapsWithSole [.Tuple [.Name x px, .Name y py] kt pt] (.Tuple [e1, e2] k2 pt2) pos.line X.env = pure false := by rfl) :
    DS K S c X (.Assign [.Tuple [.Name x px, .Name y py] kt pt] (.Tuple [e1, e2] k2 pt2) pos) (tPar i j (tCons ta (tCons tb tNil))) (dParN i j as bs) := ⟨ps_par calm hN hi hj hij hx hy (pa_cons ha.pe (pa_cons hb.pe pa_nil he2) he1) hw hsw, ws_parN ha.wn hb.wn⟩
def popD (j : Nat) (n : D) (P : D → EnvD → Prop) (ρ : EnvD) : Prop := match ρ[j]?, n with
  | some (some (.own .lst ds)), .int n => (0 ≤ n ∧ n < ds.length ∧ ds.length ≤ 1000000) ∧ match ds[n.toNat]? with
    | some d => P d (ρ.set j (some (.own .lst (ds.eraseIdx n.toNat))))
    | none => False
  | _, _ => False
theorem RepL.erase {H : Hp} : ∀ {ds : List D} {vs : List V} (n : Nat), RepL K H ds vs → RepL K H (ds.eraseIdx n) (vs.eraseIdx n)
  | [], vs, n, r => by
    unfold RepL at r
    subst r
    exact RepL.nil
  | d :: ds, vs, n, r => by
    unfold RepL at r
    obtain ⟨v, us, rfl, h1, h2⟩ := r
    cases n with
    | zero => exact h2
    | succ n => exact RepL.cons h1 (RepL.erase n h2)
theorem pop_step {j : Nat} (hb : WE K S c tb b) {B : Hp} {Z : Addr → Prop} {σ : L2.St} {H : Hp} {ρ : EnvD} {P : D → EnvD → Prop} {Q : VK} (r : RZ K S c B Z σ H ρ) (hown : ∃ ds, ρ[j]? = some (some (.own .lst ds))) (h : b (view ρ) fun n => popD j n P ρ)
    (q : ∀ v H' d ρ', RZ K S c B Z σ H' ρ' → Rep K (hide H' Z) d v → P d ρ' → Q v H') : tBM K "list" rPopAt (tVar j) (tCons tb tNil) σ H Q := by
  obtain ⟨ds, hi⟩ := hown
  obtain ⟨l, xs, e1, z, h0, e2, _, q0⟩ := r.own j .lst ds hi
  refine ⟨_, e1, .inl ⟨rfl, xs, .inl (.inl e2)⟩, ?_⟩
  refine hb c.Z0 σ H (view ρ) _ r.view h _ fun u H2 n k2 i2 q2 hj => ?_
  have r2 := r.step k2 i2
  unfold popD at hj
  rw [hi] at hj
  cases n <;> try exact hj.elim
  rename_i n
  unfold Rep at q2
  simp only at hj
  obtain ⟨⟨b0, b1, b2⟩, hj⟩ := hj
  obtain ⟨l', xs', e1', z', _, e2', _, q0'⟩ := r2.own j .lst ds hi
  rw [e1] at e1'
  cases e1'
  split at hj
  · rename_i d em
    obtain ⟨y, hy, ry⟩ := q0'.get em
    have hl := q0'.len
    refine ⟨l, xs', n, n.toNat, y, rfl, by rw [q2], e2', by omega, by omega, ?_, hy, ?_⟩
    · unfold seqIndex?
      simp only
      rw [if_neg (show ¬ n < 0 by omega)]
      have e1 : (decide (0 ≤ n) && decide (n < (xs'.length : Int))) = true := by
        rw [decide_eq_true b0, decide_eq_true (show n < (xs'.length : Int) by omega)]
        rfl
      rw [e1]
      rfl
    · have r3 := r2.write (kd' := .lst) hi e1 trivial (q0'.erase n.toNat)
      refine q y _ d _ r3 ?_ hj
      rw [hide_upd z']
      exact ry
  · exact hj.elim
theorem app_step {i : Nat} {B : Hp} {Z : Addr → Prop} {σ : L2.St} {H : Hp} {ρ : EnvD} {ds : List D} {d : D} {l : Addr} {v : V} {Q : VK} (r : RZ K S c B Z σ H ρ) (hi : ρ[i]? = some (some (.own .lst ds))) (hl : σ[i]? = some (some (.ref l))) (hz : ds.length < 1000000) (rv : Rep K (hide H Z) d v)
    (q : ∀ H', RZ K S c B Z σ H' (ρ.set i (some (.own .lst (ds ++ [d])))) → Q .non H') : rAppend (.ref l) [v] H Q := by
  obtain ⟨l', xs, e1, z, h0, e2, _, q0⟩ := r.own i .lst ds hi
  rw [hl] at e1
  cases e1
  exact ⟨l, xs, v, rfl, rfl, e2, szl (by rw [← q0.len]; exact hz), q _ (r.write (kd' := .lst) hi hl trivial (q0.append (RepL.cons rv RepL.nil)))⟩
def endD (i : Nat) (d : D) (P : EnvD → Prop) (ρ : EnvD) : Prop := match ρ[i]? with
  | some (some (.own .lst ds)) => ds.length < 1000000 ∧ P (ρ.set i (some (.own .lst (ds ++ [d]))))
  | _ => False
def dAppPop (i j : Nat) (b : TED) : TSD := fun Dd ρ => ((∃ ds, ρ[i]? = some (some (.own .lst ds))) ∧ ∃ ds, ρ[j]? = some (some (.own .lst ds))) ∧ b (view ρ) fun n => popD j n (fun d ρ' => endD i d Dd.nx ρ') ρ
theorem ws_appPop {i j : Nat} (hb : WE K S c tb b) : WS K S c (tDrop (tBM K "list" rAppend (tVar i) (tCons (tBM K "list" rPopAt (tVar j) (tCons tb tNil)) tNil))) (dAppPop i j b) := by
  rintro B σ H ρ Dd De ⟨Z, r⟩ ⟨⟨⟨ds, hi⟩, hj⟩, h⟩ f
  obtain ⟨l, xs, e1, z, h0, e2, _, q0⟩ := r.own i .lst ds hi
  refine ⟨_, e1, .inl ⟨rfl, xs, .inl (.inl e2)⟩, ?_⟩
  refine pop_step hb r hj h fun v H' d ρ' r' rv hd => ?_
  unfold endD at hd
  split at hd
  · rename_i es he
    exact app_step (Q := fun _ H' => De.nx σ H') r' he e1 hd.1 rv fun H'' r'' => f.nx σ H'' _ ⟨Z, r''⟩ hd.2
  · exact hd.elim
theorem pe_popE (j : Nat) (hK : X.K = K) (hb : PE X e tb) (hN : X.N[j]? = some x := by rfl) (hv : Vis X.env.scope x := by first | exact Or.inl rfl | exact Or.inr (Or.inl rfl) | exact Or.inr (Or.inr rfl)) (hd : (x == ("__debug__" : Str)) = false := by decide) (hcd : (x == ("__classdict__" : Str)) = false := by decide)
    (he : starEach (e :: []) X.env = (false, eval e X.env) :: starEach [] X.env := by rfl) (hbase : attributeBase (.Name x p1) "pop" X.env (eval (.Name x p1) X.env) = eval (.Name x p1) X.env := by rfl)
    (hfew : ((backTo p3 (starEach (e :: []) X.env)).all (fun x => !x.1) && (backToKw p3 (keywordEach [] X.env)).all (fun x => x.1.isSome) && decide ((e :: ([] : List Expr)).length + ([] : List Keyword).length + (if ([] : List Keyword).isEmpty then 0 else 1) < 30)) = true := by rfl)
    (hline : (p2.endLine == p3.line) = true := by rfl) (hpl : (backTo p3 (starEach [] X.env)).any (·.1) = false := by rfl) :
    PE X (.Call (.Attribute (.Name x p1) "pop" p2) [e] [] p3) (tBM K "list" rPopAt (tVar j) (tCons tb tNil)) := by
  subst hK
  exact pe_bm PySem.F.plainAttrs_list PySem.F.slot_list_pop PySem.F.type_list_pop mt_popAt (pe_var hN hv hd hcd) (pa_cons hb pa_nil he) hbase hfew hline he hpl
theorem ps_appE (i : Nat) (hK : X.K = K) (ha : PE X e ta) (hN : X.N[i]? = some x := by rfl) (hv : Vis X.env.scope x := by first | exact Or.inl rfl | exact Or.inr (Or.inl rfl) | exact Or.inr (Or.inr rfl)) (hd : (x == ("__debug__" : Str)) = false := by decide) (hcd : (x == ("__classdict__" : Str)) = false := by decide)
    (he : starEach (e :: []) X.env = (false, eval e X.env) :: starEach [] X.env := by rfl) (hbase : attributeBase (.Name x p1) "append" X.env (eval (.Name x p1) X.env) = eval (.Name x p1) X.env := by rfl)
    (hfew : ((backTo p3 (starEach (e :: []) X.env)).all (fun x => !x.1) && (backToKw p3 (keywordEach [] X.env)).all (fun x => x.1.isSome) && decide ((e :: ([] : List Expr)).length + ([] : List Keyword).length + (if ([] : List Keyword).isEmpty then 0 else 1) < 30)) = true := by rfl)
    (hline : (p2.endLine == p3.line) = true := by rfl) (hpl : (backTo p3 (starEach [] X.env)).any (·.1) = false := by rfl) (hs : swapsWith (.Call (.Attribute (.Name x p1) "append" p2) [e] [] p3) none pos.line X.env = pure false := by rfl) :
    PS X (.Expr (.Call (.Attribute (.Name x p1) "append" p2) [e] [] p3) pos) (tDrop (tBM K "list" rAppend (tVar i) (tCons ta tNil))) := by
  subst hK
  exact ps_expr (pe_bm PySem.F.plainAttrs_list PySem.F.slot_list_append PySem.F.type_list_append mt_append (pe_var hN hv hd hcd) (pa_cons ha pa_nil he) hbase hfew hline he hpl) hs
end
end DL
end
section
namespace DL
open PySem PySem.Spec PyProof.Rows L2
section
variable {K : PySem.W.Frag} {H : Hp}
end
section
variable {K : PySem.W.Frag} {S : Sit} {c : Cl} {X : Cx} {ta tb te : TE} {a b t : TED} {ts : TA} {as : TAD} {e e2 : Expr} {es : List Expr} {pos p1 p2 p3 pos' : Pos} {x y : Str}
end
end DL
end
section
namespace DL
open PySem PySem.Spec PyProof.Rows L2
section
variable {K : PySem.W.Frag} {S : Sit} {c : Cl} {X : Cx} {te ta : TE} {a : TED} {e : Expr} {pos p1 p2 : Pos} {x y : Str} {C : Addr}
def dIsiO (C : Addr) (a : TED) : TED := fun ρ P => a ρ fun d => match d with
  | .ins C' _ _ => C' = C ∧ P (.bl true)
  | _ => False
theorem we_isiO (k : ClsTy K C) (ha : WE K S c te a) : WE K S c (tCB (rIsi K) (tCons te (tCons (tC (.ref C)) tNil))) (dIsiO C a) := by
  intro Z σ H ρ P rv h Q q
  refine ha Z σ H ρ _ rv h _ fun v H1 d k1 i1 r1 h1 => ?_
  cases d <;> try exact h1.elim
  obtain ⟨rfl, h1⟩ := h1
  unfold Rep at r1
  obtain ⟨p, dx, xs, rfl, g1, g2, g3⟩ := r1
  refine ⟨_, .ref _, .ref _, .ref _, true, rfl, .own _, .base (.ins (hide_ex _ _ g1) k.cl k.ha k.hn k.htk k.hm), ?_, q _ H1 _ k1 i1 repB h1⟩
  unfold PySem.W.kitOne
  simp
theorem de_isiO (hK : X.K = K) (k : ClsTy K C) (hm : X.mg "isinstance" = none) (hC : X.mg y = some (.ref C)) (ha : DE K S c X e ta a) (hg : Gl X "isinstance" := by rfl) (hg2 : Gl X y := by rfl) (hd : (y == ("__debug__" : Str)) = false := by decide)
    (he : starEach (e :: [.Name y p2]) X.env = (false, eval e X.env) :: starEach [.Name y p2] X.env := by rfl) (he2 : starEach (.Name y p2 :: []) X.env = (false, eval (.Name y p2) X.env) :: starEach [] X.env := by rfl)
    (hpl : (backTo pos (starEach [.Name y p2] X.env)).any (·.1) = false := by rfl) :
    DE K S c X (.Call (.Name "isinstance" p1) [e, .Name y p2] [] pos) (tCB (rIsi K) (tCons ta (tCons (tC (.ref C)) tNil))) (dIsiO C a) := by
  subst hK
  exact ⟨pe_callB call_isi hg hm PyProof.Rows.boot_isinstance (pa_cons ha.pe (pa_cons (pe_glob hg2 hC rfl hd) pa_nil he2) he) (by decide) (by decide) he hpl, we_isiO k ha.we⟩
theorem dp_pop {tb : TE} {b : TED} {p3 : Pos} (j : Nat) (hK : X.K = K) (hb : DE K S c X e tb b) (hN : X.N[j]? = some x := by rfl) (hv : Vis X.env.scope x := by first | exact Or.inl rfl | exact Or.inr (Or.inl rfl) | exact Or.inr (Or.inr rfl)) (hd : (x == ("__debug__" : Str)) = false := by decide) (hcd : (x == ("__classdict__" : Str)) = false := by decide)
    (he : starEach (e :: []) X.env = (false, eval e X.env) :: starEach [] X.env := by rfl) (hbase : attributeBase (.Name x p1) "pop" X.env (eval (.Name x p1) X.env) = eval (.Name x p1) X.env := by rfl)
    (hfew : ((backTo p3 (starEach (e :: []) X.env)).all (fun x => !x.1) && (backToKw p3 (keywordEach [] X.env)).all (fun x => x.1.isSome) && decide ((e :: ([] : List Expr)).length + ([] : List Keyword).length + (if ([] : List Keyword).isEmpty then 0 else 1) < 30)) = true := by rfl)
    (hline : (p2.endLine == p3.line) = true := by rfl) (hpl : (backTo p3 (starEach [] X.env)).any (·.1) = false := by rfl) :
    DPop K S c X j (.Call (.Attribute (.Name x p1) "pop" p2) [e] [] p3) tb b := ⟨pe_popE j hK hb.pe hN hv hd hcd he hbase hfew hline hpl, hb.we⟩
theorem ds_appPop {tb : TE} {b : TED} {p3 : Pos} {j : Nat} (i : Nat) (hK : X.K = K) (hp : DPop K S c X j e tb b) (hN : X.N[i]? = some x := by rfl) (hv : Vis X.env.scope x := by first | exact Or.inl rfl | exact Or.inr (Or.inl rfl) | exact Or.inr (Or.inr rfl)) (hd : (x == ("__debug__" : Str)) = false := by decide) (hcd : (x == ("__classdict__" : Str)) = false := by decide)
    (he : starEach (e :: []) X.env = (false, eval e X.env) :: starEach [] X.env := by rfl) (hbase : attributeBase (.Name x p1) "append" X.env (eval (.Name x p1) X.env) = eval (.Name x p1) X.env := by rfl)
    (hfew : ((backTo p3 (starEach (e :: []) X.env)).all (fun x => !x.1) && (backToKw p3 (keywordEach [] X.env)).all (fun x => x.1.isSome) && decide ((e :: ([] : List Expr)).length + ([] : List Keyword).length + (if ([] : List Keyword).isEmpty then 0 else 1) < 30)) = true := by rfl)
    (hline : (p2.endLine == p3.line) = true := by rfl) (hpl : (backTo p3 (starEach [] X.env)).any (·.1) = false := by rfl)
    (hs : swapsWith (.Call (.Attribute (.Name x p1) "append" p2) [e] [] p3) none pos.line X.env = pure false := by rfl) :
    DS K S c X (.Expr (.Call (.Attribute (.Name x p1) "append" p2) [e] [] p3) pos) (tDrop (tBM K "list" rAppend (tVar i) (tCons (tBM K "list" rPopAt (tVar j) (tCons tb tNil)) tNil))) (dAppPop i j b) :=
  ⟨ps_appE i hK hp.pe hN hv hd hcd he hbase hfew hline hpl hs, ws_appPop hp.we⟩
end
end DL
end
section
namespace DL
open PySem PySem.Spec PyProof.Rows L2
section
variable {K : PySem.W.Frag} {S : Sit} {c : Cl} {X : Cx} {e : Expr} {pos p1 p2 p3 p4 p5 p6 : Pos} {x y : Str}
end
end DL
end
section
namespace DL
open PySem PySem.Spec PyProof.Rows L2
section
variable {K : PySem.W.Frag} {S : Sit} {c : Cl} {X : Cx} {ta tb te : TE} {a b t : TED} {ts : TA} {as : TAD} {e e1 e2 e3 e4 : Expr} {pos p1 p2 p3 p4 : Pos} {x : Str}
end
section
variable {K : PySem.W.Frag}
end
theorem pss_ex {ι : Type} {X : Cx} {st : List Stmt} {t : ι → TS} (h : ∀ i, PSs X st (t i)) : PSs X st (fun D σ H => ∃ i, t i D σ H) := ⟨fun pins s σ H D I ⟨i, hi⟩ => (h i).run pins s σ H D I hi⟩
end DL
namespace DL
open PySem PySem.Spec PyProof.Rows L2
section
variable {X : Cx} {x : Str} {pos p1 p2 : Pos} {j : Nat}
theorem xv (i : Nat) (hN : X.N[i]? = some x := by rfl) (hv : Vis X.env.scope x := by first | exact Or.inl rfl | exact Or.inr (Or.inl rfl)) (hd : (x == ("__debug__" : Str)) = false := by decide) (hcd : (x == ("__classdict__" : Str)) = false := by decide) : PE X (.Name x pos) (tVar i) := pe_var hN hv hd hcd
theorem xix (k : Int) (hN : X.N[0]? = some x := by rfl) (hv : Vis X.env.scope x := by exact Or.inl rfl) (hd : (x == ("__debug__" : Str)) = false := by decide) (hcd : (x == ("__classdict__" : Str)) = false := by decide) :
    PE X (.Subscript (.Name x p1) (.Constant (.int k) j p2) pos) (tSt X.K k) := pe_ix ix_seq (pe_var hN hv hd hcd) pe_int (fun _ _ => rfl)
theorem xput (k : Int) (hN : X.N[0]? = some x := by rfl) (hv : Vis X.env.scope x := by exact Or.inl rfl) (hd : (x == ("__debug__" : Str)) = false := by decide) (hcd : (x == ("__classdict__" : Str)) = false := by decide)
    (ha : ∀ v, assign (.Subscript (.Name x p1) (.Constant (.int k) j p2) pos) X.env v = (do
      let ov ← holding [v] (eval (.Name x p1) X.env); let iv ← holding [v, ov] (eval (.Constant (.int k) j p2) X.env)
      standAt pos; holding [v, ov, iv] (setItem ov iv v); release [v, ov, iv] []) := by intro _; rfl) :
    PG X (.Subscript (.Name x p1) (.Constant (.int k) j p2) pos) (gSub (tVar 0) (tC (.int k)) rSetL) := pg_sub (pe_var hN hv hd hcd) pe_int set_list ha
end
end DL
namespace DL
open PySem PySem.Spec PyProof.Rows L2
section
variable {K : PySem.W.Frag} {S : Sit} {c : Cl} {X : Cx} {ta : TA} {as : TAD} {e1 e2 : Expr} {pos : Pos} {x y : Str}
end
end DL
end
section
namespace DL
open PySem PySem.Spec PyProof.Rows L2
theorem DefX.fun_ {K : PySem.W.Frag} {d : DefX} (e : d.look K = d.want) (c : d.ok K = true) : ∃ fd, Fun K d.name d.qual d.st (d.at_.ad K) fd := by
  obtain ⟨kp, c2⟩ := He.ba c
  unfold DefX.look at e
  cases q : K.lookup (d.at_.ad K) with
  | none =>
    rw [q] at c2
    cases c2
  | some o =>
    obtain ⟨oc, od, dt, osl⟩ := o
    rw [q] at c2 e
    cases dt with
    | func fd =>
      obtain ⟨n1, n2, n3, n4, n5, n6, n7, n8, n9, n10, n11, n12, n13, n14, n15⟩ := fd
      have e2 : (some (n1, n2, n3, n4, n5, n6, n7, n8, n15) : He.FnV) = some (d.name, d.qual, defArgs d.st, .stmts (defBody d.st), defScope d.st, mainGlobals, [], .none, builtinsNs) := e
      simp only [Option.some.injEq, Prod.mk.injEq] at e2
      obtain ⟨h1, h2, h3, h4, h5, h6, h7, h8, h9⟩ := e2
      subst h1 h2 h3 h4 h5 h6 h7 h8 h9
      exact ⟨_, ⟨oc, od, n9, n10, n11, n12, n13, n14, osl, rfl, q, c2⟩, kp⟩
    | _ => cases c2
section
variable {K : PySem.W.Frag} {h : Heap} {mg : Str → Option Value}
theorem fb_prop {C f : Str} (c : (Fb.prop C f).ok K = true) : PropOf K (He.ga K C) f (He.ma K (He.ga K C) f) (At.ad K (.prop C f)) := by
  obtain ⟨c1, c⟩ := He.ba c
  obtain ⟨c2, c⟩ := He.ba c
  obtain ⟨c3, c4⟩ := He.ba c
  refine ⟨He.eqO_ok c1, He.eqO_ok c2, of_decide_eq_true c3, ?_⟩
  show ∃ rest, _ = some (Value.ref (getterA K (He.ma K (He.ga K C) f)) :: rest)
  unfold getterA
  cases e : PySem.W.recIn K (He.ma K (He.ga K C) f) "property" with
  | none => rw [e] at c4; cases c4
  | some l =>
    cases l with
    | nil => rw [e] at c4; cases c4
    | cons v r =>
      cases v with
      | ref g => exact ⟨r, rfl⟩
      | _ => rw [e] at c4; cases c4
theorem fb_ty {C : Str} (c : (Fb.ty C).ok K = true) : ClsTy K (He.ga K C) := by
  obtain ⟨c0, c⟩ := He.ba c
  obtain ⟨c1, c⟩ := He.ba c
  obtain ⟨c2, c⟩ := He.ba c
  obtain ⟨c3, c4⟩ := He.ba c
  exact ⟨He.cls_ok c0, He.eqO_ok c1, He.eqO_ok c2, of_decide_eq_true c3, of_decide_eq_true c4⟩
theorem fb_int (X : K.In h) (G : h.Ns mainGlobals mg) {x : Str} {i : Int} (c : (Fb.a (.int x i)).ok K = true) : ∃ u, mg x = some u ∧ RelV (V.int i) u := by
  obtain ⟨t, e⟩ := He.int_ok X G c
  exact ⟨_, e, ⟨t, rfl⟩⟩
theorem fb_str (X : K.In h) (G : h.Ns mainGlobals mg) {x z : Str} (c : (Fb.a (.str x z)).ok K = true) : ∃ u, mg x = some u ∧ RelV (V.str z) u := by
  obtain ⟨t, e⟩ := He.str_ok X G c
  exact ⟨_, e, ⟨t, rfl⟩⟩
theorem opO_of {x m : Str} (c : (Fb.a (.meth x m)).ok K = true) : OpO K (He.ga K x) m (He.ma K (He.ga K x) m) := ⟨(He.meth_ok c).at_, (He.meth_ok c).fn⟩
end
def lookX (fa : List Fb) (fn : List DefX) (K : PySem.W.Frag) : AlX := ((fa.all fun f => f.ok K) && fn.all fun d => d.ok K, fn.map fun d => d.look K)
def wantX (fn : List DefX) : AlX := (true, fn.map DefX.want)
def SaysX (fa : List Fb) (fn : List DefX) (K : PySem.W.Frag) : Prop := lookX fa fn K = wantX fn
section
variable {fa : List Fb} {fn : List DefX} {K : PySem.W.Frag}
theorem SaysX.fact (c : SaysX fa fn K) (i : Nat) {f : Fb} (h : fa[i]? = some f := by rfl) : f.ok K = true := by
  have c1 := (He.ba (show ((fa.all fun f => f.ok K) && fn.all fun d => d.ok K) = true from congrArg (fun z : AlX => z.1) c)).1
  exact List.all_eq_true.mp c1 f (List.mem_of_getElem? h)
theorem SaysX.def_ (c : SaysX fa fn K) (i : Nat) {d : DefX} (h : fn[i]? = some d := by rfl) : ∃ fd, Fun K d.name d.qual d.st (d.at_.ad K) fd := by
  have c2 := (He.ba (show ((fa.all fun f => f.ok K) && fn.all fun d => d.ok K) = true from congrArg (fun z : AlX => z.1) c)).2
  have e : fn.map (fun d => d.look K) = fn.map DefX.want := congrArg (fun z : AlX => z.2) c
  have e2 : (fn.map fun d => d.look K)[i]? = (fn.map DefX.want)[i]? := by rw [e]
  rw [List.getElem?_map, List.getElem?_map, h] at e2
  exact DefX.fun_ (Option.some.inj e2) (List.all_eq_true.mp c2 d (List.mem_of_getElem? h))
end
end DL
end
section
namespace DL
open PySem PySem.Spec PyProof.Rows L2
theorem seq_of {d1 d2 : TSD} {Dd : EndsD} {ρ : EnvD} (G : EnvD → Prop) (h : ∀ N : EnvD → Prop, (∀ ρ', G ρ' → N ρ') → d1 { Dd with nx := N } ρ) (h2 : ∀ ρ', G ρ' → d2 Dd ρ') : dSeq d1 d2 Dd ρ := h _ h2
theorem flat_str' {n : Nat} {x : Str} (h : PyData.strOk x = true) : D.flat n (.str x) = true := by cases n <;> (unfold D.flat; exact h)
theorem flat_int' {n : Nat} {x : Int} : D.flat n (.int x) = true := by cases n <;> (unfold D.flat; rfl)
theorem flat_non' {n : Nat} : D.flat n .non = true := by cases n <;> (unfold D.flat; rfl)
theorem flat_tup' {n : Nat} {ds : List D} (h : D.flatL n ds = true) : D.flat (n + 1) (.tup ds) = true := by unfold D.flat; exact h
theorem flat_lst' {n : Nat} {ds : List D} (h : D.flatL n ds = true) : D.flat (n + 1) (.lst ds) = true := by unfold D.flat; exact h
theorem flatL_map {α : Type} {n : Nat} {f : α → D} : ∀ {xs : List α}, (∀ x ∈ xs, D.flat n (f x) = true) → D.flatL n (xs.map f) = true
  | [], _ => by unfold List.map D.flatL; rfl
  | x :: xs, h => by
    rw [List.map_cons]
    unfold D.flatL
    rw [h x List.mem_cons_self, flatL_map fun y hy => h y (List.mem_cons_of_mem _ hy)]
    rfl
theorem flatL_cons {n : Nat} {d : D} {ds : List D} (h1 : D.flat n d = true) (h2 : D.flatL n ds = true) : D.flatL n (d :: ds) = true := by unfold D.flatL; rw [h1, h2]; rfl
theorem flatL_nil {n : Nat} : D.flatL n [] = true := by unfold D.flatL; rfl
theorem eqv_same {d : D} (h : D.flat 60 d = true) : PyData.eqv d.py d.py = true := PySem.SeqAt.eqv_refl _ (flat_lay 60 d h).1
theorem ne_same {d : D} {P : D → Prop} (h : D.flat 60 d = true) (hp : P (.bl false)) : rNeDD d d P := by
  unfold rNeDD
  rw [eqv_same h]
  exact ⟨⟨h, h⟩, hp⟩
theorem at_lstD' {ds : List D} {i : Int} {x : D} {P : D → Prop} (h0 : 0 ≤ i) (h : ds[i.toNat]? = some x) (hp : P x) : rIxD (.lst ds) (.int i) P := by
  have e : ds = ds.map fun d => d := by simp
  rw [e]
  exact at_lst (xs := ds) (f := fun d => d) h0 h hp
end DL
end
section
namespace DL
open PySem PySem.Spec PyProof.Rows L2
section
variable {K : PySem.W.Frag} {S : Sit} {c : Cl} {X : Cx} {te ta tb : TE} {a b t : TED} {as : TAD}
theorem RV.fresh0 {Z : Addr → Prop} {σ : L2.St} {H : Hp} {ρ : EnvD} (r : RV K S c Z σ H ρ) {p : Addr} (hp : H p = none) : c.H0 p = none := by
  cases e : c.H0 p with
  | none => rfl
  | some o =>
    have hw : ¬ S.W p := fun w => by
      obtain ⟨u, e'⟩ := S.there H p r.wd.inv w
      rw [hp] at e'; cases e'
    have := r.kp p o e hw
    rw [hp] at this; cases this
variable {e e1 e2 e3 : Expr} {t1 t2 t3 : TE} {a1 a2 a3 : TXD} {x y z : Str} {pos pos' p1 p2 p3 p4 p5 p6 : Pos}
end
section
variable {K : PySem.W.Frag} {S : Sit} {c : Cl} {X : Cx} {ta : TE} {a : TED} {ts : TA} {as : TAD} {o e : Expr} {es : List Expr} {apos cpos pos p : Pos} {T id : String} {name : Str} {r : V → List V → Hp → VK → Prop}
theorem ty_of {H : Hp} {Z : Addr → Prop} {d : D} {x : V} (h : tyD T d) (rd : Rep K (hide H Z) d x) : tyV K T x H := by
  cases d <;> try exact h.elim
  · unfold Rep at rd; subst rd; exact h
  · unfold Rep at rd
    obtain ⟨p, xs, rfl, h1, _⟩ := rd
    exact .inl ⟨h, xs, .inl (.inl (hide_ex _ _ h1))⟩
  · unfold Rep at rd
    obtain ⟨p, xs, rfl, h1, _⟩ := rd
    exact .inr (.inr (.inl ⟨h, .inl ⟨_, hide_ex _ _ h1⟩⟩))
def WM (K : PySem.W.Frag) (S : Sit) (r : V → List V → Hp → VK → Prop) (rd : RMD) : Prop := ∀ Z H x xs d ds (P : D → Prop), Wd S Z H → Rep K (hide H Z) d x → RepL K (hide H Z) ds xs → rd d ds P →
  ∀ Q : VK, (∀ v H' d, Kp S H H' → S.I H' → Rep K (hide H' Z) d v → P d → Q v H') → r x xs H Q
theorem we_bm {rd : RMD} (hr : WM K S r rd) (ha : WE K S c ta a) (hs : WA K S c ts as) : WE K S c (tBM K T r ta ts) (dBM T rd a as) := by
  intro Z σ H ρ P rv h Q q
  refine ha Z σ H ρ _ rv h _ fun x H1 d k1 i1 r1 ⟨ht, h1⟩ => ⟨ty_of ht r1, ?_⟩
  have rv1 := rv.step k1 i1
  refine hs Z σ H1 ρ _ rv1 h1 _ fun xs H2 ds k2 i2 r2 h2 => ?_
  have rv2 := rv1.step k2 i2
  exact hr Z H2 x xs d ds P rv2.wd (Rep.mono (rv1.wd.ex k2) d x r1) r2 h2 Q fun v H3 d3 k3 i3 r3 h3 => q v H3 d3 ((k1.trans k2).trans k3) i3 r3 h3
theorem de_bm {rd : RMD} (hK : X.K = K) (pa : PlainAttrs T) (slot : Slot T name id) (hty : typeOf (.builtin id) = pure (.type "method_descriptor")) (hm : MtR X id r) (hr : WM K S r rd) (ha : DE K S c X o ta a) (hs : DA K S c X (e :: es) ts as)
    (hbase : attributeBase o name X.env (eval o X.env) = eval o X.env := by rfl)
    (hfew : ((backTo cpos (starEach (e :: es) X.env)).all (fun x => !x.1) && (backToKw cpos (keywordEach [] X.env)).all (fun x => x.1.isSome)
      && decide ((e :: es).length + ([] : List Keyword).length + (if ([] : List Keyword).isEmpty then 0 else 1) < 30)) = true := by rfl)
    (hline : (apos.endLine == cpos.line) = true := by rfl) (he : starEach (e :: es) X.env = (false, eval e X.env) :: starEach es X.env := by rfl) (hpl : (backTo cpos (starEach es X.env)).any (·.1) = false := by rfl) :
    DE K S c X (.Call (.Attribute o name apos) (e :: es) [] cpos) (tBM K T r ta ts) (dBM T rd a as) := by
  subst hK
  exact ⟨pe_bm pa slot hty hm ha.pe hs.pa hbase hfew hline he hpl, we_bm hr ha.we hs.wa⟩
def rJoinD : RMD := fun x ds P => match x, ds with
  | .str a, [y] => ∃ ys : List Str, y.items = some (ys.map D.str) ∧ (ys.map (·.length)).sum + ys.length * a.length ≤ 16777216 ∧ P (.str (Txt.join a ys))
  | _, _ => False
theorem wm_join : WM K S (fun x xs H Q => ∃ a p, ∃ ys : List Str, x = .str a ∧ xs = [.ref p] ∧ (SqL K H p (ys.map V.str) ∨ SqT K H p (ys.map V.str)) ∧ (ys.map (·.length)).sum + ys.length * a.length ≤ 16777216 ∧ Q (.str (Txt.join a ys)) H) rJoinD := by
  intro Z H x xs d ds P w r1 r2 hp Q q
  unfold rJoinD at hp
  split at hp
  · obtain ⟨v, rfl, r3⟩ := repL1 r2
    unfold Rep at r1
    subst r1
    obtain ⟨ys, ey, hz, hp⟩ := hp
    obtain ⟨p, xs, rfl, h1, h2⟩ := items_rep ey r3
    have e := RepL.of_strs h2
    subst e
    exact ⟨_, p, ys, rfl, rfl, sq_hide h1, hz, q _ H _ (Kp.refl H) w.inv repS hp⟩
  · exact hp.elim
end
section
variable {K : PySem.W.Frag} {S : Sit} {c : Cl} {X : Cx} {te ta tb : TE} {a b t : TED} {as : TAD} {e e1 e2 : Expr} {x y : Str} {pos pos' p1 p2 p3 p4 p5 p6 : Pos}
def dExt (i : Nat) (a : TED) : TSD := fun Dd ρ => (∃ ds, ρ[i]? = some (some (.own .lst ds))) ∧ a ρ fun d => match ρ[i]?, d with
  | some (some (.own .lst ds)), .lst es => ds.length + es.length ≤ 1000000 ∧ Dd.nx (ρ.set i (some (.own .lst (ds ++ es))))
  | _, _ => False
theorem ws_ext {i : Nat} (ha : WE K S c te a) : WS K S c (tDrop (tBM K "list" rExtend (tVar i) (tCons te tNil))) (dExt i a) := by
  rintro B σ H ρ Dd D ⟨Z, r⟩ ⟨⟨ds, hi⟩, h⟩ f
  obtain ⟨l, xs, e1, z, h0, e2, _, q0⟩ := r.own i .lst ds hi
  refine ⟨_, e1, .inl ⟨rfl, xs, .inl (.inl e2)⟩, ?_⟩
  refine ha Z σ H ρ _ r.rv h _ fun v H' d k iv q hd => ?_
  rw [hi] at hd
  cases d <;> try exact hd.elim
  rename_i es
  obtain ⟨hz, hd⟩ := hd
  have r1 := r.step k iv
  obtain ⟨l', xs', e1', z', _, e2', _, q0'⟩ := r1.own i .lst ds hi
  rw [e1] at e1'
  cases e1'
  unfold Rep at q
  obtain ⟨b, ys, rfl, g1, g2⟩ := q
  refine ⟨l, b, xs', ys, rfl, rfl, e2', hide_ex _ _ g1, sz (by rw [← q0'.len, ← g2.len]; exact hz), ?_⟩
  exact f.nx σ _ _ ⟨Z, r1.write (kd' := .lst) hi e1 trivial (q0'.append g2)⟩ hd
theorem ds_ext (i : Nat) (hK : X.K = K) (ha : DE K S c X e ta a) (hN : X.N[i]? = some x := by rfl) (hv : Vis X.env.scope x := by first | exact Or.inl rfl | exact Or.inr (Or.inl rfl) | exact Or.inr (Or.inr rfl)) (hd : (x == ("__debug__" : Str)) = false := by decide)
    (hcd : (x == ("__classdict__" : Str)) = false := by decide)
    (he : starEach (e :: []) X.env = (false, eval e X.env) :: starEach [] X.env := by rfl)
    (hbase : attributeBase (.Name x p1) "extend" X.env (eval (.Name x p1) X.env) = eval (.Name x p1) X.env := by rfl)
    (hfew : ((backTo p3 (starEach (e :: []) X.env)).all (fun x => !x.1) && (backToKw p3 (keywordEach [] X.env)).all (fun x => x.1.isSome)
      && decide ((e :: ([] : List Expr)).length + ([] : List Keyword).length + (if ([] : List Keyword).isEmpty then 0 else 1) < 30)) = true := by rfl) (hline : (p2.endLine == p3.line) = true := by rfl)
    (hpl : (backTo p3 (starEach [] X.env)).any (·.1) = false := by rfl)
    (hs : swapsWith (.Call (.Attribute (.Name x p1) "extend" p2) [e] [] p3) none pos.line X.env = pure false := by rfl) :
    DS K S c X (.Expr (.Call (.Attribute (.Name x p1) "extend" p2) [e] [] p3) pos) (tDrop (tBM K "list" rExtend (tVar i) (tCons ta tNil))) (dExt i a) := by
  subst hK
  exact ⟨ps_expr (pe_bm PySem.F.plainAttrs_list PySem.F.slot_list_extend PySem.F.type_list_extend mt_extend (pe_var hN hv hd hcd) (pa_cons ha.pe pa_nil he) hbase hfew hline he hpl) hs, ws_ext ha.we⟩
end
section
variable {P : Program} {w : World} {K : PySem.W.Frag} {S : Sit} {c : Cl} {X : Cx} {mg : Str → Option Value} {base : Heap} {te ta : TE} {ts : TA} {as : TAD} {e : Expr} {es : List Expr} {x : Str} {p pos : Pos}
end
end DL
end
section
namespace DL
open PySem PySem.Spec PyProof.Rows L2
section
variable {K : PySem.W.Frag}
def spLawN (K : PySem.W.Frag) : Sp := fun vs H Q _ => ∃ (a : Addr) (ns : List Int), vs = [.ref a] ∧ SqL K H a (ns.map V.int) ∧ ns.length ≤ 63 ∧ ∀ H', Q (.bl true) H'
end
end DL
end
section
namespace DL
open PySem PySem.Spec PyProof.Rows L2
end DL
end
section
namespace EXK
open PySem PySem.W PySem.Calls PyProof.Rows PySem.HandSPX
open Builtin Builtin.ObjectAttr
section
variable {P : Program} {w : World} {M : Model} {Ar : Around} {Er : Value → Shared → Prop} {Rr : Result → Shared → Prop} {hh : Heap} {gs : Array GenState} {dr : Drawn} {tk : Nat} {oss : OsState}
variable {cn cq : Str} {C Nc : Addr} {bs bm bmB : List Value} {hdct : Bool} {sn : List Str} {sub : List Value} {ab : Bool} {col : Option Bool} {dd : Option Addr} {k0 k1 k2 k3 k5 : Option Value} {B newId initId : String} {kw : List (Str × Value)}
end
end EXK
end
section
namespace DL
open PySem PySem.Spec PyProof.Rows L2
section
variable {X : Cx} {pins : List (Addr × Obj)} {σ : L2.St} {H : Hp} {s : Shared} {C D a : Addr}
end
end DL
end
section
namespace DL
open PySem PySem.Spec PyProof.Rows L2
section
open PySem.W PySem.Calls
variable {P : Program} {w : World} {Ar : Around} {Er : Value → Shared → Prop} {hh : Heap} {gs : Array GenState} {dr : Drawn} {tk : Nat} {oss : OsState}
variable {cn cq : Str} {C Nc : Addr} {bs bm bmB : List Value} {hdct : Bool} {sn : List Str} {sub : List Value} {ab : Bool} {col : Option Bool} {dd : Option Addr} {k0 k1 k2 k3 k5 : Option Value} {B i newId : String}
end
section
variable {X : Cx} {pins : List (Addr × Obj)} {σ : L2.St} {H : Hp} {s : Shared} {C D a : Addr} {e : Expr} {es : List Expr} {ta : TA} {body : List Stmt} {p0 p1 p2 p3 pos : Pos} {Dn : Ends}
end
end DL
end
section
namespace DL
open PySem PySem.Spec PyProof.Rows L2
section
variable {P : Program} {w : World} {K : PySem.W.Frag} {mg : Str → Option Value} {base : Heap} {CX : CXT} {x qual : Str} {st : Stmt} {C D f : Addr} {fd : FuncData} {N ps : List Str} {k : Nat} {sp : Sp}
end
end DL
end
section
namespace DL
open PySem PySem.Spec PyProof.Rows L2
theorem int_len {i : Int} (h : i.natAbs.log2 < 1920) : (toString i : Str).length ≤ 100000 := by
  have e := int_text_length_le (k := 1920) (by decide) h
  show (Str.ofString (toString i)).length ≤ 100000
  rw [PySem.ofString_length]
  omega
section
variable {P : Program} {w : World} {K : PySem.W.Frag} {mg : Str → Option Value} {base : Heap} {CX : CXT} {qual : Str} {st : Stmt} {C f : Addr} {fd : FuncData} {k : Nat}
end
section
variable {X : Cx} {CX : CXT} {x : Str} {C fI : Addr} {k : Nat} {fd : FuncData} {ps ks : List Str} {sp : Sp} {kws : List Keyword} {tk : TA} {p pos : Pos} {g : List Value → List Value → List Value} {gV : List V → List V → List V}
end
end DL
end
section
namespace LMX
open PySem PySem.Spec PyProof.Rows L2 LamX
section
variable {M : Model} {A : Around} {E : Value → Shared → Prop} {s : Shared} {q : Str} {pr : Arguments} {bd : Expr} {sc : Scope} {env : Env} {c P : Addr} {ps : Array Value} {pos : Pos} {ln : Nat} {mg : Str → Option Value} {cl : List (Str × Addr)} {dV : Value} {Qv : Value → Shared → Prop}
end
end LMX
end
section
namespace LMX
open PySem PySem.Spec PyProof.Rows L2 LamX
section
variable {X : Cx} {pins : List (Addr × Obj)} {σ : L2.St} {H : Hp} {s : Shared}
end
end LMX
end
section
namespace LMX
open PySem PySem.Spec PyProof.Rows L2 LamX
section
variable {X : Cx} {pins : List (Addr × Obj)} {σ : L2.St} {H : Hp} {s : Shared}
end
section
variable {P : Program} {w : World} {K : PySem.W.Frag} {mg : Str → Option Value} {base : Heap} {N ps : List Str} {F : LF} {f : Addr} {A : Around} {outer : List Env} {s : Shared} {H : Hp} {E : XK} {us : List Value} {σ : L2.St}
end
end LMX
end
section
namespace DL
open PySem PySem.Spec PyProof.Rows L2 LamX LMX
section
variable {K : PySem.W.Frag} {S : Sit} {c : Cl} {X : Cx} {E : XK} {xd : XD} {k i : Nat} {x : Str} {p1 p2 : Pos} {Act : (Hp → Addr → Prop) → SpT → Prop}
end
section
variable {P : Program} {w : World} {K : PySem.W.Frag} {mg : Str → Option Value} {S : Sit} {c : Cl} {X : Cx}
end
end DL
end
section
namespace DL
open PySem PySem.Spec PyProof.Rows L2 LamX LMX
section
variable {K : PySem.W.Frag} {S : Sit} {c : Cl} {X : Cx}
variable {CX : CXT} {k j : Nat} {g : Addr} {fd : FuncData} {ps : List Str} {spA : ActT → SpD} {E : XK} {xd : XD} {x : Str} {p pos : Pos} {e : Expr} {es : List Expr} {ts : TA} {as : TAD} {tab : List ((Hp → Addr → Prop) × (XD → TED) × List Bool)}
end
end DL
end
section
namespace DL
open PySem PySem.Spec PyProof.Rows L2 LamX LMX
section
variable {P : Program} {w : World} {K : PySem.W.Frag} {mg : Str → Option Value} {base : Heap} {CX : CXT} {k : Nat} {f : Addr} {fd : FuncData} {ps : List Str} {S : Sit} {T : List (Addr × Str)}
end
end DL
end
section
namespace DL
open PySem PySem.Spec PyProof.Rows L2 LamX LMX
section
variable {K : PySem.W.Frag} {S : Sit} {c : Cl} {X : Cx}
end
section
variable {P : Program} {w : World} {K : PySem.W.Frag} {S : Sit} {mg : Str → Option Value} {base : Heap}
theorem xc_cx {c : Cl} {N : List Str} {qual : Str} {sc : Scope} {f : Addr} {cdv : Value} {A : Around} {outer : List Env} {s : Shared} {H : Hp} {E : XK} (h : XFit K S c) (e : c.E = E) : XC K S c (cxOf (L2.CX P w) P w K mg base N qual sc f cdv A outer s H E) := by
  subst e
  exact ⟨h, takes_of rfl rfl rfl rfl, passes_of rfl⟩
theorem fn_deepX {x qual : Str} {st : Stmt} {f : Addr} {fd : FuncData} {N ps : List Str} {k : Nat} {spd : SpD} {tD : XD → TSD} (F : Fun K x qual st f fd) (sc : FnScope N ps (defScope st)) (hlen : ∀ ds P x, spd ds P x → ds.length = ps.length)
    (hpure : ∀ ds P x, spd ds P x → tD x { nx := fun _ => P .non, rt := P } (startD N ds))
    (hbody : ∀ (c : Cl) (cdv : Value) (A : Around) (outer : List Env) (s : Shared) (H : Hp), Room k (A.deeper (envOfC qual (defScope st) s.heap.objs.size f cdv)) → XC K S c (cxOf (L2.CX P w) P w K mg base N qual (defScope st) f cdv A outer s H c.E) →
      ∃ ts, DSs K S c (cxOf (L2.CX P w) P w K mg base N qual (defScope st) f cdv A outer s H c.E) (defBody st) ts (tD c.x)) : FnOk P w K mg base (L2.CX P w) (k + 1) f fd ps (liftSp K S spd) := by
  obtain ⟨oc, od, kV, doc, pm, an, cdv, ct, osl, rfl, lk, hcd⟩ := F.ex
  refine fn_of lk hcd sc (fun vs H Q E h => ?_) fun A outer s H vs Q E hr h => ?_
  · obtain ⟨Z, ds, Pd, x, w, r, hs, _⟩ := h
    rw [← r.len]
    exact hlen ds Pd x hs
  · obtain ⟨Z, ds, Pd, x, w, r, hs, hq, hx⟩ := h
    have fit : XFit K S ⟨Z, H, E, x⟩ := fun cls dd H' fs k i xr h => hx cls dd H' fs k i xr h
    obtain ⟨ts, d⟩ := hbody ⟨Z, H, E, x⟩ cdv A outer s H hr (xc_cx fit rfl)
    exact ⟨ts, d.pss, d.ws (fun _ => none) _ H _ _ _ ⟨Z, rz_start w r⟩ (hpure ds Pd x hs) (fit_of hq)⟩
end
def dRaise0 (x : XD) (C : Addr) (a : TED) : TSD := fun _ ρ => a (view ρ) fun _ => x C []
section
variable {K : PySem.W.Frag} {S : Sit} {c : Cl} {X : Cx} {C : Addr} {te : TE} {a : TED} {ts : TA} {as : TAD} {fs : List Str} {E : XK} {xd : XD}
theorem ws_raise0 (hE : XOk K S c E xd) (ha : WE K S c te a) : WS K S c (fun _ σ H => te σ H fun _ H1 => E (.ref C) none H1) (dRaise0 xd C a) := by
  rintro B σ H ρ Dd De ⟨Z, r⟩ h f
  refine ha c.Z0 σ H (view ρ) _ r.view h _ fun v H1 d k i q hx => ?_
  exact hE C none H1 [] (r.rv.kp.trans k) i (.inl ⟨rfl, rfl⟩) hx
variable {x : Str} {e : Expr} {p pos rpos : Pos} {fI : Addr} {k : Nat} {fd : FuncData} {ps ks : List Str} {kws : List Keyword} {CX : CXT}
theorem ds_raise0 (hK : X.K = K) (calm : X.calm = true) (xc : XC K S c X) (T : XCls0 X.K X.mg x C) (ha : DE K S c X e te a) (hg : Gl X x := by rfl) (hs : starEach [e] X.env = (false, eval e X.env) :: starEach [] X.env := by rfl)
    (hdb : (x == ("__debug__" : Str)) = false := by decide) : DS K S c X (.Raise (some (.Call (.Name x p) [e] [] pos)) none rpos) (fun _ σ H => te σ H fun _ H1 => c.E (.ref C) none H1) (dRaise0 c.x C a) := by
  subst hK
  obtain ⟨bmB, B, newId, initId, F, q⟩ := T.q
  exact ⟨ps_raise calm xc.tk (SkE.pmk_own1 F q T.m T.kC (raises_own T.exC T.tyC) hg ha.pe hs hdb), ws_raise0 xc.ok ha.we⟩
end
end DL
end
section
namespace DL
open PySem PySem.Spec PyProof.Rows L2 LamX LMX
section
variable {X : Cx} {pins : List (Addr × Obj)} {σ : L2.St} {H : Hp} {a : Addr} {cls : Value} {d : Option Addr} {B : Heap} {sI s : Shared}
end
end DL
end
section
namespace EXK
open PySem PySem.W PySem.Spec PySem.Calls PyProof.Rows L2
section
variable {prog : Program} {w : World} {Ar : Around} {Er : Value → Shared → Prop} {s : Shared} {K : Frag} {x D : Addr} {ox : Obj} {od : Option Obj}
end
end EXK
namespace DL
open PySem PySem.Spec PyProof.Rows L2 LamX LMX
end DL
end
section
namespace DL
open PySem PySem.Spec PyProof.Rows L2 LamX LMX
section
variable {K : PySem.W.Frag} {S : Sit} {c : Cl} {X : Cx} {E : XK} {xo : XD}
end
end DL
end
section
namespace DL
open PySem PySem.Spec PyProof.Rows L2 LamX LMX
section
variable {K : PySem.W.Frag} {S : Sit} {c : Cl} {X : Cx} {a cls C : Addr} {d : Option Addr} {oe : Obj} {fl : List (Str × D)} {pn : List (Addr × Obj)} {en f y : Str} {p1 p2 p3 pos : Pos}
end
section
variable {K : PySem.W.Frag} {S : Sit}
end
def dFmt (a : TED) : TED := fun ρ P => a ρ fun d => match d with
  | .str y => y.length ≤ 100000 ∧ P (.str y)
  | .int i => i.natAbs.log2 < 1920 ∧ P (.str (toString i))
  | _ => False
def dFmtR (a : TED) : TED := fun ρ P => a ρ fun d => match d with
  | .str y => (reprText y).length ≤ 100000 ∧ P (.str (reprText y))
  | .int i => i.natAbs.log2 < 1920 ∧ P (.str (toString i))
  | _ => False
def dJoin (ds : List TED) : TED := fun ρ P => dJs ds Str.empty ρ fun out => P (.str out)
section
variable {K : PySem.W.Frag} {S : Sit} {c : Cl} {X : Cx} {te : TE} {a : TED} {e : Expr} {pos : Pos}
theorem we_fmt (ha : WE K S c te a) : WE K S c (tFmt te) (dFmt a) := by
  intro Z σ H ρ P rv h Q q
  refine ha Z σ H ρ _ rv h _ fun v H1 d k i r h1 => ?_
  cases d <;> try exact h1.elim
  · unfold Rep at r
    exact .inr ⟨_, r, h1.1, q _ H1 _ k i repS h1.2⟩
  · unfold Rep at r
    exact .inl ⟨_, r, by rw [sizeLine_eq]; have := h1.1; omega, q _ H1 _ k i repS h1.2⟩
theorem we_fmtR (ha : WE K S c te a) : WE K S c (tFmtR te) (dFmtR a) := by
  intro Z σ H ρ P rv h Q q
  refine ha Z σ H ρ _ rv h _ fun v H1 d k i r h1 => ?_
  cases d <;> try exact h1.elim
  · unfold Rep at r
    exact .inr ⟨_, r, h1.1, q _ H1 _ k i repS h1.2⟩
  · unfold Rep at r
    exact .inl ⟨_, r, by rw [sizeLine_eq]; have := h1.1; omega, q _ H1 _ k i repS h1.2⟩
theorem de_fmt (ha : DE K S c X e te a) : DE K S c X (.FormattedValue e (-1) none pos) (tFmt te) (dFmt a) := ⟨pe_fmt ha.pe, we_fmt ha.we⟩
theorem de_fmtR (ha : DE K S c X e te a) : DE K S c X (.FormattedValue e 114 none pos) (tFmtR te) (dFmtR a) := ⟨pe_fmtR ha.pe, we_fmtR ha.we⟩
theorem DJ.pj {es : List Expr} {ts : List TE} {as : List TED} (h : DJ K S c X es ts as) : PJ X es ts := by
  induction h with
  | nil => exact .nil
  | cons h r ih => exact .cons h.pe ih
theorem de_join {v1 v2 : Expr} {rest : List Expr} {ts : List TE} {as : List TED} (h : DJ K S c X (v1 :: v2 :: rest) ts as) : DE K S c X (.JoinedStr (v1 :: v2 :: rest) pos) (fun σ H Q => tJs ts Str.empty σ H fun out H1 => Q (.str out) H1) (dJoin as) :=
  ⟨pe_joined h.pj, fun Z σ H ρ P rv hd Q q => h.run Z σ H ρ Str.empty (fun out => P (.str out)) rv hd _ fun out H' k i hp => q _ H' _ k i repS hp⟩
end
end DL
end
section
namespace DL
open PySem PySem.Spec PyProof.Rows L2 LamX LMX
theorem cellB_ok {K : PySem.W.Frag} {cl : List (Str × Addr)} {D : Addr} (h : cellB K cl D = true) : ∃ (cc : Addr) (v : Value) (d : Option Addr) (sl : Array (Option Value)), cl = [(("__class__" : Str), cc)] ∧ K.lookup cc = some ⟨v, d, .cell (some (.ref D)), sl⟩ := by
  unfold cellB at h
  split at h
  · rename_i x cc
    obtain ⟨h1, h2⟩ := He.ba h
    have h1 := of_decide_eq_true h1
    split at h2
    · rename_i v d D' sl lc
      have h2 := of_decide_eq_true h2
      subst h1 h2
      exact ⟨cc, v, d, sl, rfl, lc⟩
    · cases h2
  · cases h
theorem fileB_ok {K : PySem.W.Frag} {file : Str} {cd : Value} (h : fileB K file cd = true) : ∃ (c : Addr) (v : Value) (d : Option Addr) (vs : Array Value) (sl : Array (Option Value)) (f : Str) (tf : Tok), cd = .ref c ∧ K.lookup c = some ⟨v, d, .fields vs, sl⟩ ∧ vs[2]? = some (.str f tf) ∧ (file == f) = true := by
  unfold fileB at h
  split at h
  · rename_i c
    split at h
    · rename_i v d vs sl lc
      split at h
      · rename_i f tf hv
        exact ⟨c, v, d, vs, sl, f, tf, rfl, lc, hv, h⟩
      · cases h
    · cases h
  · cases h
theorem DefS.fun_ {P : Program} {K : PySem.W.Frag} {d : DefS} {file : Str} (hf : P.main.file = file) (e : d.look K = d.want) (c : d.ok file K = true) : ∃ fd, FunS P K d.name d.qual d.st (He.ga K d.C) (d.at_.ad K) fd := by
  obtain ⟨kp, c2⟩ := He.ba c
  unfold DefS.look at e
  cases q : K.lookup (d.at_.ad K) with
  | none =>
    rw [q] at c2
    cases c2
  | some o =>
    obtain ⟨oc, od, dt, osl⟩ := o
    rw [q] at c2 e
    cases dt with
    | func fd =>
      obtain ⟨n1, n2, n3, n4, n5, n6, n7, n8, n9, n10, n11, n12, n13, n14, n15⟩ := fd
      have e2 : (some (n1, n2, n3, n4, n5, n6, [], n8, n15) : He.FnV) = some (d.name, d.qual, defArgs d.st, .stmts (defBody d.st), defScope d.st, mainGlobals, [], .none, builtinsNs) := e
      simp only [Option.some.injEq, Prod.mk.injEq, true_and] at e2
      obtain ⟨h1, h2, h3, h4, h5, h6, h8, h9⟩ := e2
      subst h1 h2 h3 h4 h5 h6 h8 h9
      obtain ⟨c3, c4⟩ := He.ba c2
      obtain ⟨c5, c6⟩ := He.ba c4
      obtain ⟨cc, cl, cld, csl, rfl, lc⟩ := cellB_ok (show cellB K n7 (He.ga K d.C) = true from c5)
      obtain ⟨c0, ccl, cdd, vs, ccs, f, tf, rfl, lco, hvs, hfl⟩ := fileB_ok (show fileB K file n13 = true from c6)
      exact ⟨_, ⟨oc, od, n9, n10, n11, n12, c0, n14, osl, cc, rfl, q, c3, ⟨ccl, cdd, vs, ccs, f, tf, lco, hvs, by rw [hf]; exact hfl⟩, cl, cld, csl, lc⟩, kp⟩
    | _ => cases c2
theorem xcls0_of {K : PySem.W.Frag} {mg : Str → Option Value} {x : Str} (m : mg x = some (.ref (He.ga K x))) (c : (He.Fa.exc x).ok K = true) : XCls0 K mg x (He.ga K x) := by
  obtain ⟨h1, h2, h3, h4⟩ := He.exc_ok c
  exact ⟨⟨He.veBase, _, _, _, F.excBase_ValueError, h1⟩, m, h2, h3, h4⟩
theorem seeZ_eq {n : Nat} {fa : List Fc} {fn : List DefX} {fs : List DefS} {file : Str} {tf : List He.Defn} {g : Addr → Option Obj} {s : Shared} (h : ∀ a, g a = s.heap.get? a) : seeZ n fa fn fs file tf g = (hookZ n fa fn fs file tf).obs s := by
  have e : g = s.heap.get? := funext h
  rw [e] <;> rfl
section
variable {fa : List Fc} {fn : List DefX} {fs : List DefS} {file : Str} {tf : List He.Defn} {h : Heap} {K : PySem.W.Frag}
theorem SaysZ.fact (c : SaysZ fa fn fs file tf h K) (i : Nat) {f : Fb} (e : fa[i]? = some (.a f) := by rfl) : f.ok K = true := List.all_eq_true.mp c.alls.1 (.a f) (List.mem_of_getElem? e)
theorem SaysZ.looks (c : SaysZ fa fn fs file tf h K) : fn.map (fun d => d.look K) = fn.map DefX.want ∧ fs.map (fun d => d.look K) = fs.map DefS.want := by
  have e : fn.map (fun d => d.look K) ++ fs.map (fun d => d.look K) = fn.map DefX.want ++ fs.map DefS.want := congrArg (fun z : AlX => z.2) c.b
  exact List.append_inj e (by simp)
theorem SaysZ.def_ (c : SaysZ fa fn fs file tf h K) (i : Nat) {d : DefX} (e : fn[i]? = some d := by rfl) : ∃ fd, Fun K d.name d.qual d.st (d.at_.ad K) fd := by
  have e2 : (fn.map fun d => d.look K)[i]? = (fn.map DefX.want)[i]? := by rw [c.looks.1]
  rw [List.getElem?_map, List.getElem?_map, e] at e2
  exact DefX.fun_ (Option.some.inj e2) (List.all_eq_true.mp c.alls.2.1 d (List.mem_of_getElem? e))
end
end DL
end
section
namespace DL
open PySem PySem.Spec PyProof.Rows L2 LamX LMX
theorem passX0 {P : Program} {w : World} {X : Cx} : Passes (L2.CX P w) X E0 := fun _ _ _ _ _ _ _ ⟨_, _, _, _, _, _, _, _, _, _, _, _, h⟩ => h.elim
section
variable {K : PySem.W.Frag} {S : Sit} {c : Cl} {X : Cx} {CX : CXT} {E : XK} {xd : XD} {k n : Nat} {x m kn : Str} {p p1 p2 p3 p0 pos : Pos} {e o : Expr} {es : List Expr} {kws : List Keyword} {ts tk : TA} {as ks : TAD} {te ta : TE} {a : TED} {fa fi C D1 : Addr} {fd : FuncData} {ps kn' : List Str} {spd : SpD} {ind : InD}
theorem we_callG (hE : XOk K S c E xd) (hs : WA K S c ts as) : WE K S c (tCall (liftSp K S spd) [] E ts) (dCall spd xd as) := by
  intro Z σ H ρ P rv h Q q
  refine hs Z σ H ρ _ rv h _ fun vs H1 ds k iv r hd => ?_
  rw [List.append_nil]
  exact ⟨Z, ds, P, xd, (rv.step k iv).wd, r, hd, fun v H' d k' i' r' h' => q v H' d (k.trans k') i' r' h', hE.at (rv.step k iv)⟩
theorem de_callG (F : FnOk X.prog X.w X.K X.mg X.base CX k fa fd ps (liftSp K S spd)) (hr : Room k X.A) (hm : X.mg x = some (.ref fa)) (hk : PySem.W.keepIn X.K (.ref fa) = true) (hb : L2.Binds X.K fd ps []) (hx : Passes CX X E) (hE : XOk K S c E xd) (hs : DA K S c X (e :: es) ts as) (hg : Gl X x := by rfl)
    (hdb : (x == ("__debug__" : Str)) = false := by decide) (he : starEach (e :: es) X.env = (false, eval e X.env) :: starEach es X.env := by rfl) (hpl : (backTo pos (starEach es X.env)).any (·.1) = false := by rfl) :
    DE K S c X (.Call (.Name x p1) (e :: es) [] pos) (tCall (liftSp K S spd) [] E ts) (dCall spd xd as) := ⟨pe_call F hr hg hm hk hb .nil hx hs.pa hdb he hpl, we_callG hE hs.wa⟩
end
section
variable {P : Program} {w : World} {K : PySem.W.Frag} {S : Sit} {mg : Str → Option Value} {base : Heap} {qual : Str} {st : Stmt} {f C D : Addr} {fd : FuncData} {N ps : List Str} {k : Nat} {ind : InD} {tD : XD → TSD}
end
end DL
end
section
namespace DL
open PySem PySem.Spec PyProof.Rows L2 LamX LMX
section
variable {K : PySem.W.Frag} {S : Sit} {c : Cl} {X : Cx} {te t1 t2 : TE} {a a1 a2 : TED} {e e1 e2 : Expr} {pos p0 p1 p2 : Pos} {x y : Str} {C c0 P : Addr} {T : List (Addr × Str)} {params : Arguments} {body : Expr} {scope : Scope}
abbrev rPowD : R2D := rIIc CPow fun i j => .int (i ^ j.toNat)
theorem wr_pow : WR K S (rI CPow fun i j => .int (i ^ j.toNat)) rPowD := wr_I (fun _ _ h => h) fun _ _ _ => repI
end
end DL
end
section
namespace DL
open PySem PySem.Spec PyProof.Rows L2 LamX LMX
theorem kwdB_ok {K : PySem.W.Frag} {f : Addr} {kn : Str} {z : Int} {oc : Value} {od : Option Addr} {fd : FuncData} {osl : Array (Option Value)} (h : kwdB K f kn z = true) (lk : K.lookup f = some ⟨oc, od, .func fd, osl⟩) : ∃ (D : Addr) (t : Tok), fd.kwdefaults = .ref D ∧ PySem.W.nsIn K D kn = some (some (.int z t)) := by
  unfold kwdB at h
  rw [lk] at h
  have h : (match fd.kwdefaults with
    | .ref D => (match PySem.W.nsIn K D kn with
      | some (some (.int j _)) => decide (j = z)
      | _ => false)
    | _ => false) = true := h
  split at h
  · rename_i D e
    split at h
    · rename_i j t e2
      obtain rfl := of_decide_eq_true h
      exact ⟨D, t, e, e2⟩
    · cases h
  · cases h
open Classical in
noncomputable def exmT (K : PySem.W.Frag) (l : List Addr) (c d : Addr) : Option Bool := if c ∈ l then PySem.W.exmOne K (.ref c) (.ref d) else none
open Classical in
noncomputable def isaT (K : PySem.W.Frag) (l : List Addr) (c d : Addr) : Option Bool := if c ∈ l then PySem.W.kitOne K (.ref c) (.ref d) else none
open Classical in
noncomputable def isvT (K : PySem.W.Frag) (l : List Addr) (c : Addr) : Option Bool := if c ∈ l then PySem.W.kitOne K (.ref c) (.type "ValueError") else none
end DL
end
section
namespace DL
open PySem PySem.Spec PyProof.Rows L2 LamX LMX
section
variable {K : PySem.W.Frag} {S : Sit} {c : Cl} {X : Cx} {CX : CXT} {E : XK} {xd : XD} {k : Nat} {p1 p2 p3 p0 pos : Pos} {e : Expr} {es : List Expr} {ts : TA} {as : TAD} {C f2 : Addr} {fd : FuncData} {ps : List Str} {ind : InD} {body : List Stmt}
end
section
variable {P : Program} {w : World} {K : PySem.W.Frag} {S : Sit} {mg : Str → Option Value} {base : Heap} {qual : Str} {st : Stmt} {f C D : Addr} {fd : FuncData} {N ps : List Str} {k : Nat} {ind : InD} {tD : XD → TSD}
end
section
variable {K : PySem.W.Frag} {S : Sit} {c : Cl} {X : Cx} {CX : CXT} {E : XK} {xd : XD} {k n : Nat} {x : Str} {p pos : Pos} {e : Expr} {es : List Expr} {kws : List Keyword} {ts tk : TA} {as ks : TAD} {fi C : Addr} {fd : FuncData} {ps kn' : List Str} {ind : InD}
end
end DL
end
section
namespace Z
open PySem L2 DL
def eN (ns : Ns) : D := .tup (ns.map .str)
def eDs (ds : List Ns) : List D := ds.map eN
def eF (f : Str × Int) : D := .tup [.str f.1, .int f.2]
def ePlan (A : Cs) (ds : List Ns) (lead : Int) : D := .ins A.Plan ["_days", "_lead"] [.tup (eDs ds), .int lead]
def mPlace (day lead count : Int) : Int := if day < count then day else lead + (day - lead) % (count - lead)
def onDay (days : List Ns) (lead d : Int) : Ns := days.getD (mPlace d lead days.length).toNat []
def dryGo (days : List Ns) (lead : Int) (nm : Str) (lim : Int) : List Int → Int → List Int
  | [], _ => []
  | d :: r, k => let k' := if nm ∈ onDay days lead d then 0 else k + 1
    if lim ≤ k' then d :: dryGo days lead nm lim r k' else dryGo days lead nm lim r k'
def rngI (lo : Int) (n : Nat) : List Int := (List.range n).map fun k : Nat => lo + (k : Int)
def mDry (days : List Ns) (lead : Int) (f : Str × Int) (first last : Int) : List Int := dryGo days lead f.1 f.2 (rngI first (last + 1 - first).toNat) 0
def mAllDry (days : List Ns) (lead : Int) (f : Str × Int) : List Int := mDry days lead f 0 ((days.length : Int) + f.2 - 2)
def lim (fs : Fs) (n : Str) : Int := match fs.find? (fun f => f.1 == n) with
  | some f => f.2
  | none => 0
def sp_is_number (A : Cs) : SpD := fun ds P _ => ∃ v lo hi : Int, ds = [.int v, .int lo, .int hi] ∧ P (.bl (decide (lo ≤ v) && decide (v ≤ hi)))
def sp_is_name (A : Cs) : SpD := fun ds P _ => ∃ w, ds = [.str w] ∧ w.length ≤ 1000 ∧ P (.bl (isNm w))
def sp_first_wrong_day (A : Cs) : SpD := fun ds P _ => ∃ days : List Ns, ds = [.tup (eDs days)] ∧ days.length ≤ 5000 ∧ (∀ d ∈ days, d.Nodup ∧ d.length ≤ 4000) ∧ P .non
def sp_place (A : Cs) : SpD := fun ds P _ => ∃ d l c : Int, ds = [.int d, .int l, .int c] ∧ l < c ∧ P (.int (mPlace d l c))
def in_Plan (A : Cs) : InD := fun ds P _ => ∃ (days : List Ns) (lead : Int), ds = [.int lead, .tup (eDs days)] ∧ OkPlan days lead ∧ P ["_days", "_lead"] [.tup (eDs days), .int lead]
def sp_Plan_days (A : Cs) : SpD := fun ds P _ => ∃ days lead, ds = [ePlan A days lead] ∧ P (.tup (eDs days))
def sp_Plan_lead (A : Cs) : SpD := fun ds P _ => ∃ days lead, ds = [ePlan A days lead] ∧ P (.int lead)
abbrev N_is_number : List Str := ["value", "low", "high"]
abbrev N_is_name : List Str := ["word", "letter"]
abbrev N_first_wrong_day : List Str := ["days", "index", "names"]
abbrev N_place : List Str := ["day", "lead", "count"]
abbrev N_Plan_init : List Str := ["self", "lead", "days", "index", "names"]
abbrev N_Plan_days : List Str := ["self"]
abbrev N_Plan_lead : List Str := ["self"]
def D_is_number (A : Cs) : TSD := (dRet (dAndV (dIsi "int" (dVar 0)) (dAndV (dNotV (dIsi "bool" (dVar 0))) (dChain rLeD rLeD (dVar 1) (dVar 0) (dVar 2)))))
def D_is_name (A : Cs) : TSD := (dRet (dAndV (dIsi "str" (dVar 0)) (dAndV (dChain rLeD rLeD (dC (.int 1)) (dCB rLenD (dCons (dVar 0) dNil)) (dC (.int 8))) (dCB rAllD (dCons (dOfN (nLc (iStrD (dVar 0)) (hName 1) dYes (dOp rInSD (dVar 1) (dC (.str "abcdefghijklmnopqrstuvwxyz"))) [1])) dNil)))))
def D_first_wrong_day (A : Cs) : TSD := (dSeq (dFor (iEnumTD (dCons (dVar 0) dNil)) (hTup 2 (hCons (hName 1) (hCons (hName 2) hNil))) (dIfS (dOr (dTest (dOp rEqDD (dVar 1) (dC (.int 5000)))) (dTest (dOp rLtD (dMet (dVar 2)) (dCB rLenD (dCons (dVar 2) dNil))))) (dRet (dVar 1)) dNext)) (dRet (dC .non)))
def D_place (A : Cs) : TSD := (dSeq (dIfS (dTest (dOp rLtD (dVar 0) (dVar 2))) (dRet (dVar 0)) dNext) (dRet (dOp rAddD (dVar 1) (dOp rModD (dOp rSubD (dVar 0) (dVar 1)) (dOp rSubD (dVar 2) (dVar 1))))))
def D_Plan_init (A : Cs) : TSD := (dSeq (dSet 3 (dCall (sp_first_wrong_day A) x0 (dCons (dVar 2) dNil))) (dSeq (dIfS (dAnd (dTest (dOp rIsND (dVar 3) (dC .non))) (dNot (dTest (dCall (sp_is_number A) x0 (dCons (dVar 1) (dCons (dC (.int 0)) (dCons (dOp rSubD (dCB rLenD (dCons (dVar 2) dNil)) (dC (.int 1))) dNil))))))) (dSet 3 (dCB rLenD (dCons (dVar 2) dNil))) dNext) (dSeq (dIfS (dTest (dOp rNotND (dVar 3) (dC .non))) dNever dNext) (dSeq (dFldS 0 A.Plan "_days" (dCB rTupleD (dCons (dOfN (nLc (iTupD (dVar 2)) (hName 4) dYes (dCB rTupleD (dCons (dVar 4) dNil)) [4])) dNil))) (dFldS 0 A.Plan "_lead" (dVar 1))))))
def D_Plan_days (A : Cs) : TSD := (dRet (dFldC A.Plan "_days" (dVar 0)))
def D_Plan_lead (A : Cs) : TSD := (dRet (dFldC A.Plan "_lead" (dVar 0)))
end Z
end
section
namespace Z
open PySem PySem.Spec PyProof.Rows L2 DL
section
variable {K : PySem.W.Frag} {ks ds fs : List Str} {c d : Addr} {b : Bool}
end
end Z
end
section
namespace Z
open PySem PySem.Spec PyProof.Rows L2 DL
end Z
end
section
namespace DL
open PySem PySem.Spec PyProof.Rows L2 LamX LMX
section
variable {X : Cx}
end
end DL
end
section
namespace DL
open PySem PySem.Spec PyProof.Rows L2 LamX LMX
section
variable {X : Cx}
end
end DL
end
section
namespace DL
open PySem PySem.Spec PyProof.Rows L2 LamX LMX
section
variable {K : PySem.W.Frag} {S : Sit} {c : Cl} {X : Cx} {wi : TI} {it : TAD} {g : TG} {gd : TGD} {ix vs : List Nat} {tt : TT} {p : TTD} {ts : TA} {as : TAD} {k : Nat} {spA : ActT → SpD} {tab : List ((Hp → Addr → Prop) × (XD → TED) × List Bool)}
variable {j : Nat} {fa : Addr} {fd : FuncData} {ps : List Str} {x : Str} {p1 pos pos' : Pos} {e : Expr} {es : List Expr} {tg iter : Expr} {ifs : List Expr} {sc : Scope} {own : List (Str × Nat)}
end
end DL
end
section
namespace DL
open PySem PySem.Spec PyProof.Rows L2 LamX LMX
section
variable {M : Model} {A : Around} {E : Value → Shared → Prop} {s : Shared} {env : Env}
end
end DL
end
section
namespace DL
open PySem PySem.Spec PyProof.Rows L2 LamX LMX
section
variable {X : Cx} {pins : List (Addr × Obj)} {σ : L2.St} {H : Hp} {s : Shared}
end
end DL
end
section
namespace DL
open PySem PySem.Spec PyProof.Rows L2 LamX LMX
section
variable {X : Cx}
end
end DL
end
section
namespace DL
open PySem PySem.Spec PyProof.Rows L2 LamX LMX
end DL
end
section
namespace DL
open PySem PySem.Spec PyProof.Rows L2 LamX LMX
section
variable {K : PySem.W.Frag} {S : Sit} {c : Cl} {X : Cx} {wi : TI} {it : TAD} {g : TG} {gd : TGD} {ix : List Nat} {tt : TT} {p : TTD} {te : TE} {t : TED}
end
end DL
end
section
namespace DL
open PySem PySem.Spec PyProof.Rows L2
def rSplD : RMD := fun x ds P => match x, ds with
  | .str a, [.str b] => ((b.length == 0) = false ∧ a.length ≤ 1000000) ∧ P (.lst ((Txt.split a b).map .str))
  | _, _ => False
theorem lay_strs {K : PySem.W.Frag} {S : Sit} {Z : Addr → Prop} {H : Hp} {ys : List Str} {P : D → Prop} {Q : VK} (w : Wd S Z H) (hp : P (.lst (ys.map .str))) (q : ∀ v H' d, Kp S H H' → S.I H' → Rep K (hide H' Z) d v → P d → Q v H') : rNewStrs ys H Q :=
  fun l hl => q _ _ _ (Kp.new hl) (w.inew hl) (new_lst w hl (RepL.strs ys)) hp
theorem wm_split {K : PySem.W.Frag} {S : Sit} : WM K S (fun x xs H Q => ∃ a b, x = .str a ∧ xs = [.str b] ∧ (b.length == 0) = false ∧ a.length + 2 ≤ sizeLine ∧ rNewStrs (Txt.split a b) H Q) rSplD := by
  intro Z H x xs d ds P w r1 r2 hp Q q
  unfold rSplD at hp
  split at hp
  · obtain ⟨v, rfl, r3⟩ := repL1 r2
    unfold Rep at r1 r3
    exact ⟨_, _, r1, by rw [r3], hp.1.1, by rw [sizeLine_eq]; have := hp.1.2; omega, lay_strs w hp.2 q⟩
  · exact hp.elim
def rStrID : RCD := fun ds P => match ds with
  | [.int i] => i.natAbs.log2 < 1920 ∧ P (.str (toString i))
  | _ => False
theorem wc_strI {K : PySem.W.Frag} {S : Sit} : WC K S (fun xs H Q => ∃ i, xs = [.int i] ∧ i.natAbs.log2 < 1920 ∧ Q (.str (toString i)) H) rStrID := by
  intro Z H xs ds P w r hp Q q
  unfold rStrID at hp
  split at hp
  · obtain ⟨v, rfl, r3⟩ := repL1 r
    unfold Rep at r3
    exact ⟨_, by rw [r3], hp.1, q _ H _ (Kp.refl H) w.inv repS hp.2⟩
  · exact hp.elim
def rIntSD : RCD := fun ds P => match ds with
  | [.str a] => a.length ≤ 640 ∧ ∃ n, PySem.intText? a = some n ∧ P (.int n)
  | _ => False
theorem wc_intS {K : PySem.W.Frag} {S : Sit} : WC K S (fun xs H Q => ∃ a n, xs = [.str a] ∧ PySem.intText? a = some n ∧ a.length ≤ 640 ∧ Q (.int n) H) rIntSD := by
  intro Z H xs ds P w r hp Q q
  unfold rIntSD at hp
  split at hp
  · obtain ⟨v, rfl, r3⟩ := repL1 r
    unfold Rep at r3
    obtain ⟨hl, n, hn, hp⟩ := hp
    exact ⟨_, n, by rw [r3], hn, hl, q _ H _ (Kp.refl H) w.inv repI hp⟩
  · exact hp.elim
def rIntID : RCD := fun ds P => match ds with
  | [.int i] => P (.int i)
  | [.bl k] => P (.int (if k then 1 else 0))
  | _ => False
theorem wc_intI {K : PySem.W.Frag} {S : Sit} : WC K S (fun xs H Q => (∃ i, xs = [.int i] ∧ Q (.int i) H) ∨ ∃ k, xs = [.bl k] ∧ Q (.int (if k then 1 else 0)) H) rIntID := by
  intro Z H xs ds P w r hp Q q
  unfold rIntID at hp
  split at hp
  · obtain ⟨v, rfl, r3⟩ := repL1 r
    unfold Rep at r3
    exact .inl ⟨_, by rw [r3], q _ H _ (Kp.refl H) w.inv repI hp⟩
  · obtain ⟨v, rfl, r3⟩ := repL1 r
    unfold Rep at r3
    exact .inr ⟨_, by rw [r3], q _ H _ (Kp.refl H) w.inv repI hp⟩
  · exact hp.elim
theorem dt_chain {K : PySem.W.Frag} {S : Sit} {c : Cl} {X : Cx} {ta tb tc : TE} {a b c' : TED} {e1 e2 e3 : Expr} {pos : Pos} {op op' : CmpOp} {r r' : R2} {rd rd' : R2D} (ho : OpR X (compareOp op) r) (hr : WR K S r rd) (ho' : OpR X (compareOp op') r') (hr' : WR K S r' rd') (ha : DE K S c X e1 ta a) (hb : DE K S c X e2 tb b) (hc : DE K S c X e3 tc c')
    (hm : lastMarks [op, op'] [e2, e3] = false := by rfl) : DT K S c X (.Compare e1 [op, op'] [e2, e3] pos) (tTest (tChain r r' ta tb tc)) (dTest (dChain rd rd' a b c')) :=
  ⟨pt_chain ho ho' ha.pe hb.pe hc.pe hm, wt_test (we_chain hr hr' ha.we hb.we hc.we)⟩
end DL
end
section
namespace DL
open PySem PySem.Spec PyProof.Rows L2
section
variable {i j l n : Nat} {a b c t : TED} {as bs ks : TAD} {p q : TTD} {d1 d2 body : TSD} {Dd : EndsD} {ρ : EnvD} {P : D → Prop} {PL : List D → Prop} {PB : Bool → Prop} {PO : Option Int → Prop} {d e : D} {r r' : R2D} {sp : SpD} {x : XD} {C : Addr} {f m : Str} {A B : Prop}
theorem s_ifD {c : Prop} [Decidable c] (h1 : c → A) (h2 : ¬ c → B) : onIf A B (decide c) := by
  unfold onIf
  by_cases h : c
  · rw [if_pos (decide_eq_true h)]; exact h1 h
  · rw [if_neg (by rw [decide_eq_true_eq]; exact h)]; exact h2 h
theorem s_ifN {b : Bool} (h : onIf B A b) : onIf A B (!b) := by cases b <;> exact h
theorem s_ifY {c : Prop} [Decidable c] (hc : c) (h : A) : onIf A B (decide c) := s_ifD (fun _ => h) fun n => (n hc).elim
theorem s_ifX {c : Prop} [Decidable c] (hc : ¬ c) (h : B) : onIf A B (decide c) := s_ifD (fun n => (hc n).elim) fun _ => h
theorem s_onRng1 {k : Int} (h0 : -1000000000 ≤ k ∧ k ≤ 1000000000) (h : PL (rngD 0 k.toNat)) : onRng1 PL [.int k] := ⟨⟨h0.1, by omega, by omega⟩, h⟩
theorem s_onRng2 {u k : Int} (h0 : -(2 ^ 62) ≤ u ∧ u < 2 ^ 62) (h1 : -(2 ^ 62) ≤ k ∧ k < 2 ^ 62) (h : PL (rngD u (k - u).toNat)) : onRng2 PL [.int u, .int k] := ⟨⟨h0.1, h0.2, h1.1, h1.2⟩, h⟩
end
local macro_rules | `(tactic| walk_at "s1") => `(tactic| (with_reducible first
  | refine s_seq ?_ | refine s_next ?_ | refine s_ret ?_ | refine s_retN ?_ | refine s_ifS ?_ | refine s_drop ?_ | refine s_set ?_ | refine s_setN ?_ | refine s_par ?_ | refine s_onPar ?_ | refine s_parX ?_ | refine s_parX3 ?_ | refine s_parN ?_ | refine s_parN3 ?_ | refine s_xN ?_
  | refine s_for ?_ | refine s_forV ?_ | refine s_asg ?_ | refine s_hName ?_ | refine s_hCons ?_ | refine s_hNil ?_
  | refine s_c ?_ | refine s_op ?_ | refine s_nil ?_ | refine s_cons ?_ | refine s_lst ?_ | refine s_tup ?_ | refine s_nLst ?_ | refine s_test ?_ | refine s_onB ?_ | refine s_and ?_ | refine s_or ?_ | refine s_not ?_ | refine s_if ?_ | refine s_andV ?_ | refine s_orV ?_ | refine s_notV ?_ | refine s_chain ?_
  | refine s_ifT ?_ | refine s_ifF ?_ | refine s_ii ?_ | refine s_isN ?_ | refine s_notN ?_ | refine s_oNo ?_ | refine s_oYes ?_ | refine s_onInt ?_ | refine s_sl ?_ | refine s_slL ?_ | refine s_slT ?_ | refine s_cb ?_ | refine s_lenL ?_ | refine s_lenT ?_ | refine s_listL ?_ | refine s_listT ?_ | refine s_tupL ?_ | refine s_tupT ?_
  | refine s_ofN ?_ | refine s_lc ?_ | refine s_iLst ?_ | refine s_iTup ?_ | refine s_iStr ?_ | refine s_onLst ?_ | refine s_onTup ?_ | refine s_onStr ?_ | refine s_rng1 ?_ | refine s_rng2 ?_ | refine s_tru ?_ | refine s_truL ?_ | refine s_truT ?_ | refine s_truN ?_ | refine s_truB ?_ | refine s_yes ?_
  | refine s_fld ?_ | refine s_prop ?_ | refine s_onIns ?_ | refine s_call ?_ | refine s_meth ?_ | refine s_bm ?_ | refine s_lam ?_))
local macro_rules | `(tactic| walk_at "s2") => `(tactic| first
  | (with_reducible refine s_varP (d := ?d) ?hi ?ho ?_); (case hi => rfl); (case ho => rfl)
  | (with_reducible refine s_varL (ds := ?ds) ?hi ?_); (case hi => rfl)
  | (with_reducible refine s_varK (kk := ?kk) (ds := ?ds) ?hi ?_); (case hi => rfl)
  | (with_reducible refine s_var (d := ?d) ?hi ?ho ?_); (case hi => rfl); (case ho => rfl)
  | (with_reducible refine s_onLen ?hl ?_); (case hl => rfl)
  | (with_reducible refine s_onBM ?hl ?_); (case hl => rfl)
  | (with_reducible refine s_hTup ?hl ?_); (case hl => rfl)
  | (with_reducible refine s_onFld (d := ?d) ?hl ?_); (case hl => rfl)
  | (with_reducible refine s_onMeth ?hl ?_); (case hl => decide)
  | (with_reducible refine s_app (ds := ?ds) ?hl ?_); (case hl => rfl)
  | (with_reducible refine eq_int ?_) | (with_reducible refine ne_int ?_))
local macro_rules | `(tactic| walk_at "s") => `(tactic| repeat first | walk_at "s1" | walk_at "s2")
end DL
end
section
namespace DL
open PySem PySem.Spec PyProof.Rows
section
variable {M : Model} {prog : Program} {w : World} {A : Around} {E : Value → Shared → Prop} {s : Shared} {K : PySem.W.Frag} {x C f : Addr} {ox : Obj} {od : Option Obj} {b : Value}
theorem ifBound_objNe {args : List Value} {Q : Option Value → Shared → Prop} (X : K.In s.heap) (I : PySem.W.InstAt s.heap x ox C od) (hs : PySem.W.findIn K (.ref C) "__ne__" = some (some (.builtin "object.__ne__")))
    (h : wpAny M A (call (.builtin "object.__ne__") (.ref x :: args)) (fun v => Q (some v)) E s) : wpAny M A (callSpecialIfBound? (.ref x) "__ne__" args) Q E s := by
  simp only [callSpecialIfBound?, bindSpecialIfBound?]
  refine wpAny_holding (wpAny_bind (wpAny_bind (wpAny_bind (I.type.here ((PySem.W.looks_findIn X hs).here ?_)))))
  refine wpAny_bind (wpAny_askSetting (wpAny_ite ?_))
  have fin : wpAny M A (call (.builtin "object.__ne__") ([.ref x] ++ args) >>= fun v => pure (some v)) Q E s := wpAny_bind (wpAny_mono h (fun v s' h' => wpAny_pure h') fun _ _ h' => h')
  split
  · exact wpAny_bind (wpAny_of_eq (F.cmp_object.ne.bind _) (wpAny_pure (by exact fin)))
  · exact wpAny_tryCatch (wpAny_bind (wpAny_of_eq (F.cmp_object.ne.bind _) (wpAny_pure (by exact fin))))
theorem entry_objNe {Q : Fin → Shared → Prop} (hu : A.units < cLine) (X : K.In s.heap) (I : PySem.W.InstAt s.heap x ox C od) (he : PySem.W.findIn K (.ref C) "__eq__" = some (some (.ref f))) (hf : PySem.W.isFn K (.ref f) = true)
    (h : wpAny (model prog w) A (call (.ref f) [.ref x, b]) (fun v s' => ∃ c : Bool, v = .bool c ∧ Q (.done (.ret (.bool (!c)))) s') E s) : wpAny (model prog w) A (Builtin.«object.__ne__» ⟨[.ref x, b], []⟩) Q E s := by
  unfold Builtin.«object.__ne__»
  repeat (first
    | with_reducible refine wpAny_cRoomFor hu ?_
    | (refine wpAny_bind (m := callSpecialIfBound? (.ref x) (Str.ofString "__eq__") [b])
        (PySem.W.ifBound_K X I he hf (wpAny_mono h (fun r s' hr => by
          obtain ⟨b, rfl, hq⟩ := hr
          repeat (first | exact hq | exact wpAny_pure hq | exact wpAny_truthy_bool hq | (refine wpAny_bind (m := truthy (.bool _)) (wpAny_truthy_bool ?_)) | wp_step)) fun _ _ e => e)))
    | wp_step)
theorem call_objNe {Q : Value → Shared → Prop} (hu : A.in1.units < cLine) (X : K.In s.heap) (I : PySem.W.InstAt s.heap x ox C od) (hm : PySem.W.mroIn K C (.type "object") = some true) (he : PySem.W.findIn K (.ref C) "__eq__" = some (some (.ref f))) (hf : PySem.W.isFn K (.ref f) = true)
    (h : wpAny (model prog w) A.in1 (call (.ref f) [.ref x, b]) (fun v s' => ∃ c : Bool, v = .bool c ∧ Q (.bool (!c)) s') E s) : wpAny (model prog w) A (call (.builtin "object.__ne__") [.ref x, b]) Q E s :=
  wpAny_call (codeAny_call_builtin F.cmp_object.ne.plain F.cmpEntry_ne (PySem.W.check_slot F.cmpKind_ne F.cmpSplit_ne (I.type.andThen (PySem.W.looks_mroIn X hm)) (F.cmpArgs_ne _ _) (entry_objNe hu X I he hf h)))
theorem cmp_ne {tb : Value} {Q : Value → Shared → Prop} (hu : A.in1.units < cLine) (X : K.In s.heap) (I : PySem.W.InstAt s.heap x ox C od) (hb : PySem.W.Looks (model prog w) s.heap (typeOf b) tb) (hn : PySem.W.notFirst K C tb = true) (hm : PySem.W.mroIn K C (.type "object") = some true)
    (hs : PySem.W.findIn K (.ref C) "__ne__" = some (some (.builtin "object.__ne__"))) (he : PySem.W.findIn K (.ref C) "__eq__" = some (some (.ref f))) (hf : PySem.W.isFn K (.ref f) = true)
    (h : wpAny (model prog w) A.in1 (call (.ref f) [.ref x, b]) (fun v s' => ∃ c : Bool, v = .bool c ∧ Q (.bool (!c)) s') E s) : wpAny (model prog w) A (richCompare .NotEq (.ref x) b) Q E s := by
  have one : wpAny (model prog w) A (tryCompare (.ref x) "__ne__" b) (fun r s' => ∃ v, r = some v ∧ Q v s') E s := by
    unfold tryCompare
    refine wpAny_bind (ifBound_objNe X I hs (call_objNe hu X I hm he hf (wpAny_mono h (fun v s' hv => ?_) fun _ _ e => e)))
    obtain ⟨c, rfl, hq⟩ := hv
    exact ⟨c, rfl, wpAny_pure ⟨_, rfl, hq⟩⟩
  unfold richCompare
  simp only [oneThing_ref]
  have hu' : A.units < cLine := by have : A.units + 1 < cLine := hu; omega
  refine wpAny_holding (wpAny_bind (wpAny_cRoomFor hu' ?_))
  refine wpAny_bind (I.type.here (wpAny_bind (hb.here ?_)))
  split
  · rename_i q
    have e : PySem.W.subIn K tb (.ref C) = some false := by
      rcases Bool.or_eq_true_iff.mp hn with e | e
      · rw [beq_iff_eq.mp e] at q; simp at q
      · exact beq_iff_eq.mp e
    refine wpAny_bind ((PySem.W.looks_subIn X e).here ?_)
    simp only [Bool.false_eq_true, if_false]
    refine wpAny_bind (wpAny_mono one (fun r s' z => ?_) fun _ _ e => e)
    obtain ⟨v, rfl, hq⟩ := z
    exact wpAny_pure hq
  · refine wpAny_bind (wpAny_pure ?_)
    simp only [Bool.false_eq_true, if_false]
    refine wpAny_bind (wpAny_mono one (fun r s' z => ?_) fun _ _ e => e)
    obtain ⟨v, rfl, hq⟩ := z
    exact wpAny_pure hq
end
end DL
namespace DL
open PySem PySem.Spec PyProof.Rows L2
theorem eqOB_ok {K : PySem.W.Frag} {C g : Addr} (h : eqOB K C g = true) : EqO K C g := by
  unfold eqOB at h
  simp only [Bool.and_eq_true, decide_eq_true_eq] at h
  exact ⟨h.1, h.2.1, h.2.2.1, h.2.2.2.1, h.2.2.2.2⟩
theorem binTB_ok {K : PySem.W.Frag} {C g : Addr} {nm T : String} (h : binTB K C nm T g = true) : BinT K C nm T g := by
  unfold binTB at h
  simp only [Bool.and_eq_true, decide_eq_true_eq, Option.isSome_iff_exists] at h
  exact ⟨h.1, h.2.1, h.2.2.1, ⟨_, h.2.2.2.1, .inl rfl⟩, h.2.2.2.2.1, h.2.2.2.2.2.1, h.2.2.2.2.2.2⟩
def YTy (K : PySem.W.Frag) (H : Hp) (C : Addr) (y : V) : Prop := (∃ b dy gs, y = .ref b ∧ H b = some (.ins C dy gs)) ∨ ∃ b ys, y = .ref b ∧ SqT K H b ys
def YAt (T : String) (y : V) : Prop := (∃ i, y = .int i ∧ T = "int") ∨ ∃ z, y = .str z ∧ T = "str"
section
variable {X : Cx} {CX : CXT} {k : Nat} {C g : Addr} {fd : FuncData} {ps : List Str} {sp : Sp} {E : XK} {e o : Expr} {pos : Pos} {ta tb : TE} {T nm : String}
def rEqO (K : PySem.W.Frag) (C : Addr) (neg : Bool) (sp : Sp) (E : XK) : R2 := fun x y H Q => ∃ a dx fs, x = .ref a ∧ H a = some (.ins C dx fs) ∧ YTy K H C y ∧ sp [x, y] H (fun v H' => ∃ c : Bool, v = .bl c ∧ Q (.bl (if neg then !c else c)) H') E
theorem yty_looks {pins : List (Addr × Obj)} {σ : L2.St} {H : Hp} {s : Shared} {y : V} {u : Value} (I : Inv X pins σ H s) (r : RelV y u) (h : YTy X.K H C y) (tp : PySem.W.notFirst X.K C (.type "tuple") = true) : ∃ tb, PySem.W.Looks (model X.prog X.w) s.heap (typeOf u) tb ∧ PySem.W.notFirst X.K C tb = true := by
  rcases h with ⟨b, dy, gs, rfl, hb⟩ | ⟨b, ys, rfl, hb⟩
  · obtain rfl : u = Value.ref b := r
    obtain ⟨oy, oe, J⟩ := inst_of I hb
    refine ⟨_, J.type, ?_⟩
    unfold PySem.W.notFirst
    simp
  · obtain rfl : u = Value.ref b := r
    obtain ⟨its, rv, ht, _⟩ := I.tuple hb
    obtain ⟨o, ho, hc⟩ := ht.typeIs
    have : PySem.W.Looks (model X.prog X.w) s.heap (typeOf (.ref b)) o.cls := (PySem.W.Looks.ld ho).andThen .now
    rw [hc] at this
    exact ⟨_, this, tp⟩
theorem op_neO (c : EqO X.K C g) (F : FnOk X.prog X.w X.K X.mg X.base CX k g fd ps sp) (hr : Room (k + 1) X.A) (hb : Binds X.K fd ps []) (hx : Passes CX X E) : OpR X (compareOp .NotEq) (rEqO X.K C true sp E) := by
  intro pins s σ H x y v u Q I rx ry h
  obtain ⟨a, dx, fs, rfl, ea, hy, h⟩ := h
  obtain rfl : v = Value.ref a := rx
  obtain ⟨ox, od, J⟩ := inst_of I ea
  obtain ⟨tb, lk, nf⟩ := yty_looks I ry hy c.tp
  show wpAny _ _ (richCompare .NotEq (.ref a) u) _ _ _
  refine cmp_ne (hr.in1).units0 I.kIn J lk nf c.ob c.ne c.at_ c.fn (wpAny_call (codeAny_mono (SlX.run_at (A := X.A.in1) (us := [.ref a, u]) (ws := [.ref a, y]) (FnOk.raw F hb .nil) hr.in1 (I.env0.in1) hx I (.cons rfl (.cons ry .nil)) h) fun r s' hq => ?_))
  cases r with
  | error e => exact hq
  | ok f =>
    cases f with
    | ret w =>
      obtain ⟨z, H', I', rz, b, rfl, q⟩ := hq
      obtain rfl : w = .bool b := rz
      exact ⟨b, rfl, .bl (!b), H', I', rfl, q⟩
    | next => exact hq.elim
    | brk => exact hq.elim
    | cont => exact hq.elim
def rBinT (C : Addr) (T : String) (sp : Sp) (E : XK) : R2 := fun x y H Q => ∃ a dx fs, x = .ref a ∧ H a = some (.ins C dx fs) ∧ YAt T y ∧ sp [x, y] H Q E
theorem op_binT {op : Operator} (c : BinT X.K C op.info.2 T g) (F : FnOk X.prog X.w X.K X.mg X.base CX k g fd ps sp) (hr : Room k X.A) (hb : Binds X.K fd ps []) (hx : Passes CX X E) : OpR X (binaryOp op) (rBinT C T sp E) := by
  intro pins s σ H x y v u Q I rx ry h
  obtain ⟨a, dx, fs, rfl, ea, hy, h⟩ := h
  obtain rfl : v = Value.ref a := rx
  obtain ⟨ox, od, J⟩ := inst_of I ea
  obtain ⟨m, fr⟩ := I.fr
  obtain ⟨rc, h1, h2⟩ := c.rr
  obtain ⟨fo, h3⟩ := c.t1
  obtain ⟨ro, h4⟩ := c.t2
  have ht : typeOf u = pure (.type T) := by
    rcases hy with ⟨i, rfl, rfl⟩ | ⟨z, rfl, rfl⟩
    · obtain ⟨t, rfl⟩ := ry; rfl
    · obtain ⟨t, rfl⟩ := ry; rfl
  refine PySem.W.ksp_binT fr I.ok.mod.kin J ht c.sf c.at_ c.fn h1 h2 h3 h4 c.sb (thn (run_fn (us := [.ref a, u]) (vs := [.ref a, y]) F hr hb .nil hx I (.cons rfl (.cons ry .nil)) h) fun r s' hq => ?_)
  obtain ⟨z, H', I', rz, q⟩ := hq
  exact notImpl_back rz ⟨z, H', I', rz, q⟩
end
section
variable {K : PySem.W.Frag} {S : Sit} {c : Cl} {X : Cx} {CX : CXT} {k : Nat} {C g : Addr} {fd : FuncData} {ps : List Str} {spd : SpD} {E : XK} {xd : XD} {e1 e2 fe e : Expr} {es : List Expr} {pos : Pos} {ta tb : TE} {a b : TED} {ts : TA} {as : TAD} {T : String}
theorem we_opX {r : R2} {rd : R2D} (hE : XOk K S c E xd) (hr : ∀ Z H x y d e (P : D → Prop), Wd S Z H → Rep K (hide H Z) d x → Rep K (hide H Z) e y → rd d e P → ∀ Q : VK, (∀ v H' d, Kp S H H' → S.I H' → Rep K (hide H' Z) d v → P d → Q v H') →
      (∀ cls dd H' fs, Kp S H H' → S.I H' → XRep K (hide H' Z) dd fs → xd cls fs → E (.ref cls) dd H') → r x y H Q) (ha : WE K S c ta a) (hb : WE K S c tb b) : WE K S c (tOp r ta tb) (dOp rd a b) := by
  intro Z σ H ρ P rv h Q q
  refine ha Z σ H ρ _ rv h _ fun x H1 d k1 i1 r1 h1 => ?_
  have rv1 := rv.step k1 i1
  refine hb Z σ H1 ρ _ rv1 h1 _ fun y H2 e k2 i2 r2 h2 => ?_
  have rv2 := rv1.step k2 i2
  exact hr Z H2 x y d e P rv2.wd (Rep.mono (rv1.wd.ex k2) d x r1) r2 h2 Q (fun v H3 d3 k3 i3 r3 h3 => q v H3 d3 ((k1.trans k2).trans k3) i3 r3 h3) (hE.at rv2)
def rEqXD (C : Addr) (neg : Bool) (spd : SpD) (xd : XD) : R2D := fun x y P => match x with
  | .ins C' fn es => (C' = C ∧ (match y with
    | .ins C2 _ _ => C2 = C
    | .tup _ => True
    | _ => False)) ∧ spd [.ins C' fn es, y] (fun d => match d with
      | .bl b => P (.bl (if neg then !b else b))
      | _ => False) xd
  | _ => False
def rBinTXD (C : Addr) (T : String) (spd : SpD) (xd : XD) : R2D := fun x y P => match x with
  | .ins C' fn es => (C' = C ∧ (match y with
    | .int _ => T = "int"
    | .str _ => T = "str"
    | _ => False)) ∧ spd [.ins C' fn es, y] P xd
  | _ => False
def rBinXD (C : Addr) (spd : SpD) (xd : XD) : R2D := fun x y P => match x, y with
  | .ins C1 f1 e1, .ins C2 f2 e2 => (C1 = C ∧ C2 = C) ∧ spd [.ins C1 f1 e1, .ins C2 f2 e2] P xd
  | _, _ => False
def rIxXD (C : Addr) (spd : SpD) (xd : XD) : R2D := fun x y P => match x with
  | .ins C' fn es => C' = C ∧ spd [.ins C' fn es, y] P xd
  | _ => False
theorem we_eqX {neg : Bool} (hE : XOk K S c E xd) (ha : WE K S c ta a) (hb : WE K S c tb b) : WE K S c (tOp (rEqO K C neg (liftSp K S spd) E) ta tb) (dOp (rEqXD C neg spd xd) a b) := by
  refine we_opX hE (fun Z H x y d e P w r1 r2 hp Q q qx => ?_) ha hb
  cases d <;> try exact hp.elim
  obtain ⟨⟨rfl, ht⟩, hp⟩ := hp
  have r0 := r1
  unfold Rep at r1
  obtain ⟨p, dx, ys, rfl, h1, h2, h3⟩ := r1
  refine ⟨p, dx, _, rfl, hide_ex _ _ h1, ?_, Z, _, _, xd, w, RepL.cons r0 (RepL.cons r2 RepL.nil), hp, fun v H' d k i r h => ?_, qx⟩
  · cases e <;> try exact ht.elim
    · unfold Rep at r2
      obtain ⟨b, zs, rfl, h4, _⟩ := r2
      exact .inr ⟨b, zs, rfl, ex_t hide_ex h4⟩
    · have ht : _ = _ := ht
      unfold Rep at r2
      obtain ⟨b, dy, zs, rfl, h4, _⟩ := r2
      rw [ht] at h4
      exact .inl ⟨b, dy, _, rfl, hide_ex _ _ h4⟩
  · cases d <;> try exact h.elim
    unfold Rep at r
    exact ⟨_, r, q _ H' _ k i repB h⟩
theorem we_binTX (hE : XOk K S c E xd) (ha : WE K S c ta a) (hb : WE K S c tb b) : WE K S c (tOp (rBinT C T (liftSp K S spd) E) ta tb) (dOp (rBinTXD C T spd xd) a b) := by
  refine we_opX hE (fun Z H x y d e P w r1 r2 hp Q q qx => ?_) ha hb
  cases d <;> try exact hp.elim
  obtain ⟨⟨rfl, ht⟩, hp⟩ := hp
  have r0 := r1
  have r9 := r2
  unfold Rep at r1
  obtain ⟨p, dx, ys, rfl, h1, h2, h3⟩ := r1
  refine ⟨p, dx, _, rfl, hide_ex _ _ h1, ?_, Z, _, _, xd, w, RepL.cons r0 (RepL.cons r9 RepL.nil), hp, q, qx⟩
  cases e <;> try exact ht.elim
  · unfold Rep at r2
    exact .inl ⟨_, r2, ht⟩
  · unfold Rep at r2
    exact .inr ⟨_, r2, ht⟩
theorem dt_neX (o : EqO X.K C g) (hK : X.K = K) (F : FnOk X.prog X.w X.K X.mg X.base CX k g fd ps (liftSp K S spd)) (hr : Room (k + 1) X.A) (hb : L2.Binds X.K fd ps []) (hx : Passes CX X E) (hE : XOk K S c E xd) (ha : DE K S c X e1 ta a) (hb2 : DE K S c X e2 tb b) (hm : behindInMarks .NotEq e2 = false := by exact nomark _) :
    DT K S c X (.Compare e1 [.NotEq] [e2] pos) (tTest (tOp (rEqO K C true (liftSp K S spd) E) ta tb)) (dTest (dOp (rEqXD C true spd xd) a b)) := by
  subst hK
  exact ⟨pt_cmpR (op_neO o F hr hb hx) ha.pe hb2.pe hm, wt_test (we_eqX hE ha.we hb2.we)⟩
theorem de_binTX {op : Operator} (o : BinT X.K C op.info.2 T g) (F : FnOk X.prog X.w X.K X.mg X.base CX k g fd ps (liftSp K S spd)) (hr : Room k X.A) (hb : L2.Binds X.K fd ps []) (hx : Passes CX X E) (hE : XOk K S c E xd) (ha : DE K S c X e1 ta a) (hb2 : DE K S c X e2 tb b) :
    DE K S c X (.BinOp e1 op e2 pos) (tOp (rBinT C T (liftSp K S spd) E) ta tb) (dOp (rBinTXD C T spd xd) a b) := ⟨pe_op (op_binT o F hr hb hx) ha.pe hb2.pe, we_binTX hE ha.we hb2.we⟩
def dCallI (C : Addr) (spd : SpD) (xd : XD) (a : TED) (as : TAD) : TED := fun ρ P => a ρ fun o => match o with
  | .ins C' fn ds => C' = C ∧ as ρ fun es => spd (.ins C' fn ds :: es) P xd
  | _ => False
theorem we_callI (hE : XOk K S c E xd) (ha : WE K S c ta a) (hs : WA K S c ts as) : WE K S c (StX.tCallO X C (fun vs H Q E => liftSp K S spd (vs ++ []) H Q E) E ta ts) (dCallI C spd xd a as) := by
  intro Z σ H ρ P rv h Q q
  refine ha Z σ H ρ _ rv h _ fun v H1 d k1 i1 r1 h1 => ?_
  have rv1 := rv.step k1 i1
  split at h1
  · rename_i C' fn es
    obtain ⟨rfl, h1⟩ := h1
    unfold Rep at r1
    obtain ⟨b, dx, xs, rfl, e1, hl, rl⟩ := r1
    refine ⟨b, rfl, ?_⟩
    refine hs Z σ H1 ρ _ rv1 h1 _ fun vs H2 ds k2 i2 r2 hd => ?_
    have rv2 := rv1.step k2 i2
    have ex := rv1.wd.ex k2
    refine ⟨.inr ⟨dx, _, hide_ex _ _ (ex _ _ e1)⟩, ?_⟩
    show liftSp K S spd ((V.ref b :: vs) ++ []) H2 Q E
    rw [List.append_nil]
    refine ⟨Z, .ins C' fn es :: ds, P, xd, rv2.wd, RepL.cons ?_ r2, hd, fun v H' d k' i' r' h' => q v H' d ((k1.trans k2).trans k') i' r' h', hE.at rv2⟩
    unfold Rep
    exact ⟨b, dx, xs, rfl, ex _ _ e1, hl, RepL.mono ex es xs rl⟩
  · exact h1.elim
theorem de_callI (o : StX.CallO X.K C g) (F : FnOk X.prog X.w X.K X.mg X.base CX k g fd ps (liftSp K S spd)) (hr : Room k X.A) (hb : L2.Binds X.K fd ps []) (hx : Passes CX X E) (hE : XOk K S c E xd) (ha : DE K S c X fe ta a) (hs : DA K S c X (e :: es) ts as)
    (ht : eval (.Call fe (e :: es) [] pos) X.env = (do callWith pos (← eval fe X.env) [] (backTo pos (starEach (e :: es) X.env)) (backToKw pos (keywordEach [] X.env))) := by rfl)
    (he : starEach (e :: es) X.env = (false, eval e X.env) :: starEach es X.env := by rfl) (hpl : (backTo pos (starEach es X.env)).any (·.1) = false := by rfl) :
    DE K S c X (.Call fe (e :: es) [] pos) (StX.tCallO X C (fun vs H Q E => liftSp K S spd (vs ++ []) H Q E) E ta ts) (dCallI C spd xd a as) :=
  ⟨StX.pe_callO ha.pe o (FnOk.raw F hb .nil) hr hx hs.pa ht he hpl, we_callI hE ha.we hs.wa⟩
end
end DL
namespace DL
open PySem PySem.Spec PyProof.Rows L2
theorem callOB_ok {K : PySem.W.Frag} {C g : Addr} (h : callOB K C g = true) : StX.CallO K C g := by
  unfold callOB at h
  simp only [Bool.and_eq_true, decide_eq_true_eq] at h
  exact ⟨h.1, h.2.1, h.2.2⟩
theorem kit_dict : KitT "dict" := by
  intro n hn
  simp only [kindsN, List.mem_cons, List.not_mem_nil, or_false] at hn
  rcases hn with rfl | rfl | rfl | rfl | rfl | rfl <;> decide +kernel
end DL
end
section
namespace GnX
open PySem PySem.Spec PyProof.Rows L2
section
variable {M : Model} {A : Around} {R : GenEnd} {Y : Protocol} {n : Nat} {s₀ : Shared} {c : Code} {fs : List Frame} {s : Shared} {env : Env}
  {K : Flow → Sem PySem.Fin} {H : Value → Sem PySem.Fin} {gd : Bool → Bool} {lv : List Value → List Value}
abbrev backK (env : Env) (K : Flow → Sem PySem.Fin) (H : Value → Sem PySem.Fin) (gd : Bool → Bool) (lv : List Value → List Value) (r : Result) : Sem PySem.Fin :=
  ((match r with | .ok f => (.pure f : Sem Flow) | .error e => .raise e).onRaise (cameBack env)).wrap K H gd lv
theorem seg_bindW {α β : Type} {m : Sem α} {f : α → Sem β} {K : β → Sem PySem.Fin} (h : wpAny M (A.over c fs) m (fun a s' => Seg M A R Y n s₀ c ((f a).wrap K H gd lv) fs s') (fun x s' => Seg M A R Y n s₀ c (H x) fs s') s) : Seg M A R Y n s₀ c ((m >>= f).wrap K H gd lv) fs s := by
  rw [Sem.bind_eq_wrap', Sem.wrap_wrap]
  exact seg_wrap h
theorem seg_If {test : Expr} {body orelse : List Stmt} {pos : Pos} (h : wpAny M (A.over c fs) (isTrue test env (eval test env)) (fun b s' => if b = true then Seg M A R Y n s₀ c ((execs body env).wrap K H gd lv) fs s' else Seg M A R Y n s₀ c ((execs orelse env).wrap K H gd lv) fs s') (fun x s' => Seg M A R Y n s₀ c (H x) fs s') s) :
    Seg M A R Y n s₀ c ((exec (.If test body orelse pos) env).wrap K H gd lv) fs s := by
  refine seg_at ?_
  show Seg M A R Y n s₀ c ((isTrue test env (eval test env) >>= fun b => if b = true then execs body env else execs orelse env).wrap K H gd lv) fs s
  refine seg_bindW (wpAny_mono h (fun b s' h' => ?_) fun _ _ z => z)
  cases b with
  | true => rw [if_pos rfl] at h' ⊢; exact h'
  | false => rw [if_neg Bool.false_ne_true] at h' ⊢; exact h'
theorem seg_For {target iter : Expr} {body : List Stmt} {pos : Pos} (hs : ∀ x, foldedSetIterable iter env x = pure x)
    (h : wpAny M (A.over c fs) (eval iter env) (fun x s1 => wpAny M (A.over c fs) (pyIter x) (fun it s2 => ∀ p, Seg M A R Y n s₀ (.forLoop target it body [] env) (M.den (.forLoop target it body [] env)) (.ret (backK env K H gd lv) none (gd false) (lv []) c p [] :: fs) s2)
      (fun x s' => Seg M A R Y n s₀ c (H x) fs s') s1) (fun x s' => Seg M A R Y n s₀ c (H x) fs s') s) :
    Seg M A R Y n s₀ c ((exec (.For target iter body [] pos) env).wrap K H gd lv) fs s := by
  refine seg_at ?_
  show Seg M A R Y n s₀ c ((eval iter env >>= fun x => foldedSetIterable iter env x >>= fun x => standAt iter.pos >>= fun _ => holding [x] (pyIter x) >>= fun it => runOwn (.forLoop target it body [] env) env).wrap K H gd lv) fs s
  refine seg_bindW (wpAny_mono h (fun x s1 h1 => ?_) fun _ _ z => z)
  rw [hs x]
  refine seg_bindW (wpAny_pure ?_)
  refine seg_at ?_
  show Seg M A R Y n s₀ c ((holding [x] (pyIter x) >>= fun it => runOwn (.forLoop target it body [] env) env).wrap K H gd lv) fs s1
  refine seg_bindW (wpAny_holding (wpAny_mono h1 (fun it s2 h2 => ?_) fun _ _ z => z))
  exact seg_call h2
end
section
variable {prog : Program} {w : World} {A : Around} {R : GenEnd} {Y : Protocol} {n : Nat} {s₀ : Shared} {fs : List Frame} {s : Shared} {env : Env}
abbrev noteK (env : Env) (e : Value) : Sem PySem.Fin := (do noteFrame e env; theTreesLotGoes e : Sem Unit).wrap (fun _ => .raise e) .raise id id
theorem seg_forLoop {target : Expr} {it : Value} {body : List Stmt}
    (h : wpAny (model prog w) (A.over (.forLoop target it body [] env) fs) (pyNext it) (fun r s1 => match r with
      | none => Seg (model prog w) A R Y n s₀ (.forLoop target it body [] env) (.pure (.again (.block [] env))) fs s1
      | some v => wpAny (model prog w) (A.over (.forLoop target it body [] env) fs) (letOwnedTupleGo target it v) (fun _ s2 => wpAny (model prog w) (A.over (.forLoop target it body [] env) fs) (assign target env v) (fun _ s3 =>
          Seg (model prog w) A R Y n s₀ (.forLoop target it body [] env) ((execs body env).wrap (fun f => match f with
            | .next | .cont => .pure (.again (.forLoop target it body [] env))
            | .brk => .pure (.done .next)
            | .ret v => .pure (.done (.ret v))) (noteK env) id id) fs s3)
          (fun x s' => Seg (model prog w) A R Y n s₀ (.forLoop target it body [] env) (noteK env x) fs s') s2) (fun x s' => Seg (model prog w) A R Y n s₀ (.forLoop target it body [] env) (noteK env x) fs s') s1)
      (fun x s' => Seg (model prog w) A R Y n s₀ (.forLoop target it body [] env) (noteK env x) fs s') s) :
    Seg (model prog w) A R Y n s₀ (.forLoop target it body [] env) ((model prog w).den (.forLoop target it body [] env)) fs s := by
  show Seg _ A R Y n s₀ _ ((forTurn target it body [] env).onRaise (fun x => do noteFrame x env; theTreesLotGoes x)) fs s
  have en : ∀ e : Value, (do noteFrame e env; theTreesLotGoes e : Sem Unit).bind (fun _ => (.raise e : Sem PySem.Fin)) = noteK env e := fun e => Sem.bind_eq_wrap _ _
  rw [Sem.onRaise_eq_wrap]
  rw [Sem.wrap_congr (forTurn target it body [] env) (K' := fun f => (.pure f : Sem PySem.Fin)) (H' := noteK env) _ _ (fun _ => rfl) en]
  unfold forTurn
  refine seg_bindW (wpAny_standAt ?_)
  refine seg_bindW (wpAny_onRaise (wpAny_mono h (fun r s1 h1 => ?_) fun x s' hx => wpAny_standAt hx))
  cases r with
  | none => exact h1
  | some v =>
    refine seg_bindW (wpAny_mono h1 (fun _ s2 h2 => ?_) fun _ _ z => z)
    refine seg_bindW (wpAny_mono h2 (fun _ s3 h3 => ?_) fun _ _ z => z)
    show Seg _ A R Y n s₀ _ (((execs body env) >>= _).wrap _ _ id id) fs s3
    rw [Sem.bind_eq_wrap', Sem.wrap_wrap]
    exact Eq.mp (congrArg (fun z => Seg _ A R Y n s₀ _ z fs s3) (Sem.wrap_congr (execs body env) id id (fun f => by cases f <;> rfl) (fun _ => rfl))) h3
theorem seg_block0 {c : Code} (h : Seg (model prog w) A R Y n s₀ (.block [] env) (leafOf (.ok .next)) fs s) : Seg (model prog w) A R Y n s₀ c (.pure (.again (.block [] env))) fs s := by
  refine seg_again rfl ?_
  exact h
end
section
variable {X : Cx} {test iter tg : Expr} {body els : List Stmt} {pos : Pos} {tc : TT} {t1 t2 tb : TGn} {wi : TI} {g : TG}
def tGIf (c : TT) (t1 t2 : TGn) : TGn := fun D ys σ H => c σ H fun b H1 => if b = true then t1 D ys σ H1 else t2 D ys σ H1
theorem gs_if (hc : PT X test tc) (h1 : GSs X body t1) (h2 : GSs X els t2) : GS X (.If test body els pos) (tGIf tc t1 t2) := by
  refine ⟨fun A S ip R n ys s₀ c fs K J gd lv s σ H D g hn k hI ht => ?_⟩
  refine seg_If ?_
  rw [g.over]
  obtain ⟨acc, cc, r, I⟩ := hI
  refine wpAny_mono (hc.run _ s σ H _ I ht) (fun b s' hb => ?_) fun x s' hx => k.exc n s₀ x s' hx
  obtain ⟨H2, I2, q2⟩ := hb
  cases b with
  | true =>
    rw [if_pos rfl] at q2 ⊢
    exact h1.run A S ip R n ys s₀ c fs K J gd lv s' σ H2 D g hn k ⟨acc, cc, r, I2⟩ q2
  | false =>
    rw [if_neg Bool.false_ne_true] at q2 ⊢
    exact h2.run A S ip R n ys s₀ c fs K J gd lv s' σ H2 D g hn k ⟨acc, cc, r, I2⟩ q2
def tGFor (wi : TI) (g : TG) (tb : TGn) : TGn := fun D ys σ H => wi σ H fun J H1 => ∃ W : Nat → Nat → List V → L2.St → Hp → Prop, (∃ m, W 0 m ys σ H1) ∧ ∀ i m ys σ H, W i m ys σ H →
  (J.stop i H ∧ D.nx ys σ H) ∨ (J.go i H ∧ ∃ N : List V → L2.St → Hp → Prop, (∀ ys' σ' H', N ys' σ' H' → ∃ m', m' < m ∧ W (i + 1) m' ys' σ' H') ∧ ∀ x H', J.yld i H x H' → g x σ H' fun σ2 H2 => tb { D with nx := N, ct := N, bk := D.nx } ys σ2 H2)
theorem gs_for (hp : PassesOwn (model X.prog X.w) X.A X.env X.xe) (hcalm : X.calm = true) (hi : PI X tg iter wi) (hg : PG X tg g) (hb : GSs X body tb)
    (hs : ∀ x, foldedSetIterable iter X.env x = pure x := by intro _; rfl) : GS X (.For tg iter body [] pos) (tGFor wi g tb) := by
  refine ⟨fun A S ip R n ys s₀ c fs K J gd lv s σ H D gc hn k hI ht => ?_⟩
  obtain ⟨acc, cc, r, I⟩ := hI
  refine seg_For hs ?_
  rw [gc.over]
  refine wpAny_mono (hi.run _ s σ H _ I ht) (fun v s1 h1 => wpAny_mono h1 (fun itv s2 h2 p => ?_) fun x s' hx => k.exc n s₀ x s' hx) fun x s' hx => k.exc n s₀ x s' hx
  obtain ⟨it, fp, tn, It, H2, e, I2, T, st2, f2, W, ⟨m0, w0⟩, turn⟩ := h2
  subst e
  have stat : ∀ {H' : Hp}, (∀ b ∈ fp, H' b = none) → ∀ {cS : Obj}, ∀ b ∈ fp, FpOk X ((S, cS) :: ip) H' b := fun {H'} hn {cS} b hb => by
    obtain ⟨_, q1, q2, q3, q4, q5⟩ := f2 b hb
    refine ⟨hn b hb, q1, q2, q3, q4, fun p hp => ?_⟩
    rcases List.mem_append.mp hp with hp | hp
    · exact q5 p (List.mem_append_left _ hp)
    · rcases List.mem_cons.mp hp with rfl | hp
      · exact q5 (S, lstObj acc cc) (List.mem_append_right _ List.mem_cons_self)
      · exact q5 p (List.mem_append_right _ (List.mem_cons_of_mem _ hp))
  have fS : ∀ b ∈ fp, b ≠ S := fun b hb e => (f2 b hb).2.2.2.2.2 (S, lstObj acc cc) (List.mem_append_right _ List.mem_cons_self) e.symm
  have gl := fun (c0 : Code) (hw : c0.weight = 0) (hu : c0.cUnits = 0) (ip2 : List (Addr × Obj)) (h2 : ∀ p ∈ ip2, p.1 ≠ S) (kk : Result → Sem PySem.Fin) => (gc_loop (k := kk) (c' := c0) (l := lv []) (kp := []) (p := p) (ip := ip2) ⟨gc.pn, h2, gc.apart, gc.over, gc.split, gc.guard, gc.gd⟩ hw hu)
  have glo := gl (.forLoop tg (.ref it) body [] X.env) rfl rfl ip gc.ip
  have loop : ∀ (m i n : Nat) (ys : List V) (s₀ s : Shared) (σ : L2.St) (H : Hp), n + ys.length = sizeLine → W i m ys σ H → tn i s.heap → (∀ b ∈ fp, H b = none) → GI X S ip ys σ H s →
      Seg (model X.prog X.w) A R (GY X S) n s₀ (.forLoop tg (.ref it) body [] X.env) ((model X.prog X.w).den (.forLoop tg (.ref it) body [] X.env)) (.ret (backK X.env K J gd lv) none (gd false) (lv []) c p [] :: fs) s := by
    intro m
    induction m using Nat.strongRecOn with
    | ind m ih =>
      intro i n ys s₀ s σ H hn w st fr hI
      have ee : ∀ (n : Nat) (s₀ : Shared) (x : Value) (s' : Shared), X.xe x s' → Seg (model X.prog X.w) A R (GY X S) n s₀ (.forLoop tg (.ref it) body [] X.env) (noteK X.env x) (.ret (backK X.env K J gd lv) none (gd false) (lv []) c p [] :: fs) s' := fun n s₀ x s' hx => by
        refine seg_wrap ?_
        rw [(glo _).over]
        refine wpAny_bind (wpAny_mono (hp x s' hx) (fun _ s'' hcb => wpAny_theTreesLotGoes ?_) fun y s'' hcb => ?_)
        · exact seg_leaf (.error x) (seg_cameBack gc k hcb)
        · exact seg_leaf (.error y) (seg_cameBack gc k hcb)
      refine seg_forLoop ?_
      rw [(glo _).over]
      obtain ⟨acc, cc, r, I⟩ := hI
      rcases turn i m ys σ H w with ⟨stop, qn⟩ | ⟨go, N, hN, step⟩
      · refine wpAny_mono (T.done X rfl rfl rfl hcalm i _ s σ H X.xe I (stat fr) st stop) (fun r1 s4 h4 => ?_) fun x s' hx => ee n s₀ x s' hx
        obtain ⟨hr, I4⟩ := h4
        subst hr
        refine seg_block0 ?_
        exact seg_leaf (.ok .next) (k.ok n ys s₀ s4 .next hn ⟨σ, H, ⟨acc, cc, r, I4⟩, qn⟩)
      · refine wpAny_mono (T.item X rfl rfl rfl hcalm i _ s σ H X.xe I (stat fr) st go) (fun r1 s4 h4 => ?_) fun x s' hx => ee n s₀ x s' hx
        obtain ⟨u, hr, h4⟩ := h4
        subst hr
        refine wpAny_mono h4 (fun _ s5 h5 => ?_) fun x s' hx => ee n s₀ x s' hx
        obtain ⟨x, H5, I5, r5, y5, st5, fr5⟩ := h5
        have I5' := I5.pinned (stat fr5) (T.obj _ _ st5)
        refine wpAny_mono (hg.run _ s5 σ H5 x u _ I5' r5 (step x H5 y5)) (fun _ s6 h6 => ?_) fun x s' hx => ee n s₀ x s' hx
        obtain ⟨σ6, H6, I6, q6⟩ := h6
        have ipS : ∀ q ∈ ip ++ pinsAt fp s5.heap, q.1 ≠ S := fun q hq => by
          rcases List.mem_append.mp hq with hq | hq
          · exact gc.ip q hq
          · obtain ⟨b, hb, e⟩ := List.mem_filterMap.mp hq
            cases e2 : s5.heap.get? b with
            | none => rw [e2] at e; cases e
            | some o => rw [e2] at e; cases e; exact fS b hb
        refine hb.run A S (ip ++ pinsAt fp s5.heap) R n ys s₀ _ _ _ _ id id s6 σ6 H6 { D with nx := N, ct := N, bk := D.nx } (gl (.forLoop tg (.ref it) body [] X.env) rfl rfl _ ipS _) hn ⟨fun n' ys' s₀' s7 f hn' hs7 => ?_, fun n' s₀' x s3 hx => ee n' s₀' x s3 hx⟩ ⟨acc, cc, r, I6⟩ q6
        have un : ∀ {ys' : List V} {σ7 : L2.St} {H7 : Hp}, GI X S (ip ++ pinsAt fp s5.heap) ys' σ7 H7 s7 → GI X S ip ys' σ7 H7 s7 := fun {ys' σ7 H7} ⟨acc7, cc7, r7, I7⟩ => ⟨acc7, cc7, r7, Inv.unpinned (pins := (S, lstObj acc7 cc7) :: ip) I7⟩
        have again : ∀ {ys' : List V} {σ7 : L2.St} {H7 : Hp}, n' + ys'.length = sizeLine → GI X S (ip ++ pinsAt fp s5.heap) ys' σ7 H7 s7 → N ys' σ7 H7 →
            Seg (model X.prog X.w) A R (GY X S) n' s₀' (.forLoop tg (.ref it) body [] X.env) ((model X.prog X.w).den (.forLoop tg (.ref it) body [] X.env)) (.ret (backK X.env K J gd lv) none (gd false) (lv []) c p [] :: fs) s7 := fun {ys' σ7 H7} hn' g7 n7 => by
          obtain ⟨m', hm, w7⟩ := hN ys' σ7 H7 n7
          obtain ⟨acc7, cc7, r7, I7⟩ := id g7
          refine ih m' hm (i + 1) n' ys' s₀' s7 σ7 H7 hn' w7 (T.keep _ _ _ st5 fun b hb o e => (I7.pin (b, o) (List.mem_append_right _ (List.mem_cons_of_mem _ (List.mem_append_right _ (mem_pinsAt hb e))))).1) (fun b hb => ?_) (un g7)
          obtain ⟨o, e, d⟩ := T.obj _ _ st5 b hb
          exact (I7.pin (b, o) (List.mem_append_right _ (List.mem_cons_of_mem _ (List.mem_append_right _ (mem_pinsAt hb e))))).2.1
        cases f with
        | next => obtain ⟨σ7, H7, g7, n7⟩ := hs7; exact seg_again rfl (again hn' g7 n7)
        | cont => obtain ⟨σ7, H7, g7, n7⟩ := hs7; exact seg_again rfl (again hn' g7 n7)
        | brk => obtain ⟨σ7, H7, g7, q7⟩ := hs7; exact seg_leaf (.ok .next) (k.ok n' ys' s₀' s7 .next hn' ⟨σ7, H7, un g7, q7⟩)
        | ret v => obtain ⟨x7, σ7, H7, g7, r7, q7⟩ := hs7; exact seg_leaf (.ok (.ret v)) (k.ok n' ys' s₀' s7 (.ret v) hn' ⟨x7, σ7, H7, un g7, r7, q7⟩)
  exact loop m0 0 n ys s₀ s2 σ H2 hn w0 st2 (fun b hb => (f2 b hb).1) ⟨acc, cc, r, I2⟩
end
end GnX
end
section
namespace DL
open PySem PySem.Spec PyProof.Rows L2
section
variable {K : PySem.W.Frag} {S : Sit} {c : Cl} {te : TE} {tt : TT} {a : TED} {p : TTD} {ts : TS} {t : TSD} {g1 g2 : TGn} {t1 t2 : TGnD} {wi : TI} {it : TAD} {g : TG} {gd : TGD} {ix : List Nat}
def gPlain (t : TSD) : TGnD := fun Dd ds ρ => t { nx := Dd.nx ds, rt := fun _ => False, bk := Dd.bk ds, ct := Dd.ct ds } ρ
theorem wg_plain (h : WS K S c ts t) : WGn K S c (tPlain ts) (gPlain t) := by
  intro B Z σ H ρ ys ds Dd D r rl ht f
  have eb : Ex B (hide H Z) := r.ex
  refine h (hide H Z) σ H ρ _ (D.at ys) ⟨Z, r.rebase⟩ ht ⟨fun σ' H' ρ' ⟨Z', r'⟩ hn => ?_, fun _ _ _ _ _ _ h => h.elim, fun σ' H' ρ' ⟨Z', r'⟩ hn => ?_, fun σ' H' ρ' ⟨Z', r'⟩ hn => ?_⟩
  · exact f.nx Z' σ' H' ρ' ys ds (r'.base eb) (RepL.mono r'.ex ds ys rl) hn
  · exact f.bk Z' σ' H' ρ' ys ds (r'.base eb) (RepL.mono r'.ex ds ys rl) hn
  · exact f.ct Z' σ' H' ρ' ys ds (r'.base eb) (RepL.mono r'.ex ds ys rl) hn
def gNil : TGnD := fun Dd ds ρ => Dd.nx ds ρ
theorem wg_nil : WGn K S c tG0 gNil := fun B Z σ H ρ ys ds Dd D r rl ht f => f.nx Z σ H ρ ys ds r rl ht
def gRetN : TGnD := fun Dd ds _ => Dd.rt ds .non
def gSeq (t1 t2 : TGnD) : TGnD := fun Dd ds ρ => t1 { Dd with nx := fun ds' ρ' => t2 Dd ds' ρ' } ds ρ
theorem wg_seq (h1 : WGn K S c g1 t1) (h2 : WGn K S c g2 t2) : WGn K S c (tGThen g1 g2) (gSeq t1 t2) := fun B Z σ H ρ ys ds Dd D r rl ht f =>
  h1 B Z σ H ρ ys ds _ _ r rl ht ⟨fun Z' σ' H' ρ' ys' ds' r' rl' h' => h2 B Z' σ' H' ρ' ys' ds' Dd D r' rl' h' f, f.rt, f.bk, f.ct⟩
def gYield (a : TED) : TGnD := fun Dd ds ρ => ds.length < 1000000 ∧ a ρ fun d => Dd.nx (ds ++ [d]) ρ
theorem wg_yield (ha : WE K S c te a) : WGn K S c (tGYield te) (gYield a) := by
  intro B Z σ H ρ ys ds Dd D r rl ⟨hz, ht⟩ f
  refine ⟨szl (by rw [← rl.len]; exact hz), ?_⟩
  refine ha Z σ H ρ _ r.rv ht _ fun v H' d k iv rd hd => ?_
  have r' := r.step k iv
  exact f.nx Z σ H' ρ _ _ r' ((RepL.mono (r.rv.wd.ex k) ds ys rl).append (RepL.cons rd RepL.nil)) hd
def gIf (p : TTD) (t1 t2 : TGnD) : TGnD := fun Dd ds ρ => p (view ρ) fun b => if b = true then t1 Dd ds ρ else t2 Dd ds ρ
theorem wg_if (hp : WT K S c tt p) (h1 : WGn K S c g1 t1) (h2 : WGn K S c g2 t2) : WGn K S c (GnX.tGIf tt g1 g2) (gIf p t1 t2) := by
  intro B Z σ H ρ ys ds Dd D r rl ht f
  refine hp c.Z0 σ H (view ρ) _ r.view ht _ fun b H1 k iv hd => ?_
  have r1 := r.step k iv
  have rl1 := RepL.mono (r.rv.wd.ex k) ds ys rl
  cases b with
  | true => rw [if_pos rfl] at hd ⊢; exact h1 B Z σ H1 ρ ys ds Dd D r1 rl1 hd f
  | false => rw [if_neg Bool.false_ne_true] at hd ⊢; exact h2 B Z σ H1 ρ ys ds Dd D r1 rl1 hd f
@[irreducible] def loopG (es : List D) (gd : TGD) (body : TGnD) (Dd : GEndsD) (ds : List D) (ρ : EnvD) : Prop := ∃ J : Nat → List D → EnvD → Prop, J 0 ds ρ ∧
  (∀ (i : Nat) d ds' ρ', es[i]? = some d → J i ds' ρ' → gd d ρ' fun ρ2 => body { Dd with nx := J (i + 1), ct := J (i + 1), bk := Dd.nx } ds' ρ2) ∧ ∀ ds' ρ', J es.length ds' ρ' → Dd.nx ds' ρ'
def gFor (it : TAD) (gd : TGD) (body : TGnD) : TGnD := fun Dd ds ρ => it ρ fun es => loopG es gd body Dd ds ρ
theorem wg_for (hi : WI K S c wi it) (hg : WG K g gd ix) (hb : WGn K S c g1 t1) : WGn K S c (GnX.tGFor wi g g1) (gFor it gd t1) := by
  intro B Z σ H ρ ys ds Dd D r rl ht f
  refine hi Z σ H ρ _ r.rv ht _ fun J H1 es k iv h y => ?_
  have r1 := r.step k iv
  have rl1 := RepL.mono (r.rv.wd.ex k) ds ys rl
  have eB : Ex B (hide H1 Z) := r1.ex
  have fB := f.base (B' := hide H1 Z) eB
  have r2 := r1.rebase
  unfold loopG at h
  obtain ⟨Jd, j0, jt, je⟩ := h
  refine ⟨fun i m ys' σ' H' => i + m = es.length ∧ ∃ Z' ρ' ds', RZ K S c (hide H1 Z) Z' σ' H' ρ' ∧ RepL K (hide H' Z') ds' ys' ∧ Jd i ds' ρ', ⟨es.length, by omega, Z, ρ, ds, r2, rl1, j0⟩, fun i m ys1 σ1 H2 ⟨hm, Z1, ρ1, ds1, r3, rl3, j1⟩ => ?_⟩
  obtain ⟨y1, y2⟩ := y H2 Z1 r3.ex r3.rv.wd.zin
  by_cases hi : i = es.length
  · subst hi
    exact .inl ⟨y2, fB.nx Z1 σ1 H2 ρ1 ys1 ds1 r3 rl3 (je ds1 ρ1 j1)⟩
  · have hlt : i < es.length := by omega
    obtain ⟨g1', g2'⟩ := y1 i es[i] (List.getElem?_eq_getElem hlt)
    refine .inr ⟨g1', fun ys' σ' H' => i + 1 + (m - 1) = es.length ∧ ∃ Z' ρ' ds', RZ K S c (hide H1 Z) Z' σ' H' ρ' ∧ RepL K (hide H' Z') ds' ys' ∧ Jd (i + 1) ds' ρ', fun ys' σ' H' hw => ⟨m - 1, by omega, hw⟩, fun x H3 hx => ?_⟩
    obtain ⟨e2, rx⟩ := g2' x H3 hx
    have k2 : Kp S H2 H3 := Kp.of e2
    have i2 : S.I H3 := S.stab H2 H3 (fun w o eo _ => e2 w o eo) r3.rv.wd.inv
    have rl4 := RepL.mono (r3.rv.wd.ex k2) ds1 ys1 rl3
    refine hg Z1 H3 (fun σ ρ => RZ K S c (hide H1 Z) Z1 σ H3 ρ) (fun σ ρ i d v _ r q => r.set i q) σ1 ρ1 es[i] x _ (r3.step k2 i2) rx (jt i _ ds1 ρ1 (List.getElem?_eq_getElem hlt) j1) _ fun σ3 ρ3 r5 h3 => ?_
    refine hb (hide H1 Z) Z1 σ3 H3 ρ3 ys1 ds1 _ _ r5 rl4 h3 ⟨fun Z' σ' H' ρ' ys' ds' r' rl' h' => ⟨by omega, Z', ρ', ds', r', rl', h'⟩, fB.rt, fB.nx, fun Z' σ' H' ρ' ys' ds' r' rl' h' => ⟨by omega, Z', ρ', ds', r', rl', h'⟩⟩
end
section
variable {K : PySem.W.Frag} {S : Sit} {c : Cl} {X : Cx} {te : TE} {tt : TT} {a : TED} {p : TTD} {ts : TS} {t : TSD} {g1 g2 : TGn} {t1 t2 : TGnD} {wi : TI} {it : TAD} {g : TG} {gd : TGD} {ix : List Nat} {st : Stmt} {rest body els : List Stmt} {e tg : Expr} {pos ypos : Pos}
theorem dgn_plain (h : DS K S c X st ts t) : DGn K S c X st (tPlain ts) (gPlain t) := ⟨gs_ps h.ps, wg_plain h.ws⟩
theorem dgn_yield (ha : DE K S c X e te a) (hco : X.env.scope.isCoroutine = false := by rfl) (hi : interactive X.env = false := by rfl) : DGn K S c X (.Expr (.Yield (some e) ypos) pos) (tGYield te) (gYield a) := ⟨gs_yield ha.pe hco hi, wg_yield ha.we⟩
theorem dgn_if (hp : DT K S c X e tt p) (h1 : DGns K S c X body g1 t1) (h2 : DGns K S c X els g2 t2) : DGn K S c X (.If e body els pos) (GnX.tGIf tt g1 g2) (gIf p t1 t2) := ⟨GnX.gs_if hp.pt h1.gss h2.gss, wg_if hp.wt h1.wg h2.wg⟩
theorem dgn_for (hp : PassesOwn (model X.prog X.w) X.A X.env X.xe) (hc : X.calm = true) (hi : DI K S c X tg e wi it) (hg : DG K X tg g gd ix) (hb : DGns K S c X body g1 t1) (hs : ∀ x, foldedSetIterable e X.env x = pure x := by intro _; rfl) :
    DGn K S c X (.For tg e body [] pos) (GnX.tGFor wi g g1) (gFor it gd t1) := ⟨GnX.gs_for hp hc hi.pi hg.pg hb.gss hs, wg_for hi.wi hg.wg hb.wg⟩
theorem dgns_nil : DGns K S c X [] tG0 gNil := ⟨gss_nil, wg_nil⟩
theorem dgns_cons (h1 : DGn K S c X st g1 t1) (h2 : DGns K S c X rest g2 t2) : DGns K S c X (st :: rest) (tGThen g1 g2) (gSeq t1 t2) := ⟨gss_cons h1.gs h2.gss, wg_seq h1.wg h2.wg⟩
end
def liftSpG (K : PySem.W.Frag) (S : Sit) (spd : SpGD) : SpG := fun vs H Q E => ∃ (Z : Addr → Prop) (ds : List D) (P : List D → Prop) (x : XD), Wd S Z H ∧ RepL K (hide H Z) ds vs ∧ spd ds P x ∧
  (∀ ys H' es, Kp S H H' → S.I H' → RepL K (hide H' Z) es ys → P es → Q ys H') ∧ (∀ cls dd H' fs, Kp S H H' → S.I H' → XRep K (hide H' Z) dd fs → x cls fs → E (.ref cls) dd H')
section
variable {P : Program} {w : World} {K : PySem.W.Frag} {S : Sit} {mg : Str → Option Value} {base : Heap}
theorem xc_g {c : Cl} {N : List Str} {qual : Str} {sc : Scope} {f : Addr} {cdv : Value} {A : Around} {outer : List Env} {s : Shared} {H : Hp} {E : XK} {pn : List (Addr × Obj)} (h : XFit K S c) (e : c.E = E) : XC K S c (gcxOf P w K mg base N qual sc f cdv A outer s H E pn) :=
  ⟨h, e ▸ takes_gcx, owns_gcx⟩
theorem fn_gen {x qual : Str} {st : Stmt} {f : Addr} {fd : FuncData} {N ps : List Str} {k : Nat} {spd : SpGD} {tD : XD → TGnD} (F : Fun K x qual st f fd) (sc : GScope N ps (defScope st)) (hlen : ∀ ds P x, spd ds P x → ds.length = ps.length)
    (hpure : ∀ ds P x, spd ds P x → tD x { nx := fun es _ => P es, rt := fun es d => d = .non ∧ P es } [] (startD N ds))
    (hbody : ∀ (c : Cl) (cdv : Value) (A : Around) (outer : List Env) (s : Shared) (H : Hp) (pn : List (Addr × Obj)), Room k (A.deeper (envOfC qual (defScope st) s.heap.objs.size f cdv)) → XC K S c (gcxOf P w K mg base N qual (defScope st) f cdv A outer s H c.E pn) →
      ∃ ts, DGns K S c (gcxOf P w K mg base N qual (defScope st) f cdv A outer s H c.E pn) (defBody st) ts (tD c.x)) : GFn P w K mg base (k + 1) f fd ps (liftSpG K S spd) := by
  obtain ⟨oc, od, kV, doc, pm, an, cdv, ct, osl, rfl, lk, hcd⟩ := F.ex
  refine gfn_of lk hcd sc (fun vs H Q E h => ?_) fun A outer s H vs Q E pn hr h => ?_
  · obtain ⟨Z, ds, Pd, xd, wd, r, hsp, _⟩ := h
    rw [← r.len]
    exact hlen _ _ _ hsp
  · obtain ⟨Z, ds, Pd, xd, wd, r, hsp, hq, hx⟩ := h
    let c : Cl := ⟨Z, H, E, xd⟩
    obtain ⟨ts, hd⟩ := hbody c cdv A outer s H pn hr (xc_g (fun cls dd H' fs k i xr hxx => hx cls dd H' fs k i xr hxx) rfl)
    refine ⟨ts, hd.gss, ?_⟩
    have r0 : RZ K S c (fun _ => none) Z (start N vs) H (startD N ds) := rz_start wd r
    refine hd.wg (fun _ => none) Z _ H _ [] [] _ _ r0 RepL.nil (hpure ds Pd xd hsp) ⟨fun Z' σ' H' ρ' ys es r' rl h => ?_, fun ys v H' es d k i rl rd h => ?_, fun _ _ _ _ _ _ _ _ h => h.elim, fun _ _ _ _ _ _ _ _ h => h.elim⟩
    · exact hq ys H' es r'.rv.kp r'.rv.wd.inv (RepL.mono (hide_weak r'.rv.zz) es ys rl) h
    · obtain ⟨rfl, h⟩ := h
      unfold Rep at rd
      exact ⟨rd, hq ys H' es k i rl h⟩
end
section
variable {K : PySem.W.Frag} {S : Sit} {c : Cl} {X : Cx} {k : Nat} {f C : Addr} {fd : FuncData} {ps : List Str} {spd : SpGD} {E : XK} {xd : XD} {x m nm : Str} {p p0 pos pos' apos : Pos} {e o : Expr} {es : List Expr} {ta : TE} {a : TED} {ts : TA} {as : TAD}
def nListGM (C : Addr) (m : Str) (spd : SpGD) (xd : XD) (a : TED) (as : TAD) : TAD := fun ρ P => a ρ fun o => match o with
  | .ins C' fn ds => (C' = C ∧ m ∉ fn) ∧ as ρ fun es => spd (.ins C' fn ds :: es) P xd
  | _ => False
def nListG (spd : SpGD) (xd : XD) (as : TAD) : TAD := fun ρ P => as ρ fun ds => spd ds P xd
theorem wn_listGM (hE : XOk K S c E xd) (ha : WE K S c ta a) (hs : WA K S c ts as) : WN K S c (tListG (tMethG C m (liftSpG K S spd) [] E ta ts)) (nListGM C m spd xd a as) := by
  intro Z σ H ρ P rv h Q q
  refine ha Z σ H ρ _ rv h _ fun v H1 d k1 i1 r1 h1 => ?_
  have rv1 := rv.step k1 i1
  split at h1
  · rename_i C' fn fds
    obtain ⟨⟨rfl, hn⟩, h1⟩ := h1
    unfold Rep at r1
    obtain ⟨b, dx, xs, rfl, e1, hl, rl⟩ := r1
    refine ⟨b, dx, _, rfl, hide_ex _ _ e1, zip_none hn, ?_⟩
    refine hs Z σ H1 ρ _ rv1 h1 _ fun vs H2 ds k2 i2 r2 hd => ?_
    have rv2 := rv1.step k2 i2
    have ex := rv1.wd.ex k2
    rw [List.append_nil]
    refine ⟨Z, .ins C' fn fds :: ds, P, xd, rv2.wd, RepL.cons ?_ r2, hd, fun ys H' es k' i' r' h' pp hpp => ?_, hE.at rv2⟩
    · unfold Rep
      exact ⟨b, dx, xs, rfl, ex _ _ e1, hl, RepL.mono ex fds xs rl⟩
    · have w' := rv2.wd.step k' i'
      have k0 := ((k1.trans k2).trans k')
      have h0 : H pp = none := by
        cases e : H pp with
        | none => rfl
        | some o =>
          by_cases hw : S.W pp
          · obtain ⟨o2, e2⟩ := S.there H' pp i' hw
            rw [hpp] at e2; cases e2
          · have := k0 pp o e hw
            rw [hpp] at this; cases this
      exact q pp _ es ys (k0.trans (Kp.new hpp)) (w'.inew hpp) h0 upd_same (new_own w' hpp r') h'
  · exact h1.elim
theorem noStop0 {K : PySem.W.Frag} : NoStop K E0 := fun _ _ _ h => h.elim
theorem dn_listGM {pl : Sem Bool} (hc : Cls X.K C) (hm : Meth X.K C m f) (F : GFn X.prog X.w X.K X.mg X.base k f fd ps (liftSpG K S spd)) (hr : Room (k + 3) X.A) (hb : L2.Binds X.K fd ps []) (hx : Passes (L2.CX X.prog X.w) X E) (hns : NoStop X.K E) (hE : XOk K S c E xd) (hmg : X.mg nm = none) (hv : bootBuiltins nm = some (.type "list")) (ha : DE K S c X o ta a) (hs : DA K S c X (e :: es) ts as)
    (hg : Gl X nm := by rfl) (hnm : nm ≠ "__name__" := by decide) (hdb : (nm == ("__debug__" : Str)) = false := by decide)
    (hst : starEach (e :: es) X.env = (false, eval e X.env) :: starEach es X.env := by rfl) (hpl : (backTo pos' (starEach es X.env)).any (·.1) = false := by rfl)
    (ht : eval (.Call (.Attribute o m apos) (e :: es) [] pos') X.env = (do
      let ov ← eval o X.env
      standAt apos.atName
      let (f, first) ← holding [ov] (getMethod ov m pl)
      callWith pos' f first (backTo pos' (starEach (e :: es) X.env)) (backToKw pos' (keywordEach [] X.env))) := by rfl)
    (he : starEach [Expr.Call (.Attribute o m apos) (e :: es) [] pos'] X.env = (false, eval (.Call (.Attribute o m apos) (e :: es) [] pos') X.env) :: starEach [] X.env := by rfl) :
    DN K S c X (.Call (.Name nm p) [.Call (.Attribute o m apos) (e :: es) [] pos'] [] pos) (tListG (tMethG C m (liftSpG K S spd) [] E ta ts)) (nListGM C m spd xd a as) :=
  ⟨pe_listG (pgen_meth ha.pe hc hm F (hr.mono (by omega)) hb .nil hs.pa hst hpl ht) hx hns hr hg hmg hv hnm hdb he, wn_listGM hE ha.we hs.wa⟩
theorem loopG_of {α : Type} {xs : List α} {enc : α → D} {gd : TGD} {body : TGnD} {Dd : GEndsD} {ds : List D} {ρ : EnvD} (J : List α → List D → EnvD → Prop) (h0 : J xs ds ρ)
    (hs : ∀ x r ds' ρ', J (x :: r) ds' ρ' → ∀ N : List D → EnvD → Prop, (∀ ds'' ρ'', J r ds'' ρ'' → N ds'' ρ'') → gd (enc x) ρ' fun ρ2 => body { Dd with nx := N, ct := N, bk := Dd.nx } ds' ρ2) (he : ∀ ds' ρ', J [] ds' ρ' → Dd.nx ds' ρ') : loopG (xs.map enc) gd body Dd ds ρ := by
  unfold loopG
  refine ⟨fun i ds' ρ' => J (xs.drop i) ds' ρ', h0, fun i d ds' ρ' hi hj => ?_, fun ds' ρ' hj => he ds' ρ' ?_⟩
  · rw [List.getElem?_map] at hi
    cases hx : xs[i]? with
    | none => rw [hx] at hi; cases hi
    | some x =>
      rw [hx] at hi
      cases hi
      rw [drop_cons hx] at hj
      exact hs x _ ds' ρ' hj _ fun _ _ h => h
  · rw [List.length_map] at hj
    rwa [List.drop_length] at hj
end
end DL
end
section
namespace DL
open PySem PySem.Spec PyProof.Rows L2
def BindD (B : List Value → Sem (List (Str × Value))) (Dd : Addr) (a0 kn pv : Str) (u : Value) : Prop := ∀ (a : Value) (rest : List Value), ∃ (β γ : Type) (k1 : Option Value → Sem β) (k2 : β → Sem γ) (k3 : γ → Sem (List (Str × Value))) (c : β),
  B (a :: rest) = ((nsGet Dd kn >>= k1) >>= k2) >>= k3 ∧ k1 (some u) = pure c ∧ (k2 c >>= k3) = (newTuple rest >>= fun t => pure [(a0, a), (kn, u), (pv, t)])
section
variable {CX : CXT} {P : Program} {w : World} {K : PySem.W.Frag} {mg : Str → Option Value} {base : Heap} {k : Nat} {f : Addr} {name qual : Str} {params : Arguments} {body : List Stmt} {scope : Scope} {doc pm cdv ct oc : Value} {an od : Option Addr}
  {osl : Array (Option Value)} {N : List Str} {sp : Sp} {a0 kn pv : Str} {Dd : Addr} {z : Int}
theorem fn_starkD (lk : K.lookup f = some ⟨oc, od, .func (PySem.W.fnOf name qual params body scope .none (.ref Dd) doc pm an cdv ct), osl⟩) (hcd : PySem.W.codeIn K cdv qual = true) (S : FnScope N [a0, kn, pv] scope) (hCX : StX.CXUp CX) {t : Tok} (hd : PySem.W.nsIn K Dd kn = some (some (.int z t)))
    (hb : BindD (fun l => bindArgs (PySem.W.fnOf name qual params body scope .none (.ref Dd) doc pm an cdv ct) ⟨l, []⟩) Dd a0 kn pv (.int z t))
    (hbody : ∀ (A : Around) (outer : List Env) (s : Shared) (H : Hp) (vs : List V) (Q : VK) (E : XK), Room k (A.deeper (envOfC qual scope s.heap.objs.size f cdv)) → sp vs H Q E →
      ∃ t, PSs (cxOf CX P w K mg base N qual scope f cdv A outer s H E) body t ∧ t { nx := fun _ H' => Q .non H', rt := Q } (L2.start N vs) H) :
    FnR P w K mg base CX (k + 1) f (fun vs H Q E => ∃ x rest, vs = x :: rest ∧ rest.length ≤ sizeLine ∧ ∀ p, H p = Option.none → sp [x, V.int z, V.ref p] (upd H p (.tup rest)) Q E) := by
  intro A outer s H us vs Q E hr e0 r hsp
  obtain ⟨x, rest, ev, hz, hq⟩ := hsp
  subst ev
  cases r with
  | cons rx r2 =>
    rename_i ux u2
    have hn : H s.heap.objs.size = Option.none := e0.hok.fresh (Nat.le_refl _)
    have hl2 : u2.length ≤ sizeLine := by rw [← r2.length]; exact hz
    obtain ⟨β, γ, k1, k2, k3, c, b1, b2, b3⟩ := hb ux u2
    have KX : K.In s.heap := e0.mod.kin.keeps fun b o e => (e0.bs b o e).1
    refine StX.run_bnd lk hcd S hr e0 (G := fun xs H2 => ∃ p, H p = Option.none ∧ xs = [x, V.int z, V.ref p] ∧ H2 = upd H p (.tup rest)) (fun A' Ex Q' h => ?_) fun s2 H2 xs ⟨p, hp, ex, eH⟩ hr' => ?_
    · have l1 : PySem.W.Looks (model P w) s.heap (nsGet Dd kn >>= k1) c := (PySem.W.looks_nsIn KX hd).andThen (PySem.W.Looks.of_pure b2)
      show wpAny _ _ (bindArgs (PySem.W.fnOf name qual params body scope .none (.ref Dd) doc pm an cdv ct) ⟨ux :: u2, []⟩) _ _ _
      have b1' : bindArgs (PySem.W.fnOf name qual params body scope .none (.ref Dd) doc pm an cdv ct) ⟨ux :: u2, []⟩ = (nsGet Dd kn >>= k1) >>= fun y => k2 y >>= k3 := b1.trans (bind_assoc _ _ _)
      rw [b1']
      refine wpAny_bind (l1.here ?_)
      rw [b3]
      refine wpAny_bind (wpAny_newTuple (wpAny_pure ?_) hl2)
      have new : ObjOk P w (upd H s.heap.objs.size (.tup rest)) (s.heap.push ({ cls := .type "tuple", data := .seq u2.toArray } : Obj)) s.heap.objs.size (.tup rest) := ⟨hz, u2, r2, ⟨_, Heap.get?_push_size _ rfl, rfl, _, rfl⟩⟩
      have un := StX.un_laid (fs := frs outer) (s := s) (o := ({ cls := .type "tuple", data := .seq u2.toArray } : Obj)) (u := .tup rest) hn
      exact h _ _ [x, V.int z, V.ref s.heap.objs.size] [ux, .int z t, Value.ref s.heap.objs.size] (StX.env0_laid e0 new) un rfl (fun e s' => hCX outer s H _ _ E e s' un (fun b o q => Heap.get?_push_of_some _ q) rfl) (.cons rx (.cons ⟨t, rfl⟩ (.cons rfl .nil)))
        rfl ⟨_, hn, rfl, rfl⟩
    · subst ex eH
      exact hbody A outer s2 _ _ Q E hr' (hq p hp)
end
def indD (ind : InD) (z : Int) : InD := fun ds P x => ∃ t, ds = [t] ∧ ind [.int z, t] P x
section
variable {P : Program} {w : World} {K : PySem.W.Frag} {S : Sit} {mg : Str → Option Value} {base : Heap} {C : Addr} {ind : InD} {z : Int}
theorem indD_imp {vs : List V} {H : Hp} {Q : VK} {E : XK} (h : spInR K S C (indD ind z) vs H Q E) : ∃ x rest, vs = x :: rest ∧ rest.length ≤ sizeLine ∧ ∀ p, H p = none → liftIn K S C ind [x, V.int z, V.ref p] (upd H p (.tup rest)) Q E := by
  obtain ⟨ws, rest, rfl, hl, hz, h⟩ := h
  match ws, hl with
  | [x], _ =>
    refine ⟨x, rest, rfl, hz, fun p hp => ?_⟩
    obtain ⟨p2, dx, us, Z, ds, Pd, xd, e1, h1, wd, zp, np, hs, r, ⟨t, rfl, hi⟩, hq, hx⟩ := h p hp
    cases e1
    exact ⟨p2, dx, _, Z, _, Pd, xd, rfl, h1, wd, zp, np, hs, RepL.cons repI r, hi, hq, hx⟩
theorem fn_initKD {qual pv kn : Str} {st : Stmt} {f : Addr} {fd : FuncData} {N : List Str} {k : Nat} {tD : TSD} (F : Fun K "__init__" qual st f fd) (hk : kwdB K f kn z = true) (sc : FnScope N ["self", kn, pv] (defScope st))
    (h1 : ∀ (Dd : Addr) (doc pm : Value) (an : Option Addr) (cdv ct u : Value), BindD (fun l => bindArgs (PySem.W.fnOf "__init__" qual (defArgs st) (defBody st) (defScope st) .none (.ref Dd) doc pm an cdv ct) ⟨l, []⟩) Dd "self" kn pv u)
    (hpure : ∀ p dx ds Pd x, ind ds Pd x → tD (InitEnds C p dx Pd) (startD N (.own (.ins C p dx []) [] :: ds)))
    (hbody : ∀ (c : Cl) (cdv : Value) (A : Around) (outer : List PySem.Env) (s : Shared) (H : Hp) (E : XK), Room k (A.deeper (envOfC qual (defScope st) s.heap.objs.size f cdv)) →
      ∃ ts, DSs K S c (cxOf CX0 P w K mg base N qual (defScope st) f cdv A outer s H E).nox (defBody st) ts tD) : FnR P w K mg base CX0 (k + 1) f (spInR K S C (indD ind z)) := by
  obtain ⟨oc, od, kV, doc, pm, an, cdv, ct, osl, rfl, lk, hcd⟩ := F.ex
  obtain ⟨Dd, t, e1, e2⟩ := kwdB_ok hk lk
  obtain rfl : kV = .ref Dd := e1
  refine FnR.imp (fn_starkD (sp := liftIn K S C ind) lk hcd sc StX.cxUp_none e2 (h1 Dd doc pm an cdv ct _) fun A outer s H vs Q E hr h => ?_) fun vs H Q E h => indD_imp h
  obtain ⟨p, dx, us, Z, ds, Pd, x, rfl, hp, wd, zp, np, hs, r, hi, hq, hx⟩ := h
  obtain ⟨ts, d⟩ := hbody ⟨fun a => Z a ∧ a ≠ p, cutP H p, E, x⟩ cdv A outer s H E hr
  exact ⟨ts, d.pss.nox, d.ws (fun _ => none) _ H _ _ _ ⟨Z, rz_init wd hp zp np hs r⟩ (hpure p dx ds Pd x hi) (fit_init zp hq)⟩
end
end DL
namespace DL
open PySem PySem.Spec PyProof.Rows L2
section
variable {K : PySem.W.Frag} {S : Sit} {c : Cl} {X : Cx} {te ta : TE} {a : TED} {e : Expr} {pos p1 p2 : Pos} {x y : Str} {C : Addr}
def dIsiG (C : Addr) (a : TED) : TED := fun ρ P => a ρ fun d => match d with
  | .ins C' _ _ => C' = C ∧ P (.bl true)
  | .tup _ => P (.bl false)
  | _ => False
theorem we_isiG (k : ClsTy K C) (kt : PySem.W.kitOne K (.type "tuple") (.ref C) = some false) (ha : WE K S c te a) : WE K S c (tCB (rIsi K) (tCons te (tCons (tC (.ref C)) tNil))) (dIsiG C a) := by
  intro Z σ H ρ P rv h Q q
  refine ha Z σ H ρ _ rv h _ fun v H1 d k1 i1 r1 h1 => ?_
  cases d <;> try exact h1.elim
  · have r0 := ty_rep (d := .tup _) (by show "tuple" ∈ kindsN; decide) r1
    exact ⟨_, .ref C, .type "tuple", .ref C, false, rfl, .own _, r0, kt, q _ H1 _ k1 i1 repB h1⟩
  · obtain ⟨rfl, h1⟩ := h1
    unfold Rep at r1
    obtain ⟨p, dx, xs, rfl, g1, g2, g3⟩ := r1
    refine ⟨_, .ref _, .ref _, .ref _, true, rfl, .own _, .base (.ins (hide_ex _ _ g1) k.cl k.ha k.hn k.htk k.hm), ?_, q _ H1 _ k1 i1 repB h1⟩
    unfold PySem.W.kitOne
    simp
theorem de_isiG (hK : X.K = K) (k : ClsTy K C) (kt : PySem.W.kitOne K (.type "tuple") (.ref C) = some false) (hm : X.mg "isinstance" = none) (hC : X.mg y = some (.ref C)) (ha : DE K S c X e ta a) (hg : Gl X "isinstance" := by rfl) (hg2 : Gl X y := by rfl) (hd : (y == ("__debug__" : Str)) = false := by decide)
    (he : starEach (e :: [.Name y p2]) X.env = (false, eval e X.env) :: starEach [.Name y p2] X.env := by rfl) (he2 : starEach (.Name y p2 :: []) X.env = (false, eval (.Name y p2) X.env) :: starEach [] X.env := by rfl)
    (hpl : (backTo pos (starEach [.Name y p2] X.env)).any (·.1) = false := by rfl) :
    DE K S c X (.Call (.Name "isinstance" p1) [e, .Name y p2] [] pos) (tCB (rIsi K) (tCons ta (tCons (tC (.ref C)) tNil))) (dIsiG C a) := by
  subst hK
  exact ⟨pe_callB call_isi hg hm PyProof.Rows.boot_isinstance (pa_cons ha.pe (pa_cons (pe_glob hg2 hC rfl hd) pa_nil he2) he) (by decide) (by decide) he hpl, we_isiG k kt ha.we⟩
end
theorem kitFB_ok {K : PySem.W.Frag} {C : Addr} (h : kitFB K C = true) : PySem.W.kitOne K (.type "tuple") (.ref C) = some false := of_decide_eq_true h
end DL
namespace DL
open PySem PySem.Spec PyProof.Rows L2
def onIsiG (C : Addr) (P : D → Prop) : D → Prop := fun d => match d with
  | .ins C' _ _ => C' = C ∧ P (.bl true)
  | .tup _ => P (.bl false)
  | _ => False
def onCallI (C : Addr) (spd : SpD) (xd : XD) (as : TAD) (ρ : EnvD) (P : D → Prop) : D → Prop := fun o => match o with
  | .ins C' fn ds => C' = C ∧ as ρ fun es => spd (.ins C' fn ds :: es) P xd
  | _ => False
def onListGM (C : Addr) (m : Str) (spd : SpGD) (xd : XD) (as : TAD) (ρ : EnvD) (P : List D → Prop) : D → Prop := fun o => match o with
  | .ins C' fn ds => (C' = C ∧ m ∉ fn) ∧ as ρ fun es => spd (.ins C' fn ds :: es) P xd
  | _ => False
def onStar (as : TAD) (ρ : EnvD) (PL : List D → Prop) : D → Prop := fun x => match x.items with
  | some xs => as ρ fun ys => PL (xs ++ ys)
  | none => False
def onMakeSK (ind : InD) (C : Addr) (xd : XD) (b : TED) (ρ : EnvD) (P : D → Prop) : D → Prop := fun y => match y.items with
  | some ds => b ρ fun z => ds.length ≤ 1000000 ∧ ind [z, .tup ds] (fun fn es => P (.ins C fn es)) xd
  | none => False
section
variable {i j n : Nat} {a b : TED} {as : TAD} {p : TTD} {d1 d2 : TSD} {t1 t2 : TGnD} {Gd : GEndsD} {ds es : List D} {ρ : EnvD} {P : D → Prop} {PL : List D → Prop} {d e : D} {sp : SpD} {sg : SpGD} {x : XD} {C : Addr} {m : Str} {fn : List Str} {ind : InD}
theorem g_seq (h : t1 { Gd with nx := fun ds' ρ' => t2 Gd ds' ρ' } ds ρ) : gSeq t1 t2 Gd ds ρ := h
theorem g_plain (h : d1 { nx := Gd.nx ds, rt := fun _ => False, bk := Gd.bk ds, ct := Gd.ct ds } ρ) : gPlain d1 Gd ds ρ := h
theorem g_nil (h : Gd.nx ds ρ) : gNil Gd ds ρ := h
theorem g_retN (h : Gd.rt ds .non) : gRetN Gd ds ρ := h
theorem g_if (h : p (view ρ) (onIf (t1 Gd ds ρ) (t2 Gd ds ρ))) : gIf p t1 t2 Gd ds ρ := h
theorem g_yield (hl : ds.length < 1000000) (h : a ρ fun d => Gd.nx (ds ++ [d]) ρ) : gYield a Gd ds ρ := ⟨hl, h⟩
theorem g_for {it : TAD} {gd : TGD} (h : it ρ fun es => loopG es gd t1 Gd ds ρ) : gFor it gd t1 Gd ds ρ := h
theorem s_isiG (h : a ρ (onIsiG C P)) : dIsiG C a ρ P := h
theorem s_onIsiGy (h : P (.bl true)) : onIsiG C P (.ins C fn ds) := ⟨rfl, h⟩
theorem s_onIsiGn (h : P (.bl false)) : onIsiG C P (.tup ds) := h
theorem s_callI (h : a ρ (onCallI C sp x as ρ P)) : dCallI C sp x a as ρ P := h
theorem s_onCallI (h : as ρ fun es => sp (.ins C fn ds :: es) P x) : onCallI C sp x as ρ P (.ins C fn ds) := ⟨rfl, h⟩
theorem s_listGM (h : a ρ (onListGM C m sg x as ρ PL)) : nListGM C m sg x a as ρ PL := h
theorem s_onListGM (hm : m ∉ fn) (h : as ρ fun es => sg (.ins C fn ds :: es) PL x) : onListGM C m sg x as ρ PL (.ins C fn ds) := ⟨⟨rfl, hm⟩, h⟩
theorem s_listG (h : as ρ fun ds => sg ds PL x) : nListG sg x as ρ PL := h
theorem s_starS (h : a ρ (onStar as ρ PL)) : dStar a as ρ PL := h
theorem s_onStarL (h : as ρ fun ys => PL (ds ++ ys)) : onStar as ρ PL (.lst ds) := h
theorem s_onStarT (h : as ρ fun ys => PL (ds ++ ys)) : onStar as ρ PL (.tup ds) := h
theorem s_makeR (h : as ρ fun ds => ds.length ≤ 1000000 ∧ ind [.tup ds] (fun fn es => P (.ins C fn es)) x) : dMakeR ind C x as ρ P := h
theorem s_makeSK (h : a ρ (onMakeSK ind C x b ρ P)) : dMakeSK ind C x a b ρ P := h
theorem s_onMakeSKL (h : b ρ fun z => ds.length ≤ 1000000 ∧ ind [z, .tup ds] (fun fn es => P (.ins C fn es)) x) : onMakeSK ind C x b ρ P (.lst ds) := h
theorem s_onMakeSKT (h : b ρ fun z => ds.length ≤ 1000000 ∧ ind [z, .tup ds] (fun fn es => P (.ins C fn es)) x) : onMakeSK ind C x b ρ P (.tup ds) := h
theorem s_binTI {k : Int} (h : sp [.ins C fn ds, .int k] P x) : rBinTXD C "int" sp x (.ins C fn ds) (.int k) P := ⟨⟨rfl, rfl⟩, h⟩
theorem s_binTS {k : Str} (h : sp [.ins C fn ds, .str k] P x) : rBinTXD C "str" sp x (.ins C fn ds) (.str k) P := ⟨⟨rfl, rfl⟩, h⟩
theorem s_binX {fn2 : List Str} (h : sp [.ins C fn ds, .ins C fn2 es] P x) : rBinXD C sp x (.ins C fn ds) (.ins C fn2 es) P := ⟨⟨rfl, rfl⟩, h⟩
theorem s_ixX (h : sp [.ins C fn ds, d] P x) : rIxXD C sp x (.ins C fn ds) d P := ⟨rfl, h⟩
theorem s_ixO (h : sp [.ins C fn ds, d] P x0) : rIxOD C sp (.ins C fn ds) d P := ⟨rfl, h⟩
def onNeg (neg : Bool) (P : D → Prop) : D → Prop := fun d => match d with
  | .bl b => P (.bl (if neg then !b else b))
  | _ => False
theorem s_eqXi {neg : Bool} {fn2 : List Str} (h : sp [.ins C fn ds, .ins C fn2 es] (onNeg neg P) x) : rEqXD C neg sp x (.ins C fn ds) (.ins C fn2 es) P := ⟨⟨rfl, rfl⟩, h⟩
theorem s_eqXt {neg : Bool} (h : sp [.ins C fn ds, .tup es] (onNeg neg P) x) : rEqXD C neg sp x (.ins C fn ds) (.tup es) P := ⟨⟨rfl, trivial⟩, h⟩
theorem s_onNegF {b : Bool} (h : P (.bl b)) : onNeg false P (.bl b) := h
theorem s_onNegT {b : Bool} (h : P (.bl (!b))) : onNeg true P (.bl b) := h
theorem s_lenO (h : sp [.ins C fn ds] (fun d => match d with
    | .int n => (0 ≤ n ∧ n < 2 ^ 63) ∧ P (.int n)
    | _ => False) x0) : rLenOD C sp [.ins C fn ds] P := ⟨rfl, h⟩
end
end DL
end
section
namespace Z
open PySem PySem.Spec PyProof.Rows L2 DL LMX LamX
theorem ob_eq (s : PySem.W.SharedT) : ob s = hk.obs s.abs := seeZ_eq (HandSHeadRun.getT_eq s)
end Z
end
section
namespace Z
open PySem L2 DL
theorem len_is_number (A : Cs) : ∀ ds P x, sp_is_number A ds P x → ds.length = ["value", "low", "high"].length := by
  rintro ds P x ⟨_, _, _, rfl, _⟩
  rfl
theorem len_is_name (A : Cs) : ∀ ds P x, sp_is_name A ds P x → ds.length = ["word"].length := by
  rintro ds P x ⟨_, rfl, _⟩
  rfl
theorem len_first_wrong_day (A : Cs) : ∀ ds P x, sp_first_wrong_day A ds P x → ds.length = ["days"].length := by
  rintro ds P x ⟨_, rfl, _⟩
  rfl
theorem len_place (A : Cs) : ∀ ds P x, sp_place A ds P x → ds.length = ["day", "lead", "count"].length := by
  rintro ds P x ⟨_, _, _, rfl, _⟩
  rfl
theorem len_Plan_days (A : Cs) : ∀ ds P x, sp_Plan_days A ds P x → ds.length = ["self"].length := by
  rintro ds P x ⟨_, _, rfl, _⟩
  rfl
theorem len_Plan_lead (A : Cs) : ∀ ds P x, sp_Plan_lead A ds P x → ds.length = ["self"].length := by
  rintro ds P x ⟨_, _, rfl, _⟩
  rfl
end Z
end
section
namespace Z
open PySem L2 DL
theorem pure_is_number (A : Cs) : ∀ ds P x, sp_is_number A ds P x → D_is_number A { nx := fun _ => P .non, rt := P } (startD N_is_number ds) := by
  rintro ds P x ⟨v, lo, hi, rfl, hp⟩
  refine ⟨rfl, rfl, ?_⟩
  show match (D.bl (decide (lo ≤ v))) with
    | .bl k => if k = true then _ else P (.bl false)
    | _ => False
  by_cases h : lo ≤ v
  · rw [decide_eq_true h] at hp ⊢
    exact hp
  · rw [decide_eq_false h] at hp ⊢
    exact hp
theorem pure_place (A : Cs) : ∀ ds P x, sp_place A ds P x → D_place A { nx := fun _ => P .non, rt := P } (startD N_place ds) := by
  rintro ds P x ⟨d, l, c, rfl, h, hp⟩
  show if decide (d < c) = true then P (.int d) else (0 < c - l ∧ P (.int (l + (d - l) % (c - l))))
  unfold mPlace at hp
  by_cases e : d < c
  · rw [if_pos (by simpa using e)]; rw [if_pos e] at hp; exact hp
  · rw [if_neg (by simpa using e)]; rw [if_neg e] at hp; exact ⟨by omega, hp⟩
theorem pure_Plan_days (A : Cs) : ∀ ds P x, sp_Plan_days A ds P x → D_Plan_days A { nx := fun _ => P .non, rt := P } (startD N_Plan_days ds) := by
  rintro ds P x ⟨days, lead, rfl, hp⟩
  exact ⟨rfl, hp⟩
theorem pure_Plan_lead (A : Cs) : ∀ ds P x, sp_Plan_lead A ds P x → D_Plan_lead A { nx := fun _ => P .non, rt := P } (startD N_Plan_lead ds) := by
  rintro ds P x ⟨days, lead, rfl, hp⟩
  exact ⟨rfl, hp⟩
theorem pure_is_name (A : Cs) : ∀ ds P x, sp_is_name A ds P x → D_is_name A { nx := fun _ => P .non, rt := P } (startD N_is_name ds) := by
  rintro ds P x ⟨w, rfl, hz, hp⟩
  refine ⟨rfl, ?_⟩
  show w.length ≤ 1000000 ∧ _
  refine ⟨by omega, ?_⟩
  show if decide ((1 : Int) ≤ (w.length : Int)) = true then (if decide ((w.length : Int) ≤ 8) = true then (compD (strD w) (hName 1) dYes (dOp rInSD (dVar 1) (dC (.str "abcdefghijklmnopqrstuvwxyz"))) [some (.str w), none] fun ds => rAllD [.lst ds] P) else P (.bl false)) else P (.bl false)
  unfold isNm at hp
  by_cases h1 : 1 ≤ w.length
  · by_cases h2 : w.length ≤ 8
    · rw [if_pos (decide_eq_true (by omega)), if_pos (decide_eq_true (by omega))]
      rw [decide_eq_true h1, decide_eq_true h2] at hp
      rw [strD_map]
      refine comp_of (f := fun k => .bl (("abcdefghijklmnopqrstuvwxyz" : Str).cps.toList.contains k)) (by rw [Array.length_toList]; show w.length ≤ _; omega) (fun k hk Q q => ⟨k, rfl, ?_⟩) ⟨w.cps.toList.map fun k => ("abcdefghijklmnopqrstuvwxyz" : Str).cps.toList.contains k, by rw [List.map_map]; rfl, ?_⟩
      · rw [List.contains_eq_mem] at q
        exact q
      · rw [List.all_map]
        simpa using hp
    · rw [if_pos (decide_eq_true (by omega)), if_neg (by simp; omega)]
      rw [decide_eq_false h2, Bool.and_false, Bool.false_and] at hp
      exact hp
  · rw [if_neg (by simp; omega)]
    rw [decide_eq_false h1, Bool.false_and, Bool.false_and] at hp
    exact hp
theorem pure_first_wrong_day (A : Cs) : ∀ ds P x, sp_first_wrong_day A ds P x → D_first_wrong_day A { nx := fun _ => P .non, rt := P } (startD N_first_wrong_day ds) := by
  rintro ds P x ⟨days, rfl, hz, hd, hp⟩
  show loopD (enD (eDs days)) _ _ _ _
  unfold eDs
  rw [enD_map]
  refine loop_of (fun r ρ => (∀ q ∈ r, q ∈ days.zipIdx) ∧ ∃ y z, ρ = [some (.tup (eDs days)), y, z]) ⟨fun q h => h, none, none, rfl⟩ ?_ ?_
  · rintro ⟨ns, i⟩ r ρ ⟨hr, y, z, rfl⟩ N B R hN hB hR
    have hm := hr _ List.mem_cons_self
    have hi := List.getElem?_eq_some_iff.mp (List.mem_zipIdx_iff_getElem?.mp hm)
    obtain ⟨hlt, he⟩ := hi
    have hns : ns ∈ days := by
      have e : days[i]'hlt = ns := he
      rw [← e]
      exact List.getElem_mem hlt
    have hlt' : i < days.length := hlt
    refine ⟨rfl, eq_int ?_⟩
    rw [decide_eq_false (by omega)]
    show match D.strs (ns.map D.str) with
      | some xs => xs.length ≤ 4000 ∧ _
      | none => False
    rw [strs_map]
    refine ⟨(hd _ hns).2, ?_⟩
    rw [metN_nodup (hd _ hns).1 _ (Nat.le_refl _)]
    show if decide ((ns.length : Int) < ((ns.map D.str).length : Int)) = true then _ else _
    rw [List.length_map, if_neg (by simp)]
    exact hN _ ⟨fun q hq => hr q (List.mem_cons_of_mem _ hq), _, _, rfl⟩
  · rintro ρ ⟨_, y, z, rfl⟩
    exact hp
theorem pure_Plan_init (A : Cs) : ∀ p dx ds Pd x, in_Plan A ds Pd x → D_Plan_init A (InitEnds A.Plan p dx Pd) (startD N_Plan_init (.own (.ins A.Plan p dx []) [] :: ds)) := by
  rintro p dx ds Pd x ⟨days, lead, rfl, ok, hp⟩
  refine ⟨days, rfl, ok.len, ok.nd, lead, 0, ((eDs days).length : Int) - 1, rfl, ?_⟩
  have e1 : (decide ((0 : Int) ≤ lead) && decide (lead ≤ ((eDs days).length : Int) - 1)) = true := by
    have h1 := ok.lo
    have h2 := ok.hi
    unfold eDs
    rw [List.length_map]
    simp
    omega
  rw [e1]
  refine ⟨⟨p, dx, [], [], rfl⟩, ?_⟩
  show compD (eDs days) _ _ _ _ _
  unfold eDs
  refine comp_of (f := eN) (by have := ok.len; omega) (fun ns hns Q q => q) ?_
  refine ⟨(by decide : (0 : Nat) < 1000), ?_⟩
  show (∃ p' dx' fn es, ([some (.own (.ins A.Plan p dx ["_days"]) [.tup (eDs days)]), some (.int lead), some (.tup (eDs days)), some .non, none] : EnvD)[0]? = some (some (.own (.ins A.Plan p' dx' fn) es))) ∧ _
  refine ⟨⟨p, dx, ["_days"], [.tup (eDs days)], rfl⟩, ?_⟩
  refine ⟨(by decide : (1 : Nat) < 1000), ?_⟩
  show ∃ fn es, ([some (.own (.ins A.Plan p dx ["_days", "_lead"]) [.tup (eDs days), .int lead]), some (.int lead), some (.tup (eDs days)), some .non, none] : EnvD)[0]? = some (some (.own (.ins A.Plan p dx fn) es)) ∧ Pd fn es
  exact ⟨_, _, rfl, hp⟩
theorem nm_ok {w : Str} (h : isNm w = true) : PyData.strOk w = true := by
  unfold isNm at h
  have h2 := (Bool.and_eq_true _ _ ▸ h).2
  unfold PyData.strOk
  rw [Array.all_eq_true']
  intro k hk
  have h3 := List.all_eq_true.mp h2 k (Array.mem_toList_iff.mpr hk)
  rw [List.contains_eq_mem] at h3
  have h4 : ∀ j ∈ ("abcdefghijklmnopqrstuvwxyz" : Str).cps.toList, j < 1114112 := by decide
  exact decide_eq_true (h4 k (by simpa using h3))
theorem place_lt {d lead count : Int} (h0 : 0 ≤ lead) (h1 : lead < count) (hd : 0 ≤ d) : 0 ≤ mPlace d lead count ∧ mPlace d lead count < count := by
  unfold mPlace
  by_cases h : d < count
  · rw [if_pos h]; omega
  · rw [if_neg h]
    have h2 := Int.emod_nonneg (d - lead) (show count - lead ≠ 0 by omega)
    have h3 := Int.emod_lt_of_pos (d - lead) (show 0 < count - lead by omega)
    omega
theorem on_get {days : List Ns} {lead d : Int} (h0 : 0 ≤ lead) (h1 : lead < days.length) (hd : 0 ≤ d) : days[(mPlace d lead days.length).toNat]? = some (onDay days lead d) := by
  obtain ⟨h2, h3⟩ := place_lt h0 h1 hd
  have lt : (mPlace d lead days.length).toNat < days.length := by omega
  unfold onDay
  rw [List.getD_eq_getElem?_getD, List.getElem?_eq_getElem lt]
  rfl
theorem rngI_mem {lo d : Int} {n : Nat} (h : d ∈ rngI lo n) : lo ≤ d ∧ d < lo + n := by
  unfold rngI at h
  obtain ⟨k, hk, rfl⟩ := List.mem_map.mp h
  have := List.mem_range.mp hk
  omega
theorem rngI_len (lo : Int) (n : Nat) : (rngI lo n).length = n := by unfold rngI; simp
end Z
end
section
namespace Z
open PySem L2 DL
def chk (xs : List Int) : Int := xs.foldl (fun a b => (3 * a + b) % 233) 5
def encName (n : Str) : List Int := n.cps.toList.map fun c : Nat => (c : Int) - 97
def encF (f : Str × Int) : List Int := f.2 :: (f.1.length : Int) :: encName f.1
def encB (fs : Fs) : List Int := 72 :: (fs.length : Int) :: fs.flatMap encF
def enc (fs : Fs) : List Int := encB fs ++ [chk (encB fs)]
theorem idx_all : ∀ c ∈ ("abcdefghijklmnopqrstuvwxyz" : Str).cps.toList, 97 ≤ c ∧ c < 123 ∧ (Builtin.Str.occurrences ("abcdefghijklmnopqrstuvwxyz" : Str) ⟨#[c]⟩ 0 ("abcdefghijklmnopqrstuvwxyz" : Str).length 1).head? = some (c - 97) := by decide +kernel
theorem nm_let {n : Str} (h : isNm n = true) : ∀ c ∈ n.cps.toList, c ∈ ("abcdefghijklmnopqrstuvwxyz" : Str).cps.toList := by
  unfold isNm at h
  have h2 := (Bool.and_eq_true _ _ ▸ h).2
  intro c hc
  have h3 := List.all_eq_true.mp h2 c hc
  rw [List.contains_eq_mem] at h3
  simpa using h3
theorem nm_len {n : Str} (h : isNm n = true) : 1 ≤ n.length ∧ n.length ≤ 8 := by
  unfold isNm at h
  simp at h
  omega
end Z
end
section
namespace Z
open PySem L2 DL
def fds (fs : Fs) : List D := fs.map fun f => .int f.2
end Z
end
section
namespace Z
open PySem
end Z
end
section
namespace Z
open PySem
end Z
end
section
namespace Z
open PySem
end Z
end
section
namespace Z
open PySem
end Z
end
section
namespace Z
open PySem
end Z
end
section
namespace Z
open PySem L2 DL
end Z
end
section
namespace Z
open PySem L2 DL
def plainD : Nat → D → Bool
  | _, .non => true
  | _, .bl _ => true
  | _, .int _ => true
  | _, .str x => PyData.strOk x
  | n + 1, .lst ds => decide (ds.length ≤ 100000) && ds.all (plainD n)
  | n + 1, .tup ds => decide (ds.length ≤ 100000) && ds.all (plainD n)
  | _, _ => false
def spSame (n : Nat) : SpD := fun ds P _ => ∃ d, ds = [d, d] ∧ plainD n d = true ∧ P (.bl true)
end Z
end
section
namespace Z
open PySem L2 DL
theorem at_lstD {ds : List D} {i : Int} {x : D} {P : D → Prop} (h0 : 0 ≤ i) (h : ds[i.toNat]? = some x) (hp : P x) : rIxD (.lst ds) (.int i) P := by
  have e : ds = ds.map fun d => d := by simp
  rw [e]
  exact at_lst (xs := ds) (f := fun d => d) h0 h hp
theorem at_tupD {ds : List D} {i : Int} {x : D} {P : D → Prop} (h0 : 0 ≤ i) (h : ds[i.toNat]? = some x) (hp : P x) : rIxD (.tup ds) (.int i) P := by
  have e : ds = ds.map fun d => d := by simp
  rw [e]
  exact at_tup (xs := ds) (f := fun d => d) h0 h hp
section
theorem ne_bl_same {b : Bool} {P : D → Prop} (hp : P (.bl false)) : rNeDD (.bl b) (.bl b) P := by
  unfold rNeDD
  refine ⟨⟨rfl, rfl⟩, ?_⟩
  rw [show PyData.eqv (D.bl b).py (D.bl b).py = true from by show (b == b) = true; simp]
  exact hp
theorem eq_bl_same {b : Bool} {P : D → Prop} (hp : P (.bl true)) : rEqDD (.bl b) (.bl b) P := by
  unfold rEqDD
  refine ⟨⟨rfl, rfl⟩, ?_⟩
  rw [show PyData.eqv (D.bl b).py (D.bl b).py = true from by show (b == b) = true; simp]
  exact hp
theorem eq_nil {P : D → Prop} (hp : P (.bl true)) : rEqDD (.lst []) (.lst []) P := by unfold rEqDD; exact ⟨⟨rfl, rfl⟩, hp⟩
theorem eq_non {P : D → Prop} (hp : P (.bl true)) : rEqDD .non .non P := by unfold rEqDD; exact ⟨⟨rfl, rfl⟩, hp⟩
end
end Z
end
section
namespace Z
open PySem L2 DL
theorem erase_map {α : Type} (f : α → D) : ∀ (xs : List α) (n : Nat), (xs.map f).eraseIdx n = (xs.eraseIdx n).map f
  | [], _ => rfl
  | _ :: _, 0 => rfl
  | x :: xs, n + 1 => by
    show f x :: (xs.map f).eraseIdx n = f x :: (xs.eraseIdx n).map f
    rw [erase_map f xs n]
theorem erase_perm : ∀ {xs : List Str} {k : Nat} (h : k < xs.length), (xs[k] :: xs.eraseIdx k).Perm xs
  | _ :: _, 0, _ => List.Perm.refl _
  | x :: xs, k + 1, h => by
    have h' : k < xs.length := by simpa using h
    show (xs[k] :: x :: xs.eraseIdx k).Perm (x :: xs)
    exact (List.Perm.swap x xs[k] _).trans ((erase_perm h').cons x)
theorem pop_at {xs : List Str} {j : Nat} {r : Int} {N : D → EnvD → Prop} {ρ : EnvD} (hi : ρ[j]? = some (some (.own .lst (xs.map D.str)))) (h0 : 0 ≤ r) (h1 : r < xs.length) (hz : xs.length ≤ 1000000)
    (h : ∀ x, xs[r.toNat]? = some x → N (.str x) (ρ.set j (some (.own .lst ((xs.eraseIdx r.toNat).map D.str))))) : popD j (.int r) N ρ := by
  unfold popD
  rw [hi]
  have lt : r.toNat < xs.length := by omega
  refine ⟨⟨h0, by rw [List.length_map]; exact h1, by rw [List.length_map]; exact hz⟩, ?_⟩
  rw [List.getElem?_map, List.getElem?_eq_getElem lt, erase_map]
  exact h _ (List.getElem?_eq_getElem lt)
theorem end_at {α : Type} {xs : List α} {f : α → D} {i : Nat} {d : D} {N : EnvD → Prop} {ρ : EnvD} (hi : ρ[i]? = some (some (.own .lst (xs.map f)))) (hz : xs.length < 1000000) (h : N (ρ.set i (some (.own .lst (xs.map f ++ [d]))))) : endD i d N ρ := by
  unfold endD
  rw [hi]
  exact ⟨by rw [List.length_map]; exact hz, h⟩
theorem take_out {day left : List Str} {k : Nat} {x : Str} (h : left[k]? = some x) : ((day ++ [x]) ++ left.eraseIdx k).Perm (day ++ left) := by
  obtain ⟨hk, rfl⟩ := List.getElem?_eq_some_iff.mp h
  rw [List.append_assoc]
  exact List.Perm.append_left day (erase_perm hk)
def letters : List Str := ("abcdefgh" : Str).cps.toList.map fun k => ⟨#[k]⟩
structure SoFar (acc : Fs) (left : List Str) (st : Int) : Prop where
  pm : (acc.map (·.1) ++ left).Perm letters
  lm : ∀ f ∈ acc, 1 ≤ f.2 ∧ f.2 ≤ 30
  eq : st = acc.foldl (fun a f => a * f.2) 1
  lo : 1 ≤ st
  hi : st ≤ 4000
end Z
end
section
namespace Z
open PySem L2 DL
end Z
end
section
namespace Z
open PySem L2 DL
theorem ifp {c : Prop} [Decidable c] {a b : Prop} (h : c) (ha : a) : if c then a else b := by rw [if_pos h]; exact ha
theorem ifn {c : Prop} [Decidable c] {a b : Prop} (h : ¬ c) (hb : b) : if c then a else b := by rw [if_neg h]; exact hb
theorem ift {c : Prop} [Decidable c] {a b : Prop} (h : if c then a else b) (hc : c) : a := by rw [if_pos hc] at h; exact h
theorem ife {c : Prop} [Decidable c] {a b : Prop} (h : if c then a else b) (hc : ¬ c) : b := by rw [if_neg hc] at h; exact h
def Sm (v : Int) : Prop := -1000000000000000000000000 < v ∧ v < 1000000000000000000000000
theorem sm_fm {v : Int} (h : Sm v) : v.natAbs.log2 < 1920 := by
  unfold Sm at h
  by_cases e : v.natAbs = 0
  · rw [e]; decide
  · refine (Nat.log2_lt e).mpr (Nat.lt_of_lt_of_le (m := 2 ^ 80) ?_ (Nat.pow_le_pow_right (by decide) (by decide)))
    have : (2 : Nat) ^ 80 = 1208925819614629174706176 := by decide
    omega
def inR (v lo hi : Int) : Bool := decide (lo ≤ v) && decide (v ≤ hi)
def PtD (t : TED) (ρ : EnvD) : Prop := ∃ y : Str, y.length ≤ 100000 ∧ ∀ P : D → Prop, P (.str y) → t ρ P
theorem pt_c {y : Str} {ρ : EnvD} (h : y.length ≤ 100000) : PtD (dC (.str y)) ρ := ⟨y, h, fun _ q => q⟩
theorem pt_int {i : Nat} {k : Int} {ρ : EnvD} (h : ρ[i]? = some (some (.int k))) (s : Sm k) : PtD (dFmt (dVar i)) ρ := ⟨toString k, int_len (sm_fm s), fun P q => by
  unfold dFmt dVar
  rw [h]
  exact ⟨sm_fm s, q⟩⟩
theorem pt_intR {i : Nat} {k : Int} {ρ : EnvD} (h : ρ[i]? = some (some (.int k))) (s : Sm k) : PtD (dFmtR (dVar i)) ρ := ⟨toString k, int_len (sm_fm s), fun P q => by
  unfold dFmtR dVar
  rw [h]
  exact ⟨sm_fm s, q⟩⟩
theorem djs_of {ρ : EnvD} {P : Str → Prop} (hp : ∀ y, P y) : ∀ {ts : List TED} {acc : Str} {n : Nat}, (∀ t ∈ ts, PtD t ρ) → acc.length ≤ n → n + 100000 * ts.length ≤ 10000000 → dJs ts acc ρ P
  | [], acc, n, _, _, _ => hp acc
  | t :: ts, acc, n, h, ha, hn => by
    obtain ⟨y, hy, k⟩ := h t List.mem_cons_self
    unfold dJs
    rw [List.length_cons] at hn
    refine k _ ⟨?_, djs_of hp (n := n + 100000) (fun t ht => h t (List.mem_cons_of_mem _ ht)) ?_ ?_⟩
    · rw [Str.length_append]; omega
    · rw [Str.length_append]; omega
    · omega
theorem join_of {ρ : EnvD} {P : D → Prop} {ts : List TED} (h : ∀ t ∈ ts, PtD t ρ) (hl : ts.length ≤ 90) (hp : ∀ y : Str, P (.str y)) : dJoin ts ρ P :=
  djs_of (fun y => hp y) (n := 0) h (Nat.le_refl 0) (by omega)
def sp_check_numberX (A : Cs) : SpD := fun ds P x => ∃ v lo hi : Int, ds = [.int v, .int lo, .int hi] ∧ (Sm v ∧ Sm lo ∧ Sm hi) ∧ (if inR v lo hi = true then P .non else x A.InvalidNumber [])
inductive Cart where
  | steady (w : Str) | resting (w : Str) (e d : Int) | shift (w : Str) (a b : Int) | late (w : Str) (f : Int)
def Cart.enc (A : Cs) : Cart → D
  | .steady w => .ins A.Cart ["name"] [.str w]
  | .resting w e d => .ins A.RestingCart ["name", "every", "day"] [.str w, .int e, .int d]
  | .shift w a b => .ins A.ShiftCart ["name", "work", "pause"] [.str w, .int a, .int b]
  | .late w f => .ins A.LateCart ["name", "first"] [.str w, .int f]
def Cart.on : Cart → Int → Bool
  | .steady _, _ => true
  | .resting _ e d, n => !decide (n % e = d)
  | .shift _ a b, n => decide (n % (a + b) < a)
  | .late _ f, n => decide (f ≤ n)
def Cart.ok : Cart → Prop
  | .steady _ => True
  | .resting _ e _ => 0 < e
  | .shift _ a b => 0 < a + b
  | .late _ _ => True
def LAST : Int := 1000000000000000000
theorem len_check_numberX (A : Cs) : ∀ ds P x, sp_check_numberX A ds P x → ds.length = (["value", "low", "high"] : List Str).length := by
  rintro ds P x ⟨_, _, _, rfl, _⟩; rfl
abbrev N_check_numberX : List Str := ["value", "low", "high"]
def D_check_numberX (A : Cs) (x : XD) : TSD := (dIfS (dNot (dTest (dCall (sp_is_number A) x0 (dCons (dVar 0) (dCons (dVar 1) (dCons (dVar 2) dNil)))))) (dRaise0 x A.InvalidNumber (dJoin [(dFmtR (dVar 0)), (dC (.str " is not an integer from ")), (dFmt (dVar 1)), (dC (.str " to ")), (dFmt (dVar 2))])) dNext)
theorem pure_check_numberX (A : Cs) : ∀ ds P x, sp_check_numberX A ds P x → D_check_numberX A x { nx := fun _ => P .non, rt := P } (startD N_check_numberX ds) := by
  rintro ds P x ⟨v, lo, hi, rfl, ⟨s1, s2, s3⟩, hp⟩
  refine ⟨v, lo, hi, rfl, ?_⟩
  show if (!(inR v lo hi)) = true then _ else _
  cases e : inR v lo hi
  · rw [e] at hp
    refine ifp rfl (join_of ?_ (by decide) fun y => ife hp (by decide))
    simp only [List.forall_mem_cons]
    exact ⟨pt_intR (k := v) rfl s1, pt_c (by decide +kernel), pt_int (k := lo) rfl s2, pt_c (by decide +kernel), pt_int (k := hi) rfl s3, fun _ h => nomatch h⟩
  · rw [e] at hp
    exact ifn (by decide) (ift hp rfl)
theorem sm_last : Sm 1000000000000000000 := by unfold Sm; decide
theorem sm_0 : Sm 0 := by unfold Sm; decide
theorem pick_of {ds : List D} {r : Int} {P : D → Prop} (h0 : 0 ≤ r) (h1 : r < ds.length) (h : ∀ d ∈ ds, P d) : rIxD (.lst ds) (.int r) P := by
  have hlt : r.toNat < ds.length := by omega
  exact at_lstD' h0 (List.getElem?_eq_getElem hlt) (h _ (List.getElem_mem hlt))
end Z
end
section
namespace Z
open PySem L2 DL
end Z
end
section
namespace Z
open PySem L2 DL
end Z
end
section
namespace Z
open PySem L2 DL
end Z
end
section
namespace Z
open PySem L2 DL
end Z
end
section
namespace Z
open PySem L2 DL TL
def numT (n : Int) : Str := Str.ofString (toString n)
def rowT (d : Ns) : Str := if d = [] then "-" else Txt.join " " d
def leadT (n : Int) : Str := "lead " ++ numT n
def wordsT (days : List Ns) (lead : Int) : Str := Txt.join "\n" (leadT lead :: days.map rowT)
structure TxOk (days : List Ns) : Prop where
  len : days.length ≤ 5000
  dl : ∀ d ∈ days, d.length ≤ 8
  nm : ∀ d ∈ days, ∀ n ∈ d, isNm n = true
theorem nm_tl {n : Str} (h : isNm n = true) : ∀ c ∈ tl n, 97 ≤ c ∧ c < 123 := fun c hc => by
  have := idx_all c (nm_let h c hc)
  omega
theorem mem_joinL {S : List Nat} {c : Nat} : ∀ {ls : List (List Nat)}, c ∈ joinL S ls → c ∈ S ∨ ∃ l ∈ ls, c ∈ l
  | [], h => nomatch h
  | [p], h => .inr ⟨p, List.mem_cons_self, h⟩
  | p :: q :: r, h => by
    have h : c ∈ p ++ (S ++ joinL S (q :: r)) := h
    rcases List.mem_append.mp h with h | h
    · exact .inr ⟨p, List.mem_cons_self, h⟩
    · rcases List.mem_append.mp h with h | h
      · exact .inl h
      · rcases mem_joinL h with h | ⟨l, hl, h⟩
        · exact .inl h
        · exact .inr ⟨l, List.mem_cons_of_mem _ hl, h⟩
theorem mem_join {y : Str} {ps : List Str} {c : Nat} (h : c ∈ tl (Txt.join y ps)) : c ∈ tl y ∨ ∃ p ∈ ps, c ∈ tl p := by
  rw [join_eq, tl_join] at h
  rcases mem_joinL h with h | ⟨l, hl, h⟩
  · exact .inl h
  · obtain ⟨p, hp, rfl⟩ := List.mem_map.mp hl
    exact .inr ⟨p, hp, h⟩
theorem sp_tl : tl (" " : Str) = [32] := by decide +kernel
theorem nl_tl : tl ("\n" : Str) = [10] := by decide +kernel
theorem dash_tl : tl ("-" : Str) = [45] := by decide +kernel
theorem lead_tl : tl ("lead" : Str) = [108, 101, 97, 100] := by decide +kernel
theorem leads_tl : tl ("lead " : Str) = [108, 101, 97, 100, 32] := by decide +kernel
theorem num_tl {n : Int} (h : 0 ≤ n) : ∀ c ∈ tl (numT n), 48 ≤ c ∧ c ≤ 57 := by
  obtain ⟨k, rfl⟩ : ∃ k : Nat, n = (k : Int) := ⟨n.toNat, by omega⟩
  unfold numT
  rw [tl_num]
  exact numL_digits k
theorem row_tl {d : Ns} (h : ∀ n ∈ d, isNm n = true) : ∀ c ∈ tl (rowT d), c = 32 ∨ c = 45 ∨ (97 ≤ c ∧ c < 123) := by
  intro c hc
  unfold rowT at hc
  by_cases e : d = []
  · rw [if_pos e, dash_tl] at hc
    exact .inr (.inl (List.mem_singleton.mp hc))
  · rw [if_neg e] at hc
    rcases mem_join hc with q | ⟨p, hp, q⟩
    · rw [sp_tl] at q
      exact .inl (List.mem_singleton.mp q)
    · exact .inr (.inr (nm_tl (h p hp) c q))
theorem leadT_tl {n : Int} (h : 0 ≤ n) : ∀ c ∈ tl (leadT n), 32 ≤ c ∧ c < 123 := by
  intro c hc
  unfold leadT at hc
  rw [tl_append] at hc
  rcases List.mem_append.mp hc with q | q
  · rw [leads_tl] at q
    simp only [List.mem_cons, List.not_mem_nil, or_false] at q
    omega
  · have := num_tl h c q
    omega
theorem ok_of_tl {x : Str} {k : Nat} (hk : k ≤ 1114112) (h : ∀ c ∈ tl x, c < k) : PyData.strOk x = true := by
  unfold PyData.strOk
  rw [Array.all_eq_true']
  intro c hc
  have := h c (Array.mem_toList_iff.mpr hc)
  exact decide_eq_true (by omega)
theorem split_words {days : List Ns} {lead : Int} (h0 : 0 ≤ lead) (ok : TxOk days) : Txt.split (wordsT days lead) "\n" = leadT lead :: days.map rowT := by
  refine split_join (s := 10) (S := []) nl_tl (by decide +kernel) (by simp) fun p hp => ?_
  rcases List.mem_cons.mp hp with rfl | hp
  · intro hm
    have := leadT_tl h0 _ hm
    omega
  · obtain ⟨d, hd, rfl⟩ := List.mem_map.mp hp
    intro hm
    have := row_tl (ok.nm d hd) _ hm
    omega
theorem leadT_join (n : Int) : leadT n = Txt.join " " [("lead" : Str), numT n] := by
  have e : tl (leadT n) = tl (Txt.join " " [("lead" : Str), numT n]) := by
    unfold leadT
    rw [join_eq, tl_join, tl_append, leads_tl, sp_tl]
    show _ = tl ("lead" : Str) ++ ([32] ++ tl (numT n))
    rw [lead_tl]
    rfl
  rw [← mk_tl (leadT n), e, mk_tl]
theorem split_lead {n : Int} (h : 0 ≤ n) : Txt.split (leadT n) " " = [("lead" : Str), numT n] := by
  rw [leadT_join]
  refine split_join (s := 32) (S := []) sp_tl (by decide +kernel) (by simp) fun p hp => ?_
  simp only [List.mem_cons, List.not_mem_nil, or_false] at hp
  rcases hp with rfl | rfl
  · rw [lead_tl]; decide
  · intro hm
    have := num_tl h _ hm
    omega
theorem split_row {d : Ns} (h : ∀ n ∈ d, isNm n = true) (hne : d ≠ []) : Txt.split (rowT d) " " = d := by
  unfold rowT
  rw [if_neg hne]
  refine split_join (s := 32) (S := []) sp_tl (by decide +kernel) hne fun p hp => ?_
  intro hm
  have := nm_tl (h p hp) _ hm
  omega
theorem row_dash {d : Ns} (h : ∀ n ∈ d, isNm n = true) : rowT d = "-" ↔ d = [] := by
  constructor
  · intro e
    by_cases hd : d = []
    · exact hd
    · have e2 := split_row h hd
      rw [e] at e2
      have e3 : Txt.split ("-" : Str) " " = [("-" : Str)] := by decide +kernel
      rw [e3] at e2
      have := h "-" (by rw [← e2]; exact List.mem_cons_self)
      have no : isNm "-" = false := by decide +kernel
      rw [no] at this
      cases this
  · rintro rfl
    rfl
theorem sum_le {xs : List Nat} {k : Nat} (h : ∀ x ∈ xs, x ≤ k) : xs.sum ≤ xs.length * k := by
  induction xs with
  | nil => simp
  | cons x r ih =>
    rw [List.sum_cons, List.length_cons, Nat.succ_mul]
    have := h x List.mem_cons_self
    have := ih fun y hy => h y (List.mem_cons_of_mem _ hy)
    omega
theorem join_le {y : Str} {ps : List Str} {k : Nat} (h : ∀ p ∈ ps, p.length ≤ k) : (Txt.join y ps).length ≤ ps.length * (k + y.length) := by
  have h1 := StrLaws.join_length_le y ps
  rw [← join_eq] at h1
  have h2 := sum_le (xs := ps.map (·.length)) (k := k) fun x hx => by
    obtain ⟨p, hp, rfl⟩ := List.mem_map.mp hx
    exact h p hp
  rw [List.length_map] at h2
  rw [Nat.mul_add]
  omega
theorem sp_len : (" " : Str).length = 1 := by decide +kernel
theorem nl_len : ("\n" : Str).length = 1 := by decide +kernel
theorem row_le {d : Ns} (h : ∀ n ∈ d, isNm n = true) (hl : d.length ≤ 8) : (rowT d).length ≤ 72 := by
  unfold rowT
  by_cases e : d = []
  · rw [if_pos e]
    decide +kernel
  · rw [if_neg e]
    have h1 := join_le (y := " ") (ps := d) (k := 8) fun p hp => (nm_len (h p hp)).2
    rw [sp_len] at h1
    omega
theorem num_le {n : Int} (h : 0 ≤ n) (h2 : n < 10000) : (numT n).length ≤ 4 := PyProof.Rows.toString_length_le h (k := 4) (by decide) (by omega)
theorem leadT_le {n : Int} (h : 0 ≤ n) (h2 : n < 10000) : (leadT n).length ≤ 9 := by
  unfold leadT
  rw [Str.length_append]
  have := num_le h h2
  have e : ("lead " : Str).length = 5 := by decide +kernel
  omega
theorem words_le {days : List Ns} {lead : Int} (h0 : 0 ≤ lead) (h1 : lead < 10000) (ok : TxOk days) : (wordsT days lead).length ≤ 366000 := by
  unfold wordsT
  have h := join_le (y := "\n") (ps := leadT lead :: days.map rowT) (k := 72) fun p hp => by
    rcases List.mem_cons.mp hp with rfl | hp
    · have := leadT_le h0 h1
      omega
    · obtain ⟨d, hd, rfl⟩ := List.mem_map.mp hp
      exact row_le (ok.nm d hd) (ok.dl d hd)
  rw [nl_len, List.length_cons, List.length_map] at h
  have := ok.len
  omega
theorem num_is {n : Int} (h : 0 ≤ n) (h2 : n < 10000) : intText? (numT n) = some n := by
  obtain ⟨k, rfl⟩ : ∃ k : Nat, n = (k : Int) := ⟨n.toNat, by omega⟩
  refine int_num ?_
  have := numL_len (n := k) (k := 4) (by decide) (by omega)
  omega
theorem num_head {n : Nat} : (numL n).head? = some 48 → n = 0 := by
  induction n using Nat.strongRecOn with
  | _ n ih =>
    intro h
    by_cases e : n < 10
    · rw [numL_lt e] at h
      have := Option.some.inj h
      omega
    · rw [numL_step (by omega)] at h
      have hne := numL_ne (n / 10)
      have h2 : (numL (n / 10)).head? = some 48 := by
        cases q : numL (n / 10) with
        | nil => exact (hne q).elim
        | cons a b => rw [q] at h; exact h
      have := ih (n / 10) (by omega) h2
      omega
def sp_is_lead (A : Cs) : SpD := fun ds P _ => ∃ n : Int, ds = [.str (numT n)] ∧ 0 ≤ n ∧ n < 10000 ∧ P (.bl true)
def sp_lead_of (A : Cs) : SpD := fun ds P _ => ∃ n : Int, ds = [.str (leadT n)] ∧ 0 ≤ n ∧ n < 10000 ∧ P (.int n)
def sp_names_of (A : Cs) : SpD := fun ds P _ => ∃ (d : Ns) (k : Int), ds = [.str (rowT d), .int k] ∧ d.length ≤ 8 ∧ (∀ n ∈ d, isNm n = true) ∧ P (eN d)
def sp_parse_plan (A : Cs) : SpD := fun ds P _ => ∃ days lead, ds = [.str (wordsT days lead)] ∧ OkPlan days lead ∧ TxOk days ∧ P (ePlan A days lead)
theorem len_is_lead (A : Cs) : ∀ ds P x, sp_is_lead A ds P x → ds.length = (["word"] : List Str).length := by
  rintro ds P x ⟨_, rfl, _⟩; rfl
theorem len_lead_of (A : Cs) : ∀ ds P x, sp_lead_of A ds P x → ds.length = (["row"] : List Str).length := by
  rintro ds P x ⟨_, rfl, _⟩; rfl
theorem len_names_of (A : Cs) : ∀ ds P x, sp_names_of A ds P x → ds.length = (["row", "number"] : List Str).length := by
  rintro ds P x ⟨_, _, rfl, _⟩; rfl
theorem len_parse_plan (A : Cs) : ∀ ds P x, sp_parse_plan A ds P x → ds.length = (["text"] : List Str).length := by
  rintro ds P x ⟨_, _, rfl, _⟩; rfl
abbrev N_is_lead : List Str := ["word", "sign"]
def D_is_lead (A : Cs) : TSD := (dSeq (dIfS (dOr (dNot (dTest (dChain rLeD rLeD (dC (.int 1)) (dCB rLenD (dCons (dVar 0) dNil)) (dC (.int 4))))) (dNot (dTest (dCB rAllD (dCons (dOfN (nLc (iStrD (dVar 0)) (hName 1) dYes (dOp rInSD (dVar 1) (dC (.str "0123456789"))) [1])) dNil))))) (dRet (dC (.bl false))) dNext) (dRet (dOrV (dOp rEqDD (dVar 0) (dC (.str "0"))) (dOp rNeDD (dOp rIxD (dVar 0) (dC (.int 0))) (dC (.str "0"))))))
abbrev N_lead_of : List Str := ["row", "words"]
def D_lead_of (A : Cs) : TSD := (dSeq (dSet 1 (dBM "str" rSplD (dVar 0) (dCons (dC (.str " ")) dNil))) (dSeq (dIfS (dTest (dOp rNeDD (dOp rIxD (dVar 1) (dC (.int 0))) (dC (.str "lead")))) dNever dNext) (dSeq (dIfS (dOr (dTest (dOp rLtD (dCB rLenD (dCons (dVar 1) dNil)) (dC (.int 2)))) (dNot (dTest (dCall (sp_is_lead A) x0 (dCons (dOp rIxD (dVar 1) (dC (.int 1))) dNil))))) dNever dNext) (dSeq (dIfS (dTest (dOp rGtD (dCB rLenD (dCons (dVar 1) dNil)) (dC (.int 2)))) dNever dNext) (dRet (dCB rIntSD (dCons (dOp rIxD (dVar 1) (dC (.int 1))) dNil)))))))
abbrev N_names_of : List Str := ["row", "number", "words", "place", "word"]
def D_names_of (A : Cs) : TSD := (dSeq (dIfS (dTest (dOp rEqDD (dVar 0) (dC (.str "-")))) (dRet (dTup dNil)) dNext) (dSeq (dSet 2 (dBM "str" rSplD (dVar 0) (dCons (dC (.str " ")) dNil))) (dSeq (dFor (iEnumLD (dCons (dVar 2) dNil)) (hTup 2 (hCons (hName 3) (hCons (hName 4) hNil))) (dIfS (dNot (dTest (dCall (sp_is_name A) x0 (dCons (dVar 4) dNil)))) dNever dNext)) (dRet (dCB rTupleD (dCons (dVar 2) dNil))))))
abbrev N_parse_plan : List Str := ["text", "rows", "lead", "days", "place", "row"]
def D_parse_plan (A : Cs) : TSD := (dSeq (dSet 1 (dBM "str" rSplD (dVar 0) (dCons (dC (.str "\n")) dNil))) (dSeq (dSet 2 (dCall (sp_lead_of A) x0 (dCons (dOp rIxD (dVar 1) (dC (.int 0))) dNil))) (dSeq (dSet 3 (dOfN (nLc (iEnumLD (dCons (dSl slLD (dVar 1) (oYes (dC (.int 1))) oNo) dNil)) (hTup 2 (hCons (hName 4) (hCons (hName 5) hNil))) dYes (dCall (sp_names_of A) x0 (dCons (dVar 5) (dCons (dOp rAddD (dVar 4) (dC (.int 1))) dNil))) [4, 5]))) (dRet (dMakeSK (in_Plan A) A.Plan x0 (dVar 3) (dVar 2))))))
theorem num_ok {n : Int} (h : 0 ≤ n) : PyData.strOk (numT n) = true := ok_of_tl (k := 58) (by decide) fun c hc => by have := num_tl h c hc; omega
theorem atI_cons {α : Type} {c : α} {r : List α} : atI (c :: r) 0 = some c := by
  unfold atI ixN
  simp
theorem le_yes {a b : Int} {P : D → Prop} (h : a ≤ b) (hp : P (.bl true)) : rLeD (.int a) (.int b) P := by
  show P (.bl (decide (a ≤ b)))
  rw [decide_eq_true h]
  exact hp
theorem pure_is_lead (A : Cs) : ∀ ds P x, sp_is_lead A ds P x → D_is_lead A { nx := fun _ => P .non, rt := P } (startD N_is_lead ds) := by
  rintro ds P x ⟨n, rfl, h0, h1, hp⟩
  have l4 := num_le h0 h1
  have l1 : 1 ≤ (numT n).length := by
    obtain ⟨k, rfl⟩ : ∃ k : Nat, n = (k : Int) := ⟨n.toNat, by omega⟩
    unfold numT
    rw [len_tl, tl_num]
    exact List.length_pos_iff.mpr (numL_ne k)
  refine ⟨by omega, ?_⟩
  refine ifp (decide_eq_true (by omega)) ?_
  dsimp only [dC]
  refine le_yes (a := ((numT n).length : Int)) (b := 4) (by omega) ?_
  refine ifn (by decide) ?_
  show compD (strD (numT n)) _ _ _ _ _
  rw [strD_map]
  refine comp_of (f := fun k => .bl (("0123456789" : Str).cps.toList.contains k)) (by rw [Array.length_toList]; show (numT n).length ≤ _; omega) (fun k hk Q q => ⟨k, rfl, by rw [List.contains_eq_mem] at q; exact q⟩) ?_
  refine ⟨(tl (numT n)).map fun k => ("0123456789" : Str).cps.toList.contains k, by rw [List.map_map]; rfl, ?_⟩
  have e : ((tl (numT n)).map fun k => ("0123456789" : Str).cps.toList.contains k).all id = true := by
    rw [List.all_map, List.all_eq_true]
    intro k hk
    have := num_tl h0 k hk
    have dg : ∀ j, j < 58 → 48 ≤ j → ("0123456789" : Str).cps.toList.contains j = true := by decide +kernel
    exact dg k (by omega) (by omega)
  rw [e]
  refine ifn (by decide) ?_
  refine eq_str (num_ok h0) (by decide +kernel) ?_
  by_cases e0 : numT n = "0"
  · rw [decide_eq_true e0]
    exact ifp rfl hp
  · rw [decide_eq_false e0]
    refine ifn (by decide) ?_
    show DL.rIxD (.str _) (.int 0) _
    unfold DL.rIxD
    refine ⟨by omega, ?_⟩
    obtain ⟨k, rfl⟩ : ∃ k : Nat, n = (k : Int) := ⟨n.toNat, by omega⟩
    have et : tl (numT (k : Int)) = numL k := tl_num k
    cases q : numL k with
    | nil => exact (numL_ne k q).elim
    | cons c r =>
      have e1 : atI (numT (k : Int)).cps.toList 0 = some c := by
        show atI (tl (numT (k : Int))) 0 = some c
        rw [et, q]
        exact atI_cons
      rw [e1]
      refine ne_str ?_ (by decide +kernel) ?_
      · refine ok_of_tl (k := 58) (by decide) fun j hj => ?_
        have hj : j = c := List.mem_singleton.mp hj
        have := num_tl h0 c (by rw [et, q]; exact List.mem_cons_self)
        omega
      · have hne : ¬ (⟨#[c]⟩ : Str) = "0" := fun z => by
          have z2 : tl (⟨#[c]⟩ : Str) = tl ("0" : Str) := by rw [z]
          have z3 : tl ("0" : Str) = [48] := by decide +kernel
          rw [z3] at z2
          have z4 : c = 48 := by
            have z5 : ([c] : List Nat) = [48] := z2
            exact (List.cons.inj z5).1
          have := num_head (n := k) (by rw [q, z4]; rfl)
          subst this
          exact e0 (by decide +kernel)
        rw [decide_eq_false hne]
        exact hp
theorem pure_lead_of (A : Cs) : ∀ ds P x, sp_lead_of A ds P x → D_lead_of A { nx := fun _ => P .non, rt := P } (startD N_lead_of ds) := by
  rintro ds P x ⟨n, rfl, h0, h1, hp⟩
  refine ⟨rfl, ⟨by decide +kernel, by have := leadT_le h0 h1; omega⟩, ?_⟩
  rw [split_lead h0]
  refine at_lstD' (x := .str "lead") (by decide) rfl (ne_str (by decide +kernel) (by decide +kernel) ?_)
  refine ifn (by decide) ?_
  refine at_lstD' (x := .str (numT n)) (by decide) rfl ⟨n, rfl, h0, h1, ?_⟩
  refine ifn (by decide) ?_
  exact at_lstD' (x := .str (numT n)) (by decide) rfl ⟨by have := num_le h0 h1; omega, n, num_is h0 h1, hp⟩
theorem row_ok {d : Ns} (h : ∀ n ∈ d, isNm n = true) : PyData.strOk (rowT d) = true := ok_of_tl (k := 123) (by decide) fun c hc => by
  have := row_tl h c hc
  omega
theorem pure_names_of (A : Cs) : ∀ ds P x, sp_names_of A ds P x → D_names_of A { nx := fun _ => P .non, rt := P } (startD N_names_of ds) := by
  rintro ds P x ⟨d, k, rfl, hl, hn, hp⟩
  refine eq_str (row_ok hn) (by decide +kernel) ?_
  by_cases e : rowT d = "-"
  · rw [decide_eq_true e]
    have := (row_dash hn).mp e
    subst this
    exact ifp rfl ⟨(by decide : (0 : Nat) ≤ 1000000), hp⟩
  · rw [decide_eq_false e]
    have hne : d ≠ [] := fun z => e ((row_dash hn).mpr z)
    refine ifn (by decide) ⟨rfl, ⟨by decide +kernel, by have := row_le hn hl; omega⟩, ?_⟩
    rw [split_row hn hne]
    show loopD (enD (d.map D.str)) _ _ _ _
    rw [enD_map]
    refine loop_of (fun r ρ => (∀ q ∈ r, q.1 ∈ d) ∧ ∃ a b, ρ = [some (.str (rowT d)), some (.int k), some (.lst (d.map .str)), a, b]) ⟨fun q hq => ?_, none, none, rfl⟩ ?_ ?_
    · exact List.fst_mem_of_mem_zipIdx hq
    · rintro ⟨n, i⟩ r ρ ⟨hr, a, b, rfl⟩ N B R hN hB hR
      have hm := hn n (hr _ List.mem_cons_self)
      refine ⟨rfl, n, rfl, by have := nm_len hm; omega, ?_⟩
      rw [hm]
      exact ifn (by decide) (hN _ ⟨fun q hq => hr q (List.mem_cons_of_mem _ hq), _, _, rfl⟩)
    · rintro ρ ⟨_, a, b, rfl⟩
      exact hp
theorem pure_parse_plan (A : Cs) : ∀ ds P x, sp_parse_plan A ds P x → D_parse_plan A { nx := fun _ => P .non, rt := P } (startD N_parse_plan ds) := by
  rintro ds P x ⟨days, lead, rfl, ok, tx, hp⟩
  have h1 : lead < 10000 := by have := ok.hi; have := ok.len; omega
  refine ⟨rfl, ⟨by decide +kernel, by have := words_le ok.lo h1 tx; omega⟩, ?_⟩
  rw [split_words ok.lo tx]
  refine at_lstD' (x := .str (leadT lead)) (by decide) rfl ⟨lead, rfl, ok.lo, h1, ?_⟩
  show compD (enD (cutD (((leadT lead :: days.map rowT) : List Str).map D.str) (some 1) none)) _ _ _ _ _
  rw [show cutD (((leadT lead :: days.map rowT) : List Str).map D.str) (some 1) none = (days.map rowT).map D.str from cut_from (xs := leadT lead :: days.map rowT) D.str (k := 1) rfl (by rw [List.length_cons]; omega), List.map_map, enD_map]
  refine comp_of (f := fun q : Ns × Nat => eN q.1) (by rw [List.length_zipIdx]; have := ok.len; omega) (fun q hq Q hQ => ?_) ?_
  · have hd := List.fst_mem_of_mem_zipIdx hq
    exact ⟨rfl, q.1, _, rfl, tx.dl _ hd, tx.nm _ hd, hQ⟩
  · have e : (days.zipIdx.map fun q : Ns × Nat => eN q.1) = eDs days := by
      unfold eDs
      have e2 : (days.zipIdx.map fun q : Ns × Nat => eN q.1) = (days.zipIdx.map (·.1)).map eN := by rw [List.map_map]; rfl
      rw [e2, List.zipIdx_map_fst]
    rw [e]
    refine ⟨by unfold eDs; rw [List.length_map]; have := ok.len; omega, days, lead, rfl, ok, hp⟩
end Z
end
section
namespace Z
open PySem L2 DL TL
def sp_check_number (A : Cs) : SpD := fun ds P _ => ∃ v lo hi : Int, ds = [.int v, .int lo, .int hi] ∧ lo ≤ v ∧ v ≤ hi ∧ P .non
def sp_Plan_names_on (A : Cs) : SpD := fun ds P _ => ∃ (days : List Ns) (lead d : Int), ds = [ePlan A days lead, .int d] ∧ OkPlan days lead ∧ 0 ≤ d ∧ P (eN (onDay days lead d))
def sp_Plan_getitem (A : Cs) : SpD := fun ds P _ => ∃ (days : List Ns) (lead d : Int), ds = [ePlan A days lead, .int d] ∧ OkPlan days lead ∧ 0 ≤ d ∧ d ≤ LAST ∧ P (eN (onDay days lead d))
def sp_rlaw_words (A : Cs) : SpD := fun ds P _ => ∃ (days : List Ns) (lead : Int), ds = [.lst (eDs days), .int lead] ∧ 0 ≤ lead ∧ lead < 10000 ∧ TxOk days ∧ P (.str (wordsT days lead))
theorem len_check_number (A : Cs) : ∀ ds P x, sp_check_number A ds P x → ds.length = (["value", "low", "high"] : List Str).length := by
  rintro ds P x ⟨_, _, _, rfl, _⟩; rfl
theorem len_Plan_names_on (A : Cs) : ∀ ds P x, sp_Plan_names_on A ds P x → ds.length = (["self", "day"] : List Str).length := by
  rintro ds P x ⟨_, _, _, rfl, _⟩; rfl
theorem len_Plan_getitem (A : Cs) : ∀ ds P x, sp_Plan_getitem A ds P x → ds.length = (["self", "at"] : List Str).length := by
  rintro ds P x ⟨_, _, _, rfl, _⟩; rfl
abbrev N_check_number : List Str := ["value", "low", "high"]
def D_check_number (A : Cs) : TSD := (dIfS (dNot (dTest (dCall (sp_is_number A) x0 (dCons (dVar 0) (dCons (dVar 1) (dCons (dVar 2) dNil)))))) dNever dNext)
abbrev N_Plan_names_on : List Str := ["self", "day"]
def D_Plan_names_on (A : Cs) : TSD := (dRet (dOp rIxD (dFldC A.Plan "_days" (dVar 0)) (dCall (sp_place A) x0 (dCons (dVar 1) (dCons (dFldC A.Plan "_lead" (dVar 0)) (dCons (dCB rLenD (dCons (dFldC A.Plan "_days" (dVar 0)) dNil)) dNil))))))
abbrev N_Plan_getitem : List Str := ["self", "at"]
def D_Plan_getitem (A : Cs) : TSD := (dSeq (dDrop (dCall (sp_check_number A) x0 (dCons (dVar 1) (dCons (dC (.int 0)) (dCons (dC (.int 1000000000000000000)) dNil))))) (dRet (dMeth A.Plan "_names_on" (sp_Plan_names_on A) x0 (dVar 0) (dCons (dVar 1) dNil))))
abbrev N_rlaw_words : List Str := ["_law_days_here", "_law_lead", "_law_day"]
def D_rlaw_words (A : Cs) : TSD := (dRet (dBM "str" rJoinD (dC (.str "\n")) (dCons (dOp rCatLD (dLst (dCons (dOp rAddSD (dC (.str "lead ")) (dCB rStrID (dCons (dVar 1) dNil))) dNil)) (dOfN (nLc (iLstD (dVar 0)) (hName 2) dYes (dIf (dTest (dOp rNeDD (dVar 2) (dTup dNil))) (dBM "str" rJoinD (dC (.str " ")) (dCons (dVar 2) dNil)) (dC (.str "-"))) [2]))) dNil)))
theorem pure_check_number (A : Cs) : ∀ ds P x, sp_check_number A ds P x → D_check_number A { nx := fun _ => P .non, rt := P } (startD N_check_number ds) := by
  rintro ds P x ⟨v, lo, hi, rfl, h1, h2, hp⟩
  refine ⟨v, lo, hi, rfl, ?_⟩
  show if (!(decide (lo ≤ v) && decide (v ≤ hi))) = true then False else P .non
  rw [decide_eq_true h1, decide_eq_true h2]
  exact hp
theorem pure_Plan_names_on (A : Cs) : ∀ ds P x, sp_Plan_names_on A ds P x → D_Plan_names_on A { nx := fun _ => P .non, rt := P } (startD N_Plan_names_on ds) := by
  rintro ds P x ⟨days, lead, d, rfl, ok, h0, hp⟩
  refine ⟨rfl, rfl, rfl, d, lead, (days.length : Int), ?_, ok.hi, ?_⟩
  · show [D.int d, .int lead, .int ((eDs days).length : Nat)] = _
    unfold eDs
    rw [List.length_map]
  · exact at_tup (x := onDay days lead d) (place_lt ok.lo ok.hi h0).1 (on_get ok.lo ok.hi h0) hp
theorem pure_Plan_getitem (A : Cs) : ∀ ds P x, sp_Plan_getitem A ds P x → D_Plan_getitem A { nx := fun _ => P .non, rt := P } (startD N_Plan_getitem ds) := by
  rintro ds P x ⟨days, lead, d, rfl, ok, h0, h1, hp⟩
  exact ⟨d, 0, 1000000000000000000, rfl, h0, h1, ⟨rfl, by decide⟩, days, lead, d, rfl, ok, h0, hp⟩
theorem eqv_nil {d : Ns} (h : d ≠ []) : PyData.eqv (eN d).py (D.tup []).py = false := by
  cases d with
  | nil => exact (h rfl).elim
  | cons n r => rfl
theorem eN_flat {d : Ns} (h : ∀ n ∈ d, PyData.strOk n = true) : D.flat 60 (eN d) = true := flat_tup' (flatL_map fun n hn => flat_str' (h n hn))
theorem pure_rlaw_words (A : Cs) : ∀ ds P x, sp_rlaw_words A ds P x → D_rlaw_words A { nx := fun _ => P .non, rt := P } (startD N_rlaw_words ds) := by
  rintro ds P x ⟨days, lead, rfl, h0, h1, tx, hp⟩
  have hl := leadT_le h0 h1
  have hn := num_le h0 h1
  have l5 : ("lead " : Str).length = 5 := by decide +kernel
  refine ⟨rfl, sm_fm (by unfold Sm; omega), ⟨by rw [l5]; show 5 + (numT lead).length ≤ _; omega, (by decide : (1 : Nat) ≤ 1000000), ?_⟩⟩
  show compD (days.map eN) _ _ _ _ _
  refine comp_of (f := fun d => .str (rowT d)) (by have := tx.len; omega) (fun d hd Q q => ?_) ?_
  · refine ⟨(by decide : (0 : Nat) ≤ 1000000), ?_⟩
    by_cases e : d = []
    · subst e
      exact ne_same (d := .tup []) (by decide +kernel) (ifn (by decide) q)
    · show rNeDD (eN d) (.tup []) _
      unfold rNeDD
      refine ⟨⟨eN_flat fun n hn => nm_ok (tx.nm d hd n hn), by decide +kernel⟩, ?_⟩
      rw [eqv_nil e]
      refine ifp rfl ⟨rfl, d, rfl, ?_, ?_⟩
      · have := sum_le (xs := d.map (·.length)) (k := 8) fun x hx => by
          obtain ⟨p, hp, rfl⟩ := List.mem_map.mp hx
          exact (nm_len (tx.nm d hd p hp)).2
        rw [List.length_map] at this
        have := tx.dl d hd
        rw [sp_len]
        omega
      · unfold rowT at q
        rw [if_neg e] at q
        exact q
  refine ⟨by rw [List.length_map]; have := tx.len; show 1 + days.length ≤ _; omega, leadT lead :: days.map rowT, ?_, ?_, hp⟩
  · show some ([D.str (leadT lead)] ++ days.map fun d => D.str (rowT d)) = some (D.str (leadT lead) :: (days.map rowT).map D.str)
    rw [List.map_map]
    rfl
  · have := sum_le (xs := (leadT lead :: days.map rowT).map (·.length)) (k := 72) fun x hx => by
      obtain ⟨p, hp, rfl⟩ := List.mem_map.mp hx
      rcases List.mem_cons.mp hp with rfl | hp
      · omega
      · obtain ⟨d, hd, rfl⟩ := List.mem_map.mp hp
        exact row_le (tx.nm d hd) (tx.dl d hd)
    rw [List.length_map, List.length_cons, List.length_map] at this
    have := tx.len
    rw [List.length_cons, List.length_map, nl_len]
    omega
theorem rng0 (n : Nat) : rngD 0 n = (List.range n).map fun k : Nat => D.int (k : Int) := by
  unfold rngD
  refine List.map_congr_left fun k _ => ?_
  rw [Int.zero_add]
end Z
end
section
namespace Z
open PySem L2 DL TL
local macro_rules | `(tactic| walk_at "s0") => `(tactic| (with_reducible first | refine s_cons ?_ | refine s_c ?_ | refine s_nil ?_ | refine s_op ?_ | refine s_cb ?_ | refine s_test ?_ | refine s_call ?_ | refine s_onB ?_ | refine s_next ?_ | refine s_nx ?_ | refine s_set ?_ | refine s_ifS ?_ | refine s_ret ?_ | refine s_ifT ?_ | refine s_ifF ?_ | refine s_rt ?_))
local macro_rules | `(tactic| walk_at "v") => `(tactic| first
  | (with_reducible refine s_varP (d := ?d) ?hi ?ho ?_); (case hi => rfl); (case ho => rfl)
  | (with_reducible refine s_varL (ds := ?ds) ?hi ?_); (case hi => rfl)
  | (with_reducible refine s_varK (kk := ?kk) (ds := ?ds) ?hi ?_); (case hi => rfl)
  | (with_reducible refine s_var (d := ?d) ?hi ?ho ?_); (case hi => rfl); (case ho => rfl))
local macro_rules | `(tactic| walk_at "s1") => `(tactic| (with_reducible first
  | refine s_retN ?_ | refine s_drop ?_ | refine s_setN ?_ | refine s_par ?_ | refine s_onPar ?_ | refine s_parX ?_ | refine s_parX3 ?_ | refine s_parN ?_ | refine s_parN3 ?_ | refine s_xN ?_
  | refine s_for ?_ | refine s_forV ?_ | refine s_asg ?_ | refine s_hName ?_ | refine s_hCons ?_ | refine s_hNil ?_
  | refine s_lst ?_ | refine s_tup ?_ | refine s_nLst ?_ | refine s_and ?_ | refine s_or ?_ | refine s_not ?_ | refine s_if ?_ | refine s_andV ?_ | refine s_orV ?_ | refine s_notV ?_ | refine s_chain ?_
  | refine s_ifN ?_ | refine s_ii ?_ | refine s_isN ?_ | refine s_notN ?_ | refine s_oNo ?_ | refine s_oYes ?_ | refine s_onInt ?_ | refine s_sl ?_ | refine s_slL ?_ | refine s_slT ?_ | refine s_lenL ?_ | refine s_lenT ?_ | refine s_listL ?_ | refine s_listT ?_ | refine s_tupL ?_ | refine s_tupT ?_
  | refine s_ofN ?_ | refine s_lc ?_ | refine s_iLst ?_ | refine s_iTup ?_ | refine s_iStr ?_ | refine s_onLst ?_ | refine s_onTup ?_ | refine s_onStr ?_ | refine s_rng1 ?_ | refine s_rng2 ?_ | refine s_tru ?_ | refine s_truL ?_ | refine s_truT ?_ | refine s_truN ?_ | refine s_truB ?_ | refine s_yes ?_
  | refine s_fld ?_ | refine s_prop ?_ | refine s_onIns ?_ | refine s_meth ?_ | refine s_bm ?_ | refine s_lam ?_
  | refine g_plain ?_ | refine g_nil ?_ | refine g_retN ?_ | refine g_if ?_ | refine g_for ?_ | refine s_isiG ?_ | refine s_onIsiGy ?_ | refine s_onIsiGn ?_ | refine s_callI ?_ | refine s_onCallI ?_ | refine s_listGM ?_ | refine s_listG ?_ | refine s_starS ?_ | refine s_onStarL ?_ | refine s_onStarT ?_ | refine s_makeR ?_ | refine s_makeSK ?_ | refine s_onMakeSKL ?_ | refine s_onMakeSKT ?_ | refine s_binTI ?_ | refine s_binTS ?_ | refine s_binX ?_ | refine s_ixX ?_ | refine s_ixO ?_ | refine s_eqXi ?_ | refine s_eqXt ?_ | refine s_onNegF ?_ | refine s_onNegT ?_ | refine s_lenO ?_ | refine s_intI ?_ | refine s_intB ?_ | refine s_min2 ?_ | refine s_isiO ?_ | refine s_onIsiO ?_ | refine s_pIns ?_ | refine s_pCallI ?_ | refine s_pBin ?_ | refine s_pIx ?_ | refine s_pIxX ?_ | refine s_pEq ?_ | refine s_pIsiO ?_))
local macro_rules | `(tactic| walk_at "s2") => `(tactic| first
  | (with_reducible refine s_onLen ?hl ?_); (case hl => rfl)
  | (with_reducible refine s_onBM ?hl ?_); (case hl => rfl)
  | (with_reducible refine s_hTup ?hl ?_); (case hl => rfl)
  | (with_reducible refine s_onFld (d := ?d) ?hl ?_); (case hl => rfl)
  | (with_reducible refine s_onMeth ?hl ?_); (case hl => first | decide | decide +kernel)
  | (with_reducible refine s_onListGM ?hl ?_); (case hl => first | decide | decide +kernel)
  | (with_reducible refine s_pMeth ?hl ?_); (case hl => first | decide | decide +kernel)
  | (with_reducible refine s_pListGM ?hl ?_); (case hl => first | decide | decide +kernel)
  | (with_reducible refine s_app (ds := ?ds) ?hl ?_); (case hl => rfl)
  | (with_reducible refine eq_int ?_) | (with_reducible refine ne_int ?_))
local macro_rules | `(tactic| walk_at "t") => `(tactic| repeat first | walk_at "s0" | walk_at "v" | walk_at "s1" | walk_at "s2")
local macro_rules | `(tactic| walk_at "s") => `(tactic| repeat first | walk_at "s0" | (with_reducible refine s_seq ?_) | walk_at "v" | walk_at "s1" | walk_at "s2" | (with_reducible refine g_seq ?_))
mutual
def nbf : Nat → D → Bool
  | _, .non => true
  | _, .int _ => true
  | _, .str x => PyData.strOk x
  | n + 1, .tup ds => nbfL n ds
  | n + 1, .lst ds => nbfL n ds
  | _, _ => false
def nbfL : Nat → List D → Bool
  | _, [] => true
  | n, d :: ds => nbf n d && nbfL n ds
end
mutual
theorem nbf_flat : ∀ (n : Nat) (d : D), nbf n d = true → D.flat n d = true
  | _, .non, _ => flat_non'
  | _, .int _, _ => flat_int'
  | n, .str x, h => flat_str' (by cases n <;> (unfold nbf at h; exact h))
  | 0, .tup ds, h => by unfold nbf at h; exact nomatch h
  | n + 1, .tup ds, h => flat_tup' (nbf_flatL n ds (by unfold nbf at h; exact h))
  | 0, .lst ds, h => by unfold nbf at h; exact nomatch h
  | n + 1, .lst ds, h => flat_lst' (nbf_flatL n ds (by unfold nbf at h; exact h))
  | n, .bl _, h => by cases n <;> (unfold nbf at h; exact nomatch h)
  | n, .ins _ _ _, h => by cases n <;> (unfold nbf at h; exact nomatch h)
  | n, .adr _, h => by cases n <;> (unfold nbf at h; exact nomatch h)
  | n, .sem _, h => by cases n <;> (unfold nbf at h; exact nomatch h)
  | n, .dic _ _, h => by cases n <;> (unfold nbf at h; exact nomatch h)
  | n, .own _ _, h => by cases n <;> (unfold nbf at h; exact nomatch h)
  | n, .nest _ _, h => by cases n <;> (unfold nbf at h; exact nomatch h)
theorem nbf_flatL : ∀ (n : Nat) (ds : List D), nbfL n ds = true → D.flatL n ds = true
  | _, [], _ => flatL_nil
  | n, d :: ds, h => by
    unfold nbfL at h
    obtain ⟨h1, h2⟩ := Bool.and_eq_true_iff.mp h
    exact flatL_cons (nbf_flat n d h1) (nbf_flatL n ds h2)
end
mutual
theorem eqv_nb : ∀ (n m : Nat) (d e : D), nbf n d = true → nbf m e = true → (PyData.eqv d.py e.py = true ↔ d = e)
  | n, m, .non, e, h, h2 => by cases e <;> first | (simp [D.py, PyData.eqv]; done) | (cases m <;> (unfold nbf at h2; exact nomatch h2))
  | n, m, .int i, e, h, h2 => by cases e <;> first | (simp [D.py, PyData.eqv]; done) | (cases m <;> (unfold nbf at h2; exact nomatch h2))
  | n, m, .str i, e, h, h2 => by cases e <;> first | (simp [D.py, PyData.eqv]; done) | (cases m <;> (unfold nbf at h2; exact nomatch h2))
  | 0, m, .tup ds, e, h, h2 => by unfold nbf at h; exact nomatch h
  | n + 1, m, .tup ds, e, h, h2 => by
    cases e <;> first
      | (simp [D.py, PyData.eqv]; done)
      | skip
    case tup es =>
      cases m with
      | zero => unfold nbf at h2; exact nomatch h2
      | succ m =>
        unfold nbf at h h2
        have := eqv_nbL n m ds es h h2
        simp only [D.py, PyData.eqv, D.tup.injEq]
        exact this
    all_goals (cases m <;> (unfold nbf at h2; exact nomatch h2))
  | 0, m, .lst ds, e, h, h2 => by unfold nbf at h; exact nomatch h
  | n + 1, m, .lst ds, e, h, h2 => by
    cases e <;> first
      | (simp [D.py, PyData.eqv]; done)
      | skip
    case lst es =>
      cases m with
      | zero => unfold nbf at h2; exact nomatch h2
      | succ m =>
        unfold nbf at h h2
        have := eqv_nbL n m ds es h h2
        simp only [D.py, PyData.eqv, D.lst.injEq]
        exact this
    all_goals (cases m <;> (unfold nbf at h2; exact nomatch h2))
  | n, _, .bl _, _, h, _ => by cases n <;> (unfold nbf at h; exact nomatch h)
  | n, _, .ins _ _ _, _, h, _ => by cases n <;> (unfold nbf at h; exact nomatch h)
  | n, _, .adr _, _, h, _ => by cases n <;> (unfold nbf at h; exact nomatch h)
  | n, _, .sem _, _, h, _ => by cases n <;> (unfold nbf at h; exact nomatch h)
  | n, _, .dic _ _, _, h, _ => by cases n <;> (unfold nbf at h; exact nomatch h)
  | n, _, .own _ _, _, h, _ => by cases n <;> (unfold nbf at h; exact nomatch h)
  | n, _, .nest _ _, _, h, _ => by cases n <;> (unfold nbf at h; exact nomatch h)
theorem eqv_nbL : ∀ (n m : Nat) (ds es : List D), nbfL n ds = true → nbfL m es = true → (PyData.eqvAll (D.pyL ds) (D.pyL es) = true ↔ ds = es)
  | _, _, [], [], _, _ => by simp [D.pyL, PyData.eqvAll]
  | _, _, [], e :: es, _, _ => by simp [D.pyL, PyData.eqvAll]
  | _, _, d :: ds, [], _, _ => by simp [D.pyL, PyData.eqvAll]
  | n, m, d :: ds, e :: es, h, h2 => by
    unfold nbfL at h h2
    obtain ⟨a1, a2⟩ := Bool.and_eq_true_iff.mp h
    obtain ⟨b1, b2⟩ := Bool.and_eq_true_iff.mp h2
    have i1 := eqv_nb n m d e a1 b1
    have i2 := eqv_nbL n m ds es a2 b2
    simp only [D.pyL, PyData.eqvAll, Bool.and_eq_true, List.cons.injEq]
    exact and_congr i1 i2
end
theorem eq_nb {d e : D} {P : D → Prop} (h1 : nbf 60 d = true) (h2 : nbf 60 e = true) {c : Prop} [Decidable c] (hc : c ↔ d = e) (hp : P (.bl (decide c))) : rEqDD d e P := by
  unfold rEqDD
  refine ⟨⟨nbf_flat _ _ h1, nbf_flat _ _ h2⟩, ?_⟩
  have : PyData.eqv d.py e.py = decide c := by
    have i := (eqv_nb 60 60 d e h1 h2).trans hc.symm
    by_cases hh : c
    · rw [decide_eq_true hh]; exact i.mpr hh
    · rw [decide_eq_false hh]; exact Bool.eq_false_iff.mpr fun z => hh (i.mp z)
  rw [this]
  exact hp
theorem ne_nb {d e : D} {P : D → Prop} (h1 : nbf 60 d = true) (h2 : nbf 60 e = true) {c : Prop} [Decidable c] (hc : c ↔ d = e) (hp : P (.bl (!decide c))) : rNeDD d e P := by
  unfold rNeDD
  refine ⟨⟨nbf_flat _ _ h1, nbf_flat _ _ h2⟩, ?_⟩
  have : PyData.eqv d.py e.py = decide c := by
    have i := (eqv_nb 60 60 d e h1 h2).trans hc.symm
    by_cases hh : c
    · rw [decide_eq_true hh]; exact i.mpr hh
    · rw [decide_eq_false hh]; exact Bool.eq_false_iff.mpr fun z => hh (i.mp z)
  rw [this]
  exact hp
theorem nbfL_map {α : Type} {n : Nat} {f : α → D} : ∀ {xs : List α}, (∀ x ∈ xs, nbf n (f x) = true) → nbfL n (xs.map f) = true
  | [], _ => by unfold List.map nbfL; rfl
  | x :: xs, h => by
    rw [List.map_cons]
    unfold nbfL
    rw [h x List.mem_cons_self, nbfL_map fun y hy => h y (List.mem_cons_of_mem _ hy)]
    rfl
theorem nbf_int {n : Nat} {i : Int} : nbf n (.int i) = true := by cases n <;> (unfold nbf; rfl)
theorem nbf_non {n : Nat} : nbf n .non = true := by cases n <;> (unfold nbf; rfl)
theorem nbf_str {n : Nat} {x : Str} (h : PyData.strOk x = true) : nbf n (.str x) = true := by cases n <;> (unfold nbf; exact h)
theorem nbf_tup {n : Nat} {ds : List D} (h : nbfL n ds = true) : nbf (n + 1) (.tup ds) = true := by unfold nbf; exact h
theorem nbf_lst {n : Nat} {ds : List D} (h : nbfL n ds = true) : nbf (n + 1) (.lst ds) = true := by unfold nbf; exact h
theorem nbfL_nil {n : Nat} : nbfL n [] = true := by unfold nbfL; rfl
theorem map_inj {α : Type} {f : α → D} (hf : ∀ x y, f x = f y → x = y) : ∀ {xs ys : List α}, xs.map f = ys.map f → xs = ys
  | [], [], _ => rfl
  | [], _ :: _, h => by simp at h
  | _ :: _, [], h => by simp at h
  | x :: xs, y :: ys, h => by
    simp only [List.map_cons, List.cons.injEq] at h
    rw [hf x y h.1, map_inj hf h.2]
theorem str_inj : ∀ x y : Str, D.str x = D.str y → x = y := fun x y h => by injection h
theorem eN_inj : ∀ x y : Ns, eN x = eN y → x = y := fun x y h => by
  unfold eN at h
  injection h with h
  exact map_inj str_inj h
theorem eDs_inj {x y : List Ns} (h : eDs x = eDs y) : x = y := map_inj eN_inj h
theorem nb_strs {n : Nat} {xs : List Str} (h : ∀ x ∈ xs, PyData.strOk x = true) : nbfL n (xs.map .str) = true := nbfL_map fun x hx => nbf_str (h x hx)
theorem nb_eN {n : Nat} {d : Ns} (h : ∀ x ∈ d, PyData.strOk x = true) : nbf (n + 1) (eN d) = true := nbf_tup (nb_strs h)
theorem nb_eDs {n : Nat} {ds : List Ns} (h : ∀ d ∈ ds, ∀ x ∈ d, PyData.strOk x = true) : nbfL (n + 1) (eDs ds) = true := nbfL_map fun d hd => nb_eN (h d hd)
theorem s_intI {i : Int} {P : D → Prop} (h : P (.int i)) : rIntID [.int i] P := h
theorem s_intB {k : Bool} {P : D → Prop} (h : P (.int (if k then 1 else 0))) : rIntID [.bl k] P := h
theorem s_min2 {i j : Int} {P : D → Prop} (h : P (.int (if j < i then j else i))) : rMin2D [.int i, .int j] P := h
theorem comp_any {α β : Type} {xs : List α} {enc : α → D} {f : β → D} {G : β → Prop} {gd : TGD} {e : TED} {ρ : EnvD} {P : List D → Prop} (hz : xs.length ≤ 1000000)
    (h : ∀ x ∈ xs, ∀ Q : D → Prop, (∀ y, G y → Q (f y)) → gd (enc x) ρ fun ρ2 => e ρ2 Q) (hp : ∀ ys : List β, ys.length = xs.length → (∀ y ∈ ys, G y) → P (ys.map f)) : compD (xs.map enc) gd dYes e ρ P := by
  unfold compD
  refine ⟨fun i acc => ∃ ys : List β, acc = ys.map f ∧ ys.length = i ∧ ∀ y ∈ ys, G y, ⟨[], rfl, rfl, fun _ h => nomatch h⟩, fun i d acc hi hj => ?_, fun acc hj => ?_⟩
  · rw [List.getElem?_map] at hi
    cases hx : xs[i]? with
    | none => rw [hx] at hi; cases hi
    | some x =>
      rw [hx] at hi
      cases hi
      have lt := (List.getElem?_eq_some_iff.mp hx).1
      obtain ⟨ys, rfl, hl, hg⟩ := hj
      refine ⟨by rw [List.length_map]; omega, h x (List.mem_of_getElem? hx) _ fun y hy => ⟨ys ++ [y], by rw [List.map_append]; rfl, by rw [List.length_append, hl]; rfl, fun z hz => ?_⟩⟩
      rcases List.mem_append.mp hz with q | q
      · exact hg z q
      · rw [List.mem_singleton.mp q]; exact hy
  · obtain ⟨ys, rfl, hl, hg⟩ := hj
    rw [List.length_map] at hl
    exact hp ys hl hg
def onIsiO (C : Addr) (P : D → Prop) : D → Prop := fun d => match d with
  | .ins C' _ _ => C' = C ∧ P (.bl true)
  | _ => False
section
variable {a : TED} {as : TAD} {ρ : EnvD} {P : D → Prop} {C : Addr} {fn : List Str} {ds : List D}
theorem s_isiO (h : a ρ (onIsiO C P)) : dIsiO C a ρ P := h
theorem s_onIsiO (h : P (.bl true)) : onIsiO C P (.ins C fn ds) := ⟨rfl, h⟩
end
theorem s_nx {N B C : EnvD → Prop} {R : D → Prop} {ρ : EnvD} (h : N ρ) : EndsD.nx ⟨N, R, B, C⟩ ρ := h
theorem s_rt {N B C : EnvD → Prop} {R : D → Prop} {d : D} (h : R d) : EndsD.rt ⟨N, R, B, C⟩ d := h
theorem ne_sn {d : D} {P : D → Prop} (h : nbf 60 d = true) (hp : P (.bl false)) : rNeDD d d P := ne_same (nbf_flat _ _ h) hp
section
variable {i j l : Nat} {a b c : TED} {as bs : TAD} {p : TTD} {d1 d2 body : TSD} {ρ : EnvD} {N B C : EnvD → Prop} {R : D → Prop}
theorem t_seq (h : d1 ⟨d2 ⟨N, R, B, C⟩, R, B, C⟩ ρ) : dSeq d1 d2 ⟨N, R, B, C⟩ ρ := h
theorem t_next (h : N ρ) : dNext ⟨N, R, B, C⟩ ρ := h
theorem t_ret (h : a (view ρ) R) : dRet a ⟨N, R, B, C⟩ ρ := h
theorem t_retN (h : R .non) : dRetN ⟨N, R, B, C⟩ ρ := h
theorem t_drop (h : a (view ρ) fun _ => N ρ) : dDrop a ⟨N, R, B, C⟩ ρ := h
theorem t_set (h : a ρ fun d => N (ρ.set i (some d))) : dSet i a ⟨N, R, B, C⟩ ρ := h
theorem t_setN (h : as ρ fun ds => N (ρ.set i (some (.own .lst ds)))) : dSetN i as ⟨N, R, B, C⟩ ρ := h
theorem t_par (h : as ρ (onPar i j N ρ)) : dPar i j as ⟨N, R, B, C⟩ ρ := h
theorem t_parX {a b : TXD} (h : a ρ fun d => b ρ fun e => N ((ρ.set i (some d)).set j (some e))) : dParX i j a b ⟨N, R, B, C⟩ ρ := h
theorem t_parX3 {a b t : TXD} (h : a ρ fun d => b ρ fun e => t ρ fun g => N (((ρ.set i (some d)).set j (some e)).set l (some g))) : dParX3 i j l a b t ⟨N, R, B, C⟩ ρ := h
theorem t_parN (h : as ρ fun ds => bs ρ fun es => N ((ρ.set i (some (.own .lst ds))).set j (some (.own .lst es)))) : dParN i j as bs ⟨N, R, B, C⟩ ρ := h
theorem t_parN3 {t : TED} (h : as ρ fun ds => bs ρ fun es => t ρ fun d => N (((ρ.set i (some (.own .lst ds))).set j (some (.own .lst es))).set l (some d))) : dParN3 i j l as bs t ⟨N, R, B, C⟩ ρ := h
theorem t_asg {gd : TGD} (h : a ρ fun d => gd d ρ N) : dAsg a gd ⟨N, R, B, C⟩ ρ := h
end
section
variable {g1 g2 : TGnD} {ds : List D} {ρ : EnvD} {N B C : List D → EnvD → Prop} {R : List D → D → Prop}
theorem t_gseq (h : g1 ⟨fun ds' ρ' => g2 ⟨N, R, B, C⟩ ds' ρ', R, B, C⟩ ds ρ) : gSeq g1 g2 ⟨N, R, B, C⟩ ds ρ := h
theorem t_gplain {t : TSD} (h : t ⟨N ds, fun _ => False, B ds, C ds⟩ ρ) : gPlain t ⟨N, R, B, C⟩ ds ρ := h
end
end Z
end
section
namespace Z
open PySem L2 DL TL
local macro_rules | `(tactic| walk_at "s0") => `(tactic| (with_reducible first | refine t_next ?_ | refine t_ret ?_ | refine t_set ?_ | refine s_ifS ?_ | refine s_cons ?_ | refine s_c ?_ | refine s_nil ?_ | refine s_op ?_ | refine s_cb ?_ | refine s_test ?_ | refine s_call ?_ | refine s_onB ?_ | refine s_ifT ?_ | refine s_ifF ?_))
local macro_rules | `(tactic| walk_at "v") => `(tactic| first
  | (with_reducible refine s_varP (d := ?d) ?hi ?ho ?_); (case hi => rfl); (case ho => rfl)
  | (with_reducible refine s_varL (ds := ?ds) ?hi ?_); (case hi => rfl)
  | (with_reducible refine s_varK (kk := ?kk) (ds := ?ds) ?hi ?_); (case hi => rfl)
  | (with_reducible refine s_var (d := ?d) ?hi ?ho ?_); (case hi => rfl); (case ho => rfl))
local macro_rules | `(tactic| walk_at "s1") => `(tactic| (with_reducible first
  | refine t_retN ?_ | refine t_drop ?_ | refine t_setN ?_ | refine t_par ?_ | refine t_parX ?_ | refine t_parX3 ?_ | refine t_parN ?_ | refine t_parN3 ?_ | refine t_asg ?_ | refine t_gplain ?_
  | refine s_next ?_ | refine s_ret ?_ | refine s_set ?_ | refine s_retN ?_ | refine s_drop ?_ | refine s_setN ?_ | refine s_par ?_ | refine s_onPar ?_ | refine s_parX ?_ | refine s_parX3 ?_ | refine s_parN ?_ | refine s_parN3 ?_ | refine s_xN ?_
  | refine s_for ?_ | refine s_forV ?_ | refine s_asg ?_ | refine s_hName ?_ | refine s_hCons ?_ | refine s_hNil ?_
  | refine s_lst ?_ | refine s_tup ?_ | refine s_nLst ?_ | refine s_and ?_ | refine s_or ?_ | refine s_not ?_ | refine s_if ?_ | refine s_andV ?_ | refine s_orV ?_ | refine s_notV ?_ | refine s_chain ?_
  | refine s_ifN ?_ | refine s_ii ?_ | refine s_isN ?_ | refine s_notN ?_ | refine s_oNo ?_ | refine s_oYes ?_ | refine s_onInt ?_ | refine s_sl ?_ | refine s_slL ?_ | refine s_slT ?_ | refine s_lenL ?_ | refine s_lenT ?_ | refine s_listL ?_ | refine s_listT ?_ | refine s_tupL ?_ | refine s_tupT ?_
  | refine s_ofN ?_ | refine s_lc ?_ | refine s_iLst ?_ | refine s_iTup ?_ | refine s_iStr ?_ | refine s_onLst ?_ | refine s_onTup ?_ | refine s_onStr ?_ | refine s_rng1 ?_ | refine s_rng2 ?_ | refine s_tru ?_ | refine s_truL ?_ | refine s_truT ?_ | refine s_truN ?_ | refine s_truB ?_ | refine s_yes ?_
  | refine s_fld ?_ | refine s_prop ?_ | refine s_onIns ?_ | refine s_meth ?_ | refine s_bm ?_ | refine s_lam ?_
  | refine g_plain ?_ | refine g_nil ?_ | refine g_retN ?_ | refine g_if ?_ | refine g_for ?_ | refine s_isiG ?_ | refine s_onIsiGy ?_ | refine s_onIsiGn ?_ | refine s_callI ?_ | refine s_onCallI ?_ | refine s_listGM ?_ | refine s_listG ?_ | refine s_starS ?_ | refine s_onStarL ?_ | refine s_onStarT ?_ | refine s_makeR ?_ | refine s_makeSK ?_ | refine s_onMakeSKL ?_ | refine s_onMakeSKT ?_ | refine s_binTI ?_ | refine s_binTS ?_ | refine s_binX ?_ | refine s_ixX ?_ | refine s_ixO ?_ | refine s_eqXi ?_ | refine s_eqXt ?_ | refine s_onNegF ?_ | refine s_onNegT ?_ | refine s_lenO ?_ | refine s_intI ?_ | refine s_intB ?_ | refine s_min2 ?_ | refine s_isiO ?_ | refine s_onIsiO ?_ | refine s_pIns ?_ | refine s_pCallI ?_ | refine s_pBin ?_ | refine s_pIx ?_ | refine s_pIxX ?_ | refine s_pEq ?_ | refine s_pIsiO ?_))
local macro_rules | `(tactic| walk_at "s2") => `(tactic| first
  | (with_reducible refine s_onLen ?hl ?_); (case hl => rfl)
  | (with_reducible refine s_onBM ?hl ?_); (case hl => rfl)
  | (with_reducible refine s_hTup ?hl ?_); (case hl => rfl)
  | (with_reducible refine s_onFld (d := ?d) ?hl ?_); (case hl => rfl)
  | (with_reducible refine s_onMeth ?hl ?_); (case hl => first | decide | decide +kernel)
  | (with_reducible refine s_onListGM ?hl ?_); (case hl => first | decide | decide +kernel)
  | (with_reducible refine s_pMeth ?hl ?_); (case hl => first | decide | decide +kernel)
  | (with_reducible refine s_pListGM ?hl ?_); (case hl => first | decide | decide +kernel)
  | (with_reducible refine s_app (ds := ?ds) ?hl ?_); (case hl => rfl)
  | (with_reducible refine eq_int ?_) | (with_reducible refine ne_int ?_))
local macro_rules | `(tactic| walk_at "t") => `(tactic| repeat first | walk_at "s0" | walk_at "v" | walk_at "s1" | walk_at "s2")
local macro_rules | `(tactic| walk_at "s") => `(tactic| repeat first | walk_at "s0" | (with_reducible refine t_seq ?_) | walk_at "v" | (with_reducible refine s_seq ?_) | walk_at "s1" | walk_at "s2" | (with_reducible refine t_gseq ?_) | (with_reducible refine g_seq ?_))
def shD (days : List Ns) (lead n : Int) : List Ns := if n < lead then days.drop n.toNat else days.drop (mPlace n lead days.length).toNat ++ (days.take (mPlace n lead days.length).toNat).drop lead.toNat
def shL (lead n : Int) : Int := if n < lead then lead - n else 0
def mCall (days : List Ns) (lead : Int) (nm : Str) (day : Int) : Option Int := (rngI day days.length).find? fun d => decide (nm ∈ onDay days lead d)
def mHarv (days : List Ns) (lead : Int) (nm : Str) (first last : Int) : List Int := (rngI first (last + 1 - first).toNat).filter fun d => decide (nm ∈ onDay days lead d)
def eOptI : Option Int → D
  | none => .non
  | some d => .int d
def StrsOk (days : List Ns) : Prop := ∀ d ∈ days, ∀ n ∈ d, PyData.strOk n = true
theorem sh_ok {days : List Ns} {lead n : Int} (ok : OkPlan days lead) (h0 : 0 ≤ n) : OkPlan (shD days lead n) (shL lead n) := by
  obtain ⟨o1, o2, o3, o4⟩ := ok
  unfold shD shL
  by_cases h : n < lead
  · rw [if_pos h, if_pos h]
    exact ⟨by rw [List.length_drop]; omega, fun d hd => o2 d (List.mem_of_mem_drop hd), by omega, by rw [List.length_drop]; omega⟩
  · rw [if_neg h, if_neg h]
    have pl := place_lt o3 o4 h0
    have pl2 : lead ≤ mPlace n lead days.length := by
      unfold mPlace
      split
      · omega
      · have := Int.emod_nonneg (n - lead) (show (days.length : Int) - lead ≠ 0 by omega)
        omega
    generalize mPlace n lead days.length = p at pl pl2
    refine ⟨?_, fun d hd => ?_, by decide, ?_⟩
    · rw [List.length_append, List.length_drop, List.length_drop, List.length_take]; omega
    · rcases List.mem_append.mp hd with q | q
      · exact o2 d (List.mem_of_mem_drop q)
      · exact o2 d (List.mem_of_mem_take (List.mem_of_mem_drop q))
    · rw [List.length_append, List.length_drop, List.length_drop, List.length_take]; omega
def sp_Plan_rshiftX (A : Cs) : SpD := fun ds P x => ∃ (days : List Ns) (lead n : Int), ds = [ePlan A days lead, .int n] ∧ OkPlan days lead ∧ Sm n ∧ (if inR n 0 LAST = true then P (ePlan A (shD days lead n) (shL lead n)) else x A.InvalidNumber [])
def sp_Plan_eq (A : Cs) : SpD := fun ds P _ => ∃ (days : List Ns) (lead : Int), (∃ (d2 : List Ns) (l2 : Int), ds = [ePlan A days lead, ePlan A d2 l2] ∧ StrsOk days ∧ StrsOk d2 ∧ P (.bl (decide (days = d2) && decide (lead = l2)))) ∨ ∃ es, ds = [ePlan A days lead, .tup es] ∧ P (.bl false)
def sp_Plan_callX (A : Cs) : SpD := fun ds P x => ∃ (days : List Ns) (lead : Int) (nm : Str) (n : Int), ds = [ePlan A days lead, .str nm, .int n] ∧ OkPlan days lead ∧ Sm n ∧ (if inR n 0 LAST = true then P (eOptI (mCall days lead nm n)) else x A.InvalidNumber [])
def okSpan (first last : Int) : Bool := inR first 0 LAST && (inR last 0 LAST && (decide (first ≤ last) && decide (last - first < 10000)))
def sp_Plan_harvests (A : Cs) : SpGD := fun ds P x => ∃ (days : List Ns) (lead : Int) (nm : Str) (first last : Int), ds = [ePlan A days lead, .str nm, .int first, .int last] ∧ OkPlan days lead ∧ Sm first ∧ Sm last ∧ (if okSpan first last = true then P ((mHarv days lead nm first last).map .int) else x A.InvalidNumber [])
theorem len_Plan_rshiftX (A : Cs) : ∀ ds P x, sp_Plan_rshiftX A ds P x → ds.length = (["self", "other"] : List Str).length := by
  rintro ds P x ⟨_, _, _, rfl, _⟩; rfl
theorem len_Plan_eq (A : Cs) : ∀ ds P x, sp_Plan_eq A ds P x → ds.length = (["self", "other"] : List Str).length := by
  rintro ds P x ⟨_, _, ⟨_, _, rfl, _⟩ | ⟨_, rfl, _⟩⟩ <;> rfl
theorem len_Plan_callX (A : Cs) : ∀ ds P x, sp_Plan_callX A ds P x → ds.length = (["self", "name", "day"] : List Str).length := by
  rintro ds P x ⟨_, _, _, _, rfl, _⟩; rfl
theorem len_Plan_harvests (A : Cs) : ∀ ds P x, sp_Plan_harvests A ds P x → ds.length = (["self", "name", "first", "last"] : List Str).length := by
  rintro ds P x ⟨_, _, _, _, _, rfl, _⟩; rfl
abbrev N_Plan_rshiftX : List Str := ["self", "other", "days", "lead", "place"]
def D_Plan_rshiftX (A : Cs) (x : XD) : TSD := (dSeq (dDrop (dCall (sp_check_numberX A) x (dCons (dVar 1) (dCons (dC (.int 0)) (dCons (dC (.int 1000000000000000000)) dNil))))) (dSeq (dIfS (dTest (dOp rLtD (dVar 1) (dFldC A.Plan "_lead" (dVar 0)))) (dSeq (dSet 2 (dSl slTD (dFldC A.Plan "_days" (dVar 0)) (oYes (dVar 1)) oNo)) (dSeq (dSet 3 (dOp rSubD (dFldC A.Plan "_lead" (dVar 0)) (dVar 1))) (dRet (dMakeSK (in_Plan A) A.Plan x0 (dVar 2) (dVar 3))))) dNext) (dSeq (dSet 4 (dCall (sp_place A) x0 (dCons (dVar 1) (dCons (dFldC A.Plan "_lead" (dVar 0)) (dCons (dCB rLenD (dCons (dFldC A.Plan "_days" (dVar 0)) dNil)) dNil))))) (dSeq (dSet 2 (dOp rCatTD (dSl slTD (dFldC A.Plan "_days" (dVar 0)) (oYes (dVar 4)) oNo) (dSl slTD (dFldC A.Plan "_days" (dVar 0)) (oYes (dFldC A.Plan "_lead" (dVar 0))) (oYes (dVar 4))))) (dRet (dMakeR (indD (in_Plan A) 0) A.Plan x0 (dStar (dVar 2) dNil)))))))
abbrev N_Plan_eq : List Str := ["self", "other"]
def D_Plan_eq (A : Cs) : TSD := (dRet (dAndV (dIsiG A.Plan (dVar 1)) (dAndV (dOp rEqDD (dFldC A.Plan "_days" (dVar 0)) (dFldC A.Plan "_days" (dVar 1))) (dOp rEqDD (dFldC A.Plan "_lead" (dVar 0)) (dFldC A.Plan "_lead" (dVar 1))))))
abbrev N_Plan_callX : List Str := ["self", "name", "day", "later"]
def D_Plan_callX (A : Cs) (x : XD) : TSD := (dSeq (dDrop (dCall (sp_check_numberX A) x (dCons (dVar 2) (dCons (dC (.int 0)) (dCons (dC (.int 1000000000000000000)) dNil))))) (dSeq (dFor (iRng2D (dCons (dVar 2) (dCons (dOp rAddD (dVar 2) (dCB rLenD (dCons (dFldC A.Plan "_days" (dVar 0)) dNil))) dNil))) (hName 3) (dIfS (dTest (dOp (rInD false) (dVar 1) (dMeth A.Plan "_names_on" (sp_Plan_names_on A) x0 (dVar 0) (dCons (dVar 3) dNil)))) (dRet (dVar 3)) dNext)) (dRet (dC .non))))
abbrev N_Plan_harvests : List Str := ["self", "name", "first", "last", "day"]
def D_Plan_harvests (A : Cs) (x : XD) : TGnD := (gSeq (gPlain (dDrop (dCall (sp_check_numberX A) x (dCons (dVar 2) (dCons (dC (.int 0)) (dCons (dC (.int 1000000000000000000)) dNil)))))) (gSeq (gPlain (dDrop (dCall (sp_check_numberX A) x (dCons (dVar 3) (dCons (dC (.int 0)) (dCons (dC (.int 1000000000000000000)) dNil)))))) (gSeq (gPlain (dIfS (dOr (dTest (dOp rLtD (dVar 3) (dVar 2))) (dTest (dOp rGeD (dOp rSubD (dVar 3) (dVar 2)) (dC (.int 10000))))) (dRaise0 x A.InvalidNumber (dJoin [(dC (.str "there are not 1 to ")), (dFmt (dC (.int 10000))), (dC (.str " days from ")), (dFmt (dVar 2)), (dC (.str " to ")), (dFmt (dVar 3))])) dNext)) (gSeq (gFor (iRng2D (dCons (dVar 2) (dCons (dOp rAddD (dVar 3) (dC (.int 1))) dNil))) (hName 4) (gSeq (gIf (dTest (dOp (rInD false) (dVar 1) (dMeth A.Plan "_names_on" (sp_Plan_names_on A) x0 (dVar 0) (dCons (dVar 4) dNil)))) (gSeq (gYield (dVar 4)) gNil) gNil) gNil)) gNil))))
theorem eDs_len (days : List Ns) : (eDs days).length = days.length := by unfold eDs; exact List.length_map ..
theorem chk_step {A : Cs} {v lo hi : Int} {P : D → Prop} {x : XD} (h1 : Sm v) (h2 : Sm lo) (h3 : Sm hi) (hy : inR v lo hi = true → P .non) (hn : inR v lo hi = false → x A.InvalidNumber []) : sp_check_numberX A [.int v, .int lo, .int hi] P x := by
  refine ⟨v, lo, hi, rfl, ⟨h1, h2, h3⟩, ?_⟩
  cases e : inR v lo hi
  · exact ifn (by decide) (hn e)
  · exact ifp rfl (hy e)
theorem inR_iff {v lo hi : Int} : inR v lo hi = true ↔ lo ≤ v ∧ v ≤ hi := by unfold inR; simp only [Bool.and_eq_true, decide_eq_true_eq]
theorem pure_Plan_eq (A : Cs) : ∀ ds P x, sp_Plan_eq A ds P x → D_Plan_eq A { nx := fun _ => P .non, rt := P } (startD N_Plan_eq ds) := by
  rintro ds P x ⟨days, lead, ⟨d2, l2, rfl, s1, s2, hp⟩ | ⟨es, rfl, hp⟩⟩
  · unfold D_Plan_eq ePlan
    walk_at "s"
    refine eq_nb (nbf_tup (nb_eDs s1)) (nbf_tup (nb_eDs s2)) (c := days = d2) ⟨fun h => by rw [h], fun h => eDs_inj (by injection h)⟩ ?_
    walk_at "s"
    refine s_ifD (fun h => ?_) fun h => ?_
    · walk_at "s"
      rw [decide_eq_true h, Bool.true_and] at hp
      exact hp
    · rw [decide_eq_false h, Bool.false_and] at hp
      exact hp
  · unfold D_Plan_eq ePlan
    walk_at "s"
    exact hp
theorem in_day {x : Str} {d : Ns} {P : D → Prop} (hp : P (.bl (decide (x ∈ d)))) : rInD false (.str x) (eN d) P := in_str (xs := d) false rfl hp
theorem pure_Plan_callX (A : Cs) : ∀ ds P x, sp_Plan_callX A ds P x → D_Plan_callX A x { nx := fun _ => P .non, rt := P } (startD N_Plan_callX ds) := by
  rintro ds P x ⟨days, lead, nm, n, rfl, ok, s, hp⟩
  unfold D_Plan_callX ePlan
  walk_at "s"
  refine chk_step s sm_0 sm_last (fun hr => ?_) fun hr => ?_
  · replace hr : inR n 0 LAST = true := hr
    rw [if_pos hr] at hp
    obtain ⟨n0, n1⟩ := inR_iff.mp hr
    have hL : LAST = 1000000000000000000 := rfl
    have lz := ok.len
    walk_at "s"
    rw [eDs_len]
    refine s_onRng2 ⟨by omega, by omega⟩ ⟨by omega, by omega⟩ ?_
    rw [rngD_map, show (n + (days.length : Int) - n).toNat = days.length by omega]
    refine loop_of (xs := rngI n days.length) (fun r ρ => (∀ d ∈ r, 0 ≤ d) ∧ (∃ y, ρ = [some (ePlan A days lead), some (.str nm), some (.int n), y]) ∧ r.find? (fun d => decide (nm ∈ onDay days lead d)) = mCall days lead nm n) ⟨fun d hd => by have := (rngI_mem hd).1; omega, ⟨none, rfl⟩, rfl⟩ ?_ ?_
    · rintro d r ρ ⟨h0, ⟨y, rfl⟩, hf⟩ N B R hN hB hR
      unfold ePlan
      walk_at "s"
      refine ⟨days, lead, d, rfl, ok, h0 d List.mem_cons_self, ?_⟩
      refine in_day ?_
      walk_at "s"
      refine s_ifD (fun h => ?_) fun h => ?_
      · walk_at "s"
        rw [List.find?_cons_of_pos (by exact decide_eq_true h)] at hf
        rw [← hf] at hp
        rw [hR]
        exact hp
      · walk_at "s"
        rw [List.find?_cons_of_neg (by rw [decide_eq_true_eq]; exact h)] at hf
        exact hN _ ⟨fun e he => h0 e (List.mem_cons_of_mem _ he), ⟨_, rfl⟩, hf⟩
    · rintro ρ ⟨_, ⟨y, rfl⟩, hf⟩
      walk_at "s"
      rw [← hf] at hp
      exact hp
  · exact ife hp (by rw [show inR n 0 LAST = false from hr]; decide)
theorem pure_Plan_rshiftX (A : Cs) : ∀ ds P x, sp_Plan_rshiftX A ds P x → D_Plan_rshiftX A x { nx := fun _ => P .non, rt := P } (startD N_Plan_rshiftX ds) := by
  rintro ds P x ⟨days, lead, n, rfl, ok, s, hp⟩
  unfold D_Plan_rshiftX ePlan
  walk_at "s"
  refine chk_step s sm_0 sm_last (fun hr => ?_) fun hr => ?_
  · replace hr : inR n 0 LAST = true := hr
    rw [if_pos hr] at hp
    obtain ⟨n0, n1⟩ := inR_iff.mp hr
    have sok := sh_ok ok n0
    have o3 := ok.lo
    have o4 := ok.hi
    have o1 := ok.len
    unfold shD shL at hp sok
    walk_at "s"
    refine s_ifD (fun h => ?_) fun h => ?_
    · rw [if_pos h, if_pos h] at hp sok
      walk_at "s"
      have e : cutD (eDs days) (some n) none = eDs (days.drop n.toNat) := cut_from (k := n.toNat) eN (by omega) (by omega)
      rw [e]
      refine ⟨by rw [eDs_len, List.length_drop]; omega, ?_⟩
      exact ⟨_, _, rfl, sok, hp⟩
    · rw [if_neg h, if_neg h] at hp sok
      have pl := place_lt o3 o4 n0
      have pl2 : lead ≤ mPlace n lead days.length := by
        unfold mPlace
        split
        · omega
        · have := Int.emod_nonneg (n - lead) (show (days.length : Int) - lead ≠ 0 by omega)
          omega
      walk_at "s"
      rw [eDs_len]
      refine ⟨n, lead, _, rfl, o4, ?_⟩
      generalize mPlace n lead days.length = p at pl pl2 hp sok
      walk_at "s"
      have e1 : cutD (eDs days) (some p) none = eDs (days.drop p.toNat) := cut_from (k := p.toNat) eN (by omega) (by omega)
      have e2 : cutD (eDs days) (some lead) (some p) = eDs ((days.take p.toNat).drop lead.toNat) := by
        unfold eDs
        rw [cut_map, show lead = ((lead.toNat : Nat) : Int) by omega, show p = ((p.toNat : Nat) : Int) by omega, HT.sIx_nat, HT.sIx_nat, Nat.min_eq_left (by omega), Nat.min_eq_left (by omega)]
        congr 1
        rw [List.drop_take]
        rfl
      rw [e1, e2]
      refine ⟨by rw [eDs_len, eDs_len, List.length_drop, List.length_drop, List.length_take]; omega, ?_⟩
      have e3 : eDs (days.drop p.toNat) ++ eDs ((days.take p.toNat).drop lead.toNat) = eDs (days.drop p.toNat ++ (days.take p.toNat).drop lead.toNat) := by unfold eDs; rw [List.map_append]
      rw [e3]
      walk_at "s"
      rw [List.append_nil]
      refine ⟨by rw [eDs_len, List.length_append, List.length_drop, List.length_drop, List.length_take]; omega, ?_⟩
      exact ⟨_, rfl, _, _, rfl, sok, hp⟩
  · exact ife hp (by rw [show inR n 0 LAST = false from hr]; decide)
theorem pure_Plan_harvests (A : Cs) : ∀ ds P x, sp_Plan_harvests A ds P x → D_Plan_harvests A x { nx := fun es _ => P es, rt := fun es d => d = .non ∧ P es } [] (startD N_Plan_harvests ds) := by
  rintro ds P x ⟨days, lead, nm, first, last, rfl, ok, s1, s2, hp⟩
  unfold okSpan at hp
  unfold D_Plan_harvests ePlan
  walk_at "s"
  refine chk_step s1 sm_0 sm_last (fun hr => ?_) fun hr => ife hp (by rw [show inR first 0 LAST = false from hr, Bool.false_and]; decide)
  replace hr : inR first 0 LAST = true := hr
  rw [hr, Bool.true_and] at hp
  walk_at "s"
  refine chk_step s2 sm_0 sm_last (fun hr2 => ?_) fun hr2 => ife hp (by rw [show inR last 0 LAST = false from hr2, Bool.false_and]; decide)
  replace hr2 : inR last 0 LAST = true := hr2
  rw [hr2, Bool.true_and] at hp
  obtain ⟨a0, a1⟩ := inR_iff.mp hr
  obtain ⟨b0, b1⟩ := inR_iff.mp hr2
  have hL : LAST = 1000000000000000000 := rfl
  have bad : ¬ (first ≤ last ∧ last - first < 10000) → x A.InvalidNumber [] := fun h => ife hp (by simp only [Bool.and_eq_true, decide_eq_true_eq]; exact h)
  have rz : x A.InvalidNumber [] → dRaise0 x A.InvalidNumber (dJoin [(dC (.str "there are not 1 to ")), (dFmt (dC (.int 10000))), (dC (.str " days from ")), (dFmt (dVar 2)), (dC (.str " to ")), (dFmt (dVar 3))]) ⟨fun _ => False, fun _ => False, fun _ => False, fun _ => False⟩ [some (ePlan A days lead), some (.str nm), some (.int first), some (.int last), none] := fun h => by
    refine join_of ?_ (by decide) fun y => h
    simp only [List.forall_mem_cons]
    exact ⟨pt_c (by decide +kernel), ⟨"10000", by decide +kernel, fun P q => ⟨by decide +kernel, q⟩⟩, pt_c (by decide +kernel), pt_int (k := first) rfl s1, pt_c (by decide +kernel), pt_int (k := last) rfl s2, fun _ h => nomatch h⟩
  walk_at "s"
  refine s_ifD (fun h => ?_) fun h => ?_
  · walk_at "s"
    exact rz (bad fun z => by omega)
  walk_at "s"
  refine s_ifD (fun h2 => ?_) fun h2 => ?_
  · exact rz (bad fun z => by omega)
  walk_at "s"
  have hp := ift hp (by simp only [Bool.and_eq_true, decide_eq_true_eq]; exact ⟨by omega, by omega⟩)
  refine s_onRng2 ⟨by omega, by omega⟩ ⟨by omega, by omega⟩ ?_
  rw [rngD_map]
  refine loopG_of (xs := rngI first (last + 1 - first).toNat) (fun r ds ρ => (∀ d ∈ r, 0 ≤ d) ∧ (∃ y, ρ = [some (ePlan A days lead), some (.str nm), some (.int first), some (.int last), y]) ∧ r.length + ds.length ≤ 10000 ∧ ds ++ ((r.filter fun d => decide (nm ∈ onDay days lead d)).map D.int) = (mHarv days lead nm first last).map .int) ⟨fun d hd => by have := (rngI_mem hd).1; omega, ⟨none, rfl⟩, by rw [rngI_len]; show _ + 0 ≤ 10000; omega, rfl⟩ ?_ ?_
  · rintro d r ds ρ ⟨h0, ⟨y, rfl⟩, hz, hf⟩ N hN
    rw [List.length_cons] at hz
    unfold ePlan
    walk_at "s"
    refine ⟨days, lead, d, rfl, ok, h0 d List.mem_cons_self, ?_⟩
    refine in_day ?_
    walk_at "s"
    refine s_ifD (fun h => ?_) fun h => ?_
    · walk_at "s"
      refine g_yield (by omega) ?_
      walk_at "s"
      rw [List.filter_cons_of_pos (by exact decide_eq_true h)] at hf
      exact hN _ _ ⟨fun e he => h0 e (List.mem_cons_of_mem _ he), ⟨_, rfl⟩, by rw [List.length_append, List.length_singleton]; omega, by rw [List.append_assoc]; exact hf⟩
    · walk_at "s"
      rw [List.filter_cons_of_neg (by rw [decide_eq_true_eq]; exact h)] at hf
      exact hN _ _ ⟨fun e he => h0 e (List.mem_cons_of_mem _ he), ⟨_, rfl⟩, by omega, hf⟩
  · rintro ds ρ ⟨_, ⟨y, rfl⟩, _, hf⟩
    walk_at "s"
    rw [List.filter_nil, List.map_nil, List.append_nil] at hf
    rw [hf]
    exact hp
section
variable {A : Cs} {days d2 : List Ns} {lead l2 : Int} {P : D → Prop} {PL : List D → Prop} {x : XD} {as : TAD} {ρ : EnvD} {sp : SpD} {sg : SpGD} {m : Str} {neg : Bool}
theorem s_pIns (h : sp [ePlan A days lead] P x0) : onIns A.Plan sp P (ePlan A days lead) := ⟨rfl, h⟩
theorem s_pMeth (hm : m ∉ (["_days", "_lead"] : List Str)) (h : as ρ fun es => sp (ePlan A days lead :: es) P x) : onMeth A.Plan m sp x as ρ P (ePlan A days lead) := ⟨⟨rfl, hm⟩, h⟩
theorem s_pCallI (h : as ρ fun es => sp (ePlan A days lead :: es) P x) : onCallI A.Plan sp x as ρ P (ePlan A days lead) := ⟨rfl, h⟩
theorem s_pListGM (hm : m ∉ (["_days", "_lead"] : List Str)) (h : as ρ fun es => sg (ePlan A days lead :: es) PL x) : onListGM A.Plan m sg x as ρ PL (ePlan A days lead) := ⟨⟨rfl, hm⟩, h⟩
theorem s_pBin {k : Int} (h : sp [ePlan A days lead, .int k] P x) : rBinTXD A.Plan "int" sp x (ePlan A days lead) (.int k) P := ⟨⟨rfl, rfl⟩, h⟩
theorem s_pIx {d : D} (h : sp [ePlan A days lead, d] P x0) : rIxOD A.Plan sp (ePlan A days lead) d P := ⟨rfl, h⟩
theorem s_pIxX {d : D} (h : sp [ePlan A days lead, d] P x) : rIxXD A.Plan sp x (ePlan A days lead) d P := ⟨rfl, h⟩
theorem s_pEq (h : sp [ePlan A days lead, ePlan A d2 l2] (onNeg neg P) x) : rEqXD A.Plan neg sp x (ePlan A days lead) (ePlan A d2 l2) P := ⟨⟨rfl, rfl⟩, h⟩
theorem s_pIsiO (h : P (.bl true)) : onIsiO A.Plan P (ePlan A days lead) := ⟨rfl, h⟩
end
end Z
end
section
namespace Z
open PySem L2 DL TL
local macro_rules | `(tactic| walk_at "s0") => `(tactic| (with_reducible first | refine t_next ?_ | refine t_ret ?_ | refine t_set ?_ | refine s_ifS ?_ | refine s_nx ?_ | refine s_rt ?_ | refine s_cons ?_ | refine s_c ?_ | refine s_nil ?_ | refine s_op ?_ | refine s_cb ?_ | refine s_test ?_ | refine s_call ?_ | refine s_onB ?_ | refine s_ifT ?_ | refine s_ifF ?_))
local macro_rules | `(tactic| walk_at "v") => `(tactic| first
  | (with_reducible refine s_varP (d := ?d) ?hi ?ho ?_); (case hi => rfl); (case ho => rfl)
  | (with_reducible refine s_varL (ds := ?ds) ?hi ?_); (case hi => rfl)
  | (with_reducible refine s_varK (kk := ?kk) (ds := ?ds) ?hi ?_); (case hi => rfl)
  | (with_reducible refine s_var (d := ?d) ?hi ?ho ?_); (case hi => rfl); (case ho => rfl))
local macro_rules | `(tactic| walk_at "s1") => `(tactic| (with_reducible first
  | refine t_retN ?_ | refine t_drop ?_ | refine t_setN ?_ | refine t_par ?_ | refine t_parX ?_ | refine t_parX3 ?_ | refine t_parN ?_ | refine t_parN3 ?_ | refine t_asg ?_ | refine t_gplain ?_
  | refine s_next ?_ | refine s_ret ?_ | refine s_set ?_ | refine s_retN ?_ | refine s_drop ?_ | refine s_setN ?_ | refine s_par ?_ | refine s_onPar ?_ | refine s_parX ?_ | refine s_parX3 ?_ | refine s_parN ?_ | refine s_parN3 ?_ | refine s_xN ?_
  | refine s_for ?_ | refine s_forV ?_ | refine s_asg ?_ | refine s_hName ?_ | refine s_hCons ?_ | refine s_hNil ?_
  | refine s_lst ?_ | refine s_tup ?_ | refine s_nLst ?_ | refine s_and ?_ | refine s_or ?_ | refine s_not ?_ | refine s_if ?_ | refine s_andV ?_ | refine s_orV ?_ | refine s_notV ?_ | refine s_chain ?_
  | refine s_ifN ?_ | refine s_ii ?_ | refine s_isN ?_ | refine s_notN ?_ | refine s_oNo ?_ | refine s_oYes ?_ | refine s_onInt ?_ | refine s_sl ?_ | refine s_slL ?_ | refine s_slT ?_ | refine s_lenL ?_ | refine s_lenT ?_ | refine s_listL ?_ | refine s_listT ?_ | refine s_tupL ?_ | refine s_tupT ?_
  | refine s_ofN ?_ | refine s_lc ?_ | refine s_iLst ?_ | refine s_iTup ?_ | refine s_iStr ?_ | refine s_onLst ?_ | refine s_onTup ?_ | refine s_onStr ?_ | refine s_rng1 ?_ | refine s_rng2 ?_ | refine s_tru ?_ | refine s_truL ?_ | refine s_truT ?_ | refine s_truN ?_ | refine s_truB ?_ | refine s_yes ?_
  | refine s_fld ?_ | refine s_prop ?_ | refine s_onIns ?_ | refine s_meth ?_ | refine s_bm ?_ | refine s_lam ?_
  | refine g_plain ?_ | refine g_nil ?_ | refine g_retN ?_ | refine g_if ?_ | refine g_for ?_ | refine s_isiG ?_ | refine s_onIsiGy ?_ | refine s_onIsiGn ?_ | refine s_callI ?_ | refine s_onCallI ?_ | refine s_listGM ?_ | refine s_listG ?_ | refine s_starS ?_ | refine s_onStarL ?_ | refine s_onStarT ?_ | refine s_makeR ?_ | refine s_makeSK ?_ | refine s_onMakeSKL ?_ | refine s_onMakeSKT ?_ | refine s_binTI ?_ | refine s_binTS ?_ | refine s_binX ?_ | refine s_ixX ?_ | refine s_ixO ?_ | refine s_eqXi ?_ | refine s_eqXt ?_ | refine s_onNegF ?_ | refine s_onNegT ?_ | refine s_lenO ?_ | refine s_intI ?_ | refine s_intB ?_ | refine s_min2 ?_ | refine s_isiO ?_ | refine s_onIsiO ?_ | refine s_pIns ?_ | refine s_pCallI ?_ | refine s_pBin ?_ | refine s_pIx ?_ | refine s_pIxX ?_ | refine s_pEq ?_ | refine s_pIsiO ?_))
local macro_rules | `(tactic| walk_at "s2") => `(tactic| first
  | (with_reducible refine s_onLen ?hl ?_); (case hl => rfl)
  | (with_reducible refine s_onBM ?hl ?_); (case hl => rfl)
  | (with_reducible refine s_hTup ?hl ?_); (case hl => rfl)
  | (with_reducible refine s_onFld (d := ?d) ?hl ?_); (case hl => rfl)
  | (with_reducible refine s_onMeth ?hl ?_); (case hl => first | decide | decide +kernel)
  | (with_reducible refine s_onListGM ?hl ?_); (case hl => first | decide | decide +kernel)
  | (with_reducible refine s_pMeth ?hl ?_); (case hl => first | decide | decide +kernel)
  | (with_reducible refine s_pListGM ?hl ?_); (case hl => first | decide | decide +kernel)
  | (with_reducible refine s_app (ds := ?ds) ?hl ?_); (case hl => rfl)
  | (with_reducible refine eq_int ?_) | (with_reducible refine ne_int ?_))
local macro_rules | `(tactic| walk_at "t") => `(tactic| repeat first | walk_at "s0" | walk_at "v" | walk_at "s1" | walk_at "s2")
local macro_rules | `(tactic| walk_at "s") => `(tactic| repeat first | walk_at "s0" | (with_reducible refine t_seq ?_) | walk_at "v" | (with_reducible refine s_seq ?_) | walk_at "s1" | walk_at "s2" | (with_reducible refine t_gseq ?_) | (with_reducible refine g_seq ?_))
theorem place_lo {d lead count : Int} (h0 : 0 ≤ lead) (h1 : lead < count) (hd : lead ≤ d) : lead ≤ mPlace d lead count := by
  unfold mPlace
  split
  · exact hd
  · have := Int.emod_nonneg (d - lead) (show count - lead ≠ 0 by omega)
    omega
theorem place_md {d lead count : Int} (h0 : 0 ≤ lead) (h1 : lead < count) (hd : lead ≤ d) : mPlace d lead count = lead + (d - lead) % (count - lead) := by
  unfold mPlace
  split
  · next h => rw [Int.emod_eq_of_lt (by omega) (by omega)]; omega
  · rfl
theorem place_lt' {d lead count : Int} (hd : d < count) : mPlace d lead count = d := if_pos hd
theorem sh_len {days : List Ns} {lead n : Int} (ok : OkPlan days lead) (h0 : 0 ≤ n) : ((shD days lead n).length : Int) = if n < lead then (days.length : Int) - n else (days.length : Int) - lead := by
  obtain ⟨o1, o2, o3, o4⟩ := ok
  unfold shD
  by_cases h : n < lead
  · rw [if_pos h, if_pos h, List.length_drop]; omega
  · rw [if_neg h, if_neg h]
    have pl := place_lt o3 o4 h0
    have pl2 := place_lo o3 o4 (show lead ≤ n by omega)
    rw [List.length_append, List.length_drop, List.length_drop, List.length_take]
    omega
theorem getD_drop' {days : List Ns} {k j : Nat} : (days.drop k).getD j [] = days.getD (k + j) [] := by
  rw [List.getD_eq_getElem?_getD, List.getElem?_drop, List.getD_eq_getElem?_getD]
theorem on_sh {days : List Ns} {lead n : Int} (ok : OkPlan days lead) (h0 : 0 ≤ n) {k : Int} (k0 : 0 ≤ k) : onDay (shD days lead n) (shL lead n) k = onDay days lead (n + k) := by
  have hl := sh_len ok h0
  have ok2 := sh_ok ok h0
  obtain ⟨o1, o2, o3, o4⟩ := ok
  have pk := place_lt ok2.lo ok2.hi k0
  unfold onDay
  by_cases h : n < lead
  · rw [if_pos h] at hl
    have e1 : shL lead n = lead - n := if_pos h
    have e2 : shD days lead n = days.drop n.toNat := if_pos h
    rw [e1] at pk ⊢
    have key : mPlace (n + k) lead days.length = n + mPlace k (lead - n) (shD days lead n).length := by
      rw [hl]
      by_cases hk : k < (days.length : Int) - n
      · rw [place_lt' hk, place_lt' (by omega)]
      · rw [place_md o3 o4 (by omega), place_md (by omega) (by omega) (by omega), show n + k - lead = k - (lead - n) by omega, show (days.length : Int) - n - (lead - n) = days.length - lead by omega]
        omega
    rw [key, e2, getD_drop']
    congr 1
    rw [e2] at pk
    omega
  · rw [if_neg h] at hl
    have e1 : shL lead n = 0 := if_neg h
    have e2 : shD days lead n = days.drop (mPlace n lead days.length).toNat ++ (days.take (mPlace n lead days.length).toNat).drop lead.toNat := if_neg h
    rw [e1] at pk ⊢
    have pl := place_lt o3 o4 h0
    have pl2 := place_lo o3 o4 (show lead ≤ n by omega)
    have m1 := place_md o3 o4 (show lead ≤ n by omega)
    have m2 := place_md o3 o4 (show lead ≤ n + k by omega)
    have m3 := place_md (d := k) (lead := 0) (count := (shD days lead n).length) (by omega) (by omega) (by omega)
    have c0 : 0 < (days.length : Int) - lead := by omega
    have key : (n + k - lead) % (days.length - lead) = ((n - lead) % (days.length - lead) + k % (days.length - lead)) % (days.length - lead) := by
      rw [← Int.add_emod]
      congr 1
      omega
    have a0 := Int.emod_nonneg (n - lead) (show (days.length : Int) - lead ≠ 0 by omega)
    have a1 := Int.emod_lt_of_pos (n - lead) c0
    have b0 := Int.emod_nonneg k (show (days.length : Int) - lead ≠ 0 by omega)
    have b1 := Int.emod_lt_of_pos k c0
    rw [m2, key, m3, hl, show (days.length : Int) - lead - 0 = days.length - lead by omega, show k - 0 = k by omega, e2]
    generalize hp : mPlace n lead days.length = p at pl pl2 m1
    generalize hr : (n - lead) % (days.length - lead) = r at a0 a1 m1
    generalize hj : k % (days.length - lead) = j at b0 b1
    have hz : (0 + j).toNat = j.toNat := by omega
    rw [hz]
    by_cases hs : r + j < days.length - lead
    · rw [Int.emod_eq_of_lt (by omega) hs]
      rw [List.getD_eq_getElem?_getD, List.getElem?_append_left (by rw [List.length_drop]; omega), ← List.getD_eq_getElem?_getD, getD_drop']
      congr 1
      omega
    · have e3 : (r + j) % (days.length - lead) = r + j - (days.length - lead) := by
        rw [← Int.sub_emod_right, Int.emod_eq_of_lt (by omega) (by omega)]
      rw [e3, List.getD_eq_getElem?_getD, List.getElem?_append_right (by rw [List.length_drop]; omega), List.length_drop, List.getElem?_drop, List.getElem?_take_of_lt (by omega), ← List.getD_eq_getElem?_getD]
      congr 1
      omega
theorem plan_ext {d1 d2 : List Ns} {l : Int} (hl : d1.length = d2.length) (h : ∀ k : Int, 0 ≤ k → onDay d1 l k = onDay d2 l k) : d1 = d2 := by
  refine List.ext_getElem hl fun i h1 h2 => ?_
  have := h i (by omega)
  unfold onDay at this
  rw [place_lt' (by omega), place_lt' (by omega), Int.toNat_natCast, List.getD_eq_getElem?_getD, List.getD_eq_getElem?_getD, List.getElem?_eq_getElem h1, List.getElem?_eq_getElem h2] at this
  exact this
theorem sh_sh {days : List Ns} {lead n m : Int} (ok : OkPlan days lead) (h0 : 0 ≤ n) (h1 : 0 ≤ m) : shD (shD days lead n) (shL lead n) m = shD days lead (n + m) ∧ shL (shL lead n) m = shL lead (n + m) := by
  have ok2 := sh_ok ok h0
  have l1 := sh_len ok h0
  have l2 := sh_len ok2 h1
  have l3 := sh_len ok (show 0 ≤ n + m by omega)
  have eL : shL (shL lead n) m = shL lead (n + m) := by
    unfold shL
    by_cases a : n < lead
    · rw [if_pos a]
      by_cases b : m < lead - n
      · rw [if_pos b, if_pos (by omega)]; omega
      · rw [if_neg b, if_neg (by omega)]
    · rw [if_neg a, if_neg (by omega), if_neg (by omega)]
  refine ⟨plan_ext (l := shL (shL lead n) m) ?_ fun k k0 => ?_, eL⟩
  · have := ok.lo
    have := ok.hi
    by_cases a : n < lead
    · have hL : shL lead n = lead - n := if_pos a
      rw [if_pos a] at l1
      by_cases b : m < shL lead n
      · rw [if_pos b] at l2; rw [if_pos (by omega)] at l3; omega
      · rw [if_neg b] at l2; rw [if_neg (by omega)] at l3; omega
    · have hL : shL lead n = 0 := if_neg a
      rw [if_neg a] at l1
      rw [if_neg (by omega)] at l2; rw [if_neg (by omega)] at l3; omega
  · rw [on_sh ok2 h1 k0, on_sh ok h0 (by omega), eL, on_sh ok (by omega) k0]
    congr 1
    omega
theorem sh_zero {days : List Ns} {lead : Int} (ok : OkPlan days lead) : shD days lead 0 = days ∧ shL lead 0 = lead := by
  have l1 := sh_len ok (Int.le_refl 0)
  have h1 := ok.lo
  have eL : shL lead 0 = lead := by
    unfold shL
    split <;> omega
  refine ⟨plan_ext (l := shL lead 0) (by split at l1 <;> omega) fun k k0 => ?_, eL⟩
  rw [on_sh ok (Int.le_refl 0) k0, eL, Int.zero_add]
theorem sh_mem {days : List Ns} {lead n : Int} {d : Ns} (h : d ∈ shD days lead n) : d ∈ days := by
  unfold shD at h
  split at h
  · exact List.mem_of_mem_drop h
  · rcases List.mem_append.mp h with q | q
    · exact List.mem_of_mem_drop q
    · exact List.mem_of_mem_take (List.mem_of_mem_drop q)
theorem sh_txok {days : List Ns} {lead n : Int} (ok : OkPlan days lead) (tx : TxOk days) (h0 : 0 ≤ n) : TxOk (shD days lead n) :=
  ⟨(sh_ok ok h0).len, fun d hd => tx.dl d (sh_mem hd), fun d hd => tx.nm d (sh_mem hd)⟩
def mF (days : List Ns) (lead : Int) (nm : Str) (n : Nat) : List Nat := (List.range n).filter fun k => decide (nm ∈ onDay days lead (k : Int))
theorem mHarv_sh {days : List Ns} {lead a : Int} (ok : OkPlan days lead) (h0 : 0 ≤ a) (nm : Str) : mHarv (shD days lead a) (shL lead a) nm 0 29 = (mF (shD days lead a) (shL lead a) nm 30).map fun k : Nat => (k : Int) := by
  unfold mHarv mF rngI
  rw [List.filter_map]
  have e : (fun d : Int => decide (nm ∈ onDay (shD days lead a) (shL lead a) d)) ∘ (fun k : Nat => 0 + (k : Int)) = fun k : Nat => decide (nm ∈ onDay (shD days lead a) (shL lead a) (k : Int)) := by
    funext k
    show decide (nm ∈ onDay _ _ (0 + (k : Int))) = _
    rw [Int.zero_add]
  rw [e]
  exact List.map_congr_left fun k _ => Int.zero_add _
theorem mHarv_at {days : List Ns} {lead a : Int} (ok : OkPlan days lead) (h0 : 0 ≤ a) (nm : Str) : mHarv days lead nm a (a + 29) = (mF (shD days lead a) (shL lead a) nm 30).map fun k : Nat => a + (k : Int) := by
  unfold mHarv mF rngI
  rw [List.filter_map, show (a + 29 + 1 - a).toNat = 30 by omega]
  have e : (fun d : Int => decide (nm ∈ onDay days lead d)) ∘ (fun k : Nat => a + (k : Int)) = fun k : Nat => decide (nm ∈ onDay (shD days lead a) (shL lead a) (k : Int)) := by
    funext k
    show decide (nm ∈ onDay _ _ (a + (k : Int))) = decide (nm ∈ onDay _ _ _)
    rw [on_sh ok h0 (by omega)]
  rw [e]
theorem find_place {days : List Ns} {lead : Int} (ok : OkPlan days lead) (nm : Str) {n m : Nat} (h1 : days.length ≤ n) (h2 : n ≤ m) : (List.range n).find? (fun k : Nat => decide (nm ∈ onDay days lead (k : Int))) = (List.range m).find? (fun k : Nat => decide (nm ∈ onDay days lead (k : Int))) := by
  have e : List.range m = List.range n ++ (List.range (m - n)).map (n + ·) := by
    obtain ⟨j, rfl⟩ : ∃ j, m = n + j := ⟨m - n, by omega⟩
    rw [List.range_add, Nat.add_sub_cancel_left]
  rw [e, List.find?_append]
  cases hf : (List.range n).find? (fun k : Nat => decide (nm ∈ onDay days lead (k : Int))) with
  | some x => rfl
  | none =>
    rw [Option.none_or]
    refine (List.find?_eq_none.mpr fun x hx h => ?_).symm
    have h := of_decide_eq_true h
    have pl := place_lt ok.lo ok.hi (show 0 ≤ (x : Int) by omega)
    have := List.find?_eq_none.mp hf (mPlace (x : Int) lead days.length).toNat (List.mem_range.mpr (by omega))
    refine this (decide_eq_true ?_)
    have e2 : onDay days lead ((mPlace (x : Int) lead days.length).toNat : Nat) = onDay days lead x := by
      unfold onDay
      rw [place_lt' (d := (((mPlace (x : Int) lead days.length).toNat : Nat) : Int)) (by omega), show (((mPlace (x : Int) lead days.length).toNat : Nat) : Int) = mPlace (x : Int) lead days.length by omega]
    rw [e2]
    exact h
theorem mCall_sh {days : List Ns} {lead : Int} (ok : OkPlan days lead) (nm : Str) (h : days.length ≤ 30) : mCall days lead nm 0 = (mF days lead nm 30).head?.map fun k : Nat => (k : Int) := by
  unfold mCall mF rngI
  rw [List.find?_map, List.head?_filter]
  have e : (fun d : Int => decide (nm ∈ onDay days lead d)) ∘ (fun k : Nat => 0 + (k : Int)) = fun k : Nat => decide (nm ∈ onDay days lead (k : Int)) := by
    funext k
    show decide (nm ∈ onDay _ _ (0 + (k : Int))) = _
    rw [Int.zero_add]
  rw [e, find_place ok nm (Nat.le_refl _) h]
  congr 1
  funext k
  exact Int.zero_add _
theorem mCall_at {days : List Ns} {lead a : Int} (ok : OkPlan days lead) (h0 : 0 ≤ a) (nm : Str) (h : days.length ≤ 30) : mCall days lead nm a = (mF (shD days lead a) (shL lead a) nm 30).head?.map fun k : Nat => a + (k : Int) := by
  unfold mCall mF rngI
  rw [List.find?_map, List.head?_filter]
  have e : (fun d : Int => decide (nm ∈ onDay days lead d)) ∘ (fun k : Nat => a + (k : Int)) = fun k : Nat => decide (nm ∈ onDay (shD days lead a) (shL lead a) (k : Int)) := by
    funext k
    show decide (nm ∈ onDay _ _ (a + (k : Int))) = decide (nm ∈ onDay _ _ _)
    rw [on_sh ok h0 (by omega)]
  have hl := sh_len ok h0
  have := ok.lo
  rw [e, find_place (sh_ok ok h0) nm (m := 30) (by split at hl <;> omega) h]
end Z
end
section
namespace DL
open PySem PySem.Spec PyProof.Rows L2
def MxI (l q : Addr) (H : Hp) : Prop := ∃ (s k : Int) (xs : List Int), H l = some (.lst [.int s, .ref q, .int k]) ∧ H q = some (.lst (xs.map V.int)) ∧ 0 ≤ s ∧ s < 2147483647 ∧ 0 ≤ k ∧ xs.length ≤ 63 ∧ q ≠ l
def MxSit (Hs : Hp) (l q : Addr) : Sit where
  Hs := Hs
  W := fun a => a = l ∨ a = q
  I := MxI l q
  stab := fun H H' h ⟨s, k, xs, e, e2, r⟩ => ⟨s, k, xs, h l _ e (.inl (.inl rfl)), h q _ e2 (.inl (.inr rfl)), r⟩
  there := fun H a ⟨s, k, xs, e, e2, _⟩ w => by
    rcases w with rfl | rfl
    · exact ⟨_, e⟩
    · exact ⟨_, e2⟩
  nox := fun H a o ⟨s, k, xs, e, e2, _⟩ w h => by
    rcases w with rfl | rfl
    · rw [e] at h; cases h; rfl
    · rw [e2] at h; cases h; rfl
section
variable {K : PySem.W.Frag}
abbrev xIntT : List V → Hp → VK → Prop := fun xs H Q => (∃ i, xs = [.int i] ∧ Q (.int i) H) ∨ ∃ k, xs = [.bl k] ∧ Q (.int (if k then 1 else 0)) H
abbrev xMax2 : List V → Hp → VK → Prop := fun xs H Q => ∃ i j, xs = [.int i, .int j] ∧ Q (.int (if j > i then j else i)) H
def tIx1 (K : PySem.W.Frag) : TE := tOp xMod (tCB xIntT (tCons (tSt K 2) tNil)) (tCB xMax2 (tCons (tC (.int 1)) (tCons (tCB (xLen K) (tCons (tSt K 1) tNil)) tNil)))
def tIx2 (K : PySem.W.Frag) : TE := tOp xMod (tCB xIntT (tCons (tSt K 2) tNil)) (tCB (xLen K) (tCons (tSt K 1) tNil))
def tNextM (K : PySem.W.Frag) : TS :=
  tSeq (tAsg (tOp (rIx K) (tOp rCat (tSt K 1) (tLst (tCons (tC (.int 0)) tNil))) (tIx1 K)) (gName 2))
  (tSeq (tIfS (tTest (tOp xGe (tVar 2) (tOp xPow (tC (.int 10)) (tC (.int 18)))))
    (tSeq (tAsg (tOp xFdv (tVar 2) (tVar 1)) (gSub (tSt K 1) (tIx2 K) rSetL)) (tRet (tOp xMod (tCB xIntT (tCons (tVar 2) tNil)) (tVar 1)))) tNext)
  (tSeq (tAsg (tOp xMod (tCB xIntT (tCons (tOp xAdd (tOp xAdd (tOp xMul (tSt K 0) (tC (.int 48271))) (tOp xMul (tVar 2) (tC (.int 69621)))) (tC (.int 11))) tNil)) (tC (.int 2147483647))) (gSub (tVar 0) (tC (.int 0)) rSetL))
  (tSeq (tAsg (tOp xAdd (tSt K 2) (tC (.int 1))) (gSub (tVar 0) (tC (.int 2)) rSetL))
    (tRet (tOp xMod (tCB xIntT (tCons (tOp xFdv (tSt K 0) (tC (.int 7))) tNil)) (tVar 1))))))
theorem next_run {H : Hp} {l q : Addr} {s k : Int} {xs : List Int} {c : Int} {Q : VK} {nx : L2.St → Hp → Prop} (hl : H l = some (.lst [.int s, .ref q, .int k])) (hq : H q = some (.lst (xs.map V.int))) (s0 : 0 ≤ s) (s1 : s < 2147483647) (k0 : 0 ≤ k) (hz : xs.length ≤ 63) (ne : q ≠ l) (hc : 0 < c) (hc2 : c < 1073741824)
    (qq : ∀ (r : Int) (H' : Hp), 0 ≤ r → r < c → (∀ b, b ≠ l → b ≠ q → ∀ o, H b = some o → H' b = some o) → MxI l q H' → Q (.int r) H') :
    tNextM K { nx := nx, rt := Q } (L2.start ["_law_h", "_law_limit", "_law_cell"] [.ref l, .int c]) H := by
  have modc : ∀ x : Int, 0 ≤ x % c ∧ x % c < c := fun x => ⟨Int.emod_nonneg x (by omega), Int.emod_lt_of_pos x hc⟩
  have at1 : atI ([.int s, .ref q, .int k] : List V) 1 = some (.ref q) := rfl
  have at2 : atI ([.int s, .ref q, .int k] : List V) 2 = some (.int k) := rfl
  have at0 : atI ([.int s, .ref q, .int k] : List V) 0 = some (.int s) := rfl
  refine st_at rfl hl at1 ?_
  refine ⟨by show 1 ≤ sizeLine; decide, fun p hp => ?_⟩
  have hl1 : upd H p (.lst [.int 0]) l = some (.lst [.int s, .ref q, .int k]) := by rw [upd_ne (ne_of_none hl hp)]; exact hl
  have hq1 : upd H p (.lst [.int 0]) q = some (.lst (xs.map V.int)) := by rw [upd_ne (ne_of_none hq hp)]; exact hq
  refine ⟨q, p, xs.map V.int, [.int 0], rfl, rfl, hq1, upd_same, by show (xs.map V.int).length + 1 ≤ sizeLine; rw [List.length_map]; exact sz (by omega), fun p2 hp2 => ?_⟩
  have hp21 : p2 ≠ p := fun e => by rw [e, upd_same] at hp2; cases hp2
  have hp20 : H p2 = none := by rw [upd_ne hp21] at hp2; exact hp2
  have hl2 : upd (upd H p (.lst [.int 0])) p2 (.lst (xs.map V.int ++ [.int 0])) l = some (.lst [.int s, .ref q, .int k]) := by rw [upd_ne (ne_of_none hl1 hp2)]; exact hl1
  have hq2 : upd (upd H p (.lst [.int 0])) p2 (.lst (xs.map V.int ++ [.int 0])) q = some (.lst (xs.map V.int)) := by rw [upd_ne (ne_of_none hq1 hp2)]; exact hq1
  generalize hH2 : upd (upd H p (.lst [.int 0])) p2 (.lst (xs.map V.int ++ [.int 0])) = H2 at hl2 hq2
  have k2 : ∀ b o, H b = some o → H2 b = some o := fun b o e => by
    rw [← hH2, upd_ne (ne_of_none e hp20), upd_ne (ne_of_none e hp)]
    exact e
  refine st_at rfl hl2 at2 (.inl ⟨k, rfl, ?_⟩)
  refine st_at rfl hl2 at1 ⟨q, _, rfl, .inl (.inl (.inl hq2)), 1, ((xs.map V.int).length : Nat), rfl, k, _, rfl, rfl, ?_, ?_⟩
  · show (0 : Int) < if (((xs.map V.int).length : Nat) : Int) > 1 then _ else _
    split <;> omega
  · -- the cell
    have hc1 : ∃ v : Int, atI (xs.map V.int ++ [V.int 0]) (k % (if (((xs.map V.int).length : Nat) : Int) > 1 then (((xs.map V.int).length : Nat) : Int) else 1)) = some (.int v) ∧ (v ≠ 0 → k % (if (((xs.map V.int).length : Nat) : Int) > 1 then (((xs.map V.int).length : Nat) : Int) else 1) = k % (xs.length : Int) ∧ 0 < xs.length) := by
      rw [List.length_map]
      have e0 : (xs.map V.int ++ [V.int 0]) = (xs ++ [0]).map V.int := by simp
      rw [e0]
      have gen : ∀ j : Int, 0 ≤ j → j < ((xs ++ [0]).length : Int) → atI ((xs ++ [0]).map V.int) j = some (.int ((xs ++ [0]).getD j.toNat 0)) := fun j j0 j1 => by
        unfold atI
        have e : ixN ((xs ++ [0]).map V.int).length j = some j.toNat := by
          unfold ixN
          rw [List.length_map, if_pos (by omega), if_pos (by omega)]
        rw [e]
        show ((xs ++ [0]).map V.int)[j.toNat]? = _
        rw [List.getElem?_map, List.getElem?_eq_getElem (by omega), List.getD_eq_getElem?_getD, List.getElem?_eq_getElem (by omega)]
        rfl
      by_cases h1 : (xs.length : Int) > 1
      · rw [if_pos h1]
        have m0 := Int.emod_nonneg k (show (xs.length : Int) ≠ 0 by omega)
        have m1 := Int.emod_lt_of_pos k (show (0 : Int) < xs.length by omega)
        exact ⟨_, gen _ m0 (by rw [List.length_append, List.length_singleton]; omega), fun _ => ⟨rfl, by omega⟩⟩
      · rw [if_neg h1, Int.emod_one]
        refine ⟨_, gen 0 (by decide) (by rw [List.length_append, List.length_singleton]; omega), fun hv => ?_⟩
        cases xs with
        | nil => exact absurd rfl hv
        | cons x r =>
          have : r.length = 0 := by rw [List.length_cons] at h1; omega
          rw [List.length_cons, this]
          exact ⟨(Int.emod_one k).symm, by decide⟩
    obtain ⟨v, ev, hv⟩ := hc1
    refine .inl ⟨p2, _, _, .int v, rfl, rfl, .inl (.inl (by rw [← hH2]; exact upd_same)), ev, ?_⟩
    refine ⟨.int v, rfl, 10, 18, rfl, rfl, ⟨by decide, by decide, by decide⟩, v, _, rfl, rfl, decide ((10 : Int) ^ (18 : Int).toNat ≤ v), rfl, ?_⟩
    by_cases hb : (10 : Int) ^ (18 : Int).toNat ≤ v
    · rw [decide_eq_true hb]
      have hv0 : v ≠ 0 := fun e => by
        rw [e] at hb
        exact absurd hb (by decide)
      obtain ⟨em, lx⟩ := hv hv0
      refine ⟨.int v, rfl, .int c, rfl, v, c, rfl, rfl, ⟨hc, hc2⟩, ?_⟩
      refine st_at rfl hl2 at1 ?_
      refine st_at rfl hl2 at2 (.inl ⟨k, rfl, ?_⟩)
      refine st_at rfl hl2 at1 ⟨q, _, rfl, .inl (.inl (.inl hq2)), k, _, rfl, rfl, (by show (0 : Int) < (((xs.map V.int).length : Nat) : Int); rw [List.length_map]; omega), ?_⟩
      have m0 := Int.emod_nonneg k (show (xs.length : Int) ≠ 0 by omega)
      have m1 := Int.emod_lt_of_pos k (show (0 : Int) < xs.length by omega)
      refine ⟨q, xs.map V.int, k % (((xs.map V.int).length : Nat) : Int), (k % (xs.length : Int)).toNat, rfl, rfl, hq2, ?_, ?_⟩
      · unfold ixN
        rw [List.length_map, if_pos (by omega), if_pos (by omega)]
      · refine ⟨.int v, rfl, .inl ⟨v, rfl, .int c, rfl, v, c, rfl, rfl, hc, ?_⟩⟩
        have es : (xs.map V.int).set (k % (xs.length : Int)).toNat (.int (v / c)) = (xs.set (k % (xs.length : Int)).toNat (v / c)).map V.int := by rw [List.map_set]
        rw [es]
        refine qq _ _ (modc _).1 (modc _).2 (fun b _ nb o e => ?_) ⟨s, k, xs.set (k % (xs.length : Int)).toNat (v / c), ?_, upd_same, s0, s1, k0, by rw [List.length_set]; exact hz, ne⟩
        · rw [upd_ne nb]; exact k2 b o e
        · rw [upd_ne (Ne.symm ne)]; exact hl2
    · rw [decide_eq_false hb]
      refine st_at rfl hl2 at0 ⟨s, 48271, rfl, rfl, .inr ⟨by decide, by decide⟩, .int v, rfl, v, 69621, rfl, rfl, .inr ⟨by decide, by decide⟩, _, _, rfl, rfl, _, 11, rfl, rfl, .inl ⟨_, rfl, _, 2147483647, rfl, rfl, (by decide : (0 : Int) < 2147483647), ?_⟩⟩
      have z0 := Int.emod_nonneg (s * 48271 + v * 69621 + 11) (show (2147483647 : Int) ≠ 0 by decide)
      have z1 := Int.emod_lt_of_pos (s * 48271 + v * 69621 + 11) (show (0 : Int) < 2147483647 by decide)
      refine st_put (j := 0) rfl hl2 rfl ?_
      have uu : ∀ o o' : HO, upd (upd H2 l o) l o' = upd H2 l o' := fun o o' => by
        funext b
        by_cases e : b = l
        · subst e; rw [upd_same, upd_same]
        · rw [upd_ne e, upd_ne e, upd_ne e]
      refine st_at (xs := [.int ((s * 48271 + v * 69621 + 11) % 2147483647), .ref q, .int k]) rfl upd_same rfl ⟨k, 1, rfl, rfl, ?_⟩
      refine st_put (j := 2) (xs := [.int ((s * 48271 + v * 69621 + 11) % 2147483647), .ref q, .int k]) rfl upd_same rfl ?_
      rw [uu]
      refine st_at (xs := [.int ((s * 48271 + v * 69621 + 11) % 2147483647), .ref q, .int (k + 1)]) rfl upd_same rfl ⟨_, 7, rfl, rfl, ⟨by decide, by decide⟩, .inl ⟨_, rfl, .int c, rfl, _, c, rfl, rfl, hc, ?_⟩⟩
      refine qq _ _ (modc _).1 (modc _).2 (fun b nb _ o e => ?_) ⟨_, k + 1, xs, upd_same, ?_, z0, z1, by omega, hz, ne⟩
      · rw [upd_ne nb]; exact k2 b o e
      · rw [upd_ne ne]; exact hq2
theorem next_ok {P : Program} {w : World} {mg : Str → Option Value} {base : Heap} {qual : Str} {st : Stmt} {f l q : Addr} {fd : FuncData} {Hs : Hp} (F : Fun K "_law_next" qual st f fd)
    (sc : FnScope ["_law_h", "_law_limit", "_law_cell"] ["_law_h", "_law_limit"] (defScope st))
    (hbody : ∀ (cdv : Value) (A : Around) (outer : List Env) (s : Shared) (H : Hp) (E : XK), PSs (cxOf CX0 P w K mg base ["_law_h", "_law_limit", "_law_cell"] qual (defScope st) f cdv A outer s H E).nox (defBody st) (tNextM K)) :
    FnOk P w K mg base CX0 1 f fd ["_law_h", "_law_limit"] (liftSp K (MxSit Hs l q) (spDrawn l)) := by
  refine F.ok sc (fun vs H Q E h => ?_) (fun cdv A outer s H vs Q E hr h => ⟨tNextM K, hbody cdv A outer s H E, ?_⟩)
  · obtain ⟨Z, ds, Pd, x, wd, r, ⟨c, rfl, _⟩, _⟩ := h
    rw [← r.len]
    rfl
  · obtain ⟨Z, ds, Pd, x, wd, r, ⟨c, rfl, ⟨hc, hc2⟩, hP⟩, hq, _⟩ := h
    obtain ⟨v, u, rfl, r1, r2⟩ := repL2 r
    unfold Rep at r1 r2
    subst r1 r2
    obtain ⟨s, k, xs, hl, hq2, s0, s1, k0, hz, ne⟩ := wd.inv
    exact next_run hl hq2 s0 s1 k0 hz ne hc hc2 fun r H' h1 h3 h4 h5 => hq _ _ (.int r) (fun b o e n => h4 b (fun e => n (.inl e)) (fun e => n (.inr e)) o e) h5 repI (hP r h1 h3)
def spMix (K : PySem.W.Frag) : Sp := fun vs H Q _ => ∃ (a : Addr) (ns : List Int) (k : Int), vs = [.ref a, .int k] ∧ SqL K H a (ns.map V.int) ∧ ns.length ≤ 63 ∧ 0 ≤ k ∧ k < 2147483647 ∧
  ∀ (H' : Hp) (l q : Addr) (s : Int), (∀ b o, H b = some o → H' b = some o) → H l = none → H q = none → q ≠ l → H' l = some (.lst [.int s, .ref q, .int 0]) → H' q = some (.lst (ns.map V.int)) → 0 ≤ s → s < 2147483647 → Q (.ref l) H'
abbrev xListT (K : PySem.W.Frag) : List V → Hp → VK → Prop := fun xs H Q => ∃ p ys, xs = [.ref p] ∧ (SqL K H p ys ∨ SqT K H p ys) ∧ ∀ l, H l = none → Q (.ref l) (upd H l (.lst ys))
def tMix (K : PySem.W.Frag) : TS :=
  tSeq (tAsg (tVar 1) (gName 2)) (tSeq (tFor (iList K (tVar 0)) (gName 3) (tAsg (tOp xMod (tCB xIntT (tCons (tOp xAdd (tOp xAdd (tOp xMul (tVar 2) (tC (.int 48271))) (tOp xMod (tCB xIntT (tCons (tVar 3) tNil)) (tC (.int 2147483629)))) (tC (.int 1))) tNil)) (tC (.int 2147483647))) (gName 2)))
    (tRet (tLst (tCons (tVar 2) (tCons (tCB (xListT K) (tCons (tVar 0) tNil)) (tCons (tC (.int 0)) tNil))))))
theorem mix_run {H : Hp} {a : Addr} {ns : List Int} {salt : Int} {Q : VK} {nx : L2.St → Hp → Prop} (hS : SqL K H a (ns.map V.int)) (hn : ns.length ≤ 63) (hk : 0 ≤ salt) (hk2 : salt < 2147483647)
    (qq : ∀ (H' : Hp) (l q : Addr) (s : Int), (∀ b o, H b = some o → H' b = some o) → H l = none → H q = none → q ≠ l → H' l = some (.lst [.int s, .ref q, .int 0]) → H' q = some (.lst (ns.map V.int)) → 0 ≤ s → s < 2147483647 → Q (.ref l) H') :
    tMix K { nx := nx, rt := Q } (L2.start ["_law_script", "_law_seed", "_law_state", "_law_cell"] [.ref a, .int salt]) H := by
  refine ⟨_, rfl, .ref a, rfl, a, rfl, ⟨_, hS⟩, fun i m σ H' => H' = H ∧ i + m = ns.length ∧ ∃ (t : Int) (y : Option V), 0 ≤ t ∧ t < 2147483647 ∧ σ = [some (.ref a), some (.int salt), some (.int t), y], ⟨ns.length, rfl, by omega, salt, none, hk, hk2, rfl⟩, ?_⟩
  rintro i m σ H' ⟨eH, hm, t, y, h0, h1, rfl⟩
  have eH' := eH.symm
  subst eH'
  by_cases hi : i < ns.length
  · have ex : (ns.map V.int)[i]? = some (V.int ns[i]) := by rw [List.getElem?_map, List.getElem?_eq_getElem hi]; rfl
    refine .inr ⟨⟨_, .int ns[i], hS, ex⟩, fun σ' H'' => H'' = H ∧ i + 1 + (m - 1) = ns.length ∧ ∃ (t : Int) (y : Option V), 0 ≤ t ∧ t < 2147483647 ∧ σ' = [some (.ref a), some (.int salt), some (.int t), y], fun σ' H'' hw => ⟨m - 1, by omega, hw⟩, fun x H2 ⟨e1, e2⟩ => ?_⟩
    subst e1
    have e3 := e2 _ hS
    rw [ex] at e3
    cases e3
    refine ⟨.int t, rfl, t, 48271, rfl, rfl, .inr ⟨by decide, by decide⟩, .int ns[i], rfl, .inl ⟨_, rfl, _, 2147483629, rfl, rfl, (by decide : (0 : Int) < 2147483629), _, _, rfl, rfl, _, 1, rfl, rfl, .inl ⟨_, rfl, _, 2147483647, rfl, rfl, (by decide : (0 : Int) < 2147483647), ?_⟩⟩⟩
    exact ⟨rfl, by omega, _, _, Int.emod_nonneg _ (by decide), Int.emod_lt_of_pos _ (by decide), rfl⟩
  · refine .inl ⟨⟨_, hS, by rw [List.length_map]; omega⟩, ?_⟩
    refine ⟨.int t, rfl, .ref a, rfl, a, _, rfl, .inl hS, fun q hq => ⟨by show 3 ≤ sizeLine; decide, fun l hl => ?_⟩⟩
    have ne : l ≠ q := fun e => by rw [e, upd_same] at hl; cases hl
    have hl0 : H l = none := by rw [upd_ne ne] at hl; exact hl
    refine qq _ l q t (fun b o e => by rw [upd_ne (ne_of_none e hl0), upd_ne (ne_of_none e hq)]; exact e) hl0 hq (Ne.symm ne) upd_same (by rw [upd_ne (Ne.symm ne)]; exact upd_same) h0 h1
theorem mix_ok {P : Program} {w : World} {mg : Str → Option Value} {base : Heap} {qual : Str} {st : Stmt} {f : Addr} {fd : FuncData} (F : Fun K "_law_mix" qual st f fd)
    (sc : FnScope ["_law_script", "_law_seed", "_law_state", "_law_cell"] ["_law_script", "_law_seed"] (defScope st))
    (hbody : ∀ (cdv : Value) (A : Around) (outer : List Env) (s : Shared) (H : Hp) (E : XK), PSs (cxOf CX0 P w K mg base ["_law_script", "_law_seed", "_law_state", "_law_cell"] qual (defScope st) f cdv A outer s H E).nox (defBody st) (tMix K)) :
    FnOk P w K mg base CX0 1 f fd ["_law_script", "_law_seed"] (spMix K) := by
  refine F.ok sc (fun vs H Q E h => ?_) (fun cdv A outer s H vs Q E hr h => ⟨tMix K, hbody cdv A outer s H E, ?_⟩)
  · obtain ⟨a, ns, k, rfl, _⟩ := h
    rfl
  · obtain ⟨a, ns, k, rfl, hS, hn, hk, hk2, q⟩ := h
    exact mix_run hS hn hk hk2 q
theorem law_deepM {P : Program} {w : World} {K : PySem.W.Frag} {mg : Str → Option Value} {base : Heap} {qual x : Str} {st s1 : Stmt} {rest : List Stmt} {f : Addr} {fd : FuncData} {N' : List Str} {k : Nat} {salt : Int} {tD : Addr → TSD} (F : Fun K x qual st f fd) (sc : FnScope ("_law_script" :: "_law_h" :: N') ["_law_script"] (defScope st)) (hb : defBody st = s1 :: rest) (hsalt : 0 ≤ salt ∧ salt < 2147483647)
    (h1 : ∀ (cdv : Value) (A : Around) (outer : List Env) (s : Shared) (H : Hp) (E : XK), Room k (A.deeper (envOfC qual (defScope st) s.heap.objs.size f cdv)) → PS (cxOf CX0 P w K mg base ("_law_script" :: "_law_h" :: N') qual (defScope st) f cdv A outer s H E).nox s1 (tAsg (tCall (spMix K) [] E0 (tCons (tVar 0) (tCons (tC (.int salt)) tNil))) (gName 1)))
    (h2 : ∀ (c : Cl) (Hs : Hp) (l q : Addr), ∀ (cdv : Value) (A : Around) (outer : List Env) (s : Shared) (H : Hp) (E : XK), Room k (A.deeper (envOfC qual (defScope st) s.heap.objs.size f cdv)) → ∃ ts, DSs K (MxSit Hs l q) c (cxOf CX0 P w K mg base ("_law_script" :: "_law_h" :: N') qual (defScope st) f cdv A outer s H E).nox rest ts (tD l))
    (hpure : ∀ a l, tD l { nx := fun _ => False, rt := fun d => d = .bl true } (some (.adr a) :: some (.adr l) :: List.replicate N'.length none)) : FnOk P w K mg base CX0 (k + 1) f fd ["_law_script"] (spLawN K) := by
  refine F.ok sc (fun vs H Q E h => ?_) (fun cdv A outer s H vs Q E hr h => ?_)
  · obtain ⟨a, ns, rfl, _⟩ := h
    rfl
  · obtain ⟨a, ns, rfl, hS, hn, qe⟩ := h
    have g : ∀ i : Cl × Hp × Addr × Addr, ∃ ts, DSs K (MxSit i.2.1 i.2.2.1 i.2.2.2) i.1 (cxOf CX0 P w K mg base ("_law_script" :: "_law_h" :: N') qual (defScope st) f cdv A outer s H E).nox rest ts (tD i.2.2.1) := fun i => h2 i.1 i.2.1 i.2.2.1 i.2.2.2 cdv A outer s H E hr
    refine ⟨_, by rw [hb]; exact pss_cons (h1 cdv A outer s H E hr) (pss_ex fun i => (g i).choose_spec.pss), ?_⟩
    refine ⟨.ref a, rfl, a, ns, salt, rfl, hS, hn, hsalt.1, hsalt.2, fun H' l q t hx hl0 hq0 ne hl hq t0 t1 => ?_⟩
    let c : Cl := ⟨fun b => b = l ∨ b = q, H', E, DL.x0⟩
    refine ⟨⟨c, H, l, q⟩, ?_⟩
    have nz : ∀ {o : HO} {b : Addr}, H b = some o → ¬ (b = l ∨ b = q) := fun {o b} e z => by
      rcases z with z | z
      · rw [z, hl0] at e; cases e
      · rw [z, hq0] at e; cases e
    have wd : Wd (MxSit H l q) (fun b => b = l ∨ b = q) H' := ⟨fun b o e => ⟨hx b o e, nz e⟩, fun _ e => e, fun b e => by
        rcases e with e | e
        · exact ⟨_, (by rw [e]; exact hl : H' b = some (.lst [.int t, .ref q, .int 0]))⟩
        · exact ⟨_, (by rw [e]; exact hq : H' b = some (.lst (ns.map V.int)))⟩, fun b o e h => by
      rcases e with e | e
      · rw [e, hl] at h; cases h; rfl
      · rw [e, hq] at h; cases h; rfl, ⟨t, 0, ns, hl, hq, t0, t1, by decide, hn, ne⟩⟩
    have rv : RV K (MxSit H l q) c (fun b => b = l ∨ b = q) ([some (.ref a), some (.ref l)] ++ List.replicate N'.length none) H' (some (.adr a) :: some (.adr l) :: List.replicate N'.length none) := by
      refine ⟨wd, Kp.refl _, fun _ e => e, by simp, fun i d h n => ?_⟩
      match i, h with
      | 0, h => cases h; exact ⟨.ref a, rfl, by unfold Rep; rfl⟩
      | 1, h => cases h; exact ⟨.ref l, rfl, by unfold Rep; rfl⟩
      | i + 2, h =>
        have h' : (List.replicate N'.length (none : Option D))[i]? = some (some d) := h
        have := List.mem_of_getElem? h'
        rw [List.mem_replicate] at this
        exact nomatch this.2
    have noOwn : ∀ (i : Nat) d, (some (D.adr a) :: some (D.adr l) :: List.replicate N'.length none)[i]? = some (some d) → d.isOwn = true → False := fun i d h o => by
      match i, h with
      | 0, h => cases h; cases o
      | 1, h => cases h; cases o
      | i + 2, h =>
        have h' : (List.replicate N'.length (none : Option D))[i]? = some (some d) := h
        have := List.mem_of_getElem? h'
        rw [List.mem_replicate] at this
        exact nomatch this.2
    have rz : RZ K (MxSit H l q) c (fun _ => none) (fun b => b = l ∨ b = q) ([some (.ref a), some (.ref l)] ++ List.replicate N'.length none) H' (some (.adr a) :: some (.adr l) :: List.replicate N'.length none) :=
      ⟨rv, wd, (fun _ _ h => nomatch h), fun _ => [], (fun i d h o => (noOwn i d h o).elim), (fun i j d e a h o _ _ _ _ => (noOwn i d h o).elim)⟩
    have hσ : (L2.start ("_law_script" :: "_law_h" :: N') [.ref a]).set 1 (some (.ref l)) = [some (.ref a), some (.ref l)] ++ List.replicate N'.length none := by
      unfold L2.start
      simp [List.replicate_succ]
    show (g ⟨c, H, l, q⟩).choose _ ((L2.start ("_law_script" :: "_law_h" :: N') [.ref a]).set 1 (some (.ref l))) _
    rw [hσ]
    exact (g ⟨c, H, l, q⟩).choose_spec.ws (fun _ => none) _ _ _ _ _ ⟨_, rz⟩ (hpure a l) ⟨fun _ _ _ _ h => h.elim, fun v H' d _ _ r e => by subst e; unfold Rep at r; subst r; exact qe H', fun _ _ _ _ h => h.elim, fun _ _ _ _ h => h.elim⟩
end
end DL
end
section
namespace Z
open PySem L2 DL TL
local macro_rules | `(tactic| walk_at "s0") => `(tactic| (with_reducible first | refine t_next ?_ | refine t_ret ?_ | refine t_set ?_ | refine s_ifS ?_ | refine s_cons ?_ | refine s_c ?_ | refine s_nil ?_ | refine s_op ?_ | refine s_cb ?_ | refine s_test ?_ | refine s_call ?_ | refine s_onB ?_ | refine s_ifT ?_ | refine s_ifF ?_))
local macro_rules | `(tactic| walk_at "v") => `(tactic| first
  | (with_reducible refine s_varP (d := ?d) ?hi ?ho ?_); (case hi => rfl); (case ho => rfl)
  | (with_reducible refine s_varL (ds := ?ds) ?hi ?_); (case hi => rfl)
  | (with_reducible refine s_varK (kk := ?kk) (ds := ?ds) ?hi ?_); (case hi => rfl)
  | (with_reducible refine s_var (d := ?d) ?hi ?ho ?_); (case hi => rfl); (case ho => rfl))
local macro_rules | `(tactic| walk_at "s1") => `(tactic| (with_reducible first
  | refine t_retN ?_ | refine t_drop ?_ | refine t_setN ?_ | refine t_par ?_ | refine t_parX ?_ | refine t_parX3 ?_ | refine t_parN ?_ | refine t_parN3 ?_ | refine t_asg ?_ | refine t_gplain ?_
  | refine s_next ?_ | refine s_ret ?_ | refine s_set ?_ | refine s_retN ?_ | refine s_drop ?_ | refine s_setN ?_ | refine s_par ?_ | refine s_onPar ?_ | refine s_parX ?_ | refine s_parX3 ?_ | refine s_parN ?_ | refine s_parN3 ?_ | refine s_xN ?_
  | refine s_for ?_ | refine s_forV ?_ | refine s_asg ?_ | refine s_hName ?_ | refine s_hCons ?_ | refine s_hNil ?_
  | refine s_lst ?_ | refine s_tup ?_ | refine s_nLst ?_ | refine s_and ?_ | refine s_or ?_ | refine s_not ?_ | refine s_if ?_ | refine s_andV ?_ | refine s_orV ?_ | refine s_notV ?_ | refine s_chain ?_
  | refine s_ifN ?_ | refine s_ii ?_ | refine s_isN ?_ | refine s_notN ?_ | refine s_oNo ?_ | refine s_oYes ?_ | refine s_onInt ?_ | refine s_sl ?_ | refine s_slL ?_ | refine s_slT ?_ | refine s_lenL ?_ | refine s_lenT ?_ | refine s_listL ?_ | refine s_listT ?_ | refine s_tupL ?_ | refine s_tupT ?_
  | refine s_ofN ?_ | refine s_lc ?_ | refine s_iLst ?_ | refine s_iTup ?_ | refine s_iStr ?_ | refine s_onLst ?_ | refine s_onTup ?_ | refine s_onStr ?_ | refine s_rng1 ?_ | refine s_rng2 ?_ | refine s_tru ?_ | refine s_truL ?_ | refine s_truT ?_ | refine s_truN ?_ | refine s_truB ?_ | refine s_yes ?_
  | refine s_fld ?_ | refine s_prop ?_ | refine s_onIns ?_ | refine s_meth ?_ | refine s_bm ?_ | refine s_lam ?_
  | refine g_plain ?_ | refine g_nil ?_ | refine g_retN ?_ | refine g_if ?_ | refine g_for ?_ | refine s_isiG ?_ | refine s_onIsiGy ?_ | refine s_onIsiGn ?_ | refine s_callI ?_ | refine s_onCallI ?_ | refine s_listGM ?_ | refine s_listG ?_ | refine s_starS ?_ | refine s_onStarL ?_ | refine s_onStarT ?_ | refine s_makeR ?_ | refine s_makeSK ?_ | refine s_onMakeSKL ?_ | refine s_onMakeSKT ?_ | refine s_binTI ?_ | refine s_binTS ?_ | refine s_binX ?_ | refine s_ixX ?_ | refine s_ixO ?_ | refine s_eqXi ?_ | refine s_eqXt ?_ | refine s_onNegF ?_ | refine s_onNegT ?_ | refine s_lenO ?_ | refine s_intI ?_ | refine s_intB ?_ | refine s_min2 ?_ | refine s_isiO ?_ | refine s_onIsiO ?_ | refine s_pIns ?_ | refine s_pCallI ?_ | refine s_pBin ?_ | refine s_pIx ?_ | refine s_pIxX ?_ | refine s_pEq ?_ | refine s_pIsiO ?_))
local macro_rules | `(tactic| walk_at "s2") => `(tactic| first
  | (with_reducible refine s_onLen ?hl ?_); (case hl => rfl)
  | (with_reducible refine s_onBM ?hl ?_); (case hl => rfl)
  | (with_reducible refine s_hTup ?hl ?_); (case hl => rfl)
  | (with_reducible refine s_onFld (d := ?d) ?hl ?_); (case hl => rfl)
  | (with_reducible refine s_onMeth ?hl ?_); (case hl => first | decide | decide +kernel)
  | (with_reducible refine s_onListGM ?hl ?_); (case hl => first | decide | decide +kernel)
  | (with_reducible refine s_pMeth ?hl ?_); (case hl => first | decide | decide +kernel)
  | (with_reducible refine s_pListGM ?hl ?_); (case hl => first | decide | decide +kernel)
  | (with_reducible refine s_app (ds := ?ds) ?hl ?_); (case hl => rfl)
  | (with_reducible refine eq_int ?_) | (with_reducible refine ne_int ?_))
local macro_rules | `(tactic| walk_at "t") => `(tactic| repeat first | walk_at "s0" | walk_at "v" | walk_at "s1" | walk_at "s2")
local macro_rules | `(tactic| walk_at "s") => `(tactic| repeat first | walk_at "s0" | (with_reducible refine t_seq ?_) | walk_at "v" | (with_reducible refine s_seq ?_) | walk_at "s1" | walk_at "s2" | (with_reducible refine t_gseq ?_) | (with_reducible refine g_seq ?_))
def sp_mlaw_text (A : Cs) : SpD := fun ds P _ => ∃ (days : List Ns) (lead : Int), ds = [.lst (eDs days), .int lead] ∧ 0 ≤ lead ∧ lead < 10000 ∧ TxOk days ∧ P (.str (wordsT days lead))
def sp_mlaw_some (A : Cs) (l : Addr) : SpD := fun ds P _ => ∃ (names : Ns) (most : Int), ds = [.adr l, .lst (names.map .str), .int most] ∧ names.Nodup ∧ names.length ≤ 100 ∧ (∀ n ∈ names, PyData.strOk n = true) ∧ 0 ≤ most ∧ most ≤ 100 ∧
  ∀ ys : Ns, ys.Nodup → (ys.length : Int) ≤ most → (∀ n ∈ ys, n ∈ names) → P (eN ys)
def sp_mlaw_day (A : Cs) : SpD := fun ds P _ => ∃ (days : List Ns) (lead d : Int), ds = [.lst (eDs days), .int lead, .int d] ∧ days.length ≤ 10000 ∧ 0 ≤ lead ∧ lead < days.length ∧ 0 ≤ d ∧ d ≤ LAST ∧ P (eN (onDay days lead d))
theorem len_mlaw_text (A : Cs) : ∀ ds P x, sp_mlaw_text A ds P x → ds.length = (["_law_days", "_law_lead"] : List Str).length := by
  rintro ds P x ⟨_, _, rfl, _⟩; rfl
theorem len_mlaw_some (A : Cs) (l : Addr) : ∀ ds P x, sp_mlaw_some A l ds P x → ds.length = (["_law_h", "_law_names", "_law_most"] : List Str).length := by
  rintro ds P x ⟨_, _, rfl, _⟩; rfl
theorem len_mlaw_day (A : Cs) : ∀ ds P x, sp_mlaw_day A ds P x → ds.length = (["_law_days", "_law_lead", "_law_day_here"] : List Str).length := by
  rintro ds P x ⟨_, _, _, rfl, _⟩; rfl
abbrev N_mlaw_alike : List Str := ["_law_found", "_law_due", "_law_k"]
def D_mlaw_alike (A : Cs) (rc : SpD) : TSD := (dSeq (dIfS (dTest (dIsi "dict" (dVar 1))) dNever dNext) (dSeq (dIfS (dTest (dIsiTL (dVar 1))) (dSeq (dIfS (dOr (dNot (dTest (dIsiTL (dVar 0)))) (dTest (dOp rNeDD (dIsi "list" (dVar 0)) (dIsi "list" (dVar 1))))) (dRet (dC (.bl false))) dNext) (dSeq (dIfS (dTest (dOp rNeDD (dCB rLenD (dCons (dVar 0) dNil)) (dCB rLenD (dCons (dVar 1) dNil)))) (dRet (dC (.bl false))) dNext) (dRet (dOp rEqDD (dOfN (nLc (iRng1D (dCons (dCB rLenD (dCons (dVar 1) dNil)) dNil)) (hName 2) (dNot (dTest (dCall rc x0 (dCons (dOp rIxD (dVar 0) (dVar 2)) (dCons (dOp rIxD (dVar 1) (dVar 2)) dNil))))) (dVar 2) [2])) (dLst dNil))))) dNext) (dSeq (dIfS (dOr (dTest (dOp rIsND (dVar 1) (dC .non))) (dTest (dIsi "str" (dVar 1)))) (dRet (dAndV (dOp rEqDD (dVar 0) (dVar 1)) (dOp rEqDD (dIsi "str" (dVar 0)) (dIsi "str" (dVar 1))))) dNext) (dRet (dAndV (dIsi "int" (dVar 0)) (dAndV (dOp rEqDD (dIsi "bool" (dVar 0)) (dIsi "bool" (dVar 1))) (dOp rEqDD (dVar 0) (dVar 1))))))))
abbrev N_mlaw_text : List Str := ["_law_days", "_law_lead", "_law_day_here"]
def D_mlaw_text (A : Cs) : TSD := (dRet (dBM "str" rJoinD (dC (.str "\n")) (dCons (dOp rCatLD (dLst (dCons (dOp rAddSD (dC (.str "lead ")) (dCB rStrID (dCons (dVar 1) dNil))) dNil)) (dOfN (nLc (iLstD (dVar 0)) (hName 2) dYes (dIf (dTest (dOp rNeDD (dVar 2) (dTup dNil))) (dBM "str" rJoinD (dC (.str " ")) (dCons (dVar 2) dNil)) (dC (.str "-"))) [2]))) dNil)))
abbrev N_mlaw_some : List Str := ["_law_h", "_law_names", "_law_most", "_law_left", "_law_found", "_law_k"]
def D_mlaw_some (A : Cs) (l : Addr) : TSD := (dSeq (dParN 3 4 (nList (dCons (dVar 1) dNil)) (nLst dNil)) (dSeq (dForV (iRng1D (dCons (dCall (spDrawn l) x0 (dCons (dVar 0) (dCons (dOp rAddD (dCB rMin2D (dCons (dVar 2) (dCons (dCB rLenD (dCons (dVar 3) dNil)) dNil))) (dC (.int 1))) dNil))) dNil)) (hName 5) (dAppPop 4 3 (dCall (spDrawn l) x0 (dCons (dVar 0) (dCons (dCB rLenD (dCons (dVar 3) dNil)) dNil))))) (dRet (dCB rTupleD (dCons (dVar 4) dNil)))))
abbrev N_mlaw_day : List Str := ["_law_days", "_law_lead", "_law_day_here"]
def D_mlaw_day (A : Cs) : TSD := (dSeq (dIfS (dTest (dOp rLtD (dVar 2) (dCB rLenD (dCons (dVar 0) dNil)))) (dRet (dOp rIxD (dVar 0) (dVar 2))) dNext) (dRet (dOp rIxD (dVar 0) (dOp rAddD (dVar 1) (dOp rModD (dCB rIntID (dCons (dOp rSubD (dVar 2) (dVar 1)) dNil)) (dOp rSubD (dCB rLenD (dCons (dVar 0) dNil)) (dVar 1)))))))
theorem pure_alike (A : Cs) (n : Nat) : ∀ ds P x, spSame n ds P x → D_mlaw_alike A (match n with | 0 => fun _ _ _ => False | m + 1 => spSame m) { nx := fun _ => P .non, rt := P } (startD N_mlaw_alike ds) := by
  rintro ds P x ⟨d, rfl, hd, hp⟩
  have seq : ∀ (ds : List D) (m : Nat), n = m + 1 → ds.length ≤ 100000 → ds.all (plainD m) = true → ∀ (mk : List D → D) (hmk : mk = D.lst ∨ mk = D.tup), D_mlaw_alike A (match n with | 0 => fun _ _ _ => False | m + 1 => spSame m) { nx := fun _ => P .non, rt := P } (startD N_mlaw_alike [mk ds, mk ds]) := by
    intro ds m hm hz hall mk hmk
    subst hm
    rcases hmk with rfl | rfl
    all_goals
      refine ⟨rfl, rfl, rfl, rfl, rfl, ne_bl_same ?_⟩
      refine ne_int ?_
      rw [decide_eq_true rfl]
      show (-1000000000 ≤ (ds.length : Int) ∧ (ds.length : Int) ≤ 1000000000000000000000 ∧ (ds.length : Int) < 2 ^ 62) ∧ compD (rngD 0 (ds.length : Int).toNat) _ _ _ _ _
      refine ⟨⟨by omega, by omega, by omega⟩, ?_⟩
      rw [Int.toNat_natCast]
      refine comp_if (xs := List.range ds.length) (enc := fun k : Nat => .int (0 + (k : Int))) (f := fun k : Nat => D.int (0 + (k : Int))) (p := fun _ => false) (by rw [List.length_range]; omega) (fun k hk Q N3 h => ?_) ?_
      · rw [if_neg Bool.false_ne_true] at h
        have hk' := List.mem_range.mp hk
        have eg : ds[(0 + (k : Int)).toNat]? = some ds[k] := by rw [show (0 + (k : Int)).toNat = k by omega]; exact List.getElem?_eq_getElem hk'
        have hpl := List.all_eq_true.mp hall ds[k] (List.getElem_mem hk')
        first
          | exact at_lstD (by omega) eg (at_lstD (by omega) eg ⟨ds[k], rfl, hpl, h⟩)
          | exact at_tupD (by omega) eg (at_tupD (by omega) eg ⟨ds[k], rfl, hpl, h⟩)
      · rw [show (List.range ds.length).filter (fun _ => false) = [] from List.filter_eq_nil_iff.mpr fun _ _ => Bool.false_ne_true]
        exact ⟨(by decide : (0 : Nat) ≤ 1000000), eq_nil hp⟩
  cases d with
  | non => exact ⟨rfl, rfl, eq_non ⟨rfl, rfl, eq_bl_same hp⟩⟩
  | bl b => exact ⟨rfl, rfl, rfl, rfl, rfl, rfl, eq_bl_same (eq_bl_same hp)⟩
  | int i => exact ⟨rfl, rfl, rfl, rfl, rfl, rfl, eq_bl_same (eq_int (by rw [decide_eq_true rfl]; exact hp))⟩
  | str z =>
    have hz : PyData.strOk z = true := by unfold plainD at hd; exact hd
    exact ⟨rfl, rfl, rfl, eq_str hz hz (by rw [decide_eq_true rfl]; exact ⟨rfl, rfl, eq_bl_same hp⟩)⟩
  | lst ds =>
    cases n with
    | zero => unfold plainD at hd; cases hd
    | succ m =>
      unfold plainD at hd
      obtain ⟨h1, h2⟩ := Bool.and_eq_true_iff.mp hd
      exact seq ds m rfl (of_decide_eq_true h1) h2 D.lst (.inl rfl)
  | tup ds =>
    cases n with
    | zero => unfold plainD at hd; cases hd
    | succ m =>
      unfold plainD at hd
      obtain ⟨h1, h2⟩ := Bool.and_eq_true_iff.mp hd
      exact seq ds m rfl (of_decide_eq_true h1) h2 D.tup (.inr rfl)
  | _ => cases n <;> (unfold plainD at hd; cases hd)
theorem pure_mlaw_text (A : Cs) : ∀ ds P x, sp_mlaw_text A ds P x → D_mlaw_text A { nx := fun _ => P .non, rt := P } (startD N_mlaw_text ds) := fun ds P x h => pure_rlaw_words A ds P x h
theorem pure_mlaw_day (A : Cs) : ∀ ds P x, sp_mlaw_day A ds P x → D_mlaw_day A { nx := fun _ => P .non, rt := P } (startD N_mlaw_day ds) := by
  rintro ds P x ⟨days, lead, d, rfl, hz, l0, l1, d0, d1, hp⟩
  have hL : LAST = 1000000000000000000 := rfl
  have pl := place_lt l0 l1 d0
  have at_ : ∀ p : Int, 0 ≤ p → p < days.length → p = mPlace d lead days.length → rIxD (.lst (eDs days)) (.int p) P := fun p p0 p1 e => by
    refine at_lst (xs := days) (f := eN) (x := days.getD p.toNat []) p0 ?_ ?_
    · rw [List.getD_eq_getElem?_getD, List.getElem?_eq_getElem (by omega)]; rfl
    · rw [e]; exact hp
  unfold D_mlaw_day
  walk_at "s"
  rw [eDs_len]
  refine s_ifD (fun h => ?_) fun h => ?_
  · walk_at "s"
    exact at_ d d0 h (by unfold mPlace; rw [if_pos h])
  · walk_at "s"
    rw [eDs_len]
    have m0 := Int.emod_nonneg (d - lead) (show (days.length : Int) - lead ≠ 0 by omega)
    have m1 := Int.emod_lt_of_pos (d - lead) (show 0 < (days.length : Int) - lead by omega)
    refine ⟨by omega, ?_⟩
    exact at_ _ (by omega) (by omega) (by unfold mPlace; rw [if_neg h])
theorem pure_mlaw_some (A : Cs) (l : Addr) : ∀ ds P x, sp_mlaw_some A l ds P x → D_mlaw_some A l { nx := fun _ => P .non, rt := P } (startD N_mlaw_some ds) := by
  rintro ds P x ⟨names, most, rfl, nd, l8, hs, m0, m1, hp⟩
  unfold D_mlaw_some
  walk_at "s"
  refine ⟨(by decide : (0 : Nat) ≤ 1000000), ?_⟩
  walk_at "s"
  rw [List.length_map]
  have hm0 : 0 ≤ (if (names.length : Int) < most then (names.length : Int) else most) := by split <;> omega
  have hm1 : (if (names.length : Int) < most then (names.length : Int) else most) ≤ most := by split <;> omega
  have hm2 : (if (names.length : Int) < most then (names.length : Int) else most) ≤ names.length := by split <;> omega
  generalize (if (names.length : Int) < most then (names.length : Int) else most) = m at hm0 hm1 hm2
  walk_at "s"
  refine ⟨m + 1, rfl, ⟨by omega, by omega⟩, fun q q0 q1 => ?_⟩
  walk_at "s"
  refine s_onRng1 ⟨by omega, by omega⟩ ?_
  rw [rngD_map]
  refine loop_of (xs := rngI 0 q.toNat) (fun s ρ => ∃ (left day : Ns) (y : Option D), ρ = [some (.adr l), some (.lst (names.map .str)), some (.int most), some (.own .lst (left.map .str)), some (.own .lst (day.map .str)), y] ∧ (day ++ left).Perm names ∧ day.length + s.length = q.toNat)
    ⟨names, [], none, rfl, List.Perm.refl _, by rw [rngI_len]; show 0 + _ = _; omega⟩ ?_ ?_
  · rintro t s ρ ⟨left, day, y, rfl, pm, hs⟩ N2 B2 R2 hN2 hB2 hR2
    rw [List.length_cons] at hs
    have hlen := pm.length_eq
    rw [List.length_append] at hlen
    refine ⟨⟨⟨_, rfl⟩, ⟨_, rfl⟩⟩, ((left.map D.str).length : Int), rfl, ⟨by rw [List.length_map]; omega, by rw [List.length_map]; omega⟩, fun z z0 z1 => ?_⟩
    rw [List.length_map] at z1
    refine pop_at (xs := left) rfl z0 z1 (by omega) fun n hn => ?_
    refine end_at (xs := day) (f := D.str) rfl (by omega) ?_
    refine hN2 _ ⟨left.eraseIdx z.toNat, day ++ [n], some (.int t), ?_, (take_out hn).trans pm, by rw [List.length_append, List.length_singleton]; omega⟩
    rw [List.map_append]
    rfl
  · rintro ρ ⟨left, day, y, rfl, pm, hs⟩
    have hs : day.length = q.toNat := by simpa using hs
    have nd2 := pm.nodup_iff.mpr nd
    have hlen := pm.length_eq
    rw [List.length_append] at hlen
    walk_at "s"
    exact hp day (List.nodup_append.mp nd2).1 (by omega) fun n hn => pm.mem_iff.mp (List.mem_append_left _ hn)
theorem words_ok {days : List Ns} {lead : Int} (h0 : 0 ≤ lead) (tx : TxOk days) : PyData.strOk (wordsT days lead) = true := ok_of_tl (k := 123) (by decide) fun c hc => by
  unfold wordsT at hc
  rcases mem_join hc with q | ⟨p, hp, q⟩
  · have e : tl ("\n" : Str) = [10] := by decide +kernel
    rw [e] at q
    have := List.mem_singleton.mp q
    omega
  · rcases List.mem_cons.mp hp with rfl | hp
    · exact (leadT_tl h0 c q).2
    · obtain ⟨r, hr, rfl⟩ := List.mem_map.mp hp
      have := row_tl (tx.nm r hr) c q
      omega
end Z
end
section
namespace Z
open PySem
def fd (days : List Ns) (lead : Int) (f : Str × Int) : Option Int := (mAllDry days lead f).head?
end Z
end
section
namespace Z
open PySem L2 DL
inductive Kd where
  | steady | resting | shift | late
def Kd.nm : Kd → Str
  | .steady => "steady"
  | .resting => "resting"
  | .shift => "shift"
  | .late => "late"
structure Sp4 where
  k : Kd
  w : Str
  a : Int
  b : Int
def Sp4.enc (s : Sp4) : D := .tup [.str s.k.nm, .str s.w, .int s.a, .int s.b]
def Sp4.ok (s : Sp4) : Prop := isNm s.w = true ∧ match s.k with
  | .steady => True
  | .resting => (2 ≤ s.a ∧ s.a ≤ 1000) ∧ 0 ≤ s.b ∧ s.b ≤ s.a - 1
  | .shift => (1 ≤ s.a ∧ s.a ≤ 1000) ∧ 1 ≤ s.b ∧ s.b ≤ 1000
  | .late => 0 ≤ s.a ∧ s.a ≤ LAST
end Z
end
section
namespace Z
open PySem L2 DL TL
structure CleanW (w : Str) : Prop where
  ok : ∀ c ∈ tl w, c ≠ 32 ∧ c ≠ 10 ∧ c < 123
  len : w.length ≤ 10
theorem CleanW.str {w : Str} (h : CleanW w) : PyData.strOk w = true := ok_of_tl (k := 123) (by decide) fun c hc => (h.ok c hc).2.2
end Z
end
section
namespace Z
open PySem L2 DL TL
def sp_row_of (A : Cs) : SpD := fun ds P _ => ∃ d : Ns, ds = [eN d] ∧ d.length ≤ 100 ∧ (∀ n ∈ d, n.length ≤ 10) ∧ P (.str (rowT d))
def sp_format_plan (A : Cs) : SpD := fun ds P _ => ∃ (days : List Ns) (lead : Int), ds = [ePlan A days lead] ∧ days.length ≤ 100 ∧ (∀ d ∈ days, d.length ≤ 100 ∧ ∀ n ∈ d, n.length ≤ 10) ∧ 0 ≤ lead ∧ lead < 10000 ∧ P (.str (wordsT days lead))
theorem len_row_of (A : Cs) : ∀ ds P x, sp_row_of A ds P x → ds.length = (["names"] : List Str).length := by
  rintro ds P x ⟨_, rfl, _⟩; rfl
theorem len_format_plan (A : Cs) : ∀ ds P x, sp_format_plan A ds P x → ds.length = (["plan"] : List Str).length := by
  rintro ds P x ⟨_, _, rfl, _⟩; rfl
abbrev N_row_of : List Str := ["names"]
def D_row_of (A : Cs) : TSD := (dSeq (dIfS (dNot (dTru (dVar 0))) (dRet (dC (.str "-"))) dNext) (dRet (dBM "str" rJoinD (dC (.str " ")) (dCons (dVar 0) dNil))))
abbrev N_format_plan : List Str := ["plan", "rows", "names"]
def D_format_plan (A : Cs) : TSD := (dSeq (dSetN 1 (nLst (dCons (dJoin [(dFmt (dC (.str "lead"))), (dC (.str " ")), (dFmt (dProp A.Plan (sp_Plan_lead A) (dVar 0)))]) dNil))) (dSeq (dExt 1 (dOfN (nLc (iTupD (dProp A.Plan (sp_Plan_days A) (dVar 0))) (hName 2) dYes (dCall (sp_row_of A) x0 (dCons (dVar 2) dNil)) [2]))) (dRet (dBM "str" rJoinD (dC (.str "\n")) (dCons (dVar 1) dNil)))))
theorem pure_row_of (A : Cs) : ∀ ds P x, sp_row_of A ds P x → D_row_of A { nx := fun _ => P .non, rt := P } (startD N_row_of ds) := by
  rintro ds P x ⟨d, rfl, hz, hn, hp⟩
  cases d with
  | nil => exact hp
  | cons n r =>
    refine ⟨rfl, n :: r, rfl, ?_, ?_⟩
    · have := sum_le (xs := (n :: r).map (·.length)) (k := 10) fun x hx => by
        obtain ⟨p, hp, rfl⟩ := List.mem_map.mp hx
        exact hn p hp
      rw [List.length_map] at this
      rw [sp_len]
      omega
    · unfold rowT at hp
      rw [if_neg (List.cons_ne_nil _ _)] at hp
      exact hp
theorem rowT_le {d : Ns} (hz : d.length ≤ 100) (hn : ∀ n ∈ d, n.length ≤ 10) : (rowT d).length ≤ 1100 := by
  unfold rowT
  by_cases e : d = []
  · rw [if_pos e]; decide +kernel
  · rw [if_neg e]
    have := join_le (y := " ") (ps := d) (k := 10) hn
    rw [sp_len] at this
    omega
theorem pure_format_plan (A : Cs) : ∀ ds P x, sp_format_plan A ds P x → D_format_plan A { nx := fun _ => P .non, rt := P } (startD N_format_plan ds) := by
  rintro ds P x ⟨days, lead, rfl, hz, hd, h0, h1, hp⟩
  have l4 : ("lead" : Str).length = 4 := by decide +kernel
  have l1 : (" " : Str).length = 1 := sp_len
  have hn := num_le h0 h1
  have e0 : (Str.empty ++ ("lead" : Str) ++ (" " : Str) ++ numT lead) = leadT lead := by
    refine ext_tl ?_
    unfold leadT
    rw [tl_append, tl_append, tl_append, tl_append, lead_tl, sp_tl, leads_tl]
    have : tl Str.empty = [] := by decide +kernel
    rw [this]
    rfl
  have le : (Str.empty : Str).length = 0 := by decide +kernel
  refine ⟨by rw [l4]; decide, by rw [Str.length_append, le, l4]; decide, by rw [Str.length_append, Str.length_append, le, l4, l1]; decide, rfl, days, lead, rfl, sm_fm (by unfold Sm; omega), ?_⟩
  refine ⟨by show (Str.empty ++ ("lead" : Str) ++ (" " : Str) ++ numT lead).length ≤ _; rw [e0]; have := leadT_le h0 h1; omega, (by decide : (1 : Nat) ≤ 1000000), ?_⟩
  refine ⟨⟨_, rfl⟩, rfl, days, lead, rfl, ?_⟩
  show compD (days.map eN) _ _ _ _ _
  refine comp_of (f := fun d => .str (rowT d)) (by omega) (fun d hd' Q q => ⟨d, rfl, (hd d hd').1, (hd d hd').2, q⟩) ?_
  refine ⟨by rw [List.length_map]; show 1 + days.length ≤ _; omega, rfl, leadT lead :: days.map rowT, ?_, ?_, hp⟩
  · show some ([D.str (Str.empty ++ ("lead" : Str) ++ (" " : Str) ++ numT lead)] ++ days.map fun d => D.str (rowT d)) = some (D.str (leadT lead) :: (days.map rowT).map D.str)
    rw [e0, List.map_map]
    rfl
  · have := sum_le (xs := (leadT lead :: days.map rowT).map (·.length)) (k := 1100) fun x hx => by
      obtain ⟨p, hp, rfl⟩ := List.mem_map.mp hx
      rcases List.mem_cons.mp hp with rfl | hp
      · have := leadT_le h0 h1; omega
      · obtain ⟨d, hd', rfl⟩ := List.mem_map.mp hp
        exact rowT_le (hd d hd').1 (hd d hd').2
    rw [List.length_map, List.length_cons, List.length_map] at this
    rw [List.length_cons, List.length_map, nl_len]
    omega
end Z
end
section
namespace Z
open PySem L2 DL TL
local macro_rules | `(tactic| walk_at "s0") => `(tactic| (with_reducible first | refine t_next ?_ | refine t_ret ?_ | refine t_set ?_ | refine s_ifS ?_ | refine s_cons ?_ | refine s_c ?_ | refine s_nil ?_ | refine s_op ?_ | refine s_cb ?_ | refine s_test ?_ | refine s_call ?_ | refine s_onB ?_ | refine s_ifT ?_ | refine s_ifF ?_))
local macro_rules | `(tactic| walk_at "v") => `(tactic| first
  | (with_reducible refine s_varP (d := ?d) ?hi ?ho ?_); (case hi => rfl); (case ho => rfl)
  | (with_reducible refine s_varL (ds := ?ds) ?hi ?_); (case hi => rfl)
  | (with_reducible refine s_varK (kk := ?kk) (ds := ?ds) ?hi ?_); (case hi => rfl)
  | (with_reducible refine s_var (d := ?d) ?hi ?ho ?_); (case hi => rfl); (case ho => rfl))
local macro_rules | `(tactic| walk_at "s1") => `(tactic| (with_reducible first
  | refine t_retN ?_ | refine t_drop ?_ | refine t_setN ?_ | refine t_par ?_ | refine t_parX ?_ | refine t_parX3 ?_ | refine t_parN ?_ | refine t_parN3 ?_ | refine t_asg ?_ | refine t_gplain ?_
  | refine s_next ?_ | refine s_ret ?_ | refine s_set ?_ | refine s_retN ?_ | refine s_drop ?_ | refine s_setN ?_ | refine s_par ?_ | refine s_onPar ?_ | refine s_parX ?_ | refine s_parX3 ?_ | refine s_parN ?_ | refine s_parN3 ?_ | refine s_xN ?_
  | refine s_for ?_ | refine s_forV ?_ | refine s_asg ?_ | refine s_hName ?_ | refine s_hCons ?_ | refine s_hNil ?_
  | refine s_lst ?_ | refine s_tup ?_ | refine s_nLst ?_ | refine s_and ?_ | refine s_or ?_ | refine s_not ?_ | refine s_if ?_ | refine s_andV ?_ | refine s_orV ?_ | refine s_notV ?_ | refine s_chain ?_
  | refine s_ifN ?_ | refine s_ii ?_ | refine s_isN ?_ | refine s_notN ?_ | refine s_oNo ?_ | refine s_oYes ?_ | refine s_onInt ?_ | refine s_sl ?_ | refine s_slL ?_ | refine s_slT ?_ | refine s_lenL ?_ | refine s_lenT ?_ | refine s_listL ?_ | refine s_listT ?_ | refine s_tupL ?_ | refine s_tupT ?_
  | refine s_ofN ?_ | refine s_lc ?_ | refine s_iLst ?_ | refine s_iTup ?_ | refine s_iStr ?_ | refine s_onLst ?_ | refine s_onTup ?_ | refine s_onStr ?_ | refine s_rng1 ?_ | refine s_rng2 ?_ | refine s_tru ?_ | refine s_truL ?_ | refine s_truT ?_ | refine s_truN ?_ | refine s_truB ?_ | refine s_yes ?_
  | refine s_fld ?_ | refine s_prop ?_ | refine s_onIns ?_ | refine s_meth ?_ | refine s_bm ?_ | refine s_lam ?_
  | refine g_plain ?_ | refine g_nil ?_ | refine g_retN ?_ | refine g_if ?_ | refine g_for ?_ | refine s_isiG ?_ | refine s_onIsiGy ?_ | refine s_onIsiGn ?_ | refine s_callI ?_ | refine s_onCallI ?_ | refine s_listGM ?_ | refine s_listG ?_ | refine s_starS ?_ | refine s_onStarL ?_ | refine s_onStarT ?_ | refine s_makeR ?_ | refine s_makeSK ?_ | refine s_onMakeSKL ?_ | refine s_onMakeSKT ?_ | refine s_binTI ?_ | refine s_binTS ?_ | refine s_binX ?_ | refine s_ixX ?_ | refine s_ixO ?_ | refine s_eqXi ?_ | refine s_eqXt ?_ | refine s_onNegF ?_ | refine s_onNegT ?_ | refine s_lenO ?_ | refine s_intI ?_ | refine s_intB ?_ | refine s_min2 ?_ | refine s_isiO ?_ | refine s_onIsiO ?_ | refine s_pIns ?_ | refine s_pCallI ?_ | refine s_pBin ?_ | refine s_pIx ?_ | refine s_pIxX ?_ | refine s_pEq ?_ | refine s_pIsiO ?_))
local macro_rules | `(tactic| walk_at "s2") => `(tactic| first
  | (with_reducible refine s_onLen ?hl ?_); (case hl => rfl)
  | (with_reducible refine s_onBM ?hl ?_); (case hl => rfl)
  | (with_reducible refine s_hTup ?hl ?_); (case hl => rfl)
  | (with_reducible refine s_onFld (d := ?d) ?hl ?_); (case hl => rfl)
  | (with_reducible refine s_onMeth ?hl ?_); (case hl => first | decide | decide +kernel)
  | (with_reducible refine s_onListGM ?hl ?_); (case hl => first | decide | decide +kernel)
  | (with_reducible refine s_pMeth ?hl ?_); (case hl => first | decide | decide +kernel)
  | (with_reducible refine s_pListGM ?hl ?_); (case hl => first | decide | decide +kernel)
  | (with_reducible refine s_app (ds := ?ds) ?hl ?_); (case hl => rfl)
  | (with_reducible refine eq_int ?_) | (with_reducible refine ne_int ?_))
local macro_rules | `(tactic| walk_at "t") => `(tactic| repeat first | walk_at "s0" | walk_at "v" | walk_at "s1" | walk_at "s2")
local macro_rules | `(tactic| walk_at "s") => `(tactic| repeat first | walk_at "s0" | (with_reducible refine t_seq ?_) | walk_at "v" | (with_reducible refine s_seq ?_) | walk_at "s1" | walk_at "s2" | (with_reducible refine t_gseq ?_) | (with_reducible refine g_seq ?_))
abbrev N_law_k55 : List Str := ["_law_script", "_law_h", "_law_names", "_law_turn", "_law_days", "_law_lead", "_law_plan", "_law_one", "_law_two", "_law_shifted", "_law_k", "_law_name", "_law_found", "_law_due"]
def D_law_k55 (A : Cs) (l : Addr) : TSD := (dSeq (dSet 2 (dLst (dCons (dC (.str "ash")) (dCons (dC (.str "bo")) (dCons (dC (.str "cork")) dNil))))) (dSeq (dFor (iRng1D (dCons (dC (.int 5)) dNil)) (hName 3) (dSeq (dSet 4 (dOfN (nLc (iRng1D (dCons (dOp rAddD (dC (.int 1)) (dCall (spDrawn l) x0 (dCons (dVar 1) (dCons (dC (.int 9)) dNil)))) dNil)) (hName 10) dYes (dCall (sp_mlaw_some A l) x0 (dCons (dVar 1) (dCons (dVar 2) (dCons (dC (.int 3)) dNil)))) [10]))) (dSeq (dSet 5 (dCall (spDrawn l) x0 (dCons (dVar 1) (dCons (dCB rLenD (dCons (dVar 4) dNil)) dNil)))) (dSeq (dSet 6 (dCall (sp_parse_plan A) x0 (dCons (dCall (sp_mlaw_text A) x0 (dCons (dVar 4) (dCons (dVar 5) dNil))) dNil))) (dSeq (dIfS (dOr (dTest (dOp rNeDD (dTup (dCons (dProp A.Plan (sp_Plan_days A) (dVar 6)) (dCons (dProp A.Plan (sp_Plan_lead A) (dVar 6)) dNil))) (dTup (dCons (dCB rTupleD (dCons (dVar 4) dNil)) (dCons (dVar 5) dNil))))) (dTest (dOp rNeDD (dCall (sp_format_plan A) x0 (dCons (dVar 6) dNil)) (dCall (sp_mlaw_text A) x0 (dCons (dVar 4) (dCons (dVar 5) dNil)))))) (dRet (dC (.bl false))) dNext) (dSeq (dSet 7 (dOp rIxD (dLst (dCons (dCall (spDrawn l) x0 (dCons (dVar 1) (dCons (dC (.int 12)) dNil))) (dCons (dOp rAddD (dOp rPowD (dC (.int 10)) (dC (.int 17))) (dCall (spDrawn l) x0 (dCons (dVar 1) (dCons (dC (.int 99)) dNil)))) dNil))) (dCall (spDrawn l) x0 (dCons (dVar 1) (dCons (dC (.int 2)) dNil))))) (dSeq (dSet 8 (dOp rIxD (dLst (dCons (dCall (spDrawn l) x0 (dCons (dVar 1) (dCons (dC (.int 12)) dNil))) (dCons (dOp rAddD (dOp rPowD (dC (.int 10)) (dC (.int 17))) (dCall (spDrawn l) x0 (dCons (dVar 1) (dCons (dC (.int 99)) dNil)))) dNil))) (dCall (spDrawn l) x0 (dCons (dVar 1) (dCons (dC (.int 2)) dNil))))) (dSeq (dSet 9 (dOp (rBinTXD A.Plan "int" (sp_Plan_rshiftX A) x0) (dVar 6) (dVar 7))) (dSeq (dIfS (dOr (dNot (dTest (dIsiO A.Plan (dVar 9)))) (dTest (dOp (rEqXD A.Plan true (sp_Plan_eq A) x0) (dOp (rBinTXD A.Plan "int" (sp_Plan_rshiftX A) x0) (dVar 9) (dVar 8)) (dOp (rBinTXD A.Plan "int" (sp_Plan_rshiftX A) x0) (dVar 6) (dOp rAddD (dVar 7) (dVar 8)))))) (dRet (dC (.bl false))) dNext) (dSeq (dIfS (dOr (dTest (dOp (rEqXD A.Plan true (sp_Plan_eq A) x0) (dCall (sp_parse_plan A) x0 (dCons (dCall (sp_format_plan A) x0 (dCons (dVar 9) dNil)) dNil)) (dVar 9))) (dTest (dOp (rEqXD A.Plan true (sp_Plan_eq A) x0) (dOp (rBinTXD A.Plan "int" (sp_Plan_rshiftX A) x0) (dVar 6) (dC (.int 0))) (dVar 6)))) (dRet (dC (.bl false))) dNext) (dSeq (dFor (iRng1D (dCons (dOp rAddD (dOp rMulD (dC (.int 2)) (dCB rLenD (dCons (dVar 4) dNil))) (dC (.int 3))) dNil)) (hName 10) (dIfS (dOr (dTest (dOp rNeDD (dOp (rIxOD A.Plan (sp_Plan_getitem A)) (dVar 9) (dVar 10)) (dOp (rIxOD A.Plan (sp_Plan_getitem A)) (dVar 6) (dOp rAddD (dVar 7) (dVar 10))))) (dTest (dOp rNeDD (dOp (rIxOD A.Plan (sp_Plan_getitem A)) (dVar 6) (dVar 10)) (dCall (sp_mlaw_day A) x0 (dCons (dVar 4) (dCons (dVar 5) (dCons (dVar 10) dNil))))))) (dRet (dC (.bl false))) dNext)) (dFor (iLstD (dVar 2)) (hName 11) (dSeq (dSet 12 (dOfN (nLc (iRng1D (dCons (dC (.int 30)) dNil)) (hName 10) (dTest (dOp (rInD false) (dVar 11) (dOp (rIxOD A.Plan (sp_Plan_getitem A)) (dVar 6) (dOp rAddD (dVar 7) (dVar 10))))) (dVar 10) [10]))) (dSeq (dIfS (dTest (dOp rNeDD (dOfN (nListGM A.Plan "harvests" (sp_Plan_harvests A) x0 (dVar 9) (dCons (dVar 11) (dCons (dC (.int 0)) (dCons (dC (.int 29)) dNil))))) (dVar 12))) (dRet (dC (.bl false))) dNext) (dSeq (dIfS (dTest (dOp rNeDD (dOfN (nListGM A.Plan "harvests" (sp_Plan_harvests A) x0 (dVar 6) (dCons (dVar 11) (dCons (dVar 7) (dCons (dOp rAddD (dVar 7) (dC (.int 29))) dNil))))) (dOfN (nLc (iLstD (dVar 12)) (hName 10) dYes (dOp rAddD (dVar 7) (dVar 10)) [10])))) (dRet (dC (.bl false))) dNext) (dSeq (dSet 13 (dIf (dTest (dOp rNeDD (dVar 12) (dLst dNil))) (dOp rAddD (dVar 7) (dOp rIxD (dVar 12) (dC (.int 0)))) (dC .non))) (dIfS (dOr (dNot (dTest (dCall (spSame 3) x0 (dCons (dCallI A.Plan (sp_Plan_callX A) x0 (dVar 6) (dCons (dVar 11) (dCons (dVar 7) dNil))) (dCons (dVar 13) dNil))))) (dTest (dOp rNeDD (dCallI A.Plan (sp_Plan_callX A) x0 (dVar 9) (dCons (dVar 11) (dCons (dC (.int 0)) dNil))) (dIf (dTest (dOp rNeDD (dVar 12) (dLst dNil))) (dOp rIxD (dVar 12) (dC (.int 0))) (dC .non))))) (dRet (dC (.bl false))) dNext))))))))))))))))) (dRet (dC (.bl true)))))
def w3 : Ns := ["ash", "bo", "cork"]
theorem w3_nd : w3.Nodup := by decide +kernel
theorem w3_nm : ∀ n ∈ w3, isNm n = true := by decide +kernel
theorem w3_ok : ∀ n ∈ w3, PyData.strOk n = true := fun n h => nm_ok (w3_nm n h)
structure PlOk (days : List Ns) (lead : Int) : Prop where
  l1 : 1 ≤ days.length
  l9 : days.length ≤ 9
  dl : ∀ d ∈ days, d.Nodup ∧ d.length ≤ 3 ∧ ∀ n ∈ d, n ∈ w3
  lo : 0 ≤ lead
  hi : lead < days.length
theorem PlOk.ok {days : List Ns} {lead : Int} (h : PlOk days lead) : OkPlan days lead := ⟨by have := h.l9; omega, fun d hd => ⟨(h.dl d hd).1, by have := (h.dl d hd).2.1; omega⟩, h.lo, h.hi⟩
theorem PlOk.tx {days : List Ns} {lead : Int} (h : PlOk days lead) : TxOk days := ⟨by have := h.l9; omega, fun d hd => by have := (h.dl d hd).2.1; omega, fun d hd n hn => w3_nm n ((h.dl d hd).2.2 n hn)⟩
theorem PlOk.so {days : List Ns} {lead : Int} (h : PlOk days lead) : StrsOk days := fun d hd n hn => w3_ok n ((h.dl d hd).2.2 n hn)
abbrev env55 (a l : Addr) (y3 y4 y5 y6 y7 y8 y9 y10 y11 y12 y13 : Option D) : EnvD := [some (.adr a), some (.adr l), some (.lst (w3.map .str)), y3, y4, y5, y6, y7, y8, y9, y10, y11, y12, y13]
theorem pl_eq {A : Cs} {days d2 : List Ns} {lead l2 : Int} {P : D → Prop} {x : XD} (s1 : StrsOk days) (s2 : StrsOk d2) (e1 : days = d2) (e2 : lead = l2) (h : P (.bl true)) : sp_Plan_eq A [ePlan A days lead, ePlan A d2 l2] P x :=
  ⟨days, lead, .inl ⟨d2, l2, rfl, s1, s2, by rw [decide_eq_true e1, decide_eq_true e2]; exact h⟩⟩
theorem onDay_flat {days : List Ns} {lead d : Int} (h : StrsOk days) : D.flat 60 (eN (onDay days lead d)) = true := eN_flat fun n hn => by
  unfold onDay at hn
  rw [List.getD_eq_getElem?_getD] at hn
  cases e : days[(mPlace d lead days.length).toNat]? with
  | none => rw [e] at hn; cases hn
  | some y => rw [e] at hn; exact h y (List.mem_of_getElem? e) n hn
theorem pick55 {l : Addr} {x : Option D} {r : EnvD} {K : D → Prop} (h : ∀ n : Int, 0 ≤ n → n ≤ 100000000000000098 → K (.int n)) : dOp rIxD (dLst (dCons (dCall (spDrawn l) x0 (dCons (dVar 1) (dCons (dC (.int 12)) dNil))) (dCons (dOp rAddD (dOp rPowD (dC (.int 10)) (dC (.int 17))) (dCall (spDrawn l) x0 (dCons (dVar 1) (dCons (dC (.int 99)) dNil)))) dNil))) (dCall (spDrawn l) x0 (dCons (dVar 1) (dCons (dC (.int 2)) dNil))) (x :: some (.adr l) :: r) K := by
  walk_at "t"
  refine ⟨12, rfl, ⟨by decide, by decide⟩, fun q q0 q1 => ?_⟩
  walk_at "t"
  refine ⟨⟨by decide, by decide, by decide⟩, ?_⟩
  walk_at "t"
  refine ⟨99, rfl, ⟨by decide, by decide⟩, fun p p0 p1 => ?_⟩
  walk_at "t"
  refine ⟨2, rfl, ⟨by decide, by decide⟩, fun z z0 z1 => ?_⟩
  have e10 : (10 : Int) ^ (17 : Int).toNat = 100000000000000000 := by decide +kernel
  rw [e10]
  refine pick_of (ds := [.int q, .int (100000000000000000 + p)]) z0 z1 fun d hd => ?_
  simp only [List.mem_cons, List.not_mem_nil, or_false] at hd
  rcases hd with rfl | rfl
  · exact h q q0 (by omega)
  · exact h _ (by omega) (by omega)
theorem pure_law_k55 (A : Cs) : ∀ a l, D_law_k55 A l { nx := fun _ => False, rt := fun d => d = .bl true } (some (.adr a) :: some (.adr l) :: List.replicate 12 none) := by
  intro a l
  unfold D_law_k55
  walk_at "s"
  refine s_onRng1 ⟨by omega, by omega⟩ ?_
  rw [rngD_map]
  refine loop_of (xs := rngI 0 5) (fun _ ρ => ∃ y3 y4 y5 y6 y7 y8 y9 y10 y11 y12 y13, ρ = env55 a l y3 y4 y5 y6 y7 y8 y9 y10 y11 y12 y13) ⟨_, _, _, _, _, _, _, _, _, _, _, rfl⟩ ?_ ?_
  · rintro t r ρ ⟨y3, y4, y5, y6, y7, y8, y9, y10, y11, y12, y13, rfl⟩ N B R hN hB hR
    refine seq_of (fun ρ => ∃ days : List Ns, (1 ≤ days.length ∧ days.length ≤ 9 ∧ ∀ d ∈ days, d.Nodup ∧ d.length ≤ 3 ∧ ∀ n ∈ d, n ∈ w3) ∧ ∃ y10, ρ = env55 a l (some (.int t)) (some (.lst (eDs days))) y5 y6 y7 y8 y9 y10 y11 y12 y13) (fun N' hN' => ?_) ?_
    · walk_at "s"
      refine ⟨9, rfl, ⟨by decide, by decide⟩, fun q q0 q1 => ?_⟩
      walk_at "s"
      refine s_onRng1 ⟨by omega, by omega⟩ ?_
      rw [rngD_map]
      refine comp_any (xs := rngI 0 (1 + q).toNat) (enc := D.int) (f := eN) (G := fun d => d.Nodup ∧ d.length ≤ 3 ∧ ∀ n ∈ d, n ∈ w3) (by rw [rngI_len]; omega) (fun x _ Q h => ?_) fun ys hl hg => ?_
      · walk_at "s"
        exact ⟨w3, 3, rfl, w3_nd, by decide +kernel, w3_ok, by decide, by decide, fun ys h1 h2 h3 => h ys ⟨h1, by omega, h3⟩⟩
      · rw [rngI_len] at hl
        exact hN' _ ⟨ys, ⟨by omega, by omega, hg⟩, _, rfl⟩
    clear y3 y4 y10
    rintro ρ ⟨days, ⟨l1, l9, dl⟩, y10, rfl⟩
    walk_at "s"
    refine ⟨((eDs days).length : Int), rfl, ⟨by rw [eDs_len]; omega, by rw [eDs_len]; omega⟩, fun lead d0 d1 => ?_⟩
    rw [eDs_len] at d1
    have pok : PlOk days lead := ⟨l1, l9, dl, d0, d1⟩
    walk_at "s"
    refine ⟨days, lead, rfl, d0, by omega, pok.tx, ?_⟩
    walk_at "s"
    refine ⟨days, lead, rfl, pok.ok, pok.tx, ?_⟩
    walk_at "s"
    refine ⟨days, lead, rfl, ?_⟩
    walk_at "s"
    refine ⟨days, lead, rfl, ?_⟩
    walk_at "s"
    have nbp : nbf 60 (.tup [.tup (eDs days), .int lead]) = true := nbf_tup (by unfold nbfL; rw [nbf_tup (nb_eDs pok.so)]; rfl)
    refine ne_sn nbp ?_
    walk_at "s"
    refine ⟨days, lead, rfl, by omega, fun d hd => ⟨by have := (dl d hd).2.1; omega, fun n hn => by have := nm_len (pok.tx.nm d hd n hn); omega⟩, d0, by omega, ?_⟩
    walk_at "s"
    refine ⟨days, lead, rfl, d0, by omega, pok.tx, ?_⟩
    have fw : D.flat 60 (.str (wordsT days lead)) = true := flat_str' (words_ok d0 pok.tx)
    show rNeDD (.str (wordsT days lead)) (.str (wordsT days lead)) _
    refine ne_same fw ?_
    walk_at "t"
    refine seq_of (fun ρ => ∃ n : Int, (0 ≤ n ∧ n ≤ 100000000000000098) ∧ ρ = env55 a l (some (.int t)) (some (.lst (eDs days))) (some (.int lead)) (some (ePlan A days lead)) (some (.int n)) y8 y9 y10 y11 y12 y13) (fun N' hN' => s_set (pick55 fun n n0 n1 => hN' _ ⟨n, ⟨n0, n1⟩, rfl⟩)) ?_
    rintro ρ ⟨n, ⟨n0, n1⟩, rfl⟩
    refine seq_of (fun ρ => ∃ m : Int, (0 ≤ m ∧ m ≤ 100000000000000098) ∧ ρ = env55 a l (some (.int t)) (some (.lst (eDs days))) (some (.int lead)) (some (ePlan A days lead)) (some (.int n)) (some (.int m)) y9 y10 y11 y12 y13) (fun N' hN' => s_set (pick55 fun m m0 m1 => hN' _ ⟨m, ⟨m0, m1⟩, rfl⟩)) ?_
    rintro ρ ⟨m, ⟨m0, m1⟩, rfl⟩
    have sn : Sm n := by unfold Sm; omega
    have sm : Sm m := by unfold Sm; omega
    have hL : LAST = 1000000000000000000 := rfl
    have ink : ∀ k : Int, 0 ≤ k → k ≤ 1000000000000000000 → inR k 0 LAST = true := fun k k0 k1 => inR_iff.mpr ⟨k0, by rw [hL]; exact k1⟩
    walk_at "s"
    refine ⟨days, lead, n, rfl, pok.ok, sn, ?_⟩
    rw [if_pos (ink n n0 (by omega))]
    have ok2 := sh_ok pok.ok n0
    have tx2 := sh_txok pok.ok pok.tx n0
    walk_at "s"
    refine ⟨_, _, m, rfl, ok2, sm, ?_⟩
    rw [if_pos (ink m m0 (by omega))]
    walk_at "s"
    refine ⟨days, lead, n + m, rfl, pok.ok, by unfold Sm; omega, ?_⟩
    rw [if_pos (ink (n + m) (by omega) (by omega))]
    walk_at "s"
    obtain ⟨q1, q2⟩ := sh_sh pok.ok n0 m0
    have so2 : StrsOk (shD days lead n) := fun d hd => pok.so d (sh_mem hd)
    refine pl_eq (fun d hd => so2 d (sh_mem hd)) (fun d hd => pok.so d (sh_mem hd)) q1 q2 ?_
    walk_at "s"
    have hl := sh_len pok.ok n0
    have hl9 : (shD days lead n).length ≤ 9 := by split at hl <;> omega
    have h2 := ok2.hi
    have h2l := ok2.lo
    refine ⟨shD days lead n, shL lead n, rfl, by omega, fun d hd => ⟨by have := (dl d (sh_mem hd)).2.1; omega, fun w hw => by have := nm_len (tx2.nm d hd w hw); omega⟩, ok2.lo, by omega, ?_⟩
    walk_at "s"
    refine ⟨_, _, rfl, ok2, tx2, ?_⟩
    walk_at "s"
    refine pl_eq so2 so2 rfl rfl ?_
    walk_at "s"
    refine ⟨days, lead, 0, rfl, pok.ok, sm_0, ?_⟩
    rw [if_pos (ink 0 (by decide) (by decide))]
    walk_at "s"
    obtain ⟨z1, z2⟩ := sh_zero pok.ok
    refine pl_eq (fun d hd => pok.so d (sh_mem hd)) pok.so z1 z2 ?_
    walk_at "t"
    refine seq_of (fun ρ => ∃ y10 : Option D, ρ = env55 a l (some (.int t)) (some (.lst (eDs days))) (some (.int lead)) (some (ePlan A days lead)) (some (.int n)) (some (.int m)) (some (ePlan A (shD days lead n) (shL lead n))) y10 y11 y12 y13) (fun N' hN' => ?_) ?_
    · walk_at "s"
      refine ⟨.inl ⟨by decide, by decide⟩, ?_⟩
      walk_at "s"
      rw [eDs_len]
      refine s_onRng1 ⟨by omega, by omega⟩ ?_
      rw [rngD_map]
      refine loop_of (xs := rngI 0 (2 * (days.length : Int) + 3).toNat) (fun r ρ => (∀ k ∈ r, 0 ≤ k ∧ k ≤ 100) ∧ ∃ y10 : Option D, ρ = env55 a l (some (.int t)) (some (.lst (eDs days))) (some (.int lead)) (some (ePlan A days lead)) (some (.int n)) (some (.int m)) (some (ePlan A (shD days lead n) (shL lead n))) y10 y11 y12 y13) ⟨fun k hk => by have := rngI_mem hk; omega, y10, rfl⟩ ?_ fun ρ h => hN' _ h.2
      rintro k r ρ ⟨hr, y10, rfl⟩ N2 B2 R2 hN2 hB2 hR2
      have hk := hr k List.mem_cons_self
      walk_at "s"
      refine ⟨_, _, k, rfl, ok2, hk.1, by omega, ?_⟩
      walk_at "s"
      refine ⟨_, _, n + k, rfl, pok.ok, by omega, by omega, ?_⟩
      rw [on_sh pok.ok n0 hk.1]
      refine ne_same (onDay_flat pok.so) ?_
      walk_at "s"
      refine ⟨_, _, k, rfl, pok.ok, hk.1, by omega, ?_⟩
      walk_at "s"
      refine ⟨days, lead, k, rfl, by omega, d0, d1, hk.1, by omega, ?_⟩
      show rNeDD (eN (onDay days lead k)) (eN (onDay days lead k)) _
      refine ne_same (onDay_flat pok.so) ?_
      walk_at "s"
      exact hN2 _ ⟨fun k hk => hr k (List.mem_cons_of_mem _ hk), _, rfl⟩
    clear y10
    rintro ρ ⟨y10, rfl⟩
    walk_at "s"
    refine loop_of (xs := w3) (fun r ρ => (∀ w ∈ r, w ∈ w3) ∧ ∃ y10 y11 y12 y13 : Option D, ρ = env55 a l (some (.int t)) (some (.lst (eDs days))) (some (.int lead)) (some (ePlan A days lead)) (some (.int n)) (some (.int m)) (some (ePlan A (shD days lead n) (shL lead n))) y10 y11 y12 y13) ⟨fun w h => h, _, _, _, _, rfl⟩ ?_ fun ρ ⟨_, _, _, _, _, h⟩ => hN _ ⟨_, _, _, _, _, _, _, _, _, _, _, h⟩
    clear y10 y11 y12 y13
    rintro nm r ρ ⟨hr, y10, y11, y12, y13, rfl⟩ N2 B2 R2 hN2 hB2 hR2
    have hw := hr nm List.mem_cons_self
    walk_at "s"
    refine s_onRng1 ⟨by omega, by omega⟩ ?_
    rw [rng0]
    refine comp_if (xs := List.range (30 : Int).toNat) (enc := fun k : Nat => D.int (k : Int)) (f := fun k : Nat => D.int (k : Int)) (p := fun k : Nat => decide (nm ∈ onDay (shD days lead n) (shL lead n) (k : Int))) (by decide) (fun k hk Q N3 h => ?_) ?_
    · have hk := List.mem_range.mp hk
      walk_at "s"
      refine ⟨_, _, n + (k : Int), rfl, pok.ok, by omega, by omega, ?_⟩
      refine in_day ?_
      rw [← on_sh pok.ok n0 (by omega)]
      exact h
    have eF : ((List.range (30 : Int).toNat).filter fun k : Nat => decide (nm ∈ onDay (shD days lead n) (shL lead n) (k : Int))) = mF (shD days lead n) (shL lead n) nm 30 := rfl
    rw [eF]
    have f30 : ∀ k ∈ mF (shD days lead n) (shL lead n) nm 30, k < 30 := fun k hk => List.mem_range.mp (List.mem_filter.mp hk).1
    have fz : (mF (shD days lead n) (shL lead n) nm 30).length ≤ 30 := List.length_filter_le _ _
    walk_at "s"
    refine ⟨_, _, nm, 0, 29, rfl, ok2, sm_0, by unfold Sm; omega, ?_⟩
    rw [if_pos (by decide +kernel), mHarv_sh pok.ok n0]
    have nbF : ∀ g : Nat → Int, nbf 60 (.lst ((mF (shD days lead n) (shL lead n) nm 30).map fun k : Nat => D.int (g k))) = true := fun g => nbf_lst (nbfL_map fun _ _ => nbf_int)
    have e1 : ((mF (shD days lead n) (shL lead n) nm 30).map fun k : Nat => (k : Int)).map D.int = (mF (shD days lead n) (shL lead n) nm 30).map fun k : Nat => D.int (k : Int) := by rw [List.map_map]; rfl
    have c1 := mCall_at pok.ok n0 nm (by omega)
    have c2 := mCall_sh ok2 nm (by omega)
    have h3 := mHarv_at pok.ok n0 nm
    rw [e1]
    generalize mF (shD days lead n) (shL lead n) nm 30 = F at f30 fz nbF c1 c2 h3
    clear eF e1
    show rNeDD (.lst (F.map fun k : Nat => D.int (k : Int))) (.lst (F.map fun k : Nat => D.int (k : Int))) _
    refine ne_sn (nbF fun k => (k : Int)) ?_
    walk_at "s"
    refine ⟨_, _, nm, n, n + 29, rfl, pok.ok, sn, by unfold Sm; omega, ?_⟩
    have okS : okSpan n (n + 29) = true := by
      unfold okSpan
      rw [ink n n0 (by omega), ink (n + 29) (by omega) (by omega), decide_eq_true (by omega), decide_eq_true (by omega)]
      rfl
    rw [if_pos okS, h3]
    walk_at "s"
    refine comp_of (xs := F) (enc := fun k : Nat => D.int (k : Int)) (f := fun k : Nat => D.int (n + (k : Int))) (by omega) (fun k hk Q q => ?_) ?_
    · walk_at "s"
      exact q
    walk_at "s"
    rw [List.map_map]
    show rNeDD (.lst (F.map fun k : Nat => D.int (n + (k : Int)))) (.lst (F.map fun k : Nat => D.int (n + (k : Int)))) _
    refine ne_sn (nbF fun k => n + (k : Int)) ?_
    walk_at "s"
    have nil_iff : F = [] ↔ D.lst (F.map fun k : Nat => D.int (k : Int)) = .lst [] := ⟨fun h => by rw [h]; rfl, fun h => by injection h with h; exact List.map_eq_nil_iff.mp h⟩
    refine ne_nb (nbF fun k => (k : Int)) (nbf_lst nbfL_nil) (c := F = []) nil_iff ?_
    walk_at "s"
    cases F with
    | nil =>
      refine s_ifY rfl ?_
      walk_at "s"
      refine ⟨_, _, nm, n, rfl, pok.ok, sn, ?_⟩
      rw [if_pos (ink n n0 (by omega)), c1]
      walk_at "s"
      refine ⟨.non, rfl, rfl, ?_⟩
      walk_at "s"
      refine ⟨_, _, nm, 0, rfl, ok2, sm_0, ?_⟩
      rw [if_pos (by decide +kernel), c2]
      walk_at "s"
      refine ne_nb (nbf_lst nbfL_nil) (nbf_lst nbfL_nil) (c := True) ⟨fun _ => rfl, fun _ => trivial⟩ ?_
      walk_at "s"
      refine s_ifY trivial ?_
      walk_at "s"
      refine ne_sn nbf_non ?_
      walk_at "s"
      exact hN2 _ ⟨fun w h => hr w (List.mem_cons_of_mem _ h), _, _, _, _, rfl⟩
    | cons k F =>
      refine s_ifX (List.cons_ne_nil _ _) ?_
      walk_at "s"
      refine at_lst (x := k) (by decide) rfl ?_
      walk_at "s"
      refine ⟨_, _, nm, n, rfl, pok.ok, sn, ?_⟩
      rw [if_pos (ink n n0 (by omega)), c1]
      walk_at "s"
      refine ⟨.int (n + (k : Int)), rfl, rfl, ?_⟩
      walk_at "s"
      refine ⟨_, _, nm, 0, rfl, ok2, sm_0, ?_⟩
      rw [if_pos (by decide +kernel), c2]
      walk_at "s"
      refine ne_nb (nbF fun k => (k : Int)) (nbf_lst nbfL_nil) (c := k :: F = []) nil_iff ?_
      walk_at "s"
      refine s_ifX (List.cons_ne_nil _ _) ?_
      walk_at "s"
      refine at_lst (x := k) (by decide) rfl ?_
      show rNeDD (.int (k : Int)) (.int (k : Int)) _
      refine ne_sn nbf_int ?_
      walk_at "s"
      exact hN2 _ ⟨fun w h => hr w (List.mem_cons_of_mem _ h), _, _, _, _, rfl⟩
  · rintro ρ ⟨y3, y4, y5, y6, y7, y8, y9, y10, y11, y12, y13, rfl⟩
    walk_at "s"
    rfl
end Z
end
section
namespace Z
open PySem PySem.Spec PyProof.Rows L2 DL LMX LamX
theorem sc_is_number : FnScope N_is_number ["value", "low", "high"] (defScope s_is_number) := ⟨rfl, rfl, rfl, by decide +kernel, rfl, by decide +kernel, by decide +kernel⟩
theorem sc_check_numberX : FnScope N_check_numberX ["value", "low", "high"] (defScope s_check_numberX) := ⟨rfl, rfl, rfl, by decide +kernel, rfl, by decide +kernel, by decide +kernel⟩
theorem sc_check_number : FnScope N_check_number ["value", "low", "high"] (defScope s_check_number) := ⟨rfl, rfl, rfl, by decide +kernel, rfl, by decide +kernel, by decide +kernel⟩
theorem sc_is_name : FnScope N_is_name ["word"] (defScope s_is_name) := ⟨rfl, rfl, rfl, by decide +kernel, rfl, by decide +kernel, by decide +kernel⟩
theorem sc_first_wrong_day : FnScope N_first_wrong_day ["days"] (defScope s_first_wrong_day) := ⟨rfl, rfl, rfl, by decide +kernel, rfl, by decide +kernel, by decide +kernel⟩
theorem sc_place : FnScope N_place ["day", "lead", "count"] (defScope s_place) := ⟨rfl, rfl, rfl, by decide +kernel, rfl, by decide +kernel, by decide +kernel⟩
theorem sc_Plan_init : FnScope N_Plan_init ["self", "lead", "days"] (defScope s_Plan_init) := ⟨rfl, rfl, rfl, by decide +kernel, rfl, by decide +kernel, by decide +kernel⟩
theorem sc_Plan_days : FnScope N_Plan_days ["self"] (defScope s_Plan_days) := ⟨rfl, rfl, rfl, by decide +kernel, rfl, by decide +kernel, by decide +kernel⟩
theorem sc_Plan_lead : FnScope N_Plan_lead ["self"] (defScope s_Plan_lead) := ⟨rfl, rfl, rfl, by decide +kernel, rfl, by decide +kernel, by decide +kernel⟩
theorem sc_Plan_names_on : FnScope N_Plan_names_on ["self", "day"] (defScope s_Plan_names_on) := ⟨rfl, rfl, rfl, by decide +kernel, rfl, by decide +kernel, by decide +kernel⟩
theorem sc_Plan_harvests : GScope N_Plan_harvests ["self", "name", "first", "last"] (defScope s_Plan_harvests) := ⟨rfl, rfl, rfl, by decide +kernel, rfl, by decide +kernel, by decide +kernel⟩
theorem sc_Plan_getitem : FnScope N_Plan_getitem ["self", "at"] (defScope s_Plan_getitem) := ⟨rfl, rfl, rfl, by decide +kernel, rfl, by decide +kernel, by decide +kernel⟩
theorem sc_Plan_rshiftX : FnScope N_Plan_rshiftX ["self", "other"] (defScope s_Plan_rshiftX) := ⟨rfl, rfl, rfl, by decide +kernel, rfl, by decide +kernel, by decide +kernel⟩
theorem sc_Plan_eq : FnScope N_Plan_eq ["self", "other"] (defScope s_Plan_eq) := ⟨rfl, rfl, rfl, by decide +kernel, rfl, by decide +kernel, by decide +kernel⟩
theorem sc_Plan_callX : FnScope N_Plan_callX ["self", "name", "day"] (defScope s_Plan_callX) := ⟨rfl, rfl, rfl, by decide +kernel, rfl, by decide +kernel, by decide +kernel⟩
theorem sc_row_of : FnScope N_row_of ["names"] (defScope s_row_of) := ⟨rfl, rfl, rfl, by decide +kernel, rfl, by decide +kernel, by decide +kernel⟩
theorem sc_format_plan : FnScope N_format_plan ["plan"] (defScope s_format_plan) := ⟨rfl, rfl, rfl, by decide +kernel, rfl, by decide +kernel, by decide +kernel⟩
theorem sc_is_lead : FnScope N_is_lead ["word"] (defScope s_is_lead) := ⟨rfl, rfl, rfl, by decide +kernel, rfl, by decide +kernel, by decide +kernel⟩
theorem sc_lead_of : FnScope N_lead_of ["row"] (defScope s_lead_of) := ⟨rfl, rfl, rfl, by decide +kernel, rfl, by decide +kernel, by decide +kernel⟩
theorem sc_names_of : FnScope N_names_of ["row", "number"] (defScope s_names_of) := ⟨rfl, rfl, rfl, by decide +kernel, rfl, by decide +kernel, by decide +kernel⟩
theorem sc_parse_plan : FnScope N_parse_plan ["text"] (defScope s_parse_plan) := ⟨rfl, rfl, rfl, by decide +kernel, rfl, by decide +kernel, by decide +kernel⟩
theorem sc_mlaw_mix : FnScope ["_law_script", "_law_seed", "_law_state", "_law_cell"] ["_law_script", "_law_seed"] (defScope s_mlaw_mix) := ⟨rfl, rfl, rfl, by decide +kernel, rfl, by decide +kernel, by decide +kernel⟩
theorem sc_mlaw_next : FnScope ["_law_h", "_law_limit", "_law_cell"] ["_law_h", "_law_limit"] (defScope s_mlaw_next) := ⟨rfl, rfl, rfl, by decide +kernel, rfl, by decide +kernel, by decide +kernel⟩
theorem sc_mlaw_alike : FnScope N_mlaw_alike ["_law_found", "_law_due"] (defScope s_mlaw_alike) := ⟨rfl, rfl, rfl, by decide +kernel, rfl, by decide +kernel, by decide +kernel⟩
theorem sc_mlaw_text : FnScope N_mlaw_text ["_law_days", "_law_lead"] (defScope s_mlaw_text) := ⟨rfl, rfl, rfl, by decide +kernel, rfl, by decide +kernel, by decide +kernel⟩
theorem sc_mlaw_some : FnScope N_mlaw_some ["_law_h", "_law_names", "_law_most"] (defScope s_mlaw_some) := ⟨rfl, rfl, rfl, by decide +kernel, rfl, by decide +kernel, by decide +kernel⟩
theorem sc_mlaw_day : FnScope N_mlaw_day ["_law_days", "_law_lead", "_law_day_here"] (defScope s_mlaw_day) := ⟨rfl, rfl, rfl, by decide +kernel, rfl, by decide +kernel, by decide +kernel⟩
theorem sc_law : FnScope N_law_k55 ["_law_script"] (defScope s_law) := ⟨rfl, rfl, rfl, by decide +kernel, rfl, by decide +kernel, by decide +kernel⟩
structure Txt (P : Program) (K : PySem.W.Frag) (mg : Str → Option Value) where
  A : Cs
  f_is_number : Addr
  d_is_number : FuncData
  F_is_number : Fun K "is_number" "is_number" s_is_number f_is_number d_is_number
  m_is_number : mg "is_number" = some (.ref f_is_number)
  b_is_number : L2.Binds K d_is_number ["value", "low", "high"] []
  f_check_numberX : Addr
  d_check_numberX : FuncData
  F_check_numberX : Fun K "check_number" "check_number" s_check_numberX f_check_numberX d_check_numberX
  m_check_numberX : mg "check_number" = some (.ref f_check_numberX)
  b_check_numberX : L2.Binds K d_check_numberX ["value", "low", "high"] []
  f_check_number : Addr
  d_check_number : FuncData
  F_check_number : Fun K "check_number" "check_number" s_check_number f_check_number d_check_number
  m_check_number : mg "check_number" = some (.ref f_check_number)
  b_check_number : L2.Binds K d_check_number ["value", "low", "high"] []
  f_is_name : Addr
  d_is_name : FuncData
  F_is_name : Fun K "is_name" "is_name" s_is_name f_is_name d_is_name
  m_is_name : mg "is_name" = some (.ref f_is_name)
  b_is_name : L2.Binds K d_is_name ["word"] []
  f_first_wrong_day : Addr
  d_first_wrong_day : FuncData
  F_first_wrong_day : Fun K "_first_wrong_day" "_first_wrong_day" s_first_wrong_day f_first_wrong_day d_first_wrong_day
  m_first_wrong_day : mg "_first_wrong_day" = some (.ref f_first_wrong_day)
  b_first_wrong_day : L2.Binds K d_first_wrong_day ["days"] []
  f_place : Addr
  d_place : FuncData
  F_place : Fun K "_place" "_place" s_place f_place d_place
  m_place : mg "_place" = some (.ref f_place)
  b_place : L2.Binds K d_place ["day", "lead", "count"] []
  f_Plan_init : Addr
  d_Plan_init : FuncData
  F_Plan_init : Fun K "__init__" "Plan.__init__" s_Plan_init f_Plan_init d_Plan_init
  kd_Plan_init : kwdB K f_Plan_init "lead" 0 = true
  f_Plan_days : Addr
  d_Plan_days : FuncData
  F_Plan_days : Fun K "days" "Plan.days" s_Plan_days f_Plan_days d_Plan_days
  b_Plan_days : L2.Binds K d_Plan_days ["self"] []
  p_Plan_days : Addr
  P_Plan_days : PropOf K A.Plan "days" p_Plan_days f_Plan_days
  f_Plan_lead : Addr
  d_Plan_lead : FuncData
  F_Plan_lead : Fun K "lead" "Plan.lead" s_Plan_lead f_Plan_lead d_Plan_lead
  b_Plan_lead : L2.Binds K d_Plan_lead ["self"] []
  p_Plan_lead : Addr
  P_Plan_lead : PropOf K A.Plan "lead" p_Plan_lead f_Plan_lead
  f_Plan_len : Addr
  d_Plan_len : FuncData
  F_Plan_len : Fun K "__len__" "Plan.__len__" s_Plan_len f_Plan_len d_Plan_len
  b_Plan_len : L2.Binds K d_Plan_len ["self"] []
  f_Plan_names_on : Addr
  d_Plan_names_on : FuncData
  F_Plan_names_on : Fun K "_names_on" "Plan._names_on" s_Plan_names_on f_Plan_names_on d_Plan_names_on
  b_Plan_names_on : L2.Binds K d_Plan_names_on ["self", "day"] []
  M_Plan_names_on : Meth K A.Plan "_names_on" f_Plan_names_on
  f_Plan_harvests : Addr
  d_Plan_harvests : FuncData
  F_Plan_harvests : Fun K "harvests" "Plan.harvests" s_Plan_harvests f_Plan_harvests d_Plan_harvests
  b_Plan_harvests : L2.Binds K d_Plan_harvests ["self", "name", "first", "last"] []
  M_Plan_harvests : Meth K A.Plan "harvests" f_Plan_harvests
  f_Plan_getitem : Addr
  d_Plan_getitem : FuncData
  F_Plan_getitem : Fun K "__getitem__" "Plan.__getitem__" s_Plan_getitem f_Plan_getitem d_Plan_getitem
  b_Plan_getitem : L2.Binds K d_Plan_getitem ["self", "at"] []
  O_Plan_getitem : OpO K A.Plan "__getitem__" f_Plan_getitem
  n_Plan_getitem : PySem.W.fnIn K f_Plan_getitem = true
  f_Plan_rshiftX : Addr
  d_Plan_rshiftX : FuncData
  F_Plan_rshiftX : Fun K "__rshift__" "Plan.__rshift__" s_Plan_rshiftX f_Plan_rshiftX d_Plan_rshiftX
  b_Plan_rshiftX : L2.Binds K d_Plan_rshiftX ["self", "other"] []
  f_Plan_eq : Addr
  d_Plan_eq : FuncData
  F_Plan_eq : Fun K "__eq__" "Plan.__eq__" s_Plan_eq f_Plan_eq d_Plan_eq
  b_Plan_eq : L2.Binds K d_Plan_eq ["self", "other"] []
  f_Plan_callX : Addr
  d_Plan_callX : FuncData
  F_Plan_callX : Fun K "__call__" "Plan.__call__" s_Plan_callX f_Plan_callX d_Plan_callX
  b_Plan_callX : L2.Binds K d_Plan_callX ["self", "name", "day"] []
  f_row_of : Addr
  d_row_of : FuncData
  F_row_of : Fun K "_row_of" "_row_of" s_row_of f_row_of d_row_of
  m_row_of : mg "_row_of" = some (.ref f_row_of)
  b_row_of : L2.Binds K d_row_of ["names"] []
  f_format_plan : Addr
  d_format_plan : FuncData
  F_format_plan : Fun K "format_plan" "format_plan" s_format_plan f_format_plan d_format_plan
  m_format_plan : mg "format_plan" = some (.ref f_format_plan)
  b_format_plan : L2.Binds K d_format_plan ["plan"] []
  f_is_lead : Addr
  d_is_lead : FuncData
  F_is_lead : Fun K "_is_lead" "_is_lead" s_is_lead f_is_lead d_is_lead
  m_is_lead : mg "_is_lead" = some (.ref f_is_lead)
  b_is_lead : L2.Binds K d_is_lead ["word"] []
  f_lead_of : Addr
  d_lead_of : FuncData
  F_lead_of : Fun K "_lead_of" "_lead_of" s_lead_of f_lead_of d_lead_of
  m_lead_of : mg "_lead_of" = some (.ref f_lead_of)
  b_lead_of : L2.Binds K d_lead_of ["row"] []
  f_names_of : Addr
  d_names_of : FuncData
  F_names_of : Fun K "_names_of" "_names_of" s_names_of f_names_of d_names_of
  m_names_of : mg "_names_of" = some (.ref f_names_of)
  b_names_of : L2.Binds K d_names_of ["row", "number"] []
  f_parse_plan : Addr
  d_parse_plan : FuncData
  F_parse_plan : Fun K "parse_plan" "parse_plan" s_parse_plan f_parse_plan d_parse_plan
  m_parse_plan : mg "parse_plan" = some (.ref f_parse_plan)
  b_parse_plan : L2.Binds K d_parse_plan ["text"] []
  f_mlaw_mix : Addr
  d_mlaw_mix : FuncData
  F_mlaw_mix : Fun K "_law_mix" "_law_mix" s_mlaw_mix f_mlaw_mix d_mlaw_mix
  m_mlaw_mix : mg "_law_mix" = some (.ref f_mlaw_mix)
  b_mlaw_mix : L2.Binds K d_mlaw_mix ["_law_script", "_law_seed"] []
  f_mlaw_next : Addr
  d_mlaw_next : FuncData
  F_mlaw_next : Fun K "_law_next" "_law_next" s_mlaw_next f_mlaw_next d_mlaw_next
  m_mlaw_next : mg "_law_next" = some (.ref f_mlaw_next)
  b_mlaw_next : L2.Binds K d_mlaw_next ["_law_h", "_law_limit"] []
  f_mlaw_alike : Addr
  d_mlaw_alike : FuncData
  F_mlaw_alike : Fun K "_law_alike" "_law_alike" s_mlaw_alike f_mlaw_alike d_mlaw_alike
  m_mlaw_alike : mg "_law_alike" = some (.ref f_mlaw_alike)
  b_mlaw_alike : L2.Binds K d_mlaw_alike ["_law_found", "_law_due"] []
  f_mlaw_text : Addr
  d_mlaw_text : FuncData
  F_mlaw_text : Fun K "_law_text" "_law_text" s_mlaw_text f_mlaw_text d_mlaw_text
  m_mlaw_text : mg "_law_text" = some (.ref f_mlaw_text)
  b_mlaw_text : L2.Binds K d_mlaw_text ["_law_days", "_law_lead"] []
  f_mlaw_some : Addr
  d_mlaw_some : FuncData
  F_mlaw_some : Fun K "_law_some" "_law_some" s_mlaw_some f_mlaw_some d_mlaw_some
  m_mlaw_some : mg "_law_some" = some (.ref f_mlaw_some)
  b_mlaw_some : L2.Binds K d_mlaw_some ["_law_h", "_law_names", "_law_most"] []
  f_mlaw_day : Addr
  d_mlaw_day : FuncData
  F_mlaw_day : Fun K "_law_day" "_law_day" s_mlaw_day f_mlaw_day d_mlaw_day
  m_mlaw_day : mg "_law_day" = some (.ref f_mlaw_day)
  b_mlaw_day : L2.Binds K d_mlaw_day ["_law_days", "_law_lead", "_law_day_here"] []
  f_law : Addr
  d_law : FuncData
  F_law : Fun K "law" "law" s_law f_law d_law
  m_law : mg "law" = some (.ref f_law)
  b_law : L2.Binds K d_law ["_law_script"] []
  kf_Plan : PySem.W.kitOne K (.type "tuple") (.ref A.Plan) = some false
  E_Plan_eq : EqO K A.Plan f_Plan_eq
  B_Plan_rshiftX_int : BinT K A.Plan "rshift" "int" f_Plan_rshiftX
  C_Plan_callX : StX.CallO K A.Plan f_Plan_callX
  x0_InvalidNumber : XCls0 K mg "InvalidNumber" A.InvalidNumber
  cls_Plan : Cls K A.Plan
  m_Plan : mg "Plan" = some (.ref A.Plan)
  ty_Plan : ClsTy K A.Plan
  mk_Plan : Mk K A.Plan f_Plan_init
  no_Plan__days : NoAttr K A.Plan "_days"
  no_Plan__lead : NoAttr K A.Plan "_lead"
  g_all : mg "all" = none
  g_bool : mg "bool" = none
  g_dict : mg "dict" = none
  g_enumerate : mg "enumerate" = none
  g_int : mg "int" = none
  g_isinstance : mg "isinstance" = none
  g_len : mg "len" = none
  g_list : mg "list" = none
  g_max : mg "max" = none
  g_min : mg "min" = none
  g_range : mg "range" = none
  g_set : mg "set" = none
  g_str : mg "str" = none
  g_tuple : mg "tuple" = none
  k_DIGITS : ∃ u, mg "DIGITS" = some u ∧ RelV (V.str "0123456789") u
  k_LAST_DAY : ∃ u, mg "LAST_DAY" = some u ∧ RelV (V.int 1000000000000000000) u
  k_LEAD_WORD : ∃ u, mg "LEAD_WORD" = some u ∧ RelV (V.str "lead") u
  k_LETTERS : ∃ u, mg "LETTERS" = some u ∧ RelV (V.str "abcdefghijklmnopqrstuvwxyz") u
  k_MAX_DAYS : ∃ u, mg "MAX_DAYS" = some u ∧ RelV (V.int 5000) u
  k_MAX_LEAD_DIGITS : ∃ u, mg "MAX_LEAD_DIGITS" = some u ∧ RelV (V.int 4) u
  k_MAX_NAME : ∃ u, mg "MAX_NAME" = some u ∧ RelV (V.int 8) u
  k_MAX_RANGE : ∃ u, mg "MAX_RANGE" = some u ∧ RelV (V.int 10000) u
  k_NOTHING : ∃ u, mg "NOTHING" = some u ∧ RelV (V.str "-") u
section
variable {P : Program} {w : World} {K : PySem.W.Frag} {S : Sit} {mg : Str → Option Value} {base : Heap} {Hs : Hp} {l p : Addr} {ns : List Int}
theorem ok_is_number (T : Txt P K mg) : FnOk P w K mg base CX0 1 T.f_is_number T.d_is_number ["value", "low", "high"] (liftSp K S (sp_is_number T.A)) :=
  fn_deep (tD := D_is_number T.A) T.F_is_number sc_is_number (len_is_number T.A) (pure_is_number T.A) fun c cdv A outer s H E hr => ⟨_, (dss_one (ds_ret (de_and (de_isi rfl kit_int T.g_isinstance T.g_int PyProof.Rows.boot_int (de_var 0)) (de_and (de_not (de_isi rfl kit_bool T.g_isinstance T.g_bool PyProof.Rows.boot_bool (de_var 0))) (de_one (de_chain op_le wr_le op_le wr_le (de_var 1) (de_var 0) (de_var 2)))))))⟩
theorem ok_check_numberX (T : Txt P K mg) : FnOk P w K mg base (L2.CX P w) 2 T.f_check_numberX T.d_check_numberX ["value", "low", "high"] (liftSp K S (sp_check_numberX T.A)) :=
  fn_deepX (tD := fun x => D_check_numberX T.A x) T.F_check_numberX sc_check_numberX (len_check_numberX T.A) (pure_check_numberX T.A) fun c cdv A outer s H hr xc => ⟨_, (dss_one (ds_if (dt_not (dt_val (de_call0 (ok_is_number T) (hr.mono (by decide : 1 ≤ 1)) T.m_is_number T.F_is_number.kp T.b_is_number (da_cons (de_var 0) (da_cons (de_var 1) (da_cons (de_var 2) da_nil)))))) (dss_one (ds_raise0 rfl rfl xc T.x0_InvalidNumber (de_join (.cons (de_fmtR (de_var 0)) (.cons de_str (.cons (de_fmt (de_var 1)) (.cons de_str (.cons (de_fmt (de_var 2)) .nil)))))))) dss_nil))⟩
theorem ok_check_number (T : Txt P K mg) : FnOk P w K mg base CX0 2 T.f_check_number T.d_check_number ["value", "low", "high"] (liftSp K S (sp_check_number T.A)) :=
  fn_deep (tD := D_check_number T.A) T.F_check_number sc_check_number (len_check_number T.A) (pure_check_number T.A) fun c cdv A outer s H E hr => ⟨_, (dss_one (ds_if (dt_not (dt_val (de_call0 (ok_is_number T) (hr.mono (by decide : 1 ≤ 1)) T.m_is_number T.F_is_number.kp T.b_is_number (da_cons (de_var 0) (da_cons (de_var 1) (da_cons (de_var 2) da_nil)))))) dss_never dss_nil))⟩
theorem ok_is_name (T : Txt P K mg) : FnOk P w K mg base CX0 1 T.f_is_name T.d_is_name ["word"] (liftSp K S (sp_is_name T.A)) :=
  fn_deep (tD := D_is_name T.A) T.F_is_name sc_is_name (len_is_name T.A) (pure_is_name T.A) fun c cdv A outer s H E hr => ⟨_, (dss_one (ds_ret (de_and (de_isi rfl kit_str T.g_isinstance T.g_str PyProof.Rows.boot_str (de_var 0)) (de_and (de_chain op_le wr_le op_le wr_le de_int (de_cb (call_lenK rfl) wc_len T.g_len PySem.boot_len (da_cons (de_var 0) da_nil)) (de_globE (d := (.int 8)) rfl T.k_MAX_NAME)) (de_one (de_cb (crK_all rfl rfl) wc_all T.g_all (by decide +kernel) (da_cons (de_n (dn_lc (own := [("letter", 1)]) rfl sc_is_name.nd (di_str (de_var 0)) (blkOk_by (by rfl)) (fun _ _ _ _ _ => (dg_name 1 sc_is_name.nd)) (fun _ _ _ _ _ => dts_nil) (fun _ _ _ _ _ => (de_cmp op_in_sign wr_inS (de_var 1) (de_globE (d := (.str "abcdefghijklmnopqrstuvwxyz")) rfl T.k_LETTERS) (by rfl))) (by decide))) da_nil)))))))⟩
theorem ok_first_wrong_day (T : Txt P K mg) : FnOk P w K mg base CX0 1 T.f_first_wrong_day T.d_first_wrong_day ["days"] (liftSp K S (sp_first_wrong_day T.A)) :=
  fn_deep (tD := D_first_wrong_day T.A) T.F_first_wrong_day sc_first_wrong_day (len_first_wrong_day T.A) (pure_first_wrong_day T.A) fun c cdv A outer s H E hr => ⟨_, (dss_cons (ds_for PassesOwn.never rfl (di_enumT rfl T.g_enumerate (da_cons (de_var 0) da_nil)) (dg_tup rfl rfl (dgs_cons (dg_name 1 sc_first_wrong_day.nd) (dgs_cons (dg_name 2 sc_first_wrong_day.nd) dgs_nil))) (dss_one (ds_if (DW.tst (dw_or (dt_cmp (opK_eq rfl (have hq := room64 hr; hq)) wr_eq (de_var 1) (de_globE (d := (.int 5000)) rfl T.k_MAX_DAYS) (nomark _)) (dw_or1 (dt_cmp op_lt wr_lt (de_met rfl rfl T.g_len T.g_set (de_var 2)) (de_cb (call_lenK rfl) wc_len T.g_len PySem.boot_len (da_cons (de_var 2) da_nil)) (nomark _))))) (dss_one (ds_ret (de_var 1))) dss_nil))) (dss_one (ds_ret de_non)))⟩
theorem ok_place (T : Txt P K mg) : FnOk P w K mg base CX0 1 T.f_place T.d_place ["day", "lead", "count"] (liftSp K S (sp_place T.A)) :=
  fn_deep (tD := D_place T.A) T.F_place sc_place (len_place T.A) (pure_place T.A) fun c cdv A outer s H E hr => ⟨_, (dss_cons (ds_if (dt_cmp op_lt wr_lt (de_var 0) (de_var 2) (nomark _)) (dss_one (ds_ret (de_var 0))) dss_nil) (dss_one (ds_ret (de_op op_add wr_add (de_var 1) (de_op op_mod wr_mod (de_op op_sub wr_sub (de_var 0) (de_var 1)) (de_op op_sub wr_sub (de_var 2) (de_var 1)))))))⟩
theorem ok_Plan_init (T : Txt P K mg) : FnKw P w K mg base CX0 2 T.f_Plan_init "lead" (spInK K S T.A.Plan (in_Plan T.A)) := by
  exact fn_initK (tD := D_Plan_init T.A) T.F_Plan_init sc_Plan_init (fun _ _ _ _ _ _ _ _ => rfl) (fun _ _ _ _ _ _ _ _ _ _ => rfl) (pure_Plan_init T.A) fun c cdv A outer s H E hr => ⟨_, (dss_cons (ds_set 3 sc_Plan_init.nd (de_call0 (ok_first_wrong_day T) (hr.mono (by decide : 1 ≤ 1)) T.m_first_wrong_day T.F_first_wrong_day.kp T.b_first_wrong_day (da_cons (de_var 2) da_nil))) (dss_cons (ds_if (DW.tst (dw_and (dt_cmp op_isN wr_isN (de_var 3) de_non (nomark _)) (dw_and1 (dt_not (dt_val (de_call0 (ok_is_number T) (hr.mono (by decide : 1 ≤ 1)) T.m_is_number T.F_is_number.kp T.b_is_number (da_cons (de_var 1) (da_cons de_int (da_cons (de_op op_sub wr_sub (de_cb (call_lenK rfl) wc_len T.g_len PySem.boot_len (da_cons (de_var 2) da_nil)) de_int) da_nil))))))))) (dss_one (ds_set 3 sc_Plan_init.nd (de_cb (call_lenK rfl) wc_len T.g_len PySem.boot_len (da_cons (de_var 2) da_nil)))) dss_nil) (dss_cons (ds_if (dt_cmp op_notN wr_notN (de_var 3) de_non (nomark _)) dss_never dss_nil) (dss_cons (ds_fldS 0 rfl T.cls_Plan T.no_Plan__days (de_cty (ctK_tuple rfl) wc_tuple T.g_tuple (by decide +kernel) (da_cons (de_n (dn_lc (own := [("names", 4)]) rfl sc_Plan_init.nd (di_tup rfl (de_var 2)) (blkOk_by (by rfl)) (fun _ _ _ _ _ => (dg_name 4 sc_Plan_init.nd)) (fun _ _ _ _ _ => dts_nil) (fun _ _ _ _ _ => (de_cty (ctK_tuple rfl) wc_tuple T.g_tuple (by decide +kernel) (da_cons (de_var 4) da_nil))) (by decide))) da_nil))) (dss_one (ds_fldS 0 rfl T.cls_Plan T.no_Plan__lead (de_var 1)))))))⟩
theorem okd_Plan_init (T : Txt P K mg) : FnR P w K mg base CX0 2 T.f_Plan_init (spInR K S T.A.Plan (indD (in_Plan T.A) 0)) :=
  fn_initKD (tD := (D_Plan_init T.A)) T.F_Plan_init T.kd_Plan_init sc_Plan_init (fun _ _ _ _ _ _ _ _ rs => match rs with | [] => ⟨_, _, _, _, _, _, rfl, rfl, rfl⟩ | _ :: _ => ⟨_, _, _, _, _, _, rfl, rfl, rfl⟩) (pure_Plan_init T.A) fun c cdv A outer s H E hr => ⟨_, (dss_cons (ds_set 3 sc_Plan_init.nd (de_call0 (ok_first_wrong_day T) (hr.mono (by decide : 1 ≤ 1)) T.m_first_wrong_day T.F_first_wrong_day.kp T.b_first_wrong_day (da_cons (de_var 2) da_nil))) (dss_cons (ds_if (DW.tst (dw_and (dt_cmp op_isN wr_isN (de_var 3) de_non (nomark _)) (dw_and1 (dt_not (dt_val (de_call0 (ok_is_number T) (hr.mono (by decide : 1 ≤ 1)) T.m_is_number T.F_is_number.kp T.b_is_number (da_cons (de_var 1) (da_cons de_int (da_cons (de_op op_sub wr_sub (de_cb (call_lenK rfl) wc_len T.g_len PySem.boot_len (da_cons (de_var 2) da_nil)) de_int) da_nil))))))))) (dss_one (ds_set 3 sc_Plan_init.nd (de_cb (call_lenK rfl) wc_len T.g_len PySem.boot_len (da_cons (de_var 2) da_nil)))) dss_nil) (dss_cons (ds_if (dt_cmp op_notN wr_notN (de_var 3) de_non (nomark _)) dss_never dss_nil) (dss_cons (ds_fldS 0 rfl T.cls_Plan T.no_Plan__days (de_cty (ctK_tuple rfl) wc_tuple T.g_tuple (by decide +kernel) (da_cons (de_n (dn_lc (own := [("names", 4)]) rfl sc_Plan_init.nd (di_tup rfl (de_var 2)) (blkOk_by (by rfl)) (fun _ _ _ _ _ => (dg_name 4 sc_Plan_init.nd)) (fun _ _ _ _ _ => dts_nil) (fun _ _ _ _ _ => (de_cty (ctK_tuple rfl) wc_tuple T.g_tuple (by decide +kernel) (da_cons (de_var 4) da_nil))) (by decide))) da_nil))) (dss_one (ds_fldS 0 rfl T.cls_Plan T.no_Plan__lead (de_var 1)))))))⟩
theorem ok_Plan_days (T : Txt P K mg) : FnOk P w K mg base CX0 1 T.f_Plan_days T.d_Plan_days ["self"] (liftSp K S (sp_Plan_days T.A)) :=
  fn_deep (tD := D_Plan_days T.A) T.F_Plan_days sc_Plan_days (len_Plan_days T.A) (pure_Plan_days T.A) fun c cdv A outer s H E hr => ⟨_, (dss_one (ds_ret (de_fld rfl T.cls_Plan T.no_Plan__days (de_var 0))))⟩
theorem ok_Plan_lead (T : Txt P K mg) : FnOk P w K mg base CX0 1 T.f_Plan_lead T.d_Plan_lead ["self"] (liftSp K S (sp_Plan_lead T.A)) :=
  fn_deep (tD := D_Plan_lead T.A) T.F_Plan_lead sc_Plan_lead (len_Plan_lead T.A) (pure_Plan_lead T.A) fun c cdv A outer s H E hr => ⟨_, (dss_one (ds_ret (de_fld rfl T.cls_Plan T.no_Plan__lead (de_var 0))))⟩
theorem ok_Plan_names_on (T : Txt P K mg) : FnOk P w K mg base CX0 2 T.f_Plan_names_on T.d_Plan_names_on ["self", "day"] (liftSp K S (sp_Plan_names_on T.A)) :=
  fn_deep (tD := D_Plan_names_on T.A) T.F_Plan_names_on sc_Plan_names_on (len_Plan_names_on T.A) (pure_Plan_names_on T.A) fun c cdv A outer s H E hr => ⟨_, (dss_one (ds_ret (de_ix rfl (de_fld rfl T.cls_Plan T.no_Plan__days (de_var 0)) (de_call0 (ok_place T) (hr.mono (by decide : 1 ≤ 1)) T.m_place T.F_place.kp T.b_place (da_cons (de_var 1) (da_cons (de_fld rfl T.cls_Plan T.no_Plan__lead (de_var 0)) (da_cons (de_cb (call_lenK rfl) wc_len T.g_len PySem.boot_len (da_cons (de_fld rfl T.cls_Plan T.no_Plan__days (de_var 0)) da_nil)) da_nil)))))))⟩
theorem ok_Plan_harvests (T : Txt P K mg) : GFn P w K mg base 3 T.f_Plan_harvests T.d_Plan_harvests ["self", "name", "first", "last"] (liftSpG K S (sp_Plan_harvests T.A)) :=
  fn_gen (tD := fun x => D_Plan_harvests T.A x) T.F_Plan_harvests sc_Plan_harvests (len_Plan_harvests T.A) (pure_Plan_harvests T.A) fun c cdv A outer s H pn hr xc => ⟨_, (dgns_cons (dgn_plain (ds_drop (de_callG (ok_check_numberX T) (hr.mono (by decide : 2 ≤ 2)) T.m_check_numberX T.F_check_numberX.kp T.b_check_numberX xc.pass xc.ok (da_cons (de_var 2) (da_cons de_int (da_cons (de_globE (d := (.int 1000000000000000000)) rfl T.k_LAST_DAY) da_nil)))))) (dgns_cons (dgn_plain (ds_drop (de_callG (ok_check_numberX T) (hr.mono (by decide : 2 ≤ 2)) T.m_check_numberX T.F_check_numberX.kp T.b_check_numberX xc.pass xc.ok (da_cons (de_var 3) (da_cons de_int (da_cons (de_globE (d := (.int 1000000000000000000)) rfl T.k_LAST_DAY) da_nil)))))) (dgns_cons (dgn_plain (ds_if (DW.tst (dw_or (dt_cmp op_lt wr_lt (de_var 3) (de_var 2) (nomark _)) (dw_or1 (dt_cmp op_ge wr_ge (de_op op_sub wr_sub (de_var 3) (de_var 2)) (de_globE (d := (.int 10000)) rfl T.k_MAX_RANGE) (nomark _))))) (dss_one (ds_raise0 rfl rfl xc T.x0_InvalidNumber (de_join (.cons de_str (.cons (de_fmt (de_globE (d := (.int 10000)) rfl T.k_MAX_RANGE)) (.cons de_str (.cons (de_fmt (de_var 2)) (.cons de_str (.cons (de_fmt (de_var 3)) .nil))))))))) dss_nil)) (dgns_cons (dgn_for xc.own rfl (di_rng2 T.g_range (da_cons (de_var 2) (da_cons (de_op op_add wr_add (de_var 3) de_int) da_nil))) (dg_name 4 sc_Plan_harvests.nd) (dgns_cons (dgn_if (dt_cmp (opK_in rfl) wr_in (de_var 1) (de_meth0 T.cls_Plan T.M_Plan_names_on (ok_Plan_names_on T) (hr.mono (by decide : 2 ≤ 2)) T.b_Plan_names_on (de_var 0) (da_cons (de_var 4) da_nil)) (by rfl)) (dgns_cons (dgn_yield (de_var 4)) dgns_nil) dgns_nil) dgns_nil)) dgns_nil))))⟩
theorem ok_Plan_getitem (T : Txt P K mg) : FnOk P w K mg base CX0 3 T.f_Plan_getitem T.d_Plan_getitem ["self", "at"] (liftSp K S (sp_Plan_getitem T.A)) :=
  fn_deep (tD := D_Plan_getitem T.A) T.F_Plan_getitem sc_Plan_getitem (len_Plan_getitem T.A) (pure_Plan_getitem T.A) fun c cdv A outer s H E hr => ⟨_, (dss_cons (ds_drop (de_call0 (ok_check_number T) (hr.mono (by decide : 2 ≤ 2)) T.m_check_number T.F_check_number.kp T.b_check_number (da_cons (de_var 1) (da_cons de_int (da_cons (de_globE (d := (.int 1000000000000000000)) rfl T.k_LAST_DAY) da_nil))))) (dss_one (ds_ret (de_meth0 T.cls_Plan T.M_Plan_names_on (ok_Plan_names_on T) (hr.mono (by decide : 2 ≤ 2)) T.b_Plan_names_on (de_var 0) (da_cons (de_var 1) da_nil)))))⟩
theorem ok_Plan_rshiftX (T : Txt P K mg) : FnOk P w K mg base (L2.CX P w) 4 T.f_Plan_rshiftX T.d_Plan_rshiftX ["self", "other"] (liftSp K S (sp_Plan_rshiftX T.A)) :=
  fn_deepX (tD := fun x => D_Plan_rshiftX T.A x) T.F_Plan_rshiftX sc_Plan_rshiftX (len_Plan_rshiftX T.A) (pure_Plan_rshiftX T.A) fun c cdv A outer s H hr xc => ⟨_, (dss_cons (ds_drop (de_callG (ok_check_numberX T) (hr.mono (by decide : 2 ≤ 3)) T.m_check_numberX T.F_check_numberX.kp T.b_check_numberX xc.pass xc.ok (da_cons (de_var 1) (da_cons de_int (da_cons (de_globE (d := (.int 1000000000000000000)) rfl T.k_LAST_DAY) da_nil))))) (dss_cons (ds_if (dt_cmp op_lt wr_lt (de_var 1) (de_fld rfl T.cls_Plan T.no_Plan__lead (de_var 0)) (nomark _)) (dss_cons (ds_set 2 sc_Plan_rshiftX.nd (de_slT rfl (de_fld rfl T.cls_Plan T.no_Plan__days (de_var 0)) (do_yes (de_var 1)) do_no)) (dss_cons (ds_set 3 sc_Plan_rshiftX.nd (de_op op_sub wr_sub (de_fld rfl T.cls_Plan T.no_Plan__lead (de_var 0)) (de_var 1))) (dss_one (ds_ret (de_makeSK rfl T.mk_Plan (ok_Plan_init T) (hr.mono (by decide : 3 ≤ 3)) T.m_Plan pass0 xok0 (de_var 2) (de_var 3)))))) dss_nil) (dss_cons (ds_set 4 sc_Plan_rshiftX.nd (de_call0 (ok_place T) (hr.mono (by decide : 1 ≤ 3)) T.m_place T.F_place.kp T.b_place (da_cons (de_var 1) (da_cons (de_fld rfl T.cls_Plan T.no_Plan__lead (de_var 0)) (da_cons (de_cb (call_lenK rfl) wc_len T.g_len PySem.boot_len (da_cons (de_fld rfl T.cls_Plan T.no_Plan__days (de_var 0)) da_nil)) da_nil))))) (dss_cons (ds_set 2 sc_Plan_rshiftX.nd (de_op (opK_catA rfl) wr_catT (de_slT rfl (de_fld rfl T.cls_Plan T.no_Plan__days (de_var 0)) (do_yes (de_var 4)) do_no) (de_slT rfl (de_fld rfl T.cls_Plan T.no_Plan__days (de_var 0)) (do_yes (de_fld rfl T.cls_Plan T.no_Plan__lead (de_var 0))) (do_yes (de_var 4))))) (dss_one (ds_ret (de_makeS1 rfl T.mk_Plan (okd_Plan_init T) (hr.mono (by decide : 3 ≤ 3)) T.m_Plan pass0 xok0 (de_var 2))))))))⟩
theorem ok_Plan_eq (T : Txt P K mg) : FnOk P w K mg base CX0 1 T.f_Plan_eq T.d_Plan_eq ["self", "other"] (liftSp K S (sp_Plan_eq T.A)) :=
  fn_deep (tD := D_Plan_eq T.A) T.F_Plan_eq sc_Plan_eq (len_Plan_eq T.A) (pure_Plan_eq T.A) fun c cdv A outer s H E hr => ⟨_, (dss_one (ds_ret (de_and (de_isiG rfl T.ty_Plan T.kf_Plan T.g_isinstance T.m_Plan (de_var 1)) (de_and (de_cmp (opK_eq rfl (have hq := room64 hr; hq)) wr_eq (de_fld rfl T.cls_Plan T.no_Plan__days (de_var 0)) (de_fld rfl T.cls_Plan T.no_Plan__days (de_var 1)) (nomark _)) (de_one (de_cmp (opK_eq rfl (have hq := room64 hr; hq)) wr_eq (de_fld rfl T.cls_Plan T.no_Plan__lead (de_var 0)) (de_fld rfl T.cls_Plan T.no_Plan__lead (de_var 1)) (nomark _)))))))⟩
theorem ok_Plan_callX (T : Txt P K mg) : FnOk P w K mg base (L2.CX P w) 3 T.f_Plan_callX T.d_Plan_callX ["self", "name", "day"] (liftSp K S (sp_Plan_callX T.A)) :=
  fn_deepX (tD := fun x => D_Plan_callX T.A x) T.F_Plan_callX sc_Plan_callX (len_Plan_callX T.A) (pure_Plan_callX T.A) fun c cdv A outer s H hr xc => ⟨_, (dss_cons (ds_drop (de_callG (ok_check_numberX T) (hr.mono (by decide : 2 ≤ 2)) T.m_check_numberX T.F_check_numberX.kp T.b_check_numberX xc.pass xc.ok (da_cons (de_var 2) (da_cons de_int (da_cons (de_globE (d := (.int 1000000000000000000)) rfl T.k_LAST_DAY) da_nil))))) (dss_cons (ds_for xc.own rfl (di_rng2 T.g_range (da_cons (de_var 2) (da_cons (de_op op_add wr_add (de_var 2) (de_cb (call_lenK rfl) wc_len T.g_len PySem.boot_len (da_cons (de_fld rfl T.cls_Plan T.no_Plan__days (de_var 0)) da_nil))) da_nil))) (dg_name 3 sc_Plan_callX.nd) (dss_one (ds_if (dt_cmp (opK_in rfl) wr_in (de_var 1) (de_meth0 T.cls_Plan T.M_Plan_names_on (ok_Plan_names_on T) (hr.mono (by decide : 2 ≤ 2)) T.b_Plan_names_on (de_var 0) (da_cons (de_var 3) da_nil)) (by rfl)) (dss_one (ds_ret (de_var 3))) dss_nil))) (dss_one (ds_ret de_non))))⟩
theorem ok_row_of (T : Txt P K mg) : FnOk P w K mg base CX0 1 T.f_row_of T.d_row_of ["names"] (liftSp K S (sp_row_of T.A)) :=
  fn_deep (tD := D_row_of T.A) T.F_row_of sc_row_of (len_row_of T.A) (pure_row_of T.A) fun c cdv A outer s H E hr => ⟨_, (dss_cons (ds_if (dt_not (dt_tru rfl (de_var 0))) (dss_one (ds_ret (de_globE (d := (.str "-")) rfl T.k_NOTHING))) dss_nil) (dss_one (ds_ret (de_bm rfl PySem.F.plainAttrs_str PySem.F.slot_str_join PySem.F.type_str_join mt_join wm_join de_str (da_cons (de_var 0) da_nil)))))⟩
theorem ok_format_plan (T : Txt P K mg) : FnOk P w K mg base CX0 3 T.f_format_plan T.d_format_plan ["plan"] (liftSp K S (sp_format_plan T.A)) :=
  fn_deep (tD := D_format_plan T.A) T.F_format_plan sc_format_plan (len_format_plan T.A) (pure_format_plan T.A) fun c cdv A outer s H E hr => ⟨_, (dss_cons (ds_setN 1 sc_format_plan.nd (dn_lst (da_cons (de_join (.cons (de_fmt (de_globE (d := (.str "lead")) rfl T.k_LEAD_WORD)) (.cons de_str (.cons (de_fmt (de_prop T.cls_Plan T.P_Plan_lead (ok_Plan_lead T) (hr.mono (by decide : 2 ≤ 2)) T.b_Plan_lead (de_var 0))) .nil)))) da_nil))) (dss_cons (ds_ext 1 rfl (de_n (dn_lc (own := [("names", 2)]) rfl sc_format_plan.nd (di_tup rfl (de_prop T.cls_Plan T.P_Plan_days (ok_Plan_days T) (hr.mono (by decide : 2 ≤ 2)) T.b_Plan_days (de_var 0))) (blkOk_by (by rfl)) (fun _ _ _ _ _ => (dg_name 2 sc_format_plan.nd)) (fun _ _ _ _ _ => dts_nil) (fun _ _ _ _ _ => (de_call0 (ok_row_of T) (hr.mono (by decide : 1 ≤ 2)) T.m_row_of T.F_row_of.kp T.b_row_of (da_cons (de_var 2) da_nil))) (by decide)))) (dss_one (ds_ret (de_bm rfl PySem.F.plainAttrs_str PySem.F.slot_str_join PySem.F.type_str_join mt_join wm_join de_str (da_cons (de_var 1) da_nil))))))⟩
theorem ok_is_lead (T : Txt P K mg) : FnOk P w K mg base CX0 1 T.f_is_lead T.d_is_lead ["word"] (liftSp K S (sp_is_lead T.A)) :=
  fn_deep (tD := D_is_lead T.A) T.F_is_lead sc_is_lead (len_is_lead T.A) (pure_is_lead T.A) fun c cdv A outer s H E hr => ⟨_, (dss_cons (ds_if (DW.tst (dw_or (dt_not (dt_chain op_le wr_le op_le wr_le de_int (de_cb (call_lenK rfl) wc_len T.g_len PySem.boot_len (da_cons (de_var 0) da_nil)) (de_globE (d := (.int 4)) rfl T.k_MAX_LEAD_DIGITS))) (dw_or1 (dt_not (dt_val (de_cb (crK_all rfl rfl) wc_all T.g_all (by decide +kernel) (da_cons (de_n (dn_lc (own := [("sign", 1)]) rfl sc_is_lead.nd (di_str (de_var 0)) (blkOk_by (by rfl)) (fun _ _ _ _ _ => (dg_name 1 sc_is_lead.nd)) (fun _ _ _ _ _ => dts_nil) (fun _ _ _ _ _ => (de_cmp op_in_sign wr_inS (de_var 1) (de_globE (d := (.str "0123456789")) rfl T.k_DIGITS) (by rfl))) (by decide))) da_nil))))))) (dss_one (ds_ret de_bl)) dss_nil) (dss_one (ds_ret (de_or (de_cmp (opK_eq rfl (have hq := room64 hr; hq)) wr_eq (de_var 0) de_str (nomark _)) (de_one (de_cmp (opK_ne rfl (have hq := room64 hr; hq)) wr_ne (de_ix rfl (de_var 0) de_int) de_str (nomark _)))))))⟩
theorem ok_lead_of (T : Txt P K mg) : FnOk P w K mg base CX0 2 T.f_lead_of T.d_lead_of ["row"] (liftSp K S (sp_lead_of T.A)) :=
  fn_deep (tD := D_lead_of T.A) T.F_lead_of sc_lead_of (len_lead_of T.A) (pure_lead_of T.A) fun c cdv A outer s H E hr => ⟨_, (dss_cons (ds_set 1 sc_lead_of.nd (de_bm rfl PySem.F.plainAttrs_str PySem.F.slot_str_split PySem.F.type_str_split mt_split wm_split (de_var 0) (da_cons de_str da_nil))) (dss_cons (ds_if (dt_cmp (opK_ne rfl (have hq := room64 hr; hq)) wr_ne (de_ix rfl (de_var 1) de_int) (de_globE (d := (.str "lead")) rfl T.k_LEAD_WORD) (nomark _)) dss_never dss_nil) (dss_cons (ds_if (DW.tst (dw_or (dt_cmp op_lt wr_lt (de_cb (call_lenK rfl) wc_len T.g_len PySem.boot_len (da_cons (de_var 1) da_nil)) de_int (nomark _)) (dw_or1 (dt_not (dt_val (de_call0 (ok_is_lead T) (hr.mono (by decide : 1 ≤ 1)) T.m_is_lead T.F_is_lead.kp T.b_is_lead (da_cons (de_ix rfl (de_var 1) de_int) da_nil))))))) dss_never dss_nil) (dss_cons (ds_if (dt_cmp op_gt wr_gt (de_cb (call_lenK rfl) wc_len T.g_len PySem.boot_len (da_cons (de_var 1) da_nil)) de_int (nomark _)) dss_never dss_nil) (dss_one (ds_ret (de_cty call_int_str wc_intS T.g_int (by decide +kernel) (da_cons (de_ix rfl (de_var 1) de_int) da_nil))))))))⟩
theorem ok_names_of (T : Txt P K mg) : FnOk P w K mg base CX0 2 T.f_names_of T.d_names_of ["row", "number"] (liftSp K S (sp_names_of T.A)) :=
  fn_deep (tD := D_names_of T.A) T.F_names_of sc_names_of (len_names_of T.A) (pure_names_of T.A) fun c cdv A outer s H E hr => ⟨_, (dss_cons (ds_if (dt_cmp (opK_eq rfl (have hq := room64 hr; hq)) wr_eq (de_var 0) (de_globE (d := (.str "-")) rfl T.k_NOTHING) (nomark _)) (dss_one (ds_ret (de_tup da_nil))) dss_nil) (dss_cons (ds_set 2 sc_names_of.nd (de_bm rfl PySem.F.plainAttrs_str PySem.F.slot_str_split PySem.F.type_str_split mt_split wm_split (de_var 0) (da_cons de_str da_nil))) (dss_cons (ds_for PassesOwn.never rfl (di_enumL rfl T.g_enumerate (da_cons (de_var 2) da_nil)) (dg_tup rfl rfl (dgs_cons (dg_name 3 sc_names_of.nd) (dgs_cons (dg_name 4 sc_names_of.nd) dgs_nil))) (dss_one (ds_if (dt_not (dt_val (de_call0 (ok_is_name T) (hr.mono (by decide : 1 ≤ 1)) T.m_is_name T.F_is_name.kp T.b_is_name (da_cons (de_var 4) da_nil)))) dss_never dss_nil))) (dss_one (ds_ret (de_cty (ctK_tuple rfl) wc_tuple T.g_tuple (by decide +kernel) (da_cons (de_var 2) da_nil)))))))⟩
theorem ok_parse_plan (T : Txt P K mg) : FnOk P w K mg base CX0 4 T.f_parse_plan T.d_parse_plan ["text"] (liftSp K S (sp_parse_plan T.A)) :=
  fn_deep (tD := D_parse_plan T.A) T.F_parse_plan sc_parse_plan (len_parse_plan T.A) (pure_parse_plan T.A) fun c cdv A outer s H E hr => ⟨_, (dss_cons (ds_set 1 sc_parse_plan.nd (de_bm rfl PySem.F.plainAttrs_str PySem.F.slot_str_split PySem.F.type_str_split mt_split wm_split (de_var 0) (da_cons de_str da_nil))) (dss_cons (ds_set 2 sc_parse_plan.nd (de_call0 (ok_lead_of T) (hr.mono (by decide : 2 ≤ 3)) T.m_lead_of T.F_lead_of.kp T.b_lead_of (da_cons (de_ix rfl (de_var 1) de_int) da_nil))) (dss_cons (ds_setLc 3 (own := [("place", 4), ("row", 5)]) rfl sc_parse_plan.nd (di_enumL rfl T.g_enumerate (da_cons (de_slL rfl (de_var 1) (do_yes de_int) do_no) da_nil)) (blkOk_by (by rfl)) (fun _ _ _ _ _ => (dg_tup rfl rfl (dgs_cons (dg_name 4 sc_parse_plan.nd) (dgs_cons (dg_name 5 sc_parse_plan.nd) dgs_nil)))) (fun _ _ _ _ _ => dts_nil) (fun _ _ _ _ _ => (de_call0 (ok_names_of T) (hr.mono (by decide : 2 ≤ 3)) T.m_names_of T.F_names_of.kp T.b_names_of (da_cons (de_var 5) (da_cons (de_op op_add wr_add (de_var 4) de_int) da_nil)))) (by decide)) (dss_one (ds_ret (de_makeSK rfl T.mk_Plan (ok_Plan_init T) (hr.mono (by decide : 3 ≤ 3)) T.m_Plan pass0 xok0 (de_var 3) (de_var 2)))))))⟩
theorem ok_mlaw_mix (T : Txt P K mg) : FnOk P w K mg base CX0 1 T.f_mlaw_mix T.d_mlaw_mix ["_law_script", "_law_seed"] (spMix K) :=
  mix_ok T.F_mlaw_mix sc_mlaw_mix fun cdv A outer s H E => pss_cons (ps_set (i := 2) sc_mlaw_mix.nd rfl (.inl rfl) (xv 1) rfl (.inl rfl)) (pss_cons (ps_for PassesOwn.never rfl (pi_list (xv 0)) (pg_name (i := 3) sc_mlaw_mix.nd rfl (.inl rfl) (.inl rfl))
    (pss_one (ps_set (i := 2) sc_mlaw_mix.nd rfl (.inl rfl) (pe_op op_mod (pe_callTy call_int1 rfl T.g_int (by decide +kernel) (pa_cons (pe_op op_add (pe_op op_add (pe_op op_mul (xv 2) pe_int) (pe_op op_mod (pe_callTy call_int1 rfl T.g_int (by decide +kernel) (pa_cons (xv 3) pa_nil)) pe_int)) pe_int) pa_nil)) pe_int) rfl (.inl rfl))))
    (pss_one (ps_ret (pe_lst (pa_cons (xv 2) (pa_cons (pe_callTy (ctK_list rfl) rfl T.g_list (by decide +kernel) (pa_cons (xv 0) pa_nil)) (pa_cons pe_int pa_nil)))))))
theorem ok_mlaw_next (T : Txt P K mg) : FnOk P w K mg base CX0 1 T.f_mlaw_next T.d_mlaw_next ["_law_h", "_law_limit"] (liftSp K (MxSit Hs l p) (spDrawn l)) := by
  refine next_ok T.F_mlaw_next sc_mlaw_next fun cdv A outer s H E => ?_
  exact pss_cons (ps_set (i := 2) sc_mlaw_next.nd rfl (.inl rfl) (pe_ix ix_seq (pe_op op_cat (xix 1) (pe_lst (pa_cons pe_int pa_nil))) (pe_op op_mod (pe_callTy call_int1 rfl T.g_int (by decide +kernel) (pa_cons (xix 2) pa_nil)) (pe_callB (call_max2 rfl) rfl T.g_max (by decide +kernel) (pa_cons pe_int (pa_cons (pe_callB call_len_seq rfl T.g_len boot_len (pa_cons (xix 1) pa_nil)) pa_nil)))) (fun _ _ => rfl)) rfl (.inl rfl))
    (pss_cons (ps_if (pt_cmpR op_ge (xv 2) (pe_op op_pow pe_int pe_int) (nomark _))
      (pss_cons (ps_asg (pe_op op_fdiv (xv 2) (xv 1)) (pg_sub (xix 1) (pe_op op_mod (pe_callTy call_int1 rfl T.g_int (by decide +kernel) (pa_cons (xix 2) pa_nil)) (pe_callB call_len_seq rfl T.g_len boot_len (pa_cons (xix 1) pa_nil))) set_list (fun _ => rfl))) (pss_one (ps_ret (pe_op op_mod (pe_callTy call_int1 rfl T.g_int (by decide +kernel) (pa_cons (xv 2) pa_nil)) (xv 1))))) pss_nil)
    (pss_cons (ps_asg (pe_op op_mod (pe_callTy call_int1 rfl T.g_int (by decide +kernel) (pa_cons (pe_op op_add (pe_op op_add (pe_op op_mul (xix 0) pe_int) (pe_op op_mul (xv 2) pe_int)) pe_int) pa_nil)) pe_int) (xput 0))
    (pss_cons (ps_asg (pe_op op_add (xix 2) pe_int) (xput 2))
      (pss_one (ps_ret (pe_op op_mod (pe_callTy call_int1 rfl T.g_int (by decide +kernel) (pa_cons (pe_op op_fdiv (xix 0) pe_int) pa_nil)) (xv 1)))))))
theorem step_mlaw_alike (T : Txt P K mg) {k : Nat} {rc sp : SpD} (ih : FnOk P w K mg base CX0 k T.f_mlaw_alike T.d_mlaw_alike ["_law_found", "_law_due"] (liftSp K S rc)) (hlen : ∀ ds P x, sp ds P x → ds.length = 2) (hpure : ∀ ds P x, sp ds P x → D_mlaw_alike T.A rc { nx := fun _ => P .non, rt := P } (startD N_mlaw_alike ds)) : FnOk P w K mg base CX0 (k + 1) T.f_mlaw_alike T.d_mlaw_alike ["_law_found", "_law_due"] (liftSp K S sp) :=
  fn_deep (tD := D_mlaw_alike T.A rc) T.F_mlaw_alike sc_mlaw_alike hlen hpure fun c cdv A outer s H E hr => ⟨_, (dss_cons (ds_if (dt_val (de_isi rfl kit_dict T.g_isinstance T.g_dict PyProof.Rows.boot_dict (de_var 1))) dss_never dss_nil) (dss_cons (ds_if (dt_val (de_isiTL rfl T.g_isinstance T.g_tuple T.g_list (de_var 1))) (dss_cons (ds_if (DW.tst (dw_or (dt_not (dt_val (de_isiTL rfl T.g_isinstance T.g_tuple T.g_list (de_var 0)))) (dw_or1 (dt_cmp (opK_ne rfl (have hq := room64 hr; hq)) wr_ne (de_isi rfl kit_list T.g_isinstance T.g_list PyProof.Rows.boot_list (de_var 0)) (de_isi rfl kit_list T.g_isinstance T.g_list PyProof.Rows.boot_list (de_var 1)) (nomark _))))) (dss_one (ds_ret de_bl)) dss_nil) (dss_cons (ds_if (dt_cmp (opK_ne rfl (have hq := room64 hr; hq)) wr_ne (de_cb (call_lenK rfl) wc_len T.g_len PySem.boot_len (da_cons (de_var 0) da_nil)) (de_cb (call_lenK rfl) wc_len T.g_len PySem.boot_len (da_cons (de_var 1) da_nil)) (nomark _)) (dss_one (ds_ret de_bl)) dss_nil) (dss_one (ds_ret (de_cmp (opK_eq rfl (have hq := room64 hr; hq)) wr_eq (de_n (dn_lc (own := [("_law_k", 2)]) rfl sc_mlaw_alike.nd (di_rng1 T.g_range (da_cons (de_cb (call_lenK rfl) wc_len T.g_len PySem.boot_len (da_cons (de_var 1) da_nil)) da_nil)) (blkOk_by (by rfl)) (fun _ _ _ _ _ => (dg_name 2 sc_mlaw_alike.nd)) (fun _ _ _ _ _ => (dts_one (dt_not (dt_val (de_call0 ih (hr.mono (by omega : k ≤ (k + 0))) T.m_mlaw_alike T.F_mlaw_alike.kp T.b_mlaw_alike (da_cons (de_ix rfl (de_var 0) (de_var 2)) (da_cons (de_ix rfl (de_var 1) (de_var 2)) da_nil))))))) (fun _ _ _ _ _ => (de_var 2)) (by decide))) (de_lst da_nil) (nomark _)))))) dss_nil) (dss_cons (ds_if (DW.tst (dw_or (dt_cmp op_isN wr_isN (de_var 1) de_non (nomark _)) (dw_or1 (dt_val (de_isi rfl kit_str T.g_isinstance T.g_str PyProof.Rows.boot_str (de_var 1)))))) (dss_one (ds_ret (de_and (de_cmp (opK_eq rfl (have hq := room64 hr; hq)) wr_eq (de_var 0) (de_var 1) (nomark _)) (de_one (de_cmp (opK_eq rfl (have hq := room64 hr; hq)) wr_eq (de_isi rfl kit_str T.g_isinstance T.g_str PyProof.Rows.boot_str (de_var 0)) (de_isi rfl kit_str T.g_isinstance T.g_str PyProof.Rows.boot_str (de_var 1)) (nomark _)))))) dss_nil) (dss_one (ds_ret (de_and (de_isi rfl kit_int T.g_isinstance T.g_int PyProof.Rows.boot_int (de_var 0)) (de_and (de_cmp (opK_eq rfl (have hq := room64 hr; hq)) wr_eq (de_isi rfl kit_bool T.g_isinstance T.g_bool PyProof.Rows.boot_bool (de_var 0)) (de_isi rfl kit_bool T.g_isinstance T.g_bool PyProof.Rows.boot_bool (de_var 1)) (nomark _)) (de_one (de_cmp (opK_eq rfl (have hq := room64 hr; hq)) wr_eq (de_var 0) (de_var 1) (nomark _))))))))))⟩
theorem ok_alike (T : Txt P K mg) : ∀ n : Nat, FnOk P w K mg base CX0 (n + 1) T.f_mlaw_alike T.d_mlaw_alike ["_law_found", "_law_due"] (liftSp K S (spSame n))
  | 0 => step_mlaw_alike T (k := 0) (rc := fun _ _ _ => False) ⟨fun _ _ _ _ ⟨_, _, _, _, _, _, h, _⟩ => h.elim, fun _ _ _ _ _ _ _ _ _ _ _ _ _ ⟨_, _, _, _, _, _, h, _⟩ => h.elim⟩ (fun ds P x ⟨d, e, _⟩ => by rw [e]; rfl) (pure_alike T.A 0)
  | n + 1 => step_mlaw_alike T (k := n + 1) (ok_alike T n) (fun ds P x ⟨d, e, _⟩ => by rw [e]; rfl) (pure_alike T.A (n + 1))
theorem ok_mlaw_text (T : Txt P K mg) : FnOk P w K mg base CX0 1 T.f_mlaw_text T.d_mlaw_text ["_law_days", "_law_lead"] (liftSp K S (sp_mlaw_text T.A)) :=
  fn_deep (tD := D_mlaw_text T.A) T.F_mlaw_text sc_mlaw_text (len_mlaw_text T.A) (pure_mlaw_text T.A) fun c cdv A outer s H E hr => ⟨_, (dss_one (ds_ret (de_bm rfl PySem.F.plainAttrs_str PySem.F.slot_str_join PySem.F.type_str_join mt_join wm_join de_str (da_cons (de_op op_cat wr_catL (de_lst (da_cons (de_op op_add_str wr_addS de_str (de_cty call_str_int wc_strI T.g_str (by decide +kernel) (da_cons (de_var 1) da_nil))) da_nil)) (de_n (dn_lc (own := [("_law_day_here", 2)]) rfl sc_mlaw_text.nd (di_list rfl (de_var 0)) (blkOk_by (by rfl)) (fun _ _ _ _ _ => (dg_name 2 sc_mlaw_text.nd)) (fun _ _ _ _ _ => dts_nil) (fun _ _ _ _ _ => (de_if (dt_cmp (opK_ne rfl (have hq := room64 hr; hq)) wr_ne (de_var 2) (de_tup da_nil) (nomark _)) (de_bm rfl PySem.F.plainAttrs_str PySem.F.slot_str_join PySem.F.type_str_join mt_join wm_join de_str (da_cons (de_var 2) da_nil)) de_str)) (by decide)))) da_nil))))⟩
theorem ok_mlaw_some (T : Txt P K mg) : FnOk P w K mg base CX0 2 T.f_mlaw_some T.d_mlaw_some ["_law_h", "_law_names", "_law_most"] (liftSp K (MxSit Hs l p) (sp_mlaw_some T.A l)) :=
  fn_deep (tD := D_mlaw_some T.A l) T.F_mlaw_some sc_mlaw_some (len_mlaw_some T.A l) (pure_mlaw_some T.A l) fun c cdv A outer s H E hr => ⟨_, (dss_cons (ds_parN 3 4 rfl sc_mlaw_some.nd (dn_list rfl T.g_list (by decide +kernel) (da_cons (de_var 1) da_nil)) (dn_lst da_nil)) (dss_cons (ds_forV PassesOwn.never rfl (dv_rng1 T.g_range (da_cons (de_call0 (ok_mlaw_next T) (hr.mono (by decide : 1 ≤ 1)) T.m_mlaw_next T.F_mlaw_next.kp T.b_mlaw_next (da_cons (de_var 0) (da_cons (de_op op_add wr_add (de_cb (call_min2 rfl) wc_min2 T.g_min (by decide +kernel) (da_cons (de_var 2) (da_cons (de_cb (call_lenK rfl) wc_len T.g_len PySem.boot_len (da_cons (de_var 3) da_nil)) da_nil))) de_int) da_nil))) da_nil)) (dg_name 5 sc_mlaw_some.nd) (dss_one (ds_appPop 4 rfl (dp_pop 3 rfl (de_call0 (ok_mlaw_next T) (hr.mono (by decide : 1 ≤ 1)) T.m_mlaw_next T.F_mlaw_next.kp T.b_mlaw_next (da_cons (de_var 0) (da_cons (de_cb (call_lenK rfl) wc_len T.g_len PySem.boot_len (da_cons (de_var 3) da_nil)) da_nil))))))) (dss_one (ds_ret (de_cty (ctK_tuple rfl) wc_tuple T.g_tuple (by decide +kernel) (da_cons (de_var 4) da_nil))))))⟩
theorem ok_mlaw_day (T : Txt P K mg) : FnOk P w K mg base CX0 1 T.f_mlaw_day T.d_mlaw_day ["_law_days", "_law_lead", "_law_day_here"] (liftSp K S (sp_mlaw_day T.A)) :=
  fn_deep (tD := D_mlaw_day T.A) T.F_mlaw_day sc_mlaw_day (len_mlaw_day T.A) (pure_mlaw_day T.A) fun c cdv A outer s H E hr => ⟨_, (dss_cons (ds_if (dt_cmp op_lt wr_lt (de_var 2) (de_cb (call_lenK rfl) wc_len T.g_len PySem.boot_len (da_cons (de_var 0) da_nil)) (nomark _)) (dss_one (ds_ret (de_ix rfl (de_var 0) (de_var 2)))) dss_nil) (dss_one (ds_ret (de_ix rfl (de_var 0) (de_op op_add wr_add (de_var 1) (de_op op_mod wr_mod (de_cty call_int1 wc_intI T.g_int (by decide +kernel) (da_cons (de_op op_sub wr_sub (de_var 2) (de_var 1)) da_nil)) (de_op op_sub wr_sub (de_cb (call_lenK rfl) wc_len T.g_len PySem.boot_len (da_cons (de_var 0) da_nil)) (de_var 1))))))))⟩
theorem ok_law (T : Txt P K mg) : FnOk P w K mg base CX0 7 T.f_law T.d_law ["_law_script"] (spLawN K) :=
  law_deepM (salt := 55) (tD := fun l => D_law_k55 T.A l) T.F_law sc_law rfl (by decide) (fun cdv A outer s H E hr => ps_set (i := 1) sc_law.nd rfl (by first | exact .inl rfl | exact .inr rfl) (pe_call (ok_mlaw_mix T) (hr.mono (by decide : 1 ≤ 6)) rfl T.m_mlaw_mix T.F_mlaw_mix.kp T.b_mlaw_mix .nil pass0 (pa_cons (pv 0) (pa_cons pe_int pa_nil)))) (fun c Hs l p cdv A outer s H E hr => ⟨_, (dss_cons (ds_set 2 sc_law.nd (de_lst (da_cons de_str (da_cons de_str (da_cons de_str da_nil))))) (dss_cons (ds_for PassesOwn.never rfl (di_rng1 T.g_range (da_cons de_int da_nil)) (dg_name 3 sc_law.nd) (dss_cons (ds_setLc 4 (own := [("_law_k", 10)]) rfl sc_law.nd (di_rng1 T.g_range (da_cons (de_op op_add wr_add de_int (de_call0 (ok_mlaw_next T) (hr.mono (by decide : 1 ≤ 6)) T.m_mlaw_next T.F_mlaw_next.kp T.b_mlaw_next (da_cons (de_var 1) (da_cons de_int da_nil)))) da_nil)) (blkOk_by (by rfl)) (fun _ _ _ _ _ => (dg_name 10 sc_law.nd)) (fun _ _ _ _ _ => dts_nil) (fun _ _ _ _ _ => (de_call0 (ok_mlaw_some T) (hr.mono (by decide : 2 ≤ 6)) T.m_mlaw_some T.F_mlaw_some.kp T.b_mlaw_some (da_cons (de_var 1) (da_cons (de_var 2) (da_cons de_int da_nil))))) (by decide)) (dss_cons (ds_set 5 sc_law.nd (de_call0 (ok_mlaw_next T) (hr.mono (by decide : 1 ≤ 6)) T.m_mlaw_next T.F_mlaw_next.kp T.b_mlaw_next (da_cons (de_var 1) (da_cons (de_cb (call_lenK rfl) wc_len T.g_len PySem.boot_len (da_cons (de_var 4) da_nil)) da_nil)))) (dss_cons (ds_set 6 sc_law.nd (de_call0 (ok_parse_plan T) (hr.mono (by decide : 4 ≤ 6)) T.m_parse_plan T.F_parse_plan.kp T.b_parse_plan (da_cons (de_call0 (ok_mlaw_text T) (hr.mono (by decide : 1 ≤ 6)) T.m_mlaw_text T.F_mlaw_text.kp T.b_mlaw_text (da_cons (de_var 4) (da_cons (de_var 5) da_nil))) da_nil))) (dss_cons (ds_if (DW.tst (dw_or (dt_cmp (opK_ne rfl (have hq := room64 hr; hq)) wr_ne (de_tup (da_cons (de_prop T.cls_Plan T.P_Plan_days (ok_Plan_days T) (hr.mono (by decide : 2 ≤ 6)) T.b_Plan_days (de_var 6)) (da_cons (de_prop T.cls_Plan T.P_Plan_lead (ok_Plan_lead T) (hr.mono (by decide : 2 ≤ 6)) T.b_Plan_lead (de_var 6)) da_nil))) (de_tup (da_cons (de_cty (ctK_tuple rfl) wc_tuple T.g_tuple (by decide +kernel) (da_cons (de_var 4) da_nil)) (da_cons (de_var 5) da_nil))) (nomark _)) (dw_or1 (dt_cmp (opK_ne rfl (have hq := room64 hr; hq)) wr_ne (de_call0 (ok_format_plan T) (hr.mono (by decide : 3 ≤ 6)) T.m_format_plan T.F_format_plan.kp T.b_format_plan (da_cons (de_var 6) da_nil)) (de_call0 (ok_mlaw_text T) (hr.mono (by decide : 1 ≤ 6)) T.m_mlaw_text T.F_mlaw_text.kp T.b_mlaw_text (da_cons (de_var 4) (da_cons (de_var 5) da_nil))) (nomark _))))) (dss_one (ds_ret de_bl)) dss_nil) (dss_cons (ds_set 7 sc_law.nd (de_ix rfl (de_lst (da_cons (de_call0 (ok_mlaw_next T) (hr.mono (by decide : 1 ≤ 6)) T.m_mlaw_next T.F_mlaw_next.kp T.b_mlaw_next (da_cons (de_var 1) (da_cons de_int da_nil))) (da_cons (de_op op_add wr_add (de_op op_pow wr_pow de_int de_int) (de_call0 (ok_mlaw_next T) (hr.mono (by decide : 1 ≤ 6)) T.m_mlaw_next T.F_mlaw_next.kp T.b_mlaw_next (da_cons (de_var 1) (da_cons de_int da_nil)))) da_nil))) (de_call0 (ok_mlaw_next T) (hr.mono (by decide : 1 ≤ 6)) T.m_mlaw_next T.F_mlaw_next.kp T.b_mlaw_next (da_cons (de_var 1) (da_cons de_int da_nil))))) (dss_cons (ds_set 8 sc_law.nd (de_ix rfl (de_lst (da_cons (de_call0 (ok_mlaw_next T) (hr.mono (by decide : 1 ≤ 6)) T.m_mlaw_next T.F_mlaw_next.kp T.b_mlaw_next (da_cons (de_var 1) (da_cons de_int da_nil))) (da_cons (de_op op_add wr_add (de_op op_pow wr_pow de_int de_int) (de_call0 (ok_mlaw_next T) (hr.mono (by decide : 1 ≤ 6)) T.m_mlaw_next T.F_mlaw_next.kp T.b_mlaw_next (da_cons (de_var 1) (da_cons de_int da_nil)))) da_nil))) (de_call0 (ok_mlaw_next T) (hr.mono (by decide : 1 ≤ 6)) T.m_mlaw_next T.F_mlaw_next.kp T.b_mlaw_next (da_cons (de_var 1) (da_cons de_int da_nil))))) (dss_cons (ds_set 9 sc_law.nd (de_binTX T.B_Plan_rshiftX_int (ok_Plan_rshiftX T) (hr.mono (by decide : 4 ≤ 6)) T.b_Plan_rshiftX passX0 xok0 (de_var 6) (de_var 7))) (dss_cons (ds_if (DW.tst (dw_or (dt_not (dt_val (de_isiO rfl T.ty_Plan T.g_isinstance T.m_Plan (de_var 9)))) (dw_or1 (dt_neX T.E_Plan_eq rfl (ok_Plan_eq T) (hr.mono (by decide : 2 ≤ 6)) T.b_Plan_eq pass0 xok0 (de_binTX T.B_Plan_rshiftX_int (ok_Plan_rshiftX T) (hr.mono (by decide : 4 ≤ 6)) T.b_Plan_rshiftX passX0 xok0 (de_var 9) (de_var 8)) (de_binTX T.B_Plan_rshiftX_int (ok_Plan_rshiftX T) (hr.mono (by decide : 4 ≤ 6)) T.b_Plan_rshiftX passX0 xok0 (de_var 6) (de_op op_add wr_add (de_var 7) (de_var 8))))))) (dss_one (ds_ret de_bl)) dss_nil) (dss_cons (ds_if (DW.tst (dw_or (dt_neX T.E_Plan_eq rfl (ok_Plan_eq T) (hr.mono (by decide : 2 ≤ 6)) T.b_Plan_eq pass0 xok0 (de_call0 (ok_parse_plan T) (hr.mono (by decide : 4 ≤ 6)) T.m_parse_plan T.F_parse_plan.kp T.b_parse_plan (da_cons (de_call0 (ok_format_plan T) (hr.mono (by decide : 3 ≤ 6)) T.m_format_plan T.F_format_plan.kp T.b_format_plan (da_cons (de_var 9) da_nil)) da_nil)) (de_var 9)) (dw_or1 (dt_neX T.E_Plan_eq rfl (ok_Plan_eq T) (hr.mono (by decide : 2 ≤ 6)) T.b_Plan_eq pass0 xok0 (de_binTX T.B_Plan_rshiftX_int (ok_Plan_rshiftX T) (hr.mono (by decide : 4 ≤ 6)) T.b_Plan_rshiftX passX0 xok0 (de_var 6) de_int) (de_var 6))))) (dss_one (ds_ret de_bl)) dss_nil) (dss_cons (ds_for PassesOwn.never rfl (di_rng1 T.g_range (da_cons (de_op op_add wr_add (de_op op_mul wr_mul de_int (de_cb (call_lenK rfl) wc_len T.g_len PySem.boot_len (da_cons (de_var 4) da_nil))) de_int) da_nil)) (dg_name 10 sc_law.nd) (dss_one (ds_if (DW.tst (dw_or (dt_cmp (opK_ne rfl (have hq := room64 hr; hq)) wr_ne (de_ixO T.O_Plan_getitem T.n_Plan_getitem (ok_Plan_getitem T) (hr.mono (by decide : 4 ≤ 6)) T.b_Plan_getitem (de_var 9) (de_var 10)) (de_ixO T.O_Plan_getitem T.n_Plan_getitem (ok_Plan_getitem T) (hr.mono (by decide : 4 ≤ 6)) T.b_Plan_getitem (de_var 6) (de_op op_add wr_add (de_var 7) (de_var 10))) (nomark _)) (dw_or1 (dt_cmp (opK_ne rfl (have hq := room64 hr; hq)) wr_ne (de_ixO T.O_Plan_getitem T.n_Plan_getitem (ok_Plan_getitem T) (hr.mono (by decide : 4 ≤ 6)) T.b_Plan_getitem (de_var 6) (de_var 10)) (de_call0 (ok_mlaw_day T) (hr.mono (by decide : 1 ≤ 6)) T.m_mlaw_day T.F_mlaw_day.kp T.b_mlaw_day (da_cons (de_var 4) (da_cons (de_var 5) (da_cons (de_var 10) da_nil)))) (nomark _))))) (dss_one (ds_ret de_bl)) dss_nil))) (dss_one (ds_for PassesOwn.never rfl (di_list rfl (de_var 2)) (dg_name 11 sc_law.nd) (dss_cons (ds_setLc 12 (own := [("_law_k", 10)]) rfl sc_law.nd (di_rng1 T.g_range (da_cons de_int da_nil)) (blkOk_by (by rfl)) (fun _ _ _ _ _ => (dg_name 10 sc_law.nd)) (fun _ _ _ _ _ => (dts_one (dt_cmp (opK_in rfl) wr_in (de_var 11) (de_ixO T.O_Plan_getitem T.n_Plan_getitem (ok_Plan_getitem T) (hr.mono (by decide : 4 ≤ 6)) T.b_Plan_getitem (de_var 6) (de_op op_add wr_add (de_var 7) (de_var 10))) (by rfl)))) (fun _ _ _ _ _ => (de_var 10)) (by decide)) (dss_cons (ds_if (dt_cmp (opK_ne rfl (have hq := room64 hr; hq)) wr_ne (de_n (dn_listGM T.cls_Plan T.M_Plan_harvests (ok_Plan_harvests T) (hr.mono (by decide : 6 ≤ 6)) T.b_Plan_harvests passX0 noStop0 xok0 T.g_list (by decide +kernel) (de_var 9) (da_cons (de_var 11) (da_cons de_int (da_cons de_int da_nil))))) (de_var 12) (nomark _)) (dss_one (ds_ret de_bl)) dss_nil) (dss_cons (ds_if (dt_cmp (opK_ne rfl (have hq := room64 hr; hq)) wr_ne (de_n (dn_listGM T.cls_Plan T.M_Plan_harvests (ok_Plan_harvests T) (hr.mono (by decide : 6 ≤ 6)) T.b_Plan_harvests passX0 noStop0 xok0 T.g_list (by decide +kernel) (de_var 6) (da_cons (de_var 11) (da_cons (de_var 7) (da_cons (de_op op_add wr_add (de_var 7) de_int) da_nil))))) (de_n (dn_lc (own := [("_law_k", 10)]) rfl sc_law.nd (di_list rfl (de_var 12)) (blkOk_by (by rfl)) (fun _ _ _ _ _ => (dg_name 10 sc_law.nd)) (fun _ _ _ _ _ => dts_nil) (fun _ _ _ _ _ => (de_op op_add wr_add (de_var 7) (de_var 10))) (by decide))) (nomark _)) (dss_one (ds_ret de_bl)) dss_nil) (dss_cons (ds_set 13 sc_law.nd (de_if (dt_cmp (opK_ne rfl (have hq := room64 hr; hq)) wr_ne (de_var 12) (de_lst da_nil) (nomark _)) (de_op op_add wr_add (de_var 7) (de_ix rfl (de_var 12) de_int)) de_non)) (dss_one (ds_if (DW.tst (dw_or (dt_not (dt_val (de_call0 (ok_alike T 3) (hr.mono (by decide : 4 ≤ 6)) T.m_mlaw_alike T.F_mlaw_alike.kp T.b_mlaw_alike (da_cons (de_callI T.C_Plan_callX (ok_Plan_callX T) (hr.mono (by decide : 3 ≤ 6)) T.b_Plan_callX passX0 xok0 (de_var 6) (da_cons (de_var 11) (da_cons (de_var 7) da_nil))) (da_cons (de_var 13) da_nil))))) (dw_or1 (dt_cmp (opK_ne rfl (have hq := room64 hr; hq)) wr_ne (de_callI T.C_Plan_callX (ok_Plan_callX T) (hr.mono (by decide : 3 ≤ 6)) T.b_Plan_callX passX0 xok0 (de_var 9) (da_cons (de_var 11) (da_cons de_int da_nil))) (de_if (dt_cmp (opK_ne rfl (have hq := room64 hr; hq)) wr_ne (de_var 12) (de_lst da_nil) (nomark _)) (de_ix rfl (de_var 12) de_int) de_non) (nomark _))))) (dss_one (ds_ret de_bl)) dss_nil))))))))))))))))))) (dss_one (ds_ret de_bl))))⟩) (pure_law_k55 T.A)
end
end Z
end
section
namespace Z
open PySem PySem.Spec PyProof.Rows L2 DL LMX LamX
theorem txt_of {P : Program} {K : PySem.W.Frag} {h : Heap} {mg : Str → Option Value} (hf : P.main.file = fileN) (top : (P.main.scope.names.lookup ("super" : Str)).isSome = false) (X : K.In h) (G : h.Ns mainGlobals mg) (c : SaysZ fa fn fS fileN tf h K) : ∃ T : Txt P K mg, T.f_law = He.ga K "law" := by
  obtain ⟨d_is_number, F_is_number⟩ := c.def_ 0 rfl
  obtain ⟨d_check_numberX, F_check_numberX⟩ := c.def_ 1 rfl
  obtain ⟨d_check_number, F_check_number⟩ := c.def_ 2 rfl
  obtain ⟨d_is_name, F_is_name⟩ := c.def_ 3 rfl
  obtain ⟨d_first_wrong_day, F_first_wrong_day⟩ := c.def_ 4 rfl
  obtain ⟨d_place, F_place⟩ := c.def_ 5 rfl
  obtain ⟨d_Plan_init, F_Plan_init⟩ := c.def_ 6 rfl
  obtain ⟨d_Plan_days, F_Plan_days⟩ := c.def_ 7 rfl
  obtain ⟨d_Plan_lead, F_Plan_lead⟩ := c.def_ 8 rfl
  obtain ⟨d_Plan_len, F_Plan_len⟩ := c.def_ 9 rfl
  obtain ⟨d_Plan_names_on, F_Plan_names_on⟩ := c.def_ 10 rfl
  obtain ⟨d_Plan_harvests, F_Plan_harvests⟩ := c.def_ 11 rfl
  obtain ⟨d_Plan_getitem, F_Plan_getitem⟩ := c.def_ 12 rfl
  obtain ⟨d_Plan_rshiftX, F_Plan_rshiftX⟩ := c.def_ 13 rfl
  obtain ⟨d_Plan_eq, F_Plan_eq⟩ := c.def_ 14 rfl
  obtain ⟨d_Plan_callX, F_Plan_callX⟩ := c.def_ 15 rfl
  obtain ⟨d_row_of, F_row_of⟩ := c.def_ 16 rfl
  obtain ⟨d_format_plan, F_format_plan⟩ := c.def_ 17 rfl
  obtain ⟨d_is_lead, F_is_lead⟩ := c.def_ 18 rfl
  obtain ⟨d_lead_of, F_lead_of⟩ := c.def_ 19 rfl
  obtain ⟨d_names_of, F_names_of⟩ := c.def_ 20 rfl
  obtain ⟨d_parse_plan, F_parse_plan⟩ := c.def_ 21 rfl
  obtain ⟨d_mlaw_mix, F_mlaw_mix⟩ := c.def_ 22 rfl
  obtain ⟨d_mlaw_next, F_mlaw_next⟩ := c.def_ 23 rfl
  obtain ⟨d_mlaw_alike, F_mlaw_alike⟩ := c.def_ 24 rfl
  obtain ⟨d_mlaw_text, F_mlaw_text⟩ := c.def_ 25 rfl
  obtain ⟨d_mlaw_some, F_mlaw_some⟩ := c.def_ 26 rfl
  obtain ⟨d_mlaw_day, F_mlaw_day⟩ := c.def_ 27 rfl
  obtain ⟨d_law, F_law⟩ := c.def_ 28 rfl
  exact ⟨{
    A := ⟨He.ga K "Farm", He.ga K "Plan", He.ga K "Rule", He.ga K "Cart", He.ga K "RestingCart", He.ga K "ShiftCart", He.ga K "LateCart", He.ga K "Moment", He.ga K "Deed", He.ga K "Book", He.ga K "LiveFarm", He.ga K "Trial", He.ga K "PlanObserver", He.ga K "FarmError", He.ga K "InvalidFarm", He.ga K "TooManyStates", He.ga K "UnknownField", He.ga K "InvalidPlan", He.ga K "InvalidNumber", He.ga K "NotHarmonic", He.ga K "TooFewCarts", He.ga K "Contradiction", He.ga K "InvalidCart", He.ga K "InvalidOperation", He.ga K "InvalidText", He.ga K "DecodeError", exmT K (([] : List Str).map (He.ga K)), isaT K (([] : List Str).map (He.ga K)), isaT K (([] : List Str).map (He.ga K)), isvT K (([] : List Str).map (He.ga K))⟩,
    f_is_number := At.ad K (.glo "is_number"),
    d_is_number := d_is_number,
    F_is_number := F_is_number,
    m_is_number := He.glo_ok X G (c.fact 0 rfl),
    b_is_number := F_is_number.binds fun _ _ _ _ _ _ us hl => match us, hl with | [_, _, _], _ => rfl,
    f_check_numberX := At.ad K (.glo "check_number"),
    d_check_numberX := d_check_numberX,
    F_check_numberX := F_check_numberX,
    m_check_numberX := He.glo_ok X G (c.fact 1 rfl),
    b_check_numberX := F_check_numberX.binds fun _ _ _ _ _ _ us hl => match us, hl with | [_, _, _], _ => rfl,
    f_check_number := At.ad K (.glo "check_number"),
    d_check_number := d_check_number,
    F_check_number := F_check_number,
    m_check_number := He.glo_ok X G (c.fact 1 rfl),
    b_check_number := F_check_number.binds fun _ _ _ _ _ _ us hl => match us, hl with | [_, _, _], _ => rfl,
    f_is_name := At.ad K (.glo "is_name"),
    d_is_name := d_is_name,
    F_is_name := F_is_name,
    m_is_name := He.glo_ok X G (c.fact 2 rfl),
    b_is_name := F_is_name.binds fun _ _ _ _ _ _ us hl => match us, hl with | [_], _ => rfl,
    f_first_wrong_day := At.ad K (.glo "_first_wrong_day"),
    d_first_wrong_day := d_first_wrong_day,
    F_first_wrong_day := F_first_wrong_day,
    m_first_wrong_day := He.glo_ok X G (c.fact 3 rfl),
    b_first_wrong_day := F_first_wrong_day.binds fun _ _ _ _ _ _ us hl => match us, hl with | [_], _ => rfl,
    f_place := At.ad K (.glo "_place"),
    d_place := d_place,
    F_place := F_place,
    m_place := He.glo_ok X G (c.fact 4 rfl),
    b_place := F_place.binds fun _ _ _ _ _ _ us hl => match us, hl with | [_, _, _], _ => rfl,
    f_Plan_init := At.ad K (.meth "Plan" "__init__"),
    d_Plan_init := d_Plan_init,
    F_Plan_init := F_Plan_init,
    kd_Plan_init := (c.bool 5 rfl),
    f_Plan_days := At.ad K (.prop "Plan" "days"),
    d_Plan_days := d_Plan_days,
    F_Plan_days := F_Plan_days,
    b_Plan_days := F_Plan_days.binds fun _ _ _ _ _ _ us hl => match us, hl with | [_], _ => rfl,
    p_Plan_days := He.ma K (He.ga K "Plan") "days",
    P_Plan_days := fb_prop (c.fact 6 rfl),
    f_Plan_lead := At.ad K (.prop "Plan" "lead"),
    d_Plan_lead := d_Plan_lead,
    F_Plan_lead := F_Plan_lead,
    b_Plan_lead := F_Plan_lead.binds fun _ _ _ _ _ _ us hl => match us, hl with | [_], _ => rfl,
    p_Plan_lead := He.ma K (He.ga K "Plan") "lead",
    P_Plan_lead := fb_prop (c.fact 7 rfl),
    f_Plan_len := At.ad K (.meth "Plan" "__len__"),
    d_Plan_len := d_Plan_len,
    F_Plan_len := F_Plan_len,
    b_Plan_len := F_Plan_len.binds fun _ _ _ _ _ _ us hl => match us, hl with | [_], _ => rfl,
    f_Plan_names_on := At.ad K (.meth "Plan" "_names_on"),
    d_Plan_names_on := d_Plan_names_on,
    F_Plan_names_on := F_Plan_names_on,
    b_Plan_names_on := F_Plan_names_on.binds fun _ _ _ _ _ _ us hl => match us, hl with | [_, _], _ => rfl,
    M_Plan_names_on := He.meth_ok (c.fact 8 rfl),
    f_Plan_harvests := At.ad K (.meth "Plan" "harvests"),
    d_Plan_harvests := d_Plan_harvests,
    F_Plan_harvests := F_Plan_harvests,
    b_Plan_harvests := F_Plan_harvests.binds fun _ _ _ _ _ _ us hl => match us, hl with | [_, _, _, _], _ => rfl,
    M_Plan_harvests := He.meth_ok (c.fact 9 rfl),
    f_Plan_getitem := At.ad K (.meth "Plan" "__getitem__"),
    d_Plan_getitem := d_Plan_getitem,
    F_Plan_getitem := F_Plan_getitem,
    b_Plan_getitem := F_Plan_getitem.binds fun _ _ _ _ _ _ us hl => match us, hl with | [_, _], _ => rfl,
    O_Plan_getitem := opO_of (c.fact 10 rfl),
    n_Plan_getitem := (c.fact 11 rfl),
    f_Plan_rshiftX := At.ad K (.meth "Plan" "__rshift__"),
    d_Plan_rshiftX := d_Plan_rshiftX,
    F_Plan_rshiftX := F_Plan_rshiftX,
    b_Plan_rshiftX := F_Plan_rshiftX.binds fun _ _ _ _ _ _ us hl => match us, hl with | [_, _], _ => rfl,
    f_Plan_eq := At.ad K (.meth "Plan" "__eq__"),
    d_Plan_eq := d_Plan_eq,
    F_Plan_eq := F_Plan_eq,
    b_Plan_eq := F_Plan_eq.binds fun _ _ _ _ _ _ us hl => match us, hl with | [_, _], _ => rfl,
    f_Plan_callX := At.ad K (.meth "Plan" "__call__"),
    d_Plan_callX := d_Plan_callX,
    F_Plan_callX := F_Plan_callX,
    b_Plan_callX := F_Plan_callX.binds fun _ _ _ _ _ _ us hl => match us, hl with | [_, _, _], _ => rfl,
    f_row_of := At.ad K (.glo "_row_of"),
    d_row_of := d_row_of,
    F_row_of := F_row_of,
    m_row_of := He.glo_ok X G (c.fact 12 rfl),
    b_row_of := F_row_of.binds fun _ _ _ _ _ _ us hl => match us, hl with | [_], _ => rfl,
    f_format_plan := At.ad K (.glo "format_plan"),
    d_format_plan := d_format_plan,
    F_format_plan := F_format_plan,
    m_format_plan := He.glo_ok X G (c.fact 13 rfl),
    b_format_plan := F_format_plan.binds fun _ _ _ _ _ _ us hl => match us, hl with | [_], _ => rfl,
    f_is_lead := At.ad K (.glo "_is_lead"),
    d_is_lead := d_is_lead,
    F_is_lead := F_is_lead,
    m_is_lead := He.glo_ok X G (c.fact 14 rfl),
    b_is_lead := F_is_lead.binds fun _ _ _ _ _ _ us hl => match us, hl with | [_], _ => rfl,
    f_lead_of := At.ad K (.glo "_lead_of"),
    d_lead_of := d_lead_of,
    F_lead_of := F_lead_of,
    m_lead_of := He.glo_ok X G (c.fact 15 rfl),
    b_lead_of := F_lead_of.binds fun _ _ _ _ _ _ us hl => match us, hl with | [_], _ => rfl,
    f_names_of := At.ad K (.glo "_names_of"),
    d_names_of := d_names_of,
    F_names_of := F_names_of,
    m_names_of := He.glo_ok X G (c.fact 16 rfl),
    b_names_of := F_names_of.binds fun _ _ _ _ _ _ us hl => match us, hl with | [_, _], _ => rfl,
    f_parse_plan := At.ad K (.glo "parse_plan"),
    d_parse_plan := d_parse_plan,
    F_parse_plan := F_parse_plan,
    m_parse_plan := He.glo_ok X G (c.fact 17 rfl),
    b_parse_plan := F_parse_plan.binds fun _ _ _ _ _ _ us hl => match us, hl with | [_], _ => rfl,
    f_mlaw_mix := At.ad K (.glo "_law_mix"),
    d_mlaw_mix := d_mlaw_mix,
    F_mlaw_mix := F_mlaw_mix,
    m_mlaw_mix := He.glo_ok X G (c.fact 18 rfl),
    b_mlaw_mix := F_mlaw_mix.binds fun _ _ _ _ _ _ us hl => match us, hl with | [_, _], _ => rfl,
    f_mlaw_next := At.ad K (.glo "_law_next"),
    d_mlaw_next := d_mlaw_next,
    F_mlaw_next := F_mlaw_next,
    m_mlaw_next := He.glo_ok X G (c.fact 19 rfl),
    b_mlaw_next := F_mlaw_next.binds fun _ _ _ _ _ _ us hl => match us, hl with | [_, _], _ => rfl,
    f_mlaw_alike := At.ad K (.glo "_law_alike"),
    d_mlaw_alike := d_mlaw_alike,
    F_mlaw_alike := F_mlaw_alike,
    m_mlaw_alike := He.glo_ok X G (c.fact 20 rfl),
    b_mlaw_alike := F_mlaw_alike.binds fun _ _ _ _ _ _ us hl => match us, hl with | [_, _], _ => rfl,
    f_mlaw_text := At.ad K (.glo "_law_text"),
    d_mlaw_text := d_mlaw_text,
    F_mlaw_text := F_mlaw_text,
    m_mlaw_text := He.glo_ok X G (c.fact 21 rfl),
    b_mlaw_text := F_mlaw_text.binds fun _ _ _ _ _ _ us hl => match us, hl with | [_, _], _ => rfl,
    f_mlaw_some := At.ad K (.glo "_law_some"),
    d_mlaw_some := d_mlaw_some,
    F_mlaw_some := F_mlaw_some,
    m_mlaw_some := He.glo_ok X G (c.fact 22 rfl),
    b_mlaw_some := F_mlaw_some.binds fun _ _ _ _ _ _ us hl => match us, hl with | [_, _, _], _ => rfl,
    f_mlaw_day := At.ad K (.glo "_law_day"),
    d_mlaw_day := d_mlaw_day,
    F_mlaw_day := F_mlaw_day,
    m_mlaw_day := He.glo_ok X G (c.fact 23 rfl),
    b_mlaw_day := F_mlaw_day.binds fun _ _ _ _ _ _ us hl => match us, hl with | [_, _, _], _ => rfl,
    f_law := At.ad K (.glo "law"),
    d_law := d_law,
    F_law := F_law,
    m_law := He.glo_ok X G (c.fact 24 rfl),
    b_law := F_law.binds fun _ _ _ _ _ _ us hl => match us, hl with | [_], _ => rfl,
    kf_Plan := kitFB_ok (c.bool 25 rfl),
    E_Plan_eq := eqOB_ok (c.bool 26 rfl),
    B_Plan_rshiftX_int := binTB_ok (c.bool 27 rfl),
    C_Plan_callX := callOB_ok (c.bool 28 rfl),
    x0_InvalidNumber := xcls0_of (He.glo_ok X G (c.fact 29 rfl)) (c.fact 30 rfl),
    cls_Plan := He.cls_ok (c.fact 31 rfl),
    m_Plan := He.glo_ok X G (c.fact 32 rfl),
    ty_Plan := fb_ty (c.fact 33 rfl),
    mk_Plan := He.mkr_ok (c.fact 34 rfl),
    no_Plan__days := He.noat_ok (c.fact 35 rfl),
    no_Plan__lead := He.noat_ok (c.fact 36 rfl),
    g_all := He.free_ok X G (c.fact 37 rfl),
    g_bool := He.free_ok X G (c.fact 38 rfl),
    g_dict := He.free_ok X G (c.fact 39 rfl),
    g_enumerate := He.free_ok X G (c.fact 40 rfl),
    g_int := He.free_ok X G (c.fact 41 rfl),
    g_isinstance := He.free_ok X G (c.fact 42 rfl),
    g_len := He.free_ok X G (c.fact 43 rfl),
    g_list := He.free_ok X G (c.fact 44 rfl),
    g_max := He.free_ok X G (c.fact 45 rfl),
    g_min := He.free_ok X G (c.fact 46 rfl),
    g_range := He.free_ok X G (c.fact 47 rfl),
    g_set := He.free_ok X G (c.fact 48 rfl),
    g_str := He.free_ok X G (c.fact 49 rfl),
    g_tuple := He.free_ok X G (c.fact 50 rfl),
    k_DIGITS := fb_str X G (c.fact 51 rfl),
    k_LAST_DAY := fb_int X G (c.fact 52 rfl),
    k_LEAD_WORD := fb_str X G (c.fact 53 rfl),
    k_LETTERS := fb_str X G (c.fact 54 rfl),
    k_MAX_DAYS := fb_int X G (c.fact 55 rfl),
    k_MAX_LEAD_DIGITS := fb_int X G (c.fact 56 rfl),
    k_MAX_NAME := fb_int X G (c.fact 57 rfl),
    k_MAX_RANGE := fb_int X G (c.fact 58 rfl),
    k_NOTHING := fb_str X G (c.fact 59 rfl) }, rfl⟩
theorem law_facts {P : Program} {w : World} {K : PySem.W.Frag} {h : Heap} {mg : Str → Option Value} {f : Addr} (hf : P.main.file = fileN) (top : (P.main.scope.names.lookup ("super" : Str)).isSome = false) (X : K.In h) (G : h.Ns mainGlobals mg) (hfa : mg ("law" : Str) = some (.ref f)) (c : SaysZ fa fn fS fileN tf h K) :
    ∃ fd : FuncData, (∀ (s : Shared) (v : Value), BindsTo s fd ⟨[v], []⟩ [("_law_script", v)]) ∧ ∀ base : Heap, K.In base → base.Ns mainGlobals mg → FnOk P w K mg base CX0 7 f fd ["_law_script"] (spLawN K) := by
  obtain ⟨T, e⟩ := txt_of hf top X G c
  have e2 := T.m_law.symm.trans hfa
  cases e2
  refine ⟨T.d_law, ?_, fun base _ _ => ok_law T⟩
  obtain ⟨oc, od, kV, doc, pm, an, cdv, ct, osl, e, _⟩ := T.F_law.ex
  rw [e]
  exact fun s v => .of_eq rfl
end Z
open PySem PySem.W PySem.Calls PyProof.Rows
theorem PySem.Challenge.cw_harvestcarts_k55_whole_plans_shifted_and_holds : PySem.Challenge.rw_harvestcarts_k55_whole_plans_shifted_and.Holds := by
  w_on; o_law
  refine HandSHeadRun.head_any (r := OpenLaw.row PySem.Challenge.rw_harvestcarts_k55_whole_plans_shifted_and) (q := view (OpenLaw.row PySem.Challenge.rw_harvestcarts_k55_whole_plans_shifted_and).prog [37]) (H := Z.hk) (ob := Z.ob) (M := 6000) (loose := Z.nms) (d := HandSHeadRun.topDef (OpenLaw.row PySem.Challenge.rw_harvestcarts_k55_whole_plans_shifted_and).prog 37) (kwd := []) Z.ob_eq
    (by kernel_rfl) (fun s => by kernel_rfl) Z.run (by kernel_rfl) (by kernel_rfl) (by kernel_rfl) (by rfl) (by first | assumption | decide +kernel) (by decide +kernel) ⟨rfl, rfl, rfl, rfl, rfl, by decide +kernel⟩ ?hw ?hc
  case hw => w_witness2
  case hc =>
    refine L2.walk_ofE (l := PySem.Challenge.rw_harvestcarts_k55_whole_plans_shifted_and) (n := 63) (k := 7) (x := "_law_script") (CX := L2.CX0) rfl (by decide) (by kernel_rfl) ⟨rfl, by decide, by decide⟩ ?F (fun _ _ _ _ z => z)
    intro w mg fa h Y G hmg0
    obtain ⟨K, KX, c⟩ := Y
    have hmg : mg ("law" : PySem.Str) = some (.ref fa) := by
      have e : (HandSHeadRun.topDef (OpenLaw.row PySem.Challenge.rw_harvestcarts_k55_whole_plans_shifted_and).prog 37).name = ("law" : PySem.Str) := by kernel_rfl
      rw [← e]
      exact hmg0
    obtain ⟨fd, hb, hF⟩ := Z.law_facts (P := (PySem.Challenge.rw_harvestcarts_k55_whole_plans_shifted_and).prog) (w := w) rfl (by kernel_rfl) KX G hmg c
    exact ⟨K, fd, DL.spLawN K, KX, hb, fun H a ns hl _ hS => ⟨a, ns, rfl, hS, hl, fun _ => rfl⟩, hF⟩
end
