import PyProof.Rows.All
import Wide.All
import OpenK.AllK
import Wide.FinOn
import HandS.ForMost
import HandS.Flow
import HandS.NoneIn
import HandS.Style
import HandS.ForExc
import HandS.Gcd
import HandS.IsInst
import HandS.Wide
import HandS.Zip
import HandS.TryMany
import HandS.ExcCtx
import HandS.ExcInit
import HandS.ExcField
import HandS.CallSlots
import HandS.Defaults
import HandS.FStr
import HandS.StrMore
import HandS.TupLe
import HandS.TupAny
import HandS.SortInts
import PyProof.ReprReads
import PyProof.ReprRoads
import HandS.Exc
import HandS.ExcIs
import PyProof.RowDictHeap
import HandS.Text
import PySem.Challenge.RW_planless_k00_errors_and_their_fields
set_option Elab.async false
set_option linter.all false
set_option maxRecDepth 100000
set_option maxHeartbeats 8000000
/-! a functional reading of the program's text: values as trees, a mixer's state -/
namespace FL
open PySem PySem.Spec L2

/-! ### trees -/
inductive D where
  | non
  | bl (b : Bool)
  | int (i : Int)
  | str (s : Str)
  | lst (xs : List D)
  | tup (xs : List D)
  | dct (kvs : List (Key × D))
  | deck
  | exc (cls : Str) (fs : List (Str × D))
  deriving Inhabited

structure Deck where
  cells : List Int
  turn : Int
  left : Int

/-- an error of an own class: its name, its fields -/
structure Ex where
  cls : Str
  flds : List (Str × D)

inductive R (α : Type) where
  | ok (a : α) (s : Deck)
  | raise (e : Ex) (s : Deck)
  | bad
def R.bind {α β : Type} : R α → (α → Deck → R β) → R β
  | .ok a s, f => f a s
  | .raise e s, _ => .raise e s
  | .bad, _ => .bad
abbrev M (α : Type) := Deck → R α
abbrev DEnv := List (Option D)

/-- the class of the text that has the name -/
def CNm (K : PySem.W.Frag) (x : Str) (C : Addr) : Prop := PySem.W.nsIn K mainGlobals x = some (some (.ref C))
/-- an error that was caught: of the class at C, its dict at dd -/
def EvO (a C dd : Addr) : HO := .ext fun h => ∃ (oe : Obj) (vs : Array Value), h.get? a = some oe ∧ Zc (.ref C) (some dd) oe ∧ oe.data = .fields vs
mutual
inductive Rp (K : PySem.W.Frag) (dk : Addr) (F : Hp) : V → D → Prop
  | non : Rp K dk F .non .non
  | bl (b : Bool) : Rp K dk F (.bl b) (.bl b)
  | int (i : Int) : Rp K dk F (.int i) (.int i)
  | str (x : Str) : Rp K dk F (.str x) (.str x)
  | lst {a : Addr} {xs : List V} {ds : List D} : F a = some (.lst xs) → RpAll K dk F xs ds → Rp K dk F (.ref a) (.lst ds)
  | tup {a : Addr} {xs : List V} {ds : List D} : SqT K F a xs → RpAll K dk F xs ds → Rp K dk F (.ref a) (.tup ds)
  | dct {a : Addr} {kvs : List (Key × V)} {ds : List (Key × D)} : F a = some (.dK kvs) → kvs.map (·.1) = ds.map (·.1) → RpAll K dk F (kvs.map (·.2)) (ds.map (·.2)) → Rp K dk F (.ref a) (.dct ds)
  | deck : Rp K dk F (.ref dk) .deck
  | exc {a C dd : Addr} {cls : Str} {fs : List (Str × V)} {ds : List (Str × D)} : F a = some (EvO a C dd) → CNm K cls C → F dd = some (.xd fs) → fs.map (·.1) = ds.map (·.1) → RpAll K dk F (fs.map (·.2)) (ds.map (·.2)) → Rp K dk F (.ref a) (.exc cls ds)
inductive RpAll (K : PySem.W.Frag) (dk : Addr) (F : Hp) : List V → List D → Prop
  | nil : RpAll K dk F [] []
  | cons {v : V} {vs : List V} {d : D} {ds : List D} : Rp K dk F v d → RpAll K dk F vs ds → RpAll K dk F (v :: vs) (d :: ds)
end

section
variable {K : PySem.W.Frag} {dk : Addr} {F F' : Hp}
theorem seqT {a : Addr} {xs : List V} (e : Same F F') (h : SqT K F a xs) : SqT K F' a xs := by
  rcases h with (h | ⟨o, h⟩) | h
  · exact .inl (.inl (e _ _ h))
  · exact .inl (.inr ⟨o, e _ _ h⟩)
  · exact .inr h
mutual
theorem Rp.mono (e : Same F F') : ∀ {v : V} {d : D}, Rp K dk F v d → Rp K dk F' v d
  | _, _, .non => .non
  | _, _, .bl b => .bl b
  | _, _, .int i => .int i
  | _, _, .str x => .str x
  | _, _, .lst h1 h2 => .lst (e _ _ h1) (RpAll.mono e h2)
  | _, _, .tup h1 h2 => .tup (seqT e h1) (RpAll.mono e h2)
  | _, _, .dct h1 hk h2 => .dct (e _ _ h1) hk (RpAll.mono e h2)
  | _, _, .deck => .deck
  | _, _, .exc h1 hc h2 hk h3 => .exc (e _ _ h1) hc (e _ _ h2) hk (RpAll.mono e h3)
theorem RpAll.mono (e : Same F F') : ∀ {vs : List V} {ds : List D}, RpAll K dk F vs ds → RpAll K dk F' vs ds
  | _, _, .nil => .nil
  | _, _, .cons h1 h2 => .cons (Rp.mono e h1) (RpAll.mono e h2)
end
theorem RpAll.length : ∀ {vs : List V} {ds : List D}, RpAll K dk F vs ds → vs.length = ds.length
  | _, _, .nil => rfl
  | _, _, .cons _ h2 => congrArg (· + 1) (RpAll.length h2)
theorem RpAll.get : ∀ {vs : List V} {ds : List D} {i : Nat} {d : D}, RpAll K dk F vs ds → ds[i]? = some d → ∃ v, vs[i]? = some v ∧ Rp K dk F v d
  | _, _, _, _, .nil, e => by simp at e
  | _, _, 0, _, .cons r _, e => by simp at e; subst e; exact ⟨_, rfl, r⟩
  | _, _, i + 1, d, .cons _ t, e => by
    obtain ⟨u, h1, h2⟩ := RpAll.get (i := i) (d := d) t (by simpa using e)
    exact ⟨u, by simpa using h1, h2⟩
theorem RpAll.getV : ∀ {vs : List V} {ds : List D} {i : Nat} {v : V}, RpAll K dk F vs ds → vs[i]? = some v → ∃ d, ds[i]? = some d ∧ Rp K dk F v d
  | _, _, _, _, .nil, e => by simp at e
  | _, _, 0, _, .cons r _, e => by simp at e; subst e; exact ⟨_, rfl, r⟩
  | _, _, i + 1, d, .cons _ t, e => by
    obtain ⟨u, h1, h2⟩ := RpAll.getV (i := i) (v := d) t (by simpa using e)
    exact ⟨u, by simpa using h1, h2⟩
theorem RpAll.append : ∀ {vs us : List V} {ds es : List D}, RpAll K dk F vs ds → RpAll K dk F us es → RpAll K dk F (vs ++ us) (ds ++ es)
  | _, _, _, _, .nil, h => h
  | _, _, _, _, .cons r t, h => .cons r (RpAll.append t h)
theorem RpAll.drop : ∀ {vs : List V} {ds : List D} (n : Nat), RpAll K dk F vs ds → RpAll K dk F (vs.drop n) (ds.drop n)
  | _, _, 0, h => h
  | _, _, _ + 1, .nil => .nil
  | _, _, n + 1, .cons _ t => RpAll.drop n t
theorem RpAll.take : ∀ {vs : List V} {ds : List D} (n : Nat), RpAll K dk F vs ds → RpAll K dk F (vs.take n) (ds.take n)
  | _, _, 0, _ => .nil
  | _, _, _ + 1, .nil => .nil
  | _, _, n + 1, .cons r t => .cons r (RpAll.take n t)
end

/-! ### the state -/
structure Stt (K : PySem.W.Frag) (dk : Addr) (F H : Hp) (s : Deck) : Prop where
  sub : Same F H
  fdk : F dk = none
  deck : ∃ cl, H dk = some (.lst [.ref cl, .int s.turn, .int s.left]) ∧ F cl = some (.lst (s.cells.map V.int))
def Fr (dk : Addr) (H H' : Hp) : Prop := ∀ b o, b ≠ dk → H b = some o → H' b = some o
theorem Fr.refl (dk : Addr) (H : Hp) : Fr dk H H := fun _ _ _ h => h
theorem Fr.trans {dk : Addr} {H H1 H2 : Hp} (a : Fr dk H H1) (b : Fr dk H1 H2) : Fr dk H H2 := fun c o h q => b c o h (a c o h q)
structure Nxt (K : PySem.W.Frag) (dk : Addr) (F H F' H' : Hp) (s' : Deck) : Prop where
  sm : Same F F'
  st : Stt K dk F' H' s'
  fr : Fr dk H H'
  pv : ∀ b, F b = none → H b ≠ none → F' b = none
theorem Nxt.refl {K : PySem.W.Frag} {dk : Addr} {F H : Hp} {s : Deck} (h : Stt K dk F H s) : Nxt K dk F H F H s := ⟨Same.refl _, h, Fr.refl _ _, fun _ e _ => e⟩
theorem Fr.there {dk : Addr} {H H' : Hp} (h : Fr dk H H') {b : Addr} (hb : b ≠ dk) (e : H b ≠ none) : H' b ≠ none := by
  cases q : H b with
  | none => exact absurd q e
  | some o => rw [h b o hb q]; exact fun z => by cases z
theorem Nxt.trans {K : PySem.W.Frag} {dk : Addr} {F H F1 H1 F2 H2 : Hp} {s1 s2 : Deck} (a : Nxt K dk F H F1 H1 s1) (b : Nxt K dk F1 H1 F2 H2 s2) : Nxt K dk F H F2 H2 s2 := by
  refine ⟨a.sm.trans b.sm, b.st, a.fr.trans b.fr, fun c e h => ?_⟩
  by_cases hc : c = dk
  · rw [hc]; exact b.st.fdk
  · exact b.pv c (a.pv c e h) (a.fr.there hc h)

structure EnvR (K : PySem.W.Frag) (dk : Addr) (F : Hp) (σ : St) (δ : DEnv) : Prop where
  len : σ.length = δ.length
  get : ∀ (i : Nat) (d : D), δ[i]? = some (some d) → ∃ v, σ[i]? = some (some v) ∧ Rp K dk F v d
theorem EnvR.mono {K : PySem.W.Frag} {dk : Addr} {F F' : Hp} {σ : St} {δ : DEnv} (e : Same F F') (h : EnvR K dk F σ δ) : EnvR K dk F' σ δ := ⟨h.len, fun i d q => let ⟨v, h1, h2⟩ := h.get i d q; ⟨v, h1, h2.mono e⟩⟩
theorem EnvR.set {K : PySem.W.Frag} {dk : Addr} {F : Hp} {σ : St} {δ : DEnv} {i : Nat} {v : V} {d : D} (h : EnvR K dk F σ δ) (r : Rp K dk F v d) : EnvR K dk F (σ.set i (some v)) (δ.set i (some d)) := by
  refine ⟨by simp [h.len], fun j e q => ?_⟩
  by_cases hj : i = j
  · subst hj
    by_cases hl : i < δ.length
    · rw [List.getElem?_set_self hl] at q
      cases q
      exact ⟨v, List.getElem?_set_self (by rw [h.len]; exact hl), r⟩
    · rw [List.getElem?_eq_none (by simpa using hl)] at q
      cases q
  · rw [List.getElem?_set_ne hj] at q
    obtain ⟨u, h1, h2⟩ := h.get j e q
    exact ⟨u, by rw [List.getElem?_set_ne hj]; exact h1, h2⟩
theorem EnvR.unset {K : PySem.W.Frag} {dk : Addr} {F : Hp} {σ : St} {δ : DEnv} {i : Nat} {o : Option V} (h : EnvR K dk F σ δ) : EnvR K dk F (σ.set i o) (δ.set i none) := by
  refine ⟨by simp [h.len], fun j e q => ?_⟩
  by_cases hj : i = j
  · subst hj
    by_cases hl : i < δ.length
    · rw [List.getElem?_set_self hl] at q
      cases q
    · rw [List.getElem?_eq_none (by simpa using hl)] at q
      cases q
  · rw [List.getElem?_set_ne hj] at q
    obtain ⟨u, h1, h2⟩ := h.get j e q
    exact ⟨u, by rw [List.getElem?_set_ne hj]; exact h1, h2⟩

/-- an error of the class named, its own dict at dd -/
def ExAt (K : PySem.W.Frag) (dk : Addr) (F : Hp) (dd : Addr) (e : Ex) : Prop :=
  ∃ fs : List (Str × V), F dd = some (.xd fs) ∧ fs.map (·.1) = e.flds.map (·.1) ∧ RpAll K dk F (fs.map (·.2)) (e.flds.map (·.2))
theorem ExAt.mono {K : PySem.W.Frag} {dk dd : Addr} {F F' : Hp} {e : Ex} (sm : Same F F') (h : ExAt K dk F dd e) : ExAt K dk F' dd e :=
  let ⟨fs, h1, h2, h3⟩ := h
  ⟨fs, sm _ _ h1, h2, h3.mono sm⟩
theorem look_rp {K : PySem.W.Frag} {dk : Addr} {F : Hp} : ∀ {fs : List (Str × V)} {ds : List (Str × D)} {f : Str} {d : D}, fs.map (·.1) = ds.map (·.1) → RpAll K dk F (fs.map (·.2)) (ds.map (·.2)) → ds.lookup f = some d → ∃ v, fs.lookup f = some v ∧ Rp K dk F v d
  | [], [], _, _, _, _, h => by simp at h
  | [], _ :: _, _, _, h, _, _ => by simp at h
  | _ :: _, [], _, _, h, _, _ => by simp at h
  | (x, v) :: fs, (y, d') :: ds, f, d, hk, hr, h => by
    simp only [List.map_cons, List.cons.injEq] at hk
    obtain ⟨rfl, hk⟩ := hk
    cases hr with
    | cons r rs =>
      rw [List.lookup_cons] at h ⊢
      by_cases e : (f == x) = true
      · rw [e] at h ⊢
        cases h
        exact ⟨_, rfl, r⟩
      · rw [Bool.eq_false_iff.mpr e] at h ⊢
        exact look_rp hk rs h

/-- what is wanted behind: of a value in relation RR to the tree, of an error -/
def EPost {α β : Type} (K : PySem.W.Frag) (mg : Str → Option Value) (dk : Addr) (RR : Hp → β → α → Prop) (W : XK) (F H : Hp) (Q : β → Hp → Prop) : R α → Prop
  | .ok a s' => ∀ v F' H', Nxt K dk F H F' H' s' → RR F' v a → Q v H'
  | .raise e s' => ∀ C dd F' H', Nxt K dk F H F' H' s' → CNm K e.cls C → ExAt K dk F' dd e → W (.ref C) (some dd) H'
  | .bad => False
theorem EPost.later {α β : Type} {K : PySem.W.Frag} {mg : Str → Option Value} {dk : Addr} {RR : Hp → β → α → Prop} {W : XK} {F H F1 H1 : Hp} {s1 : Deck} {Q : β → Hp → Prop} {r : R α} (n : Nxt K dk F H F1 H1 s1) (h : EPost K mg dk RR W F H Q r) : EPost K mg dk RR W F1 H1 Q r := by
  cases r with
  | ok a s' => exact fun v F' H' n' rr => h v F' H' (n.trans n') rr
  | raise e s' => exact fun C dd F' H' n' hm hx => h C dd F' H' (n.trans n') hm hx
  | bad => exact h
theorem EPost.bind {α β γ δ : Type} {K : PySem.W.Frag} {mg : Str → Option Value} {dk : Addr} {RR : Hp → β → α → Prop} {RS : Hp → δ → γ → Prop} {W : XK} {F H : Hp} {Q : δ → Hp → Prop} {r : R α} {g : α → Deck → R γ} {P : β → Hp → Prop}
    (h : EPost K mg dk RS W F H Q (r.bind g))
    (k : ∀ a s1 v F1 H1, Nxt K dk F H F1 H1 s1 → RR F1 v a → EPost K mg dk RS W F1 H1 Q (g a s1) → P v H1) : EPost K mg dk RR W F H P r := by
  cases r with
  | ok a s' => exact fun v F' H' n rr => k a s' v F' H' n rr (EPost.later n h)
  | raise e s' => exact h
  | bad => exact h
theorem EPost.ok {α β : Type} {K : PySem.W.Frag} {mg : Str → Option Value} {dk : Addr} {RR : Hp → β → α → Prop} {W : XK} {F H : Hp} {s : Deck} {Q : β → Hp → Prop} {a : α} {v : β} (h : EPost K mg dk RR W F H Q (.ok a s)) (st : Stt K dk F H s) (r : RR F v a) : Q v H :=
  h v F H (Nxt.refl st) r

/-! ### judgements -/
abbrev RelD (K : PySem.W.Frag) (dk : Addr) : Hp → V → D → Prop := fun F v d => Rp K dk F v d
abbrev RelL (K : PySem.W.Frag) (dk : Addr) : Hp → List V → List D → Prop := fun F v d => RpAll K dk F v d
abbrev RelB : Hp → Bool → Bool → Prop := fun _ a b => a = b
abbrev FE := DEnv → M D
abbrev FA := DEnv → M (List D)
abbrev FT := DEnv → M Bool
def tEV (K : PySem.W.Frag) (mg : Str → Option Value) (W : WX) (f : FE) : TE := fun σ H Q => ∃ dk δ s F, EnvR K dk F σ δ ∧ Stt K dk F H s ∧ EPost K mg dk (RelD K dk) (WE W σ) F H Q (f δ s)
def tAV (K : PySem.W.Frag) (mg : Str → Option Value) (W : WX) (f : FA) : TA := fun σ H Q => ∃ dk δ s F, EnvR K dk F σ δ ∧ Stt K dk F H s ∧ EPost K mg dk (RelL K dk) (WE W σ) F H Q (f δ s)
def tTV (K : PySem.W.Frag) (mg : Str → Option Value) (W : WX) (f : FT) : TT := fun σ H Q => ∃ dk δ s F, EnvR K dk F σ δ ∧ Stt K dk F H s ∧ EPost K mg dk RelB (WE W σ) F H Q (f δ s)
def EV (X : Cx) (W : WX) (e : Expr) (f : FE) : Prop := PE X e (tEV X.K X.mg W f)
def AV (X : Cx) (W : WX) (es : List Expr) (f : FA) : Prop := PA X es (tAV X.K X.mg W f)
def TV (X : Cx) (W : WX) (e : Expr) (f : FT) : Prop := PT X e (tTV X.K X.mg W f)
theorem pe_weak {X : Cx} {e : Expr} {t t' : TE} (h : PE X e t) (k : ∀ σ H Q, t' σ H Q → t σ H Q) : PE X e t' := ⟨fun pins s σ H Q I q => h.run pins s σ H Q I (k σ H Q q)⟩
theorem pt_weak {X : Cx} {e : Expr} {t t' : TT} (h : PT X e t) (k : ∀ σ H Q, t' σ H Q → t σ H Q) : PT X e t' := ⟨fun pins s σ H Q I q => h.run pins s σ H Q I (k σ H Q q)⟩
theorem pw_weak {X : Cx} {e : Expr} {t t' : TT} (h : PW X e t) (k : ∀ σ H Q, t' σ H Q → t σ H Q) : PW X e t' := ⟨fun wh pins s σ H Q I q => h.run wh pins s σ H Q I (k σ H Q q)⟩
theorem pa_weak {X : Cx} {e : List Expr} {t t' : TA} (h : PA X e t) (k : ∀ σ H Q, t' σ H Q → t σ H Q) : PA X e t' := ⟨fun pos pins s σ H Q I q => h.run pos pins s σ H Q I (k σ H Q q)⟩
theorem ps_weak {X : Cx} {e : Stmt} {t t' : TS} (h : PS X e t) (k : ∀ Dn σ H, t' Dn σ H → t Dn σ H) : PS X e t' := ⟨fun pins s σ H Dn I q => h.run pins s σ H Dn I (k Dn σ H q)⟩
theorem pss_weak {X : Cx} {e : List Stmt} {t t' : TS} (h : PSs X e t) (k : ∀ Dn σ H, t' Dn σ H → t Dn σ H) : PSs X e t' := ⟨fun pins s σ H Dn I q => h.run pins s σ H Dn I (k Dn σ H q)⟩

section
variable {X : Cx} {W : WX} {a b : Expr} {f g : FE} {pos : Pos}
def getE (i : Nat) : FE := fun δ s => match δ[i]? with
  | some (some d) => .ok d s
  | _ => .bad
def cst (d : D) : FE := fun _ s => .ok d s
theorem ev_var {e : Expr} {i : Nat} (h : PE X e (tVar i)) : EV X W e (getE i) := by
  refine pe_weak h fun σ H Q q => ?_
  obtain ⟨dk, δ, s, F, er, st, q⟩ := q
  unfold getE at q
  split at q
  · rename_i d hd
    obtain ⟨v, h1, h2⟩ := er.get i d hd
    exact ⟨v, h1, q.ok st h2⟩
  · exact q.elim
theorem ev_int {i : Int} {j} : EV X W (.Constant (.int i) j pos) (cst (.int i)) := pe_weak pe_int fun σ H Q ⟨dk, δ, s, F, er, st, q⟩ => EPost.ok q st (.int i)
theorem ev_bl {i : Bool} {j} : EV X W (.Constant (.bool i) j pos) (cst (.bl i)) := pe_weak pe_bl fun σ H Q ⟨dk, δ, s, F, er, st, q⟩ => EPost.ok q st (.bl i)
theorem ev_non {j} : EV X W (.Constant .none j pos) (cst .non) := pe_weak pe_non fun σ H Q ⟨dk, δ, s, F, er, st, q⟩ => EPost.ok q st .non
theorem ev_str {i : Str} {j} : EV X W (.Constant (.str i) j pos) (cst (.str i)) := pe_weak pe_str fun σ H Q ⟨dk, δ, s, F, er, st, q⟩ => EPost.ok q st (.str i)

/-! ### operators -/
/-- an operator by values -/
def OpM (X : Cx) (r : R2) (m : D → D → M D) : Prop := ∀ (dk : Addr) (W : XK) (F H : Hp) (s : Deck) (x y : V) (dx dy : D) (Q : VK), Stt X.K dk F H s → Rp X.K dk F x dx → Rp X.K dk F y dy →
  EPost X.K X.mg dk (RelD X.K dk) W F H Q (m dx dy s) → r x y H Q
def lift2 (m : D → D → M D) (f g : FE) : FE := fun δ s => (f δ s).bind fun x s => (g δ s).bind fun y s => m x y s
/-- two in a row -/
theorem two {ta tb : TE} {m : D → D → M D} {σ : St} {H : Hp} {Q : VK} {r : R2} (ha : ∀ σ H Q, tEV X.K X.mg W f σ H Q → ta σ H Q) (hb : ∀ σ H Q, tEV X.K X.mg W g σ H Q → tb σ H Q) (hr : OpM X r m) (q : tEV X.K X.mg W (lift2 m f g) σ H Q) :
    tOp r ta tb σ H Q := by
  obtain ⟨dk, δ, s, F, er, st, q⟩ := q
  refine ha _ _ _ ⟨dk, δ, s, F, er, st, EPost.bind q fun x s1 v F1 H1 n rx q1 => ?_⟩
  refine hb _ _ _ ⟨dk, δ, s1, F1, er.mono n.sm, n.st, EPost.bind q1 fun y s2 u F2 H2 n2 ry q2 => ?_⟩
  exact hr dk _ F2 H2 s2 v u x y Q n2.st (rx.mono n2.sm) ry q2
theorem ev_op {op : Operator} {r : R2} {m : D → D → M D} (ho : OpR X (binaryOp op) r) (hr : OpM X r m) (ha : EV X W a f) (hb : EV X W b g) : EV X W (.BinOp a op b pos) (lift2 m f g) :=
  pe_weak (pe_op ho ha hb) fun σ H Q q => two (fun _ _ _ z => z) (fun _ _ _ z => z) hr q
theorem ev_cmp {op : CmpOp} {r : R2} {m : D → D → M D} (ho : OpR X (compareOp op) r) (hr : OpM X r m) (ha : EV X W a f) (hb : EV X W b g) (hm : behindInMarks op b = false := by first | exact nomark _ | rfl) : EV X W (.Compare a [op] [b] pos) (lift2 m f g) :=
  pe_weak (pe_cmpR ho ha hb hm) fun σ H Q q => two (fun _ _ _ z => z) (fun _ _ _ z => z) hr q
end
end FL

namespace FL
open PySem PySem.Spec L2

section
variable {X : Cx} {W : WX} {a b c : Expr} {es : List Expr} {f g h : FE} {fs : FA} {pos p : Pos}
/-! ### arguments, displays -/
def av0 : FA := fun _ s => .ok [] s
def avC (f : FE) (g : FA) : FA := fun δ s => (f δ s).bind fun x s => (g δ s).bind fun xs s => .ok (x :: xs) s
theorem av_nil : AV X W [] av0 := pa_weak pa_nil fun σ H Q ⟨dk, δ, s, F, er, st, q⟩ => EPost.ok q st .nil
theorem av_cons (ha : EV X W a f) (hb : AV X W es fs) (hs : starEach (a :: es) X.env = (false, eval a X.env) :: starEach es X.env := by rfl) : AV X W (a :: es) (avC f fs) := by
  refine pa_weak (pa_cons ha hb hs) fun σ H Q ⟨dk, δ, s, F, er, st, q⟩ => ?_
  refine ⟨dk, δ, s, F, er, st, EPost.bind q fun x s1 v F1 H1 n rx q1 => ?_⟩
  refine ⟨dk, δ, s1, F1, er.mono n.sm, n.st, EPost.bind q1 fun xs s2 us F2 H2 n2 rxs q2 => ?_⟩
  exact q2.ok n2.st (.cons (rx.mono n2.sm) rxs)
/-- a new object is laid -/
theorem Nxt.new {K : PySem.W.Frag} {dk : Addr} {F H : Hp} {s : Deck} {q : Addr} {o : HO} (st : Stt K dk F H s) (hq : H q = none) : Nxt K dk F H (upd F q o) (upd H q o) s := by
  have fq : F q = none := st.sub.free hq
  obtain ⟨cl, h1, h2⟩ := st.deck
  have hdq : dk ≠ q := ne_of_none h1 hq
  have sm : Same F (upd F q o) := fun b u e => by rw [upd_ne (ne_of_none e fq)]; exact e
  refine ⟨sm, ⟨fun b u e => ?_, ?_, cl, ?_, sm _ _ h2⟩, fun b u _ e => by rw [upd_ne (ne_of_none e hq)]; exact e, fun b e h => by rw [upd_ne (fun z => h (by rw [z]; exact hq))]; exact e⟩
  · by_cases hb : b = q
    · subst hb; rw [upd_same] at e ⊢; exact e
    · rw [upd_ne hb] at e ⊢; exact st.sub b u e
  · rw [upd_ne hdq]; exact st.fdk
  · rw [upd_ne hdq]; exact h1
def small (xs : List D) : Bool := decide (xs.length ≤ 16777216)
theorem small_le {xs : List D} (h : small xs = true) : xs.length ≤ sizeLine := by
  rw [sizeLine_eq]
  exact of_decide_eq_true h
def mkLst (xs : List D) : M D := fun s => if small xs = true then .ok (.lst xs) s else .bad
def mkTup (xs : List D) : M D := fun s => if small xs = true then .ok (.tup xs) s else .bad
theorem epost_lst {K : PySem.W.Frag} {mg : Str → Option Value} {dk : Addr} {Wx : XK} {F H : Hp} {s : Deck} {vs : List V} {xs : List D} {Q : VK} (st : Stt K dk F H s) (r : RpAll K dk F vs xs) (q : EPost K mg dk (RelD K dk) Wx F H Q (mkLst xs s)) :
    vs.length ≤ sizeLine ∧ ∀ p, H p = none → Q (.ref p) (upd H p (.lst vs)) := by
  unfold mkLst at q
  split at q
  · rename_i hz
    refine ⟨by rw [r.length]; exact small_le hz, fun p hp => ?_⟩
    have n := Nxt.new (o := .lst vs) st hp
    exact q _ _ _ n (.lst upd_same (r.mono n.sm))
  · exact q.elim
theorem epost_tup {K : PySem.W.Frag} {mg : Str → Option Value} {dk : Addr} {Wx : XK} {F H : Hp} {s : Deck} {vs : List V} {xs : List D} {Q : VK} (st : Stt K dk F H s) (r : RpAll K dk F vs xs) (q : EPost K mg dk (RelD K dk) Wx F H Q (mkTup xs s)) :
    vs.length ≤ sizeLine ∧ ∀ p, H p = none → Q (.ref p) (upd H p (.tup vs)) := by
  unfold mkTup at q
  split at q
  · rename_i hz
    refine ⟨by rw [r.length]; exact small_le hz, fun p hp => ?_⟩
    have n := Nxt.new (o := .tup vs) st hp
    exact q _ _ _ n (.tup (SqT.of upd_same) (r.mono n.sm))
  · exact q.elim
def withA (fs : FA) (m : List D → M D) : FE := fun δ s => (fs δ s).bind m
theorem ev_lst {k} (ha : AV X W es fs) : EV X W (.List es k) (withA fs mkLst) := by
  refine pe_weak (pe_lst ha) fun σ H Q ⟨dk, δ, s, F, er, st, q⟩ => ?_
  exact ⟨dk, δ, s, F, er, st, EPost.bind q fun xs s1 vs F1 H1 n r q1 => epost_lst n.st r q1⟩
theorem ev_tup {x1} (ha : AV X W es fs) : EV X W (.Tuple es x1 pos) (withA fs mkTup) := by
  refine pe_weak (pe_tup ha) fun σ H Q ⟨dk, δ, s, F, er, st, q⟩ => ?_
  exact ⟨dk, δ, s, F, er, st, EPost.bind q fun xs s1 vs F1 H1 n r q1 => epost_tup n.st r q1⟩

/-! ### calls -/
def CallM (X : Cx) (r : List V → Hp → VK → Prop) (m : List D → M D) : Prop := ∀ (dk : Addr) (Wx : XK) (F H : Hp) (s : Deck) (vs : List V) (ds : List D) (Q : VK), Stt X.K dk F H s → RpAll X.K dk F vs ds →
  EPost X.K X.mg dk (RelD X.K dk) Wx F H Q (m ds s) → r vs H Q
theorem tcb {r : List V → Hp → VK → Prop} {m : List D → M D} (hm : CallM X r m) : ∀ σ H Q, tEV X.K X.mg W (withA fs m) σ H Q → tCB r (tAV X.K X.mg W fs) σ H Q := fun σ H Q ⟨dk, δ, s, F, er, st, q⟩ =>
  ⟨dk, δ, s, F, er, st, EPost.bind q fun xs s1 vs F1 H1 n r q1 => hm dk _ F1 H1 s1 vs xs Q n.st r q1⟩
theorem ev_callB {id : String} {x : Str} {r : List V → Hp → VK → Prop} {m : List D → M D} (hc : CallR X (.builtin id) r) (hm : CallM X r m) (hg : Gl X x) (hmg : X.mg x = none) (hv : bootBuiltins x = some (.builtin id)) (ha : AV X W (a :: es) fs)
    (hn : x ≠ "__name__" := by decide) (hdb : (x == ("__debug__" : Str)) = false := by decide) (he : starEach (a :: es) X.env = (false, eval a X.env) :: starEach es X.env := by rfl) (hpl : (backTo pos (starEach es X.env)).any (·.1) = false := by rfl) :
    EV X W (.Call (.Name x p) (a :: es) [] pos) (withA fs m) := pe_weak (pe_callB hc hg hmg hv ha hn hdb he hpl) (tcb hm)
theorem ev_callTy {T : String} {x : Str} {r : List V → Hp → VK → Prop} {m : List D → M D} (hc : CallR X (.type T) r) (hm : CallM X r m) (hg : Gl X x) (hmg : X.mg x = none) (hv : bootBuiltins x = some (.type T)) (ha : AV X W (a :: es) fs)
    (hn : x ≠ "__name__" := by decide) (hdb : (x == ("__debug__" : Str)) = false := by decide) (he : starEach (a :: es) X.env = (false, eval a X.env) :: starEach es X.env := by rfl) (hpl : (backTo pos (starEach es X.env)).any (·.1) = false := by rfl) :
    EV X W (.Call (.Name x p) (a :: es) [] pos) (withA fs m) := pe_weak (pe_callTy hc hg hmg hv ha hn hdb he hpl) (tcb hm)
/-- what a def of the text is worth -/
def spD (K : PySem.W.Frag) (mg : Str → Option Value) (n : Nat) (m : List D → M D) : Sp := fun vs H Q E => ∃ dk ds s F, Stt K dk F H s ∧ RpAll K dk F vs ds ∧ ds.length = n ∧ EPost K mg dk (RelD K dk) E F H Q (m ds s)
def callN (n : Nat) (m : List D → M D) : List D → M D := fun ds s => if ds.length = n then m ds s else .bad
theorem ev_call {x : Str} {k n : Nat} {fn : Addr} {fd : FuncData} {ps : List Str} {m : List D → M D} (G : FnOk X.prog X.w X.K X.mg X.base (L2.CX X.prog X.w) k fn fd ps (spD X.K X.mg n m)) (hr : Room k X.A) (hg : Gl X x) (hm : X.mg x = some (.ref fn)) (hk : PySem.W.keepIn X.K (.ref fn) = true) (hb : Binds X.K fd ps [])
    (tk : Takes X W) (ha : AV X W (a :: es) fs) (hdb : (x == ("__debug__" : Str)) = false := by decide) (he : starEach (a :: es) X.env = (false, eval a X.env) :: starEach es X.env := by rfl) (hpl : (backTo pos (starEach es X.env)).any (·.1) = false := by rfl) :
    EV X W (.Call (.Name x p) (a :: es) [] pos) (withA fs (callN n m)) := by
  refine pe_weak (pe_callS (E := WE W) G hr hg hm hk hb (fun σ => passAt tk σ) ha hdb he hpl) fun σ H Q ⟨dk, δ, s, F, er, st, q⟩ => ?_
  refine ⟨dk, δ, s, F, er, st, EPost.bind q fun xs s1 vs F1 H1 n r q1 => ?_⟩
  unfold callN at q1
  split at q1
  · rename_i hl
    exact ⟨dk, xs, s1, F1, n.st, r, hl, q1⟩
  · exact q1.elim

/-! ### and, or, not, if .. else -/
def truD : D → Option Bool
  | .non => some false
  | .bl b => some b
  | .int i => some (i != 0)
  | .str y => if y.length ≤ 16777216 then some ((y.length : Int) != 0) else none
  | .lst xs => some (!xs.isEmpty)
  | .tup xs => some (!xs.isEmpty)
  | _ => none
theorem isEmpty_eq {K : PySem.W.Frag} {dk : Addr} {F : Hp} : ∀ {vs : List V} {ds : List D}, RpAll K dk F vs ds → vs.isEmpty = ds.isEmpty
  | _, _, .nil => rfl
  | _, _, .cons _ _ => rfl
theorem truV_of {K : PySem.W.Frag} {dk : Addr} {F H : Hp} {v : V} {d : D} {k : Bool} (sm : Same F H) (r : Rp K dk F v d) (h : truD d = some k) : TruV K v H k := by
  cases r with
  | non => unfold truD at h; cases h; exact rfl
  | bl b => unfold truD at h; cases h; exact rfl
  | int i => unfold truD at h; cases h; exact rfl
  | str x =>
    have h' : (if x.length ≤ 16777216 then some ((x.length : Int) != 0) else none) = some k := h
    by_cases hz : x.length ≤ 16777216
    · rw [if_pos hz] at h'; cases h'; exact ⟨by rw [sizeLine_eq]; exact hz, rfl⟩
    · rw [if_neg hz] at h'; cases h'
  | lst hs ha => unfold truD at h; cases h; exact .inl ⟨_, SqL.of (sm _ _ hs), by rw [isEmpty_eq ha]⟩
  | tup hs ha => unfold truD at h; cases h; exact .inr (.inl ⟨_, seqT sm hs, by rw [isEmpty_eq ha]⟩)
  | dct _ _ _ => unfold truD at h; cases h
  | deck => unfold truD at h; cases h
  | exc _ _ _ _ _ => unfold truD at h; cases h
def tru (d : D) : M Bool := fun s => match truD d with
  | some b => .ok b s
  | none => .bad
def fTru (f : FE) : FT := fun δ s => (f δ s).bind tru
theorem epost_tru {K : PySem.W.Frag} {mg : Str → Option Value} {dk : Addr} {α β : Type} {RR : Hp → β → α → Prop} {Wx : XK} {F H : Hp} {s : Deck} {v : V} {d : D} {g : Bool → Deck → R α} {Q : β → Hp → Prop} (st : Stt K dk F H s) (r : Rp K dk F v d)
    (q : EPost K mg dk RR Wx F H Q ((tru d s).bind g)) : ∃ k, TruV K v H k ∧ EPost K mg dk RR Wx F H Q (g k s) := by
  unfold tru at q
  split at q
  · rename_i k hk
    exact ⟨k, truV_of st.sub r hk, q⟩
  · exact q.elim
def orD (f g : FE) : FE := fun δ s => (f δ s).bind fun x s => (tru x s).bind fun k s => if k = true then .ok x s else g δ s
def andD (f g : FE) : FE := fun δ s => (f δ s).bind fun x s => (tru x s).bind fun k s => if k = true then g δ s else .ok x s
def notD (f : FE) : FE := fun δ s => (f δ s).bind fun x s => (tru x s).bind fun k s => .ok (.bl (!k)) s
theorem ev_or {rest : List Expr} (ha : EV X W a f) (hb : EV X W (.BoolOp .Or (b :: rest) pos) g) : EV X W (.BoolOp .Or (a :: b :: rest) pos) (orD f g) := by
  refine pe_weak (pe_orT ha hb) fun σ H Q ⟨dk, δ, s, F, er, st, q⟩ => ?_
  refine ⟨dk, δ, s, F, er, st, EPost.bind q fun x s1 v F1 H1 n rx q1 => ?_⟩
  obtain ⟨k, ht, q2⟩ := epost_tru n.st rx q1
  refine ⟨k, ht, ?_⟩
  cases k with
  | true => exact EPost.ok q2 n.st rx
  | false => exact ⟨dk, δ, s1, F1, er.mono n.sm, n.st, q2⟩
theorem ev_and {rest : List Expr} (ha : EV X W a f) (hb : EV X W (.BoolOp .And (b :: rest) pos) g) : EV X W (.BoolOp .And (a :: b :: rest) pos) (andD f g) := by
  refine pe_weak (pe_andT ha hb) fun σ H Q ⟨dk, δ, s, F, er, st, q⟩ => ?_
  refine ⟨dk, δ, s, F, er, st, EPost.bind q fun x s1 v F1 H1 n rx q1 => ?_⟩
  obtain ⟨k, ht, q2⟩ := epost_tru n.st rx q1
  refine ⟨k, ht, ?_⟩
  cases k with
  | false => exact EPost.ok q2 n.st rx
  | true => exact ⟨dk, δ, s1, F1, er.mono n.sm, n.st, q2⟩
theorem ev_one {op} (ha : EV X W a f) : EV X W (.BoolOp op [a] pos) f := pe_one ha
theorem ev_not (ha : EV X W a f) : EV X W (.UnaryOp .Not a pos) (notD f) := by
  refine pe_weak (pe_notT ha) fun σ H Q ⟨dk, δ, s, F, er, st, q⟩ => ?_
  refine ⟨dk, δ, s, F, er, st, EPost.bind q fun x s1 v F1 H1 n rx q1 => ?_⟩
  obtain ⟨k, ht, q2⟩ := epost_tru n.st rx q1
  exact ⟨k, ht, EPost.ok q2 n.st (.bl _)⟩
/-- tests -/
theorem tv_of (ha : EV X W a f) (he : ∀ whole, isTrue a X.env whole = (do let v ← whole; standAt a.pos; holding [v] (truthy v)) := by intro _; rfl) : TV X W a (fTru f) := by
  refine pt_weak (pt_truth ha he) fun σ H Q ⟨dk, δ, s, F, er, st, q⟩ => ?_
  refine ⟨dk, δ, s, F, er, st, EPost.bind q fun x s1 v F1 H1 n rx q1 => ?_⟩
  have q1' : EPost X.K X.mg dk RelB (WE W σ) F1 H1 Q ((tru x s1).bind fun k s => .ok k s) := by
    have e : (tru x s1).bind (fun k s => R.ok k s) = tru x s1 := by cases tru x s1 <;> rfl
    rw [e]; exact q1
  obtain ⟨k, ht, q2⟩ := epost_tru n.st rx q1'
  exact ⟨k, ht, EPost.ok q2 n.st rfl⟩
def boo (d : D) : M Bool := fun s => match d with
  | .bl b => .ok b s
  | _ => .bad
def fBoo (f : FE) : FT := fun δ s => (f δ s).bind boo
theorem tv_cmp {op : CmpOp} {r : R2} {m : D → D → M D} (ho : OpR X (compareOp op) r) (hr : OpM X r m) (ha : EV X W a f) (hb : EV X W b g) (hm : behindInMarks op b = false := by first | exact nomark _ | rfl) : TV X W (.Compare a [op] [b] pos) (fBoo (lift2 m f g)) := by
  refine pt_weak (pt_cmpR ho ha hb hm) fun σ H Q ⟨dk, δ, s, F, er, st, q⟩ => ?_
  refine two (W := W) (fun _ _ _ z => z) (fun _ _ _ z => z) hr ⟨dk, δ, s, F, er, st, EPost.bind q fun x s1 v F1 H1 n rx q1 => ?_⟩
  unfold boo at q1
  split at q1
  · cases rx
    exact ⟨_, rfl, EPost.ok q1 n.st rfl⟩
  · exact q1.elim
def fAnd (f g : FT) : FT := fun δ s => (f δ s).bind fun k s => if k = true then g δ s else .ok false s
def fOr (f g : FT) : FT := fun δ s => (f δ s).bind fun k s => if k = true then .ok true s else g δ s
def fNot (f : FT) : FT := fun δ s => (f δ s).bind fun k s => .ok (!k) s
def WV (X : Cx) (W : WX) (e : Expr) (f : FT) : Prop := PW X e (tTV X.K X.mg W f)
variable {fa fb : FT} {rest : List Expr}
theorem wv_and1 (ha : TV X W a fa) : WV X W (.BoolOp .And [a] pos) fa := pw_and1 ha
theorem wv_or1 (ha : TV X W a fa) : WV X W (.BoolOp .Or [a] pos) fa := pw_or1 ha
theorem wv_and (ha : TV X W a fa) (hb : WV X W (.BoolOp .And (b :: rest) pos) fb) : WV X W (.BoolOp .And (a :: b :: rest) pos) (fAnd fa fb) := by
  refine pw_weak (pw_and ha hb) fun σ H Q ⟨dk, δ, s, F, er, st, q⟩ => ?_
  refine ⟨dk, δ, s, F, er, st, EPost.bind q fun k s1 v F1 H1 n rx q1 => ?_⟩
  have rx : v = k := rx
  subst rx
  cases v with
  | true => exact ⟨dk, δ, s1, F1, er.mono n.sm, n.st, q1⟩
  | false => exact EPost.ok q1 n.st rfl
theorem wv_or (ha : TV X W a fa) (hb : WV X W (.BoolOp .Or (b :: rest) pos) fb) : WV X W (.BoolOp .Or (a :: b :: rest) pos) (fOr fa fb) := by
  refine pw_weak (pw_or ha hb) fun σ H Q ⟨dk, δ, s, F, er, st, q⟩ => ?_
  refine ⟨dk, δ, s, F, er, st, EPost.bind q fun k s1 v F1 H1 n rx q1 => ?_⟩
  have rx : v = k := rx
  subst rx
  cases v with
  | false => exact ⟨dk, δ, s1, F1, er.mono n.sm, n.st, q1⟩
  | true => exact EPost.ok q1 n.st rfl
theorem tv_w (h : WV X W a fa) : TV X W a fa := PW.pt h
theorem tv_not (ha : TV X W a fa) : TV X W (.UnaryOp .Not a pos) (fNot fa) := by
  refine pt_weak (pt_not ha) fun σ H Q ⟨dk, δ, s, F, er, st, q⟩ => ?_
  refine ⟨dk, δ, s, F, er, st, EPost.bind q fun k s1 v F1 H1 n rx q1 => ?_⟩
  have rx : v = k := rx
  subst rx
  exact EPost.ok q1 n.st rfl
def ifD (c : FT) (f g : FE) : FE := fun δ s => (c δ s).bind fun k s => if k = true then f δ s else g δ s
theorem ev_if (hc : TV X W c fa) (ha : EV X W a f) (hb : EV X W b g) : EV X W (.IfExp c a b pos) (ifD fa f g) := by
  refine pe_weak (pe_ifExp hc ha hb) fun σ H Q ⟨dk, δ, s, F, er, st, q⟩ => ?_
  refine ⟨dk, δ, s, F, er, st, EPost.bind q fun k s1 v F1 H1 n rx q1 => ?_⟩
  have rx : v = k := rx
  subst rx
  cases v with
  | true => exact ⟨dk, δ, s1, F1, er.mono n.sm, n.st, q1⟩
  | false => exact ⟨dk, δ, s1, F1, er.mono n.sm, n.st, q1⟩
/-- is None -/
def isNone : D → Bool
  | .non => true
  | _ => false
def isN (f : FE) : FE := fun δ s => (f δ s).bind fun x s => .ok (.bl (isNone x)) s
def notN (f : FE) : FE := fun δ s => (f δ s).bind fun x s => .ok (.bl (!isNone x)) s
def fIsN (f : FE) : FT := fun δ s => (f δ s).bind fun x s => .ok (isNone x) s
def fNotN (f : FE) : FT := fun δ s => (f δ s).bind fun x s => .ok (!isNone x) s
theorem rp_non {K : PySem.W.Frag} {dk : Addr} {F : Hp} {v : V} {d : D} (r : Rp K dk F v d) : decide (v = .non) = isNone d := by
  cases r <;> simp [isNone]
theorem ev_isN {j pos'} (ha : EV X W a f) : EV X W (.Compare a [.Is] [.Constant .none j pos'] pos) (isN f) := by
  refine pe_weak (pe_cmp (pc_isN ha)) fun σ H Q ⟨dk, δ, s, F, er, st, q⟩ => ?_
  refine ⟨dk, δ, s, F, er, st, EPost.bind q fun x s1 v F1 H1 n rx q1 => ?_⟩
  show Q (.bl (decide (v = .non))) H1
  rw [rp_non rx]
  exact EPost.ok q1 n.st (.bl _)
theorem ev_notN {j pos'} (ha : EV X W a f) : EV X W (.Compare a [.IsNot] [.Constant .none j pos'] pos) (notN f) := by
  refine pe_weak (pe_cmp (pc_notN ha)) fun σ H Q ⟨dk, δ, s, F, er, st, q⟩ => ?_
  refine ⟨dk, δ, s, F, er, st, EPost.bind q fun x s1 v F1 H1 n rx q1 => ?_⟩
  show Q (.bl (!decide (v = .non))) H1
  rw [rp_non rx]
  exact EPost.ok q1 n.st (.bl _)
theorem tv_isN {j pos'} (ha : EV X W a f) : TV X W (.Compare a [.Is] [.Constant .none j pos'] pos) (fIsN f) := by
  refine pt_weak (pt_cmp (pc_isN ha)) fun σ H Q ⟨dk, δ, s, F, er, st, q⟩ => ?_
  refine ⟨dk, δ, s, F, er, st, EPost.bind q fun x s1 v F1 H1 n rx q1 => ?_⟩
  refine ⟨_, rfl, ?_⟩
  rw [rp_non rx]
  exact EPost.ok q1 n.st rfl
theorem tv_notN {j pos'} (ha : EV X W a f) : TV X W (.Compare a [.IsNot] [.Constant .none j pos'] pos) (fNotN f) := by
  refine pt_weak (pt_cmp (pc_notN ha)) fun σ H Q ⟨dk, δ, s, F, er, st, q⟩ => ?_
  refine ⟨dk, δ, s, F, er, st, EPost.bind q fun x s1 v F1 H1 n rx q1 => ?_⟩
  refine ⟨_, rfl, ?_⟩
  rw [rp_non rx]
  exact EPost.ok q1 n.st rfl
end
end FL

namespace FL
open PySem PySem.Spec L2

/-! ### what is walked -/
def ItD (K : PySem.W.Frag) (dk : Addr) (F0 : Hp) (J : It) (ds : List D) : Prop := ∀ (i : Nat) (F H : Hp) (s : Deck), Same F0 F → Stt K dk F H s →
  (i < ds.length → J.go i H) ∧ (ds.length ≤ i → J.stop i H) ∧ ∀ x H', i < ds.length → J.yld i H x H' → ∃ F' d, ds[i]? = some d ∧ Nxt K dk F H F' H' s ∧ Rp K dk F' x d
def tIV (K : PySem.W.Frag) (mg : Str → Option Value) (W : WX) (f : FA) : TI := fun σ H R => ∃ dk δ s F, EnvR K dk F σ δ ∧ Stt K dk F H s ∧ EPost K mg dk (fun F J ds => ItD K dk F J ds) (WE W σ) F H R (f δ s)
def IV (X : Cx) (W : WX) (tg it : Expr) (f : FA) : Prop := PI X tg it (tIV X.K X.mg W f)
theorem pi_weak {X : Cx} {tg e : Expr} {t t' : TI} (h : PI X tg e t) (k : ∀ σ H Q, t' σ H Q → t σ H Q) : PI X tg e t' := ⟨fun pins s σ H Q I q => h.run pins s σ H Q I (k σ H Q q)⟩
theorem pi_or {X : Cx} {tg e : Expr} {t t' : TI} (h : PI X tg e t) (h' : PI X tg e t') : PI X tg e (fun σ H R => t σ H R ∨ t' σ H R) := ⟨fun pins s σ H Q I q => q.elim (h.run pins s σ H Q I) (h'.run pins s σ H Q I)⟩
section
variable {X : Cx} {W : WX} {a b tg : Expr} {es : List Expr} {f g : FE} {fs : FA} {pos p : Pos}
/-- its items -/
def seqOf : D → Option (List D)
  | .lst xs => some xs
  | .tup xs => some xs
  | _ => none
def seqM (d : D) : M (List D) := fun s => match seqOf d with
  | some xs => .ok xs s
  | none => .bad
theorem itl_ok {K : PySem.W.Frag} {dk : Addr} {F0 : Hp} {a : Addr} {xs : List V} {ds : List D} (h : SqL K F0 a xs) (r : RpAll K dk F0 xs ds) : ItD K dk F0 (Itl K a) ds := by
  intro i F H s sm st
  have hq : SqL K H a xs := st.sub.seq (sm.seq h)
  have hl := r.length
  refine ⟨fun hi => ⟨xs, xs[i]'(by omega), hq, List.getElem?_eq_getElem (by omega)⟩, fun hi => ⟨xs, hq, by omega⟩, fun x H' hi y => ?_⟩
  obtain ⟨e, y⟩ := y
  subst e
  have hx := y xs hq
  obtain ⟨d, hd, rd⟩ := r.getV hx
  exact ⟨F, d, hd, Nxt.refl st, rd.mono sm⟩
theorem itt_ok {K : PySem.W.Frag} {dk : Addr} {F0 : Hp} {a : Addr} {xs : List V} {ds : List D} (h : SqT K F0 a xs) (r : RpAll K dk F0 xs ds) : ItD K dk F0 (Itt K a) ds := by
  intro i F H s sm st
  have hq : SqT K H a xs := seqT st.sub (seqT sm h)
  have hl := r.length
  refine ⟨fun hi => ⟨xs, xs[i]'(by omega), hq, List.getElem?_eq_getElem (by omega)⟩, fun hi => ⟨xs, hq, by omega⟩, fun x H' hi y => ?_⟩
  obtain ⟨e, y⟩ := y
  subst e
  have hx := y xs hq
  obtain ⟨d, hd, rd⟩ := r.getV hx
  exact ⟨F, d, hd, Nxt.refl st, rd.mono sm⟩
theorem iv_seq (ha : EV X W a f) : IV X W tg a (fun δ s => (f δ s).bind seqM) := by
  refine pi_weak (pi_or (pi_list ha) (pi_tup ha)) fun σ H RQ ⟨dk, δ, s, F, er, st, q⟩ => ?_
  dsimp only at q
  have key : ∀ r : R D, (∃ xs s1, r = .ok (.lst xs) s1) ∨ ¬ (∃ xs s1, r = .ok (.lst xs) s1) := fun r => Classical.em _
  rcases key (f δ s) with ⟨xs, s1, e⟩ | ne
  · refine .inl ⟨dk, δ, s, F, er, st, ?_⟩
    rw [e] at q ⊢
    intro v F1 H1 n rv
    cases rv with
    | @lst a0 vs _ hs hr => exact ⟨a0, rfl, ⟨_, SqL.of (n.st.sub _ _ hs)⟩, q _ F1 H1 n (itl_ok (SqL.of hs) hr)⟩
  · refine .inr ⟨dk, δ, s, F, er, st, ?_⟩
    cases hr : f δ s with
    | bad => rw [hr] at q; exact q
    | raise e s1 => rw [hr] at q; exact q
    | ok d s1 =>
      rw [hr] at q
      intro v F1 H1 n rv
      cases rv with
      | @tup a0 vs xs hs hr2 => exact ⟨a0, rfl, ⟨_, seqT n.st.sub hs⟩, q _ F1 H1 n (itt_ok hs hr2)⟩
      | lst hs _ => exact absurd ⟨_, _, hr⟩ ne
      | non => exact q.elim
      | bl _ => exact q.elim
      | int _ => exact q.elim
      | str _ => exact q.elim
      | dct _ _ _ => exact q.elim
      | deck => exact q.elim
      | exc _ _ _ _ _ => exact q.elim
/-! ### range, enumerate, zip -/
def rng (lo : Int) (n : Nat) : List D := (List.range n).map fun (i : Nat) => D.int (lo + (i : Int))
theorem itr_ok {K : PySem.W.Frag} {dk : Addr} {F0 : Hp} {lo : Int} {n : Nat} : ItD K dk F0 (Itr lo n) (rng lo n) := by
  intro i F H s sm st
  unfold rng
  refine ⟨fun hi => (show i < n by simpa using hi), fun hi => (show n ≤ i by simpa using hi), fun x H' hi y => ?_⟩
  obtain ⟨e1, e2⟩ := y
  subst e1 e2
  have hi' : i < n := by simpa using hi
  exact ⟨F, .int (lo + i), by simp [List.getElem?_range hi'], Nxt.refl st, .int _⟩
def small62 (i : Int) : Bool := decide (-(2 ^ 62) ≤ i ∧ i < 2 ^ 62)
def rng1M (ds : List D) : M (List D) := fun s => match ds with
  | [.int n] => if small62 n = true then .ok (rng 0 n.toNat) s else .bad
  | _ => .bad
def rng2M (ds : List D) : M (List D) := fun s => match ds with
  | [.int i, .int j] => if small62 i = true then (if small62 j = true then .ok (rng i (j - i).toNat) s else .bad) else .bad
  | _ => .bad
theorem iv_range1 (hg : Gl X "range") (hm : X.mg "range" = none) (ha : AV X W [a] fs) (hs : starEach [a] X.env = [(false, eval a X.env)] := by rfl) : IV X W tg (.Call (.Name "range" p) [a] [] pos) (fun δ s => (fs δ s).bind rng1M) := by
  refine pi_weak (pi_range1 hg hm ha hs) fun σ H RQ ⟨dk, δ, s, F, er, st, q⟩ => ?_
  refine ⟨dk, δ, s, F, er, st, EPost.bind q fun xs s1 vs F1 H1 n r q1 => ?_⟩
  unfold rng1M at q1
  split at q1
  · rename_i k
    split at q1
    · rename_i hk
      cases r with
      | cons r1 r2 =>
        cases r1; cases r2
        have hk' := of_decide_eq_true hk
        exact ⟨k, rfl, hk'.1, hk'.2, EPost.ok q1 n.st itr_ok⟩
    · exact q1.elim
  · exact q1.elim
theorem iv_range2 (hg : Gl X "range") (hm : X.mg "range" = none) (ha : AV X W [a, b] fs) (hs : starEach [a, b] X.env = [(false, eval a X.env), (false, eval b X.env)] := by rfl) (hs2 : starEach [b] X.env = [(false, eval b X.env)] := by rfl) :
    IV X W tg (.Call (.Name "range" p) [a, b] [] pos) (fun δ s => (fs δ s).bind rng2M) := by
  refine pi_weak (pi_range2 hg hm ha hs hs2) fun σ H RQ ⟨dk, δ, s, F, er, st, q⟩ => ?_
  refine ⟨dk, δ, s, F, er, st, EPost.bind q fun xs s1 vs F1 H1 n r q1 => ?_⟩
  unfold rng2M at q1
  split at q1
  · rename_i k l
    split at q1
    · rename_i hk
      split at q1
      · rename_i hl
        cases r with
        | cons r1 r2 =>
          cases r2 with
          | cons r3 r4 =>
            cases r1; cases r3; cases r4
            have hk' := of_decide_eq_true hk
            have hl' := of_decide_eq_true hl
            exact ⟨k, l, rfl, ⟨hk'.1, hk'.2, hl'.1, hl'.2⟩, EPost.ok q1 n.st itr_ok⟩
      · exact q1.elim
    · exact q1.elim
  · exact q1.elim
/-- pairs -/
def pairsI : Nat → List D → List D
  | _, [] => []
  | i, x :: xs => .tup [.int (i : Nat), x] :: pairsI (i + 1) xs
theorem pairsI_len : ∀ (i : Nat) (xs : List D), (pairsI i xs).length = xs.length
  | _, [] => rfl
  | i, _ :: xs => congrArg (· + 1) (pairsI_len (i + 1) xs)
theorem pairsI_get : ∀ (k : Nat) (xs : List D) (i : Nat) (d : D), xs[i]? = some d → (pairsI k xs)[i]? = some (.tup [.int ((k + i : Nat) : Int), d])
  | _, [], _, _, h => by simp at h
  | k, x :: xs, 0, d, h => by
    simp at h; subst h; rfl
  | k, x :: xs, i + 1, d, h => by
    have e := pairsI_get (k + 1) xs i d (by simpa using h)
    have e2 : k + 1 + i = k + (i + 1) := by omega
    rw [e2] at e
    simpa [pairsI] using e
theorem tup2 {K : PySem.W.Frag} {dk : Addr} {F H : Hp} {s : Deck} {T : Addr} {x y : V} {d e : D} (st : Stt K dk F H s) (hT : H T = none) (r1 : Rp K dk F x d) (r2 : Rp K dk F y e) :
    Nxt K dk F H (upd F T (.tup [x, y])) (upd H T (.tup [x, y])) s ∧ Rp K dk (upd F T (.tup [x, y])) (.ref T) (.tup [d, e]) := by
  have n := Nxt.new (o := .tup [x, y]) st hT
  exact ⟨n, .tup (SqT.of upd_same) (.cons (r1.mono n.sm) (.cons (r2.mono n.sm) .nil))⟩
theorem ite_ok {K : PySem.W.Frag} {dk : Addr} {F0 : Hp} {a : Addr} {xs : List V} {ds : List D} (h : SqL K F0 a xs) (r : RpAll K dk F0 xs ds) : ItD K dk F0 (Ite K a) (pairsI 0 ds) := by
  intro i F H s sm st
  have hq : SqL K H a xs := st.sub.seq (sm.seq h)
  have hl := r.length
  rw [pairsI_len]
  refine ⟨fun hi => ⟨xs, xs[i]'(by omega), hq, List.getElem?_eq_getElem (by omega)⟩, fun hi => ⟨xs, hq, by omega⟩, fun x H' hi y => ?_⟩
  obtain ⟨T, x, rfl, hT, rfl, y⟩ := y
  have hx := y xs hq
  obtain ⟨d, hd, rd⟩ := r.getV hx
  obtain ⟨n, rt⟩ := tup2 st hT (.int (i : Nat)) (rd.mono sm)
  have e := pairsI_get 0 ds i d hd
  rw [Nat.zero_add] at e
  exact ⟨_, _, e, n, rt⟩
def enumM (ds : List D) : M (List D) := fun s => match ds with
  | [.lst xs] => .ok (pairsI 0 xs) s
  | _ => .bad
theorem iv_enum {elts : List Expr} {kk : Nat} {tpos : Pos} (hg : Gl X "enumerate") (hm : X.mg "enumerate" = none) (ha : AV X W [a] fs) (hs : starEach [a] X.env = [(false, eval a X.env)] := by rfl) :
    IV X W (.Tuple elts kk tpos) (.Call (.Name "enumerate" p) [a] [] pos) (fun δ s => (fs δ s).bind enumM) := by
  refine pi_weak (pi_enum hg hm ha hs) fun σ H RQ ⟨dk, δ, s, F, er, st, q⟩ => ?_
  refine ⟨dk, δ, s, F, er, st, EPost.bind q fun xs s1 vs F1 H1 n r q1 => ?_⟩
  unfold enumM at q1
  split at q1
  · cases r with
    | cons r1 r2 =>
      cases r2
      cases r1 with
      | lst hs2 hr => exact ⟨_, _, rfl, SqL.of (n.st.sub _ _ hs2), EPost.ok q1 n.st (ite_ok (SqL.of hs2) hr)⟩
  · exact q1.elim
def pairsZ : List D → List D → List D
  | x :: xs, y :: ys => .tup [x, y] :: pairsZ xs ys
  | _, _ => []
theorem pairsZ_len : ∀ (xs ys : List D), (pairsZ xs ys).length = min xs.length ys.length
  | [], ys => by simp [pairsZ]
  | x :: xs, [] => by simp [pairsZ]
  | x :: xs, y :: ys => by
    have := pairsZ_len xs ys
    simp only [pairsZ, List.length_cons, this]
    omega
theorem pairsZ_get : ∀ (xs ys : List D) (i : Nat) (d e : D), xs[i]? = some d → ys[i]? = some e → (pairsZ xs ys)[i]? = some (.tup [d, e])
  | [], _, _, _, _, h, _ => by simp at h
  | _ :: _, [], _, _, _, _, h => by simp at h
  | x :: xs, y :: ys, 0, d, e, h, h' => by simp at h h'; subst h h'; rfl
  | x :: xs, y :: ys, i + 1, d, e, h, h' => by simpa [pairsZ] using pairsZ_get xs ys i d e (by simpa using h) (by simpa using h')
theorem itz_ok {K : PySem.W.Frag} {dk : Addr} {F0 : Hp} {a b : Addr} {xs ys : List V} {ds es : List D} (h : SqL K F0 a xs) (r : RpAll K dk F0 xs ds) (h' : SqL K F0 b ys) (r' : RpAll K dk F0 ys es) : ItD K dk F0 (Itz K a b) (pairsZ ds es) := by
  intro i F H s sm st
  have hq : SqL K H a xs := st.sub.seq (sm.seq h)
  have hq' : SqL K H b ys := st.sub.seq (sm.seq h')
  have hl := r.length
  have hl' := r'.length
  rw [pairsZ_len]
  refine ⟨fun hi => ⟨xs, ys, xs[i]'(by omega), ys[i]'(by omega), hq, hq', List.getElem?_eq_getElem (by omega), List.getElem?_eq_getElem (by omega)⟩, fun hi => ⟨xs, ys, hq, hq', by omega⟩, fun x H' hi y => ?_⟩
  obtain ⟨T, x, z, rfl, hT, rfl, y, y'⟩ := y
  obtain ⟨d, hd, rd⟩ := r.getV (y xs hq)
  obtain ⟨e, he, re⟩ := r'.getV (y' ys hq')
  obtain ⟨n, rt⟩ := tup2 st hT (rd.mono sm) (re.mono sm)
  exact ⟨_, _, pairsZ_get ds es i d e hd he, n, rt⟩
theorem itzT_ok {K : PySem.W.Frag} {dk : Addr} {F0 : Hp} {a b : Addr} {xs ys : List V} {ds es : List D} (h : SqT K F0 a xs) (r : RpAll K dk F0 xs ds) (h' : SqT K F0 b ys) (r' : RpAll K dk F0 ys es) : ItD K dk F0 (RZ.ItzT K a b) (pairsZ ds es) := by
  intro i F H s sm st
  have hq : SqT K H a xs := seqT st.sub (seqT sm h)
  have hq' : SqT K H b ys := seqT st.sub (seqT sm h')
  have hl := r.length
  have hl' := r'.length
  rw [pairsZ_len]
  refine ⟨fun hi => ⟨xs, ys, xs[i]'(by omega), ys[i]'(by omega), hq, hq', List.getElem?_eq_getElem (by omega), List.getElem?_eq_getElem (by omega)⟩, fun hi => ⟨xs, ys, hq, hq', by omega⟩, fun x H' hi y => ?_⟩
  obtain ⟨T, x, z, rfl, hT, rfl, y, y'⟩ := y
  obtain ⟨d, hd, rd⟩ := r.getV (y xs hq)
  obtain ⟨e, he, re⟩ := r'.getV (y' ys hq')
  obtain ⟨n, rt⟩ := tup2 st hT (rd.mono sm) (re.mono sm)
  exact ⟨_, _, pairsZ_get ds es i d e hd he, n, rt⟩
def zipM (ds : List D) : M (List D) := fun s => match ds with
  | [.lst xs, .lst ys] => .ok (pairsZ xs ys) s
  | [.tup xs, .tup ys] => .ok (pairsZ xs ys) s
  | _ => .bad
theorem iv_zip {elts : List Expr} {kk : Nat} {tpos : Pos} (hg : Gl X "zip") (hm : X.mg "zip" = none) (ha : AV X W [a, b] fs) (hs : starEach [a, b] X.env = (false, eval a X.env) :: starEach [b] X.env := by rfl) (hpl : (backTo pos (starEach [b] X.env)).any (·.1) = false := by rfl) :
    IV X W (.Tuple elts kk tpos) (.Call (.Name "zip" p) [a, b] [] pos) (fun δ s => (fs δ s).bind zipM) := by
  refine pi_weak (RZ.pi_zipA hg hm ha hs hpl) fun σ H RQ ⟨dk, δ, s, F, er, st, q⟩ => ?_
  refine ⟨dk, δ, s, F, er, st, EPost.bind q fun xs s1 vs F1 H1 n r q1 => ?_⟩
  unfold zipM at q1
  split at q1
  · cases r with
    | cons r1 r2 =>
      cases r2 with
      | cons r3 r4 =>
        cases r4
        cases r1 with
        | lst h1 k1 =>
          cases r3 with
          | lst h2 k2 => exact ⟨_, _, _, _, rfl, .inl ⟨SqL.of (n.st.sub _ _ h1), SqL.of (n.st.sub _ _ h2), EPost.ok q1 n.st (itz_ok (SqL.of h1) k1 (SqL.of h2) k2)⟩⟩
  · cases r with
    | cons r1 r2 =>
      cases r2 with
      | cons r3 r4 =>
        cases r4
        cases r1 with
        | tup h1 k1 =>
          cases r3 with
          | tup h2 k2 => exact ⟨_, _, _, _, rfl, .inr ⟨seqT n.st.sub h1, seqT n.st.sub h2, EPost.ok q1 n.st (itzT_ok h1 k1 h2 k2)⟩⟩
  · exact q1.elim

/-! ### targets -/
inductive Pat where
  | nm (i : Nat)
  | tp (ps : List Pat)
mutual
def asgP : Pat → D → Option (List (Nat × D))
  | .nm i, d => some [(i, d)]
  | .tp ps, .tup xs => asgPs ps xs
  | .tp ps, .lst xs => asgPs ps xs
  | .tp _, _ => none
def asgPs : List Pat → List D → Option (List (Nat × D))
  | [], [] => some []
  | p :: ps, x :: xs => (asgP p x).bind fun l => (asgPs ps xs).bind fun m => some (l ++ m)
  | _, _ => none
end
def setD (δ : DEnv) (l : List (Nat × D)) : DEnv := l.foldl (fun δ p => δ.set p.1 (some p.2)) δ
def setV (σ : List (Option V)) (l : List (Nat × V)) : List (Option V) := l.foldl (fun δ p => δ.set p.1 (some p.2)) σ
def PairsR (K : PySem.W.Frag) (dk : Addr) (F : Hp) (lv : List (Nat × V)) (l : List (Nat × D)) : Prop := lv.map (·.1) = l.map (·.1) ∧ RpAll K dk F (lv.map (·.2)) (l.map (·.2))
theorem EnvR.setAll {K : PySem.W.Frag} {dk : Addr} {F : Hp} : ∀ {lv : List (Nat × V)} {l : List (Nat × D)} {σ : List (Option V)} {δ : DEnv}, PairsR K dk F lv l → EnvR K dk F σ δ → EnvR K dk F (setV σ lv) (setD δ l)
  | [], [], _, _, _, h => h
  | (i, v) :: lv, (j, d) :: l, σ, δ, ⟨e, r⟩, h => by
    have e1 : i = j := by simp at e; exact e.1
    have e2 : lv.map (·.1) = l.map (·.1) := by simp at e; exact e.2
    subst e1
    cases r with
    | cons r1 r2 => exact EnvR.setAll (lv := lv) (l := l) ⟨e2, r2⟩ (h.set r1)
  | [], _ :: _, _, _, ⟨e, _⟩, _ => by simp at e
  | _ :: _, [], _, _, ⟨e, _⟩, _ => by simp at e
def tGV (K : PySem.W.Frag) (p : Pat) : TG := fun v σ H Q => ∃ dk F d l, Same F H ∧ Rp K dk F v d ∧ asgP p d = some l ∧ ∀ lv, PairsR K dk F lv l → Q (setV σ lv) H
def tGVs (K : PySem.W.Frag) (ps : List Pat) : TGs := fun vs σ H Q => ∃ dk F ds l, Same F H ∧ RpAll K dk F vs ds ∧ asgPs ps ds = some l ∧ ∀ lv, PairsR K dk F lv l → Q (setV σ lv) H
def GV (X : Cx) (tg : Expr) (p : Pat) : Prop := PG X tg (tGV X.K p)
def GVs (X : Cx) (tg : List Expr) (p : List Pat) : Prop := PGs X tg (tGVs X.K p)
theorem pg_weak {X : Cx} {tg : Expr} {t t' : TG} (h : PG X tg t) (k : ∀ v σ H Q, t' v σ H Q → t v σ H Q) : PG X tg t' := ⟨fun pins s σ H v u Q I r q => h.run pins s σ H v u Q I r (k v σ H Q q)⟩
theorem pgs_weak {X : Cx} {tg : List Expr} {t t' : TGs} (h : PGs X tg t) (k : ∀ v σ H Q, t' v σ H Q → t v σ H Q) : PGs X tg t' := ⟨fun pins s σ H v u Q I r q => h.run pins s σ H v u Q I r (k v σ H Q q)⟩
theorem pg_or {X : Cx} {tg : Expr} {t t' : TG} (h : PG X tg t) (h' : PG X tg t') : PG X tg (fun v σ H Q => t v σ H Q ∨ t' v σ H Q) := ⟨fun pins s σ H v u Q I r q => q.elim (h.run pins s σ H v u Q I r) (h'.run pins s σ H v u Q I r)⟩
theorem gv_name {i : Nat} (h : PG X tg (gName i)) : GV X tg (.nm i) := by
  refine pg_weak h fun v σ H Q ⟨dk, F, d, l, sm, r, e, q⟩ => ?_
  have e' : some [(i, d)] = some l := by rw [← e]; unfold asgP; rfl
  cases e'
  exact q [(i, v)] ⟨rfl, .cons r .nil⟩
theorem gvs_nil : GVs X [] [] := by
  refine pgs_weak pgs_nil fun vs σ H Q ⟨dk, F, ds, l, sm, r, e, q⟩ => ?_
  cases r with
  | nil =>
    have e' : some [] = some l := by rw [← e]; unfold asgPs; rfl
    cases e'
    exact ⟨rfl, q [] ⟨rfl, .nil⟩⟩
  | cons _ _ => unfold asgPs at e; cases e
theorem gvs_cons {t : Expr} {ts : List Expr} {p : Pat} {ps : List Pat} (h1 : GV X t p) (h2 : GVs X ts ps) (hs : (assignEach (t :: ts) X.env).map (·.2) = assign t X.env :: (assignEach ts X.env).map (·.2) := by rfl) : GVs X (t :: ts) (p :: ps) := by
  refine pgs_weak (pgs_cons h1 h2 hs) fun vs σ H Q ⟨dk, F, ds, l, sm, r, e, q⟩ => ?_
  cases r with
  | nil => unfold asgPs at e; cases e
  | @cons v vr d dr r1 r2 =>
    have e' : ((asgP p d).bind fun l => (asgPs ps dr).bind fun m => some (l ++ m)) = some l := by rw [← e]; rw [asgPs]
    cases e1 : asgP p d with
    | none => rw [e1] at e'; cases e'
    | some l1 =>
      rw [e1] at e'
      cases e2 : asgPs ps dr with
      | none => rw [e2] at e'; cases e'
      | some l2 =>
        rw [e2] at e'
        cases e'
        refine ⟨v, vr, rfl, dk, F, d, l1, sm, r1, e1, fun lv1 p1 => ?_⟩
        refine ⟨dk, F, dr, l2, sm, r2, e2, fun lv2 p2 => ?_⟩
        have z : setV (setV σ lv1) lv2 = setV σ (lv1 ++ lv2) := by unfold setV; rw [List.foldl_append]
        rw [z]
        refine q _ ⟨?_, ?_⟩
        · rw [List.map_append, List.map_append, p1.1, p2.1]
        · rw [List.map_append, List.map_append]; exact p1.2.append p2.2
theorem asgPs_len : ∀ {ps : List Pat} {xs : List D} {l : List (Nat × D)}, asgPs ps xs = some l → xs.length = ps.length
  | [], [], _, _ => rfl
  | [], _ :: _, _, h => by unfold asgPs at h; cases h
  | _ :: _, [], _, h => by unfold asgPs at h; cases h
  | p :: ps, x :: xs, l, h => by
    rw [asgPs] at h
    cases e1 : asgP p x with
    | none => rw [e1] at h; cases h
    | some l1 =>
      rw [e1] at h
      cases e2 : asgPs ps xs with
      | none => rw [e2] at h; cases h
      | some l2 => exact congrArg (· + 1) (asgPs_len e2)
theorem gv_tup {ts : List Expr} {k : Nat} {ps : List Pat} (hc : X.calm = true) (h : GVs X ts ps) (hn : (assignEach ts X.env).length = ps.length := by rfl) (hst : (assignEach ts X.env).findIdx? (·.1) = none := by rfl) : GV X (.Tuple ts k pos) (.tp ps) := by
  refine pg_weak (pg_or (pg_tup hc h hn hst) (pg_unl hc h hn hst)) fun v σ H Q ⟨dk, F, d, l, sm, r, e, q⟩ => ?_
  cases r with
  | @tup _ _ ds0 hs hr =>
    have e' : asgPs ps ds0 = some l := by rw [← e]; rw [asgP]
    exact .inl ⟨_, _, rfl, seqT sm hs, by rw [hr.length]; exact asgPs_len e', dk, F, _, l, sm, hr, e', q⟩
  | @lst _ _ ds0 hs hr =>
    have e' : asgPs ps ds0 = some l := by rw [← e]; rw [asgP]
    exact .inr ⟨_, _, rfl, SqL.of (sm _ _ hs), by rw [hr.length]; exact asgPs_len e', dk, F, _, l, sm, hr, e', q⟩
  | non => unfold asgP at e; cases e
  | bl _ => unfold asgP at e; cases e
  | int _ => unfold asgP at e; cases e
  | str _ => unfold asgP at e; cases e
  | dct _ _ _ => unfold asgP at e; cases e
  | deck => unfold asgP at e; cases e
  | exc _ _ _ _ _ => unfold asgP at e; cases e
end
end FL

namespace FL
open PySem PySem.Spec L2

/-! ### comprehensions -/
def wipeE (δ : DEnv) : List Nat → DEnv
  | [] => δ
  | v :: vs => (wipeE δ vs).set v none
theorem EnvR.wipe {K : PySem.W.Frag} {dk : Addr} {F : Hp} {σ : List (Option V)} {δ : DEnv} (h : EnvR K dk F σ δ) : ∀ vs, EnvR K dk F (L2.wipe σ vs) (wipeE δ vs)
  | [] => h
  | v :: vs => (EnvR.wipe h vs).unset
/-- its slots all among vs -/
def patIn (vs : List Nat) : List (Nat × D) → Bool := fun l => l.all fun p => vs.contains p.1
theorem wipe_get (σ : List (Option V)) : ∀ (vs : List Nat) (j : Nat), (L2.wipe σ vs)[j]? = if j ∈ vs ∧ j < σ.length then some none else σ[j]?
  | [], j => by simp [L2.wipe]
  | v :: vs, j => by
    have ih := wipe_get σ vs j
    unfold L2.wipe
    by_cases hv : v = j
    · subst hv
      by_cases hl : v < σ.length
      · rw [List.getElem?_set_self (by rw [wipe_length]; exact hl)]
        simp [hl]
      · rw [List.getElem?_eq_none (by rw [List.length_set, wipe_length]; omega)]
        simp [hl]
    · rw [List.getElem?_set_ne hv, ih]
      have : (j ∈ v :: vs) ↔ j ∈ vs := by
        simp only [List.mem_cons]
        constructor
        · rintro (e | h)
          · exact absurd e.symm hv
          · exact h
        · exact Or.inr
      simp only [this]
theorem setV_get : ∀ (lv : List (Nat × V)) (σ : List (Option V)) (j : Nat), (∀ p ∈ lv, p.1 ≠ j) → (setV σ lv)[j]? = σ[j]?
  | [], _, _, _ => rfl
  | (i, v) :: lv, σ, j, h => by
    show (setV (σ.set i (some v)) lv)[j]? = _
    rw [setV_get lv _ j fun p hp => h p (List.mem_cons_of_mem _ hp), List.getElem?_set_ne (h (i, v) List.mem_cons_self)]
theorem setV_len : ∀ (lv : List (Nat × V)) (σ : List (Option V)), (setV σ lv).length = σ.length
  | [], _ => rfl
  | (i, v) :: lv, σ => by
    show (setV (σ.set i (some v)) lv).length = _
    rw [setV_len lv, List.length_set]
theorem wipe_setV {σ : List (Option V)} {vs : List Nat} {lv : List (Nat × V)} (h : ∀ p ∈ lv, p.1 ∈ vs) : L2.wipe (setV (L2.wipe σ vs) lv) vs = L2.wipe σ vs := by
  apply List.ext_getElem?
  intro j
  rw [wipe_get, setV_len, wipe_length]
  by_cases hj : j ∈ vs ∧ j < σ.length
  · rw [if_pos hj, wipe_get, if_pos hj]
  · rw [if_neg hj]
    by_cases hv : j ∈ vs
    · have hl : ¬ j < σ.length := fun q => hj ⟨hv, q⟩
      rw [List.getElem?_eq_none (by rw [setV_len, wipe_length]; omega), List.getElem?_eq_none (by rw [wipe_length]; omega)]
    · rw [setV_get lv _ j fun p hp e => hv (e ▸ h p hp)]

/-- what a comprehension makes: errors do not leave it -/
def compD (b : D → Deck → R (Option D)) : List D → M (List D)
  | [], s => .ok [] s
  | x :: xs, s => match b x s with
    | .ok o s => (compD b xs s).bind fun ys s => .ok (o.toList ++ ys) s
    | _ => .bad
def elemD (p : Pat) (vs : List Nat) (c : FT) (e : FE) (δ : DEnv) : D → Deck → R (Option D) := fun x s => match asgP p x with
  | some l => if patIn vs l = true then (c (setD (wipeE δ vs) l) s).bind fun k s => if k = true then (e (setD (wipeE δ vs) l) s).bind fun y s => .ok (some y) s else .ok none s else .bad
  | none => .bad
def lcD (src : FA) (p : Pat) (vs : List Nat) (c : FT) (e : FE) : FE := fun δ s => (src δ s).bind fun xs s => (compD (elemD p vs c e δ) xs s).bind mkLst
abbrev W0 : WX := fun _ _ _ _ => False
def yesT : FT := fun _ s => .ok true s
def TsV (X : Cx) (W : WX) (ifs : List Expr) (f : FT) : Prop := PTs X ifs (tTV X.K X.mg W f)
theorem pts_weak {X : Cx} {e : List Expr} {t t' : TT} (h : PTs X e t) (k : ∀ σ H Q, t' σ H Q → t σ H Q) : PTs X e t' := ⟨fun pins s σ H Q I q => h.run pins s σ H Q I (k σ H Q q)⟩
theorem tsv_nil {X : Cx} {W : WX} : TsV X W [] yesT := pts_weak pts_nil fun σ H Q ⟨dk, δ, s, F, er, st, q⟩ => EPost.ok q st rfl
theorem tsv_one {X : Cx} {W : WX} {c : Expr} {f : FT} (h : TV X W c f) : TsV X W [c] f := pts_one h

/-- the comprehension's new list, made so far -/
theorem Nxt.upd {K : PySem.W.Frag} {dk Dl : Addr} {F H : Hp} {s : Deck} {o o' : HO} (st : Stt K dk F H s) (hF : F Dl = none) (hD : Dl ≠ dk) : Stt K dk F (upd H Dl o') s := by
  obtain ⟨cl, h1, h2⟩ := st.deck
  refine ⟨fun b u e => ?_, st.fdk, cl, ?_, h2⟩
  · by_cases hb : b = Dl
    · rw [hb, hF] at e; cases e
    · rw [upd_ne hb]; exact st.sub b u e
  · rw [upd_ne (Ne.symm hD)]; exact h1
theorem comp_len {b : D → Deck → R (Option D)} : ∀ {xs : List D} {s s' : Deck} {ys : List D}, compD b xs s = .ok ys s' → ys.length ≤ xs.length
  | [], s, s', ys, h => by
    have h' : R.ok [] s = R.ok ys s' := h
    cases h'
    exact Nat.le_refl _
  | x :: xs, s, s', ys, h => by
    rw [compD] at h
    cases e : b x s with
    | bad => rw [e] at h; cases h
    | raise _ _ => rw [e] at h; cases h
    | ok o s1 =>
      rw [e] at h
      have h' : ((compD b xs s1).bind fun ys s => .ok (o.toList ++ ys) s) = R.ok ys s' := h
      cases e2 : compD b xs s1 with
      | bad => rw [e2] at h'; cases h'
      | raise _ _ => rw [e2] at h'; cases h'
      | ok zs s2 =>
        rw [e2] at h'
        have h2 : R.ok (o.toList ++ zs) s2 = R.ok ys s' := h'
        cases h2
        have := comp_len e2
        rw [List.length_append, List.length_cons]
        cases o <;> simp <;> omega

/-- behind the turns: what is left to be made, over the list so far; F1, H1: where the comprehension began -/
structure LcInv (K : PySem.W.Frag) (dk Dl : Addr) (F1 H1 : Hp) (b : D → Deck → R (Option D)) (ds all : List D) (s' : Deck) (i : Nat) (H : Hp) (F : Hp) (s : Deck) (acc : List V) (done rest : List D) : Prop where
  sm : Same F1 F
  st : Stt K dk F H s
  fr : ∀ b o, b ≠ dk → H1 b = some o → H b = some o
  pv : ∀ b, F1 b = none → H1 b ≠ none → F b = none
  fd : F Dl = none
  hd : H Dl = some (.lst acc)
  ra : RpAll K dk F acc done
  le : i ≤ ds.length
  dl : done.length ≤ i
  cm : compD b (ds.drop i) s = .ok rest s'
  al : all = done ++ rest
theorem drop_cons {α : Type} {l : List α} {i : Nat} {d : α} (h : l[i]? = some d) : l.drop i = d :: l.drop (i + 1) := by
  obtain ⟨hi, e⟩ := List.getElem?_eq_some_iff.mp h
  rw [List.drop_eq_getElem_cons hi, e]

section
variable {X : Cx} {W : WX} {tg iter elt : Expr} {ifs : List Expr} {scope : Scope} {own : List (Str × Nat)} {pos : Pos} {src : FA} {p : Pat} {c : FT} {e : FE}
theorem lc_core {σ : List (Option V)} {H : Hp} {Q : VK} {te : TE} {tt : TT} {g : TG} {wi : TI} (hi : ∀ σ H RQ, tIV X.K X.mg W src σ H RQ → wi σ H RQ) (hg : ∀ v σ H Q, tGV X.K p v σ H Q → g v σ H Q) (ht : ∀ σ H Q, tTV X.K X.mg W0 c σ H Q → tt σ H Q) (he : ∀ σ H Q, tEV X.K X.mg W0 e σ H Q → te σ H Q)
    (q : tEV X.K X.mg W (lcD src p (own.map (·.2)) c e) σ H Q) : tLc wi g tt te (own.map (·.2)) σ H Q := by
  obtain ⟨dk, δ, s, F, er, st, q⟩ := q
  unfold lcD at q
  refine hi _ _ _ ⟨dk, δ, s, F, er, st, EPost.bind q fun ds s1 J F1 H1 n1 it q1 => ?_⟩
  intro Dl hDl
  generalize hb : elemD p (own.map (·.2)) c e δ = b at q1
  -- the whole is known
  cases hall : compD b ds s1 with
  | bad => rw [hall] at q1; exact q1.elim
  | raise _ _ =>
    exfalso
    have no : ∀ (xs : List D) (s s' : Deck) (e : Ex), compD b xs s ≠ .raise e s' := by
      intro xs
      induction xs with
      | nil => intro s s' e h; cases h
      | cons x xs ih =>
        intro s s' e h
        rw [compD] at h
        cases hx : b x s with
        | bad => rw [hx] at h; cases h
        | raise _ _ => rw [hx] at h; cases h
        | ok o s2 =>
          rw [hx] at h
          have h' : ((compD b xs s2).bind fun ys s => R.ok (o.toList ++ ys) s) = R.raise e s' := h
          cases h2 : compD b xs s2 with
          | bad => rw [h2] at h'; cases h'
          | raise _ _ => exact ih _ _ _ h2
          | ok _ _ => rw [h2] at h'; cases h'
    exact no _ _ _ _ hall
  | ok all s' =>
    rw [hall] at q1
    have q2 : EPost X.K X.mg dk (RelD X.K dk) (WE W σ) F1 H1 Q (mkLst all s') := q1
    unfold mkLst at q2
    split at q2
    case isFalse => exact q2.elim
    rename_i hsm
    have hlen := small_le hsm
    obtain ⟨cl, hdk, _⟩ := n1.st.deck
    have hne : Dl ≠ dk := fun z => by rw [z, hdk] at hDl; cases hDl
    have hF1 : F1 Dl = none := n1.st.sub.free hDl
    have hnD : ∀ {b : Addr} {o : HO}, H1 b = some o → b ≠ Dl := fun h => ne_of_none h hDl
    refine ⟨fun i m H' => m = ds.length - i ∧ ∃ F s acc done rest, LcInv X.K dk Dl F1 H1 b ds all s' i H' F s acc done rest, ⟨ds.length, by simp, F1, s1, [], [], all, Same.refl _, Nxt.upd (o := .lst []) n1.st hF1 hne, fun b o _ h => by rw [upd_ne (hnD h)]; exact h, fun _ h _ => h, hF1, upd_same, .nil, Nat.zero_le _, Nat.le_refl _, by simpa using hall, rfl⟩, ?_⟩
    rintro i m H2 ⟨rfl, F2, s2, acc, done, rest, I⟩
    obtain ⟨J1, J2, J3⟩ := it i F2 H2 s2 I.sm I.st
    by_cases hlt : i < ds.length
    · refine .inr ⟨J1 hlt, fun H' => ∃ F s acc done rest, LcInv X.K dk Dl F1 H1 b ds all s' (i + 1) H' F s acc done rest, fun H' z => ⟨ds.length - (i + 1), by omega, rfl, z⟩, fun x H' y => ?_⟩
      obtain ⟨F3, d, hd, n3, rd⟩ := J3 x H' hlt y
      have hc2 := I.cm
      rw [drop_cons hd, compD] at hc2
      -- the turn
      cases hx : b d s2 with
      | bad => rw [hx] at hc2; cases hc2
      | raise _ _ => rw [hx] at hc2; cases hc2
      | ok o s3 =>
        rw [hx] at hc2
        have hc3 : ((compD b (ds.drop (i + 1)) s3).bind fun ys s => R.ok (o.toList ++ ys) s) = R.ok rest s' := hc2
        cases hr : compD b (ds.drop (i + 1)) s3 with
        | bad => rw [hr] at hc3; cases hc3
        | raise _ _ => rw [hr] at hc3; cases hc3
        | ok rest' s4 =>
          rw [hr] at hc3
          have hc4 : R.ok (o.toList ++ rest') s4 = R.ok rest s' := hc3
          have erest : rest = o.toList ++ rest' := by cases hc4; rfl
          have es4 : s4 = s' := by cases hc4; rfl
          subst es4
          rw [← hb] at hx
          unfold elemD at hx
          split at hx
          case h_2 => cases hx
          rename_i l hl
          split at hx
          case isFalse => cases hx
          rename_i hpi
          refine hg _ _ _ _ ⟨dk, F3, d, l, n3.st.sub, rd, hl, fun lv pr => ?_⟩
          have hin : ∀ p ∈ lv, p.1 ∈ own.map (·.2) := by
            intro p' hp
            have h1 : p'.1 ∈ l.map (·.1) := by rw [← pr.1]; exact List.mem_map.mpr ⟨p', hp, rfl⟩
            obtain ⟨p2, hp2, e2⟩ := List.mem_map.mp h1
            have z := List.all_eq_true.mp hpi p2 hp2
            rw [← e2]
            simpa using z
          refine ⟨wipe_setV hin, ?_⟩
          have er3 : EnvR X.K dk F3 (setV (L2.wipe σ (own.map (·.2))) lv) (setD (wipeE δ (own.map (·.2))) l) := EnvR.setAll pr ((er.mono (n1.sm.trans (I.sm.trans n3.sm))).wipe _)
          have hD3 : H' Dl = some (.lst acc) := n3.fr _ _ hne I.hd
          refine ht _ _ _ ⟨dk, _, s2, F3, er3, n3.st, ?_⟩
          cases hct : c (setD (wipeE δ (own.map (·.2))) l) s2 with
          | bad => rw [hct] at hx; cases hx
          | raise _ _ => rw [hct] at hx; cases hx
          | ok k s5 =>
            rw [hct] at hx
            have hx' : (if k = true then (e (setD (wipeE δ (own.map (·.2))) l) s5).bind fun y s => R.ok (some y) s else R.ok none s5) = R.ok o s3 := hx
            intro k' F4 H4 n4 rk
            have rk : k' = k := rk
            subst rk
            have hD4 : H4 Dl = some (.lst acc) := n4.fr _ _ hne hD3
            have hF3 : F3 Dl = none := n3.pv _ I.fd (by rw [I.hd]; exact fun z => by cases z)
            have hF4 : F4 Dl = none := n4.pv _ hF3 (by rw [hD3]; exact fun z => by cases z)
            have n24 := n3.trans n4
            have pv4 : ∀ b, F1 b = none → H1 b ≠ none → F4 b = none := fun b h1 h2 => by
              by_cases hb : b = dk
              · rw [hb]; exact n4.st.fdk
              · exact n24.pv b (I.pv b h1 h2) (Fr.there (dk := dk) (fun c o hc h => I.fr c o hc h) hb h2)
            cases k' with
            | false =>
              rw [if_neg Bool.false_ne_true] at hx' ⊢
              cases hx'
              exact ⟨F4, _, acc, done, rest', I.sm.trans n24.sm, n4.st, fun b u hb h => n24.fr _ _ hb (I.fr b u hb h), pv4, hF4, hD4, I.ra.mono n24.sm, hlt, Nat.le_succ_of_le I.dl, hr, by rw [I.al, erest]; rfl⟩
            | true =>
              rw [if_pos rfl] at hx' ⊢
              refine he _ _ _ ⟨dk, _, s5, F4, er3.mono n4.sm, n4.st, ?_⟩
              cases hey : e (setD (wipeE δ (own.map (·.2))) l) s5 with
              | bad => rw [hey] at hx'; cases hx'
              | raise _ _ => rw [hey] at hx'; cases hx'
              | ok y s6 =>
                rw [hey] at hx'
                have hx2 : R.ok (some y) s6 = R.ok o s3 := hx'
                cases hx2
                intro v F5 H5 n5 rv
                have hD5 : H5 Dl = some (.lst acc) := n5.fr _ _ hne hD4
                have hF5 : F5 Dl = none := n5.pv _ hF4 (by rw [hD4]; exact fun z => by cases z)
                have n25 := n24.trans n5
                have hal2 : all = (done ++ [y]) ++ rest' := by rw [I.al, erest, List.append_assoc]; rfl
                have hlen2 : done.length + 1 ≤ all.length := by rw [hal2, List.length_append, List.length_append]; simp only [List.length_cons, List.length_nil]; omega
                have hacc := I.ra.length
                have hle : done.length + 1 ≤ sizeLine := Nat.le_trans hlen2 hlen
                refine ⟨acc, hD5, by omega, F5, _, acc ++ [v], done ++ [y], rest', I.sm.trans n25.sm, Nxt.upd (o := .lst []) n5.st hF5 hne, fun b u hb hu => ?_, fun b h1 h2 => ?_, hF5, upd_same, (I.ra.mono n25.sm).append (.cons rv .nil), hlt, by have := I.dl; simp; omega, hr, hal2⟩
                · rw [upd_ne (hnD hu)]
                  exact n25.fr _ _ hb (I.fr b u hb hu)
                · by_cases hb : b = dk
                  · rw [hb]; exact n5.st.fdk
                  · exact n25.pv b (I.pv b h1 h2) (Fr.there (dk := dk) (fun c o hc h => I.fr c o hc h) hb h2)
    · have ei : i = ds.length := by have := I.le; omega
      subst ei
      refine .inl ⟨J2 (Nat.le_refl _), ?_⟩
      have hc2 := I.cm
      rw [List.drop_length] at hc2
      have hc3 : R.ok [] s2 = R.ok rest s' := hc2
      cases hc3
      have hal := I.al
      rw [List.append_nil] at hal
      subst hal
      have sm2 : Same F2 (upd F2 Dl (.lst acc)) := fun b u h => by rw [upd_ne (fun z => by rw [z, I.fd] at h; cases h)]; exact h
      obtain ⟨cl2, k1, k2⟩ := I.st.deck
      refine q2 (.ref Dl) (upd F2 Dl (.lst acc)) H2 ⟨I.sm.trans sm2, ⟨fun b u h => ?_, by rw [upd_ne (Ne.symm hne)]; exact I.st.fdk, cl2, k1, sm2 _ _ k2⟩, fun b o hb h => I.fr b o hb h, fun b h1 h2 => ?_⟩ (.lst upd_same (I.ra.mono sm2))
      · by_cases hb : b = Dl
        · rw [hb] at h ⊢; rw [upd_same] at h; rw [I.hd]; exact h
        · rw [upd_ne hb] at h; exact I.st.sub b u h
      · rw [upd_ne (fun z => h2 (by rw [z]; exact hDl))]
        exact I.pv b h1 h2
theorem ev_lc (hc : X.calm = true) (hN : X.N.Nodup) (hi : IV X W tg iter src) (ok : BlkOk X.N X.env.scope scope own)
    (hg : ∀ (s : Shared) (H : Hp) (C : Addr) (cl : List (Str × Addr)) (fp : List Addr), GV (X.blk s H scope (compEnvC scope cl C X.env) fp) tg p) (ht : ∀ (s : Shared) (H : Hp) (C : Addr) (cl : List (Str × Addr)) (fp : List Addr), TsV (X.blk s H scope (compEnvC scope cl C X.env) fp) W0 ifs c)
    (he : ∀ (s : Shared) (H : Hp) (C : Addr) (cl : List (Str × Addr)) (fp : List Addr), EV (X.blk s H scope (compEnvC scope cl C X.env) fp) W0 elt e) (hs : ∀ x, foldedSetIterable iter X.env x = pure x := by intro _; rfl) :
    EV X W (.ListComp elt [⟨tg, iter, ifs, 0⟩] scope pos) (lcD src p (own.map (·.2)) c e) :=
  pe_weak (pe_lc (wi := tIV X.K X.mg W src) (g := tGV X.K p) (tt := tTV X.K X.mg W0 c) (te := tEV X.K X.mg W0 e) hc hN hi ok hg ht he hs) fun σ H Q q => lc_core (fun _ _ _ z => z) (fun _ _ _ _ z => z) (fun _ _ _ z => z) (fun _ _ _ z => z) q
end
end FL

namespace FL
open PySem PySem.Spec L2

/-! ### statements -/
inductive RS where
  | nx (δ : DEnv) (s : Deck)
  | rt (d : D) (s : Deck)
  | bk (δ : DEnv) (s : Deck)
  | ct (δ : DEnv) (s : Deck)
  | raise (e : Ex) (δ : DEnv) (s : Deck)
  | bad
abbrev FS := DEnv → Deck → RS
/-- what is wanted behind a statement that began at slots σ0 -/
def SPost (K : PySem.W.Frag) (mg : Str → Option Value) (dk : Addr) (W : WX) (F H : Hp) (Dn : Ends) : RS → Prop
  | .nx δ s => ∀ σ' F' H', Nxt K dk F H F' H' s → EnvR K dk F' σ' δ → Dn.nx σ' H'
  | .bk δ s => ∀ σ' F' H', Nxt K dk F H F' H' s → EnvR K dk F' σ' δ → Dn.bk σ' H'
  | .ct δ s => ∀ σ' F' H', Nxt K dk F H F' H' s → EnvR K dk F' σ' δ → Dn.ct σ' H'
  | .rt d s => ∀ v F' H', Nxt K dk F H F' H' s → Rp K dk F' v d → Dn.rt v H'
  | .raise e δ s => ∀ σ' C dd F' H', Nxt K dk F H F' H' s → EnvR K dk F' σ' δ → CNm K e.cls C → ExAt K dk F' dd e → W (.ref C) (some dd) σ' H'
  | .bad => False
theorem SPost.later {K : PySem.W.Frag} {mg : Str → Option Value} {dk : Addr} {W : WX} {F H F1 H1 : Hp} {s1 : Deck} {Dn : Ends} {r : RS} (n : Nxt K dk F H F1 H1 s1) (h : SPost K mg dk W F H Dn r) : SPost K mg dk W F1 H1 Dn r := by
  cases r with
  | nx δ s => exact fun σ' F' H' n' er => h σ' F' H' (n.trans n') er
  | bk δ s => exact fun σ' F' H' n' er => h σ' F' H' (n.trans n') er
  | ct δ s => exact fun σ' F' H' n' er => h σ' F' H' (n.trans n') er
  | rt d s => exact fun v F' H' n' rr => h v F' H' (n.trans n') rr
  | raise e δ s => exact fun σ' C dd F' H' n' er hm hx => h σ' C dd F' H' (n.trans n') er hm hx
  | bad => exact h
def tSV (K : PySem.W.Frag) (mg : Str → Option Value) (W : WX) (g : FS) : TS := fun Dn σ H => ∃ dk δ s F, EnvR K dk F σ δ ∧ Stt K dk F H s ∧ SPost K mg dk W F H Dn (g δ s)
def SV (X : Cx) (W : WX) (st : Stmt) (g : FS) : Prop := PS X st (tSV X.K X.mg W g)
def BV (X : Cx) (W : WX) (st : List Stmt) (g : FS) : Prop := PSs X st (tSV X.K X.mg W g)
/-- an expression's value goes on to a statement's end -/
def R.toS {α : Type} (δ : DEnv) (r : R α) (k : α → Deck → RS) : RS := match r with
  | .ok a s => k a s
  | .raise e s => .raise e δ s
  | .bad => .bad
theorem SPost.ofE {α β : Type} {K : PySem.W.Frag} {mg : Str → Option Value} {dk : Addr} {RR : Hp → β → α → Prop} {W : WX} {σ : List (Option V)} {δ : DEnv} {F H : Hp} {Dn : Ends} {r : R α} {k : α → Deck → RS} {P : β → Hp → Prop} (er : EnvR K dk F σ δ)
    (h : SPost K mg dk W F H Dn (r.toS δ k)) (kk : ∀ a s1 v F1 H1, Nxt K dk F H F1 H1 s1 → RR F1 v a → SPost K mg dk W F1 H1 Dn (k a s1) → P v H1) : EPost K mg dk RR (WE W σ) F H P r := by
  cases r with
  | ok a s1 => exact fun v F' H' n rr => kk a s1 v F' H' n rr (SPost.later n h)
  | raise e s1 => exact fun C dd F' H' n hm hx => h σ C dd F' H' n (er.mono n.sm) hm hx
  | bad => exact h
def seqS (f g : FS) : FS := fun δ s => match f δ s with
  | .nx δ' s' => g δ' s'
  | r => r
section
variable {X : Cx} {W : WX} {st : Stmt} {rest body : List Stmt} {e c tg iter : Expr} {f : FE} {fc : FT} {g h : FS} {fs src : FA} {pos : Pos} {p : Pat}
theorem bv_nil : BV X W [] (fun δ s => .nx δ s) := pss_weak pss_nil fun Dn σ H ⟨dk, δ, s, F, er, st, q⟩ => q σ F H (Nxt.refl st) er
theorem bv_cons (h1 : SV X W st g) (h2 : BV X W rest h) : BV X W (st :: rest) (seqS g h) := by
  refine pss_weak (pss_cons h1 h2) fun Dn σ H ⟨dk, δ, s, F, er, st, q⟩ => ?_
  refine ⟨dk, δ, s, F, er, st, ?_⟩
  unfold seqS at q
  cases hg : g δ s with
  | nx δ' s' =>
    rw [hg] at q
    exact fun σ' F' H' n er' => ⟨dk, δ', s', F', er', n.st, SPost.later n q⟩
  | bk δ' s' => rw [hg] at q; exact q
  | ct δ' s' => rw [hg] at q; exact q
  | rt d s' => rw [hg] at q; exact q
  | raise e δ' s' => rw [hg] at q; exact q
  | bad => rw [hg] at q; exact q
theorem bv_one (h1 : SV X W st g) : BV X W [st] g := pss_one h1
theorem sv_pass : SV X W (.Pass pos) (fun δ s => .nx δ s) := ps_weak ps_pass fun Dn σ H ⟨dk, δ, s, F, er, st, q⟩ => q σ F H (Nxt.refl st) er
def dropS (f : FE) : FS := fun δ s => (f δ s).toS δ fun _ s => .nx δ s
theorem sv_expr (he : EV X W e f) (hs : swapsWith e none pos.line X.env = pure false := by rfl) : SV X W (.Expr e pos) (dropS f) := by
  refine ps_weak (ps_expr he hs) fun Dn σ H ⟨dk, δ, s, F, er, st, q⟩ => ?_
  exact ⟨dk, δ, s, F, er, st, SPost.ofE er q fun a s1 v F1 H1 n rr q1 => q1 σ F1 H1 (Nxt.refl n.st) (er.mono n.sm)⟩
def retS (f : FE) : FS := fun δ s => (f δ s).toS δ fun d s => .rt d s
theorem sv_ret (he : EV X W e f) : SV X W (.Return (some e) pos) (retS f) := by
  refine ps_weak (ps_ret he) fun Dn σ H ⟨dk, δ, s, F, er, st, q⟩ => ?_
  exact ⟨dk, δ, s, F, er, st, SPost.ofE er q fun a s1 v F1 H1 n rr q1 => q1 v F1 H1 (Nxt.refl n.st) rr⟩
def setS (i : Nat) (f : FE) : FS := fun δ s => (f δ s).toS δ fun d s => .nx (δ.set i (some d)) s
theorem sv_set {i : Nat} {e' : Expr} (h : ∀ te, PE X e te → PS X st (tAsg te (gName i))) (he : EV X W e f) : SV X W st (setS i f) := by
  refine ps_weak (h _ he) fun Dn σ H ⟨dk, δ, s, F, er, st, q⟩ => ?_
  exact ⟨dk, δ, s, F, er, st, SPost.ofE er q fun a s1 v F1 H1 n rr q1 => q1 _ F1 H1 (Nxt.refl n.st) ((er.mono n.sm).set rr)⟩
theorem sv_name {i : Nat} {x : Str} {pos' : Pos} (hN : X.N.Nodup) (hi : X.N[i]? = some x) (hx : Loc X.env.scope x) (he : EV X W e f) (hs : swapsWith e (some (.Name x pos')) pos.line X.env = pure false := by rfl) (hf : X.fn x = true ∨ X.env.scope.names.lookup x = some .local := by first | exact .inl rfl | exact .inr rfl | assumption) :
    SV X W (.Assign [.Name x pos'] e pos) (setS i f) := by
  refine ps_weak (ps_set hN hi hx he hs hf) fun Dn σ H ⟨dk, δ, s, F, er, st, q⟩ => ?_
  exact ⟨dk, δ, s, F, er, st, SPost.ofE er q fun a s1 v F1 H1 n rr q1 => q1 _ F1 H1 (Nxt.refl n.st) ((er.mono n.sm).set rr)⟩
/-- name = [..] -/
theorem sv_nameLc {i : Nat} {y : Str} {py : Pos} {elt : Expr} {ifs : List Expr} {scope : Scope} {own : List (Str × Nat)} {spos : Pos} {p : Pat} {fc : FT} {f : FE} (hc : X.calm = true) (hN : X.N.Nodup) (hy : X.N[i]? = some y) (hyl : X.env.scope.names.lookup y = some .local)
    (hsw : swapsWith (.ListComp elt [⟨tg, iter, ifs, 0⟩] scope pos) (some (.Name y py)) spos.line X.env = pure true) (hi : IV X W tg iter src) (ok : BlkOk X.N X.env.scope scope own)
    (hg : ∀ (s : Shared) (H : Hp) (C : Addr) (cl : List (Str × Addr)) (fp : List Addr), GV (X.blk s H scope (compEnvC scope cl C X.env) fp) tg p) (ht : ∀ (s : Shared) (H : Hp) (C : Addr) (cl : List (Str × Addr)) (fp : List Addr), TsV (X.blk s H scope (compEnvC scope cl C X.env) fp) W0 ifs fc)
    (he : ∀ (s : Shared) (H : Hp) (C : Addr) (cl : List (Str × Addr)) (fp : List Addr), EV (X.blk s H scope (compEnvC scope cl C X.env) fp) W0 elt f) (hs : ∀ x, foldedSetIterable iter X.env x = pure x := by intro _; rfl) :
    SV X W (.Assign [.Name y py] (.ListComp elt [⟨tg, iter, ifs, 0⟩] scope pos) spos) (setS i (lcD src p (own.map (·.2)) fc f)) := by
  refine ps_weak (ps_setLc (wi := tIV X.K X.mg W src) (g := tGV X.K p) (tt := tTV X.K X.mg W0 fc) (te := tEV X.K X.mg W0 f) hc hN hy hyl hsw hi ok hg ht he hs) fun Dn σ H ⟨dk, δ, s, F, er, st, q⟩ => ?_
  refine lc_core (W := W) (src := src) (p := p) (c := fc) (e := f) (fun _ _ _ z => z) (fun _ _ _ _ z => z) (fun _ _ _ z => z) (fun _ _ _ z => z) ⟨dk, δ, s, F, er, st, SPost.ofE er q fun a s1 v F1 H1 n rr q1 => q1 _ F1 H1 (Nxt.refl n.st) ((er.mono n.sm).set rr)⟩
def asgS (p : Pat) (f : FE) : FS := fun δ s => (f δ s).toS δ fun d s => match asgP p d with
  | some l => .nx (setD δ l) s
  | none => .bad
theorem sv_asg (he : EV X W e f) (hg : GV X tg p) (hs : swapsWithSole [tg] e pos.line X.env = pure false := by rfl) (hw : swappedStores [tg] e X.env = pure none := by rfl) (h1 : (assignEach [tg] X.env).map (·.2) = [assign tg X.env] := by rfl) :
    SV X W (.Assign [tg] e pos) (asgS p f) := by
  refine ps_weak (ps_asg he hg hs hw h1) fun Dn σ H ⟨dk, δ, s, F, er, st, q⟩ => ?_
  refine ⟨dk, δ, s, F, er, st, SPost.ofE er q fun a s1 v F1 H1 n rr q1 => ?_⟩
  split at q1
  · rename_i l hl
    exact ⟨dk, F1, a, l, n.st.sub, rr, hl, fun lv pr => q1 _ F1 H1 (Nxt.refl n.st) (EnvR.setAll pr (er.mono n.sm))⟩
  · exact q1.elim
/-- a, b = x, y -/
def parS (i j : Nat) (fs : FA) : FS := fun δ s => (fs δ s).toS δ fun ds s => match ds with
  | [d, e] => .nx ((δ.set i (some d)).set j (some e)) s
  | _ => .bad
theorem sv_par {i j : Nat} {x y : Str} {a b : Expr} {px py pt : Pos} {kt k2 pt2} (hc : X.calm = true) (hN : X.N.Nodup) (hi : X.N[i]? = some x) (hj : X.N[j]? = some y) (hij : i ≠ j)
    (hx : X.env.scope.names.lookup x = some .local) (hy : X.env.scope.names.lookup y = some .local) (ha : AV X W [a, b] fs)
    (hw : swappedStores [.Tuple [.Name x px, .Name y py] kt pt] (.Tuple [a, b] k2 pt2) X.env = pure (some [x, y]))
    (hs : swapsWithSole [.Tuple [.Name x px, .Name y py] kt pt] (.Tuple [a, b] k2 pt2) pos.line X.env = pure false := by rfl) :
    SV X W (.Assign [.Tuple [.Name x px, .Name y py] kt pt] (.Tuple [a, b] k2 pt2) pos) (parS i j fs) := by
  refine ps_weak (ps_par hc hN hi hj hij hx hy ha hw hs) fun Dn σ H ⟨dk, δ, s, F, er, st, q⟩ => ?_
  refine ⟨dk, δ, s, F, er, st, SPost.ofE er q fun a s1 v F1 H1 n rr q1 => ?_⟩
  split at q1
  · cases rr with
    | cons r1 r2 =>
      cases r2 with
      | cons r3 r4 =>
        cases r4
        exact ⟨_, _, rfl, q1 _ F1 H1 (Nxt.refl n.st) (((er.mono n.sm).set r1).set r3)⟩
  · exact q1.elim
def parS3 (i j l : Nat) (fs : FA) : FS := fun δ s => (fs δ s).toS δ fun ds s => match ds with
  | [d, e, h] => .nx (((δ.set i (some d)).set j (some e)).set l (some h)) s
  | _ => .bad
def iteS (c : FT) (g h : FS) : FS := fun δ s => (c δ s).toS δ fun k s => if k = true then g δ s else h δ s
theorem sv_if {a b : List Stmt} (hc : TV X W c fc) (ha : BV X W a g) (hb : BV X W b h) : SV X W (.If c a b pos) (iteS fc g h) := by
  refine ps_weak (ps_if hc ha hb) fun Dn σ H ⟨dk, δ, s, F, er, st, q⟩ => ?_
  refine ⟨dk, δ, s, F, er, st, SPost.ofE er q fun k s1 v F1 H1 n rr q1 => ?_⟩
  have rr : v = k := rr
  subst rr
  cases v with
  | true => exact ⟨dk, δ, s1, F1, er.mono n.sm, n.st, q1⟩
  | false => exact ⟨dk, δ, s1, F1, er.mono n.sm, n.st, q1⟩
theorem sv_break : SV X W (.Break pos) (fun δ s => .bk δ s) := ps_weak ps_break fun Dn σ H ⟨dk, δ, s, F, er, st, q⟩ => q σ F H (Nxt.refl st) er
theorem sv_cont : SV X W (.Continue pos) (fun δ s => .ct δ s) := ps_weak ps_continue fun Dn σ H ⟨dk, δ, s, F, er, st, q⟩ => q σ F H (Nxt.refl st) er

/-! ### for -/
def forD (b : D → FS) : List D → FS
  | [], δ, s => .nx δ s
  | x :: xs, δ, s => match b x δ s with
    | .nx δ' s' => forD b xs δ' s'
    | .ct δ' s' => forD b xs δ' s'
    | .bk δ' s' => .nx δ' s'
    | r => r
def turnS (p : Pat) (b : FS) : D → FS := fun x δ s => match asgP p x with
  | some l => b (setD δ l) s
  | none => .bad
def forS (src : FA) (p : Pat) (b : FS) : FS := fun δ s => (src δ s).toS δ fun xs s => forD (turnS p b) xs δ s
theorem sv_for (hp : PassesOwn (model X.prog X.w) X.A X.env X.xe) (hc : X.calm = true) (hi : IV X W tg iter src) (hg : GV X tg p) (hb : BV X W body g) (hs : ∀ x, foldedSetIterable iter X.env x = pure x := by intro _; rfl) :
    SV X W (.For tg iter body [] pos) (forS src p g) := by
  refine ps_weak (ps_for hp hc hi hg hb hs) fun Dn σ H ⟨dk, δ, s, F, er, st, q⟩ => ?_
  refine ⟨dk, δ, s, F, er, st, SPost.ofE er q fun ds s1 J F1 H1 n1 it q1 => ?_⟩
  refine ⟨fun i m σ' H' => m = ds.length - i ∧ i ≤ ds.length ∧ ∃ δ' s' F', Nxt X.K dk F1 H1 F' H' s' ∧ EnvR X.K dk F' σ' δ' ∧ SPost X.K X.mg dk W F' H' Dn (forD (turnS p g) (ds.drop i) δ' s'), ⟨ds.length, by simp, Nat.zero_le _, δ, s1, F1, Nxt.refl n1.st, er.mono n1.sm, q1⟩, ?_⟩
  rintro i m σ2 H2 ⟨rfl, hi2, δ2, s2, F2, n2, er2, q2⟩
  obtain ⟨J1, J2, J3⟩ := it i F2 H2 s2 n2.sm n2.st
  by_cases hlt : i < ds.length
  · refine .inr ⟨J1 hlt, fun σ' H' => ∃ δ' s' F', Nxt X.K dk F1 H1 F' H' s' ∧ EnvR X.K dk F' σ' δ' ∧ SPost X.K X.mg dk W F' H' Dn (forD (turnS p g) (ds.drop (i + 1)) δ' s'), fun σ' H' z => ⟨ds.length - (i + 1), by omega, rfl, hlt, z⟩, fun x H' y => ?_⟩
    obtain ⟨F3, d, hd, n3, rd⟩ := J3 x H' hlt y
    rw [drop_cons hd, forD] at q2
    unfold turnS at q2
    cases hl : asgP p d with
    | none => rw [hl] at q2; exact q2.elim
    | some l =>
      rw [hl] at q2
      refine ⟨dk, F3, d, l, n3.st.sub, rd, hl, fun lv pr => ?_⟩
      refine ⟨dk, _, s2, F3, EnvR.setAll pr (er2.mono n3.sm), n3.st, ?_⟩
      have q3 := SPost.later n3 q2
      dsimp only at q3
      cases hg : g (setD δ2 l) s2 with
      | nx δ' s' =>
        rw [hg] at q3
        exact fun σ' F' H4 n4 er4 => ⟨δ', s', F', n2.trans (n3.trans n4), er4, SPost.later n4 q3⟩
      | ct δ' s' =>
        rw [hg] at q3
        exact fun σ' F' H4 n4 er4 => ⟨δ', s', F', n2.trans (n3.trans n4), er4, SPost.later n4 q3⟩
      | bk δ' s' => rw [hg] at q3; exact q3
      | rt d s' => rw [hg] at q3; exact q3
      | raise e δ' s' => rw [hg] at q3; exact q3
      | bad => rw [hg] at q3; exact q3
  · have ei : i = ds.length := by omega
    subst ei
    rw [List.drop_length, forD] at q2
    exact .inl ⟨J2 (Nat.le_refl _), q2 σ2 F2 H2 (Nxt.refl n2.st) er2⟩

/-! ### while: with so many turns at most -/
def whileD (c : FT) (b : FS) : Nat → FS
  | 0, _, _ => .bad
  | n + 1, δ, s => (c δ s).toS δ fun k s => if k = true then (match b δ s with
    | .nx δ' s' => whileD c b n δ' s'
    | .ct δ' s' => whileD c b n δ' s'
    | .bk δ' s' => .nx δ' s'
    | r => r) else .nx δ s
def whileS (fuel : DEnv → Deck → Nat) (c : FT) (b : FS) : FS := fun δ s => whileD c b (fuel δ s) δ s
theorem sv_while {fuel : DEnv → Deck → Nat} (hp : PassesOwn (model X.prog X.w) X.A X.env X.xe) (hc : TV X W c fc) (hb : BV X W body g) : SV X W (.While c body [] pos) (whileS fuel fc g) := by
  refine ps_weak (ps_while hp hc hb) fun Dn σ H ⟨dk, δ, s, F, er, st, q⟩ => ?_
  refine ⟨fun m σ' H' => ∃ δ' s' F', Stt X.K dk F' H' s' ∧ EnvR X.K dk F' σ' δ' ∧ SPost X.K X.mg dk W F' H' Dn (whileD fc g m δ' s'), ⟨fuel δ s, δ, s, F, st, er, q⟩, ?_⟩
  rintro m σ2 H2 ⟨δ2, s2, F2, st2, er2, q2⟩
  cases m with
  | zero => exact q2.elim
  | succ m =>
    rw [whileD] at q2
    refine ⟨dk, δ2, s2, F2, er2, st2, SPost.ofE er2 q2 fun k s3 v F3 H3 n3 rr q3 => ?_⟩
    have rr : v = k := rr
    subst rr
    cases v with
    | false => exact q3 σ2 F3 H3 (Nxt.refl n3.st) (er2.mono n3.sm)
    | true =>
      rw [if_pos rfl] at q3 ⊢
      refine ⟨fun σ' H' => ∃ δ' s' F', Stt X.K dk F' H' s' ∧ EnvR X.K dk F' σ' δ' ∧ SPost X.K X.mg dk W F' H' Dn (whileD fc g m δ' s'), fun σ' H' z => ⟨m, Nat.lt_succ_self m, z⟩, dk, δ2, s3, F3, er2.mono n3.sm, n3.st, ?_⟩
      cases hg : g δ2 s3 with
      | nx δ' s' =>
        rw [hg] at q3
        exact fun σ' F' H4 n4 er4 => ⟨δ', s', F', n4.st, er4, SPost.later n4 q3⟩
      | ct δ' s' =>
        rw [hg] at q3
        exact fun σ' F' H4 n4 er4 => ⟨δ', s', F', n4.st, er4, SPost.later n4 q3⟩
      | bk δ' s' => rw [hg] at q3; exact q3
      | rt d s' => rw [hg] at q3; exact q3
      | raise e δ' s' => rw [hg] at q3; exact q3
      | bad => rw [hg] at q3; exact q3
end

/-! ### a def -/
/-- a def's worth, by its body's -/
def toR : RS → R D
  | .rt d s => .ok d s
  | .nx _ s => .ok .non s
  | .raise e _ s => .raise e s
  | _ => .bad
/-- the slots at the start: the arguments, then nothing -/
def startD (n : Nat) (ds : List D) : DEnv := ds.map some ++ List.replicate (n - ds.length) none
def defM (n : Nat) (g : FS) : List D → M D := fun ds s => toR (g (startD n ds) s)
section
variable {P : Program} {w : World} {K : PySem.W.Frag} {mg : Str → Option Value} {base : Heap}
theorem start_env {K : PySem.W.Frag} {dk : Addr} {F : Hp} {N : List Str} {vs : List V} {ds : List D} (h : RpAll K dk F vs ds) (hl : vs.length ≤ N.length) : EnvR K dk F (L2.start N vs) (startD N.length ds) := by
  have e := h.length
  refine ⟨by unfold L2.start startD; simp; omega, fun i d q => ?_⟩
  unfold startD at q
  by_cases hi : i < ds.length
  · rw [List.getElem?_append_left (by simpa using hi), List.getElem?_map] at q
    cases hd : ds[i]? with
    | none => rw [hd] at q; cases q
    | some d' =>
      rw [hd] at q
      have q' : some (some d') = some (some d) := q
      cases q'
      obtain ⟨v, hv, r⟩ := h.get hd
      refine ⟨v, ?_, r⟩
      unfold L2.start
      rw [List.getElem?_append_left (by simp; omega), List.getElem?_map, hv]
      rfl
  · rw [List.getElem?_append_right (by simpa using Nat.le_of_not_lt hi)] at q
    have z := List.mem_of_getElem? q
    have z2 := List.eq_of_mem_replicate z
    cases z2
theorem fn_def {x qual : Str} {st : Stmt} {f : Addr} {fd : FuncData} {N ps : List Str} {k : Nat} {g : FS} (Fn : Fun K x qual st f fd) (S : FnScope N ps (defScope st)) (hN : ps.length ≤ N.length)
    (hbody : ∀ (cdv : Value) (A : Around) (outer : List Env) (s : Shared) (H : Hp) (E : XK), Room k (A.deeper (PyProof.Rows.envOfC qual (defScope st) s.heap.objs.size f cdv)) →
      BV (cxOf (L2.CX P w) P w K mg base N qual (defScope st) f cdv A outer s H E) (fun cls d _ H => E cls d H) (defBody st) g) : FnOk P w K mg base (L2.CX P w) (k + 1) f fd ps (spD K mg ps.length (defM N.length g)) := by
  refine Fn.okX S (fun vs H Q E h => ?_) (fun cdv A outer s H vs Q E hr h => ?_)
  · obtain ⟨dk, ds, s, F, st, r, hl, _⟩ := h
    rw [r.length, hl]
  · obtain ⟨dk, ds, sd, F, st, r, hl, q⟩ := h
    refine ⟨_, hbody cdv A outer s H E hr, dk, startD N.length ds, sd, F, start_env r (by rw [r.length, hl]; exact hN), st, ?_⟩
    unfold defM at q
    cases hg : g (startD N.length ds) sd with
    | nx δ' s' => rw [hg] at q; exact fun σ' F' H' n er => q .non F' H' n .non
    | rt d s' => rw [hg] at q; exact fun v F' H' n rr => q v F' H' n rr
    | raise e δ' s' => rw [hg] at q; exact fun σ' C dd F' H' n er hm hx => q C dd F' H' n hm hx
    | bk δ' s' => rw [hg] at q; exact q.elim
    | ct δ' s' => rw [hg] at q; exact q.elim
    | bad => rw [hg] at q; exact q.elim
end
end FL

namespace FL
open PySem PySem.Spec L2

/-! ### defs that are called where nothing is being shown (repr) -/
structure FnG (P : Program) (w : World) (K : PySem.W.Frag) (mg : Str → Option Value) (base : Heap) (k : Nat) (f : Addr) (fd : FuncData) (ps : List Str) (sp : Sp) : Prop where
  len : ∀ vs H Q E, sp vs H Q E → vs.length = ps.length
  run : ∀ (A : Around) (outer : List Env) (s : Shared) (H : Hp) (args : Args) (us : List Value) (vs : List V) (Q : VK) (E : XK), Room k A → A.guards = some [] → Env0 P w K mg base A outer s H →
    BindsTo s fd args (ps.zip us) → Vals vs us → sp vs H Q E → codeAny (model P w) A (.call (.ref f) args) (CR (L2.CX P w) outer P w H s Q E) s
theorem FnG.mono {P : Program} {w : World} {K : PySem.W.Frag} {mg : Str → Option Value} {base : Heap} {j k : Nat} {f : Addr} {fd : FuncData} {ps : List Str} {sp : Sp} (Fn : FnG P w K mg base j f fd ps sp) (h : j ≤ k) : FnG P w K mg base k f fd ps sp :=
  ⟨Fn.len, fun A outer s H args us vs Q E hr => Fn.run A outer s H args us vs Q E (hr.mono h)⟩
theorem FnG.imp {P : Program} {w : World} {K : PySem.W.Frag} {mg : Str → Option Value} {base : Heap} {k : Nat} {f : Addr} {fd : FuncData} {ps : List Str} {sp sp' : Sp} (Fn : FnG P w K mg base k f fd ps sp) (h : ∀ vs H Q E, sp' vs H Q E → sp vs H Q E) : FnG P w K mg base k f fd ps sp' :=
  ⟨fun vs H Q E q => Fn.len vs H Q E (h _ _ _ _ q), fun A outer s H args us vs Q E hr hg e0 hb hv hs => Fn.run A outer s H args us vs Q E hr hg e0 hb hv (h _ _ _ _ hs)⟩
theorem fn_ofG {P : Program} {w : World} {K : PySem.W.Frag} {mg : Str → Option Value} {base : Heap} {x qual : Str} {st : Stmt} {f : Addr} {fd : FuncData} {N ps : List Str} {k : Nat} {sp : Sp} (Fn : Fun K x qual st f fd) (S : FnScope N ps (defScope st))
    (len : ∀ vs H Q E, sp vs H Q E → vs.length = ps.length)
    (hbody : ∀ (cdv : Value) (A : Around) (outer : List Env) (s : Shared) (H : Hp) (vs : List V) (Q : VK) (E : XK), Room k (A.deeper (PyProof.Rows.envOfC qual (defScope st) s.heap.objs.size f cdv)) → A.guards = some [] → sp vs H Q E →
      ∃ t, PSs (cxOf (L2.CX P w) P w K mg base N qual (defScope st) f cdv A outer s H E) (defBody st) t ∧ t { nx := fun _ H' => Q .non H', rt := Q } (L2.start N vs) H) : FnG P w K mg base (k + 1) f fd ps sp := by
  obtain ⟨oc, od, kV, doc, pm, an, cdv, ct, osl, rfl, lk, hcd⟩ := Fn.ex
  refine ⟨len, fun A outer s H args us vs Q E room hgd e0 bnd rel hsp => ?_⟩
  have hlen := len _ _ _ _ hsp
  have keep0 : ∀ b o, base.get? b = some o → s.heap.get? b = some o := fun b o e => (e0.bs b o e).1
  have kin : K.In s.heap := e0.mod.kin.keeps keep0
  have lim : s.heap.NoLimit := e0.mod.nolimit.keeps keep0
  refine codeAny_call_function room.depth (kin _ _ lk) rfl S.co S.gen rfl (PySem.W.codeRec_of kin hcd) (bnd _ _ _ _ ?_)
  refine wpAny_newFunctionEnv_cells S.kind (fun y hy => ?_) fun env he s1 cells => ?_
  · obtain ⟨n, v⟩ := y
    cases S.par n (List.of_mem_zip hy).1 with
    | inl q => exact .inl q
    | inr q => exact .inr ⟨q, PySem.W.cellsFrom_some _ _ _ (.inl q)⟩
  subst he
  refine ⟨lim.keeps cells.toInCall.keep, codeAny_func ?_⟩
  obtain ⟨t, ht, hq⟩ := hbody cdv A outer s H vs Q E (room.deeper _) hgd hsp
  have I := inv_start (CX := L2.CX P w) (E := E) S room.hd e0 hlen rel cells
  refine wpAny_mono (ht.run [] s1 (L2.start N vs) H _ I hq) (fun fl s' hs => ?_) fun e s' hs => hs
  cases fl with
  | ret u =>
    obtain ⟨v, σ', H', J, rv, q⟩ := hs
    exact ⟨v, H', J.os, J.bare, J.base, J.hok, rv, q⟩
  | next =>
    obtain ⟨σ', H', J, q⟩ := hs
    exact ⟨V.non, H', J.os, J.bare, J.base, J.hok, rfl, q⟩
  | brk => exact hs.elim fun _ h => h.elim fun _ h => h.2.elim
  | cont => exact hs.elim fun _ h => h.elim fun _ h => h.2.elim
section
variable {X : Cx} {k : Nat} {f : Addr} {fd : FuncData} {ps : List Str} {sp : Sp} {E : List (Option V) → XK} {x : Str} {p pos : Pos} {e : Expr} {es : List Expr} {t : TA} {ds : List Value} {dvs : List V}
theorem run_fnG {pins : List (Addr × Obj)} {σ : List (Option V)} {H : Hp} {s : Shared} {Q : VK} {us : List Value} {vs : List V} (Fn : FnG X.prog X.w X.K X.mg X.base k f fd ps sp) (hr : Room k X.A) (hgd : X.A.guards = some []) (hb : Binds X.K fd ps ds) (hd : Vals dvs ds) (hx : PassesAt (L2.CX X.prog X.w) X σ (E σ))
    (I : Inv X pins σ H s) (r : Vals vs us) (h : sp (vs ++ dvs) H Q (E σ)) : wpAny (model X.prog X.w) X.A (call (.ref f) us) (EP X pins σ Q) X.xe s := by
  have r2 := r.append hd
  have len2 : (us ++ ds).length = ps.length := by rw [← r2.length]; exact Fn.len _ _ _ _ h
  refine wpAny_call (codeAny_mono (Fn.run X.A X.stack s H ⟨us, []⟩ (us ++ ds) (vs ++ dvs) Q (E σ) hr hgd I.env0 (hb s us I.kIn len2) r2 h) fun r' s' hq => ?_)
  cases r' with
  | error er => exact hx pins H s er s' I hq
  | ok fl =>
    cases fl with
    | ret u => exact I.after hq
    | next => exact hq.elim
    | brk => exact hq.elim
    | cont => exact hq.elim
theorem pe_callG (Fn : FnG X.prog X.w X.K X.mg X.base k f fd ps sp) (hr : Room k X.A) (hgd : X.A.guards = some []) (hg : Gl X x) (hm : X.mg x = some (.ref f)) (hk : PySem.W.keepIn X.K (.ref f) = true) (hb : Binds X.K fd ps ds) (hd : Vals dvs ds) (hx : ∀ σ, PassesAt (L2.CX X.prog X.w) X σ (E σ))
    (ha : PA X (e :: es) t) (hdb : (x == ("__debug__" : Str)) = false := by decide) (he : starEach (e :: es) X.env = (false, eval e X.env) :: starEach es X.env := by rfl) (hpl : (backTo pos (starEach es X.env)).any (·.1) = false := by rfl) :
    PE X (.Call (.Name x p) (e :: es) [] pos) (fun σ H Q => t σ H fun vs H1 => sp (vs ++ dvs) H1 Q (E σ)) := by
  refine ⟨fun pins s σ H Q I h => ?_⟩
  refine wpAny_Call_Name_kw (ld_glob I hg hm ?_ hdb)
  refine PySem.W.callWith_K (h₀ := X.base) I.ok.mod.kin hk (thn (ha.run pos pins s σ H _ I h) fun us s1 hh => ?_) he hpl
  obtain ⟨vs, H1, I1, r, q⟩ := hh
  exact ⟨I1.kIn, run_fnG Fn hr hgd hb hd (hx σ) I1 r q⟩
end
section
variable {X : Cx} {W : WX} {a : Expr} {es : List Expr} {fs : FA} {pos p : Pos}
theorem ev_callG {x : Str} {k n : Nat} {fn : Addr} {fd : FuncData} {ps : List Str} {m : List D → M D} (G : FnG X.prog X.w X.K X.mg X.base k fn fd ps (spD X.K X.mg n m)) (hr : Room k X.A) (hgd : X.A.guards = some []) (hg : Gl X x) (hm : X.mg x = some (.ref fn)) (hk : PySem.W.keepIn X.K (.ref fn) = true) (hb : Binds X.K fd ps [])
    (tk : Takes X W) (ha : AV X W (a :: es) fs) (hdb : (x == ("__debug__" : Str)) = false := by decide) (he : starEach (a :: es) X.env = (false, eval a X.env) :: starEach es X.env := by rfl) (hpl : (backTo pos (starEach es X.env)).any (·.1) = false := by rfl) :
    EV X W (.Call (.Name x p) (a :: es) [] pos) (withA fs (callN n m)) := by
  refine pe_weak (pe_callG (E := WE W) (dvs := []) G hr hgd hg hm hk hb .nil (fun σ => passAt tk σ) ha hdb he hpl) fun σ H Q ⟨dk, δ, s, F, er, st, q⟩ => ?_
  refine ⟨dk, δ, s, F, er, st, EPost.bind q fun xs s1 vs F1 H1 n r q1 => ?_⟩
  unfold callN at q1
  split at q1
  · rename_i hl
    rw [List.append_nil]
    exact ⟨dk, xs, s1, F1, n.st, r, hl, q1⟩
  · exact q1.elim
end
section
variable {P : Program} {w : World} {K : PySem.W.Frag} {mg : Str → Option Value} {base : Heap}
theorem fn_defG {x qual : Str} {st : Stmt} {f : Addr} {fd : FuncData} {N ps : List Str} {k : Nat} {g : FS} (Fn : Fun K x qual st f fd) (S : FnScope N ps (defScope st)) (hN : ps.length ≤ N.length)
    (hbody : ∀ (cdv : Value) (A : Around) (outer : List Env) (s : Shared) (H : Hp) (E : XK), Room k (A.deeper (PyProof.Rows.envOfC qual (defScope st) s.heap.objs.size f cdv)) → A.guards = some [] →
      BV (cxOf (L2.CX P w) P w K mg base N qual (defScope st) f cdv A outer s H E) (fun cls d _ H => E cls d H) (defBody st) g) : FnG P w K mg base (k + 1) f fd ps (spD K mg ps.length (defM N.length g)) := by
  refine fn_ofG Fn S (fun vs H Q E h => ?_) (fun cdv A outer s H vs Q E hr hgd h => ?_)
  · obtain ⟨dk, ds, s, F, st, r, hl, _⟩ := h
    rw [r.length, hl]
  · obtain ⟨dk, ds, sd, F, st, r, hl, q⟩ := h
    refine ⟨_, hbody cdv A outer s H E hr hgd, dk, startD N.length ds, sd, F, start_env r (by rw [r.length, hl]; exact hN), st, ?_⟩
    unfold defM at q
    cases hg : g (startD N.length ds) sd with
    | nx δ' s' => rw [hg] at q; exact fun σ' F' H' n er => q .non F' H' n .non
    | rt d s' => rw [hg] at q; exact fun v F' H' n rr => q v F' H' n rr
    | raise e δ' s' => rw [hg] at q; exact fun σ' C dd F' H' n er hm hx => q C dd F' H' n hm hx
    | bk δ' s' => rw [hg] at q; exact q.elim
    | ct δ' s' => rw [hg] at q; exact q.elim
    | bad => rw [hg] at q; exact q.elim
end
end FL

namespace FL
open PySem PySem.Spec L2

/-! ### operators on trees -/
def pureM (o : Option D) : M D := fun s => match o with
  | some d => .ok d s
  | none => .bad
theorem epost_pure {K : PySem.W.Frag} {mg : Str → Option Value} {dk : Addr} {Wx : XK} {F H : Hp} {s : Deck} {o : Option D} {Q : VK} (st : Stt K dk F H s) (q : EPost K mg dk (RelD K dk) Wx F H Q (pureM o s)) : ∃ d, o = some d ∧ ∀ v, Rp K dk F v d → Q v H := by
  cases o with
  | none => exact q.elim
  | some d => exact ⟨d, rfl, fun v r => EPost.ok q st r⟩
def addM (a b : D) : M D := match a, b with
  | .int i, .int j => fun s => .ok (.int (i + j)) s
  | .str x, .str y => fun s => if x.length + y.length ≤ 16777216 then .ok (.str (x ++ y)) s else .bad
  | .lst x, .lst y => mkLst (x ++ y)
  | _, _ => fun _ => .bad
def rAddM : R2 := fun x y H Q => (rI0 fun i j => .int (i + j)) x y H Q ∨ (∃ i j, x = .str i ∧ y = .str j ∧ i.length + j.length ≤ sizeLine ∧ Q (.str (i ++ j)) H) ∨ rCat x y H Q
section
variable {X : Cx}
theorem op_addM : OpR X (binaryOp .Add) rAddM := op_add.or (op_add_str.or op_cat)
theorem m_add : OpM X rAddM addM := by
  intro dk Wx F H s x y dx dy Q st rx ry q
  unfold addM at q
  split at q
  · cases rx; cases ry
    exact .inl ⟨_, _, rfl, rfl, EPost.ok q st (.int _)⟩
  · cases rx; cases ry
    split at q
    · rename_i hz
      exact .inr (.inl ⟨_, _, rfl, rfl, by rw [sizeLine_eq]; exact hz, EPost.ok q st (.str _)⟩)
    · exact q.elim
  · cases rx with
    | lst h1 k1 =>
      cases ry with
      | lst h2 k2 =>
        obtain ⟨hz, hq⟩ := epost_lst st (k1.append k2) q
        rw [List.length_append] at hz
        exact .inr (.inr ⟨_, _, _, _, rfl, rfl, st.sub _ _ h1, st.sub _ _ h2, hz, hq⟩)
  · exact q.elim
/-- ints, under a condition -/
def intM (c : Int → Int → Bool) (g : Int → Int → D) (a b : D) : M D := match a, b with
  | .int i, .int j => fun s => if c i j = true then .ok (g i j) s else .bad
  | _, _ => fun _ => .bad
theorem m_int {C : Int → Int → Prop} {c : Int → Int → Bool} {g : Int → Int → V} {g' : Int → Int → D} (hc : ∀ i j, c i j = true → C i j) (hg : ∀ i j K dk F, Rp K dk F (g i j) (g' i j)) : OpM X (rI C g) (intM c g') := by
  intro dk Wx F H s x y dx dy Q st rx ry q
  unfold intM at q
  split at q
  · cases rx; cases ry
    split at q
    · rename_i hz
      exact ⟨_, _, rfl, rfl, hc _ _ hz, EPost.ok q st (hg _ _ _ _ _)⟩
    · exact q.elim
  · exact q.elim
theorem m_int0 {g : Int → Int → V} {g' : Int → Int → D} (hg : ∀ i j K dk F, Rp K dk F (g i j) (g' i j)) : OpM X (rI0 g) (intM (fun _ _ => true) g') := by
  intro dk Wx F H s x y dx dy Q st rx ry q
  unfold intM at q
  split at q
  · cases rx; cases ry
    rw [if_pos rfl] at q
    exact ⟨_, _, rfl, rfl, EPost.ok q st (hg _ _ _ _ _)⟩
  · exact q.elim
def subM : D → D → M D := intM (fun _ _ => true) fun i j => .int (i - j)
theorem m_sub : OpM X (rI0 fun i j => .int (i - j)) subM := m_int0 fun _ _ _ _ _ => .int _
def mulB (i j : Int) : Bool := decide (i.natAbs.log2 + j.natAbs.log2 < 1000000)
def mul64 (i j : Int) : Bool := decide ((-(2 ^ 64) < i ∧ i < 2 ^ 64) ∨ (-(2 ^ 64) < j ∧ j < 2 ^ 64))
def mulM : D → D → M D := intM (fun i j => mulB i j || mul64 i j) fun i j => .int (i * j)
theorem op_mulA : OpR X (binaryOp .Mult) (rI (fun i j => CMulW i j ∨ CMul i j) fun i j => .int (i * j)) := opI fun i j t u s Q E hc q => PyProof.Rows.mul_int q (hc.elim CMulW.ok CMul.ok)
theorem m_mul : OpM X (rI (fun i j => CMulW i j ∨ CMul i j) fun i j => .int (i * j)) mulM := m_int (fun i j h => by
  rcases Bool.or_eq_true_iff.mp h with h | h
  · exact .inl (show i.natAbs.log2 + j.natAbs.log2 < 1000000 from of_decide_eq_true h)
  · exact .inr (show (-(2 ^ 64) < i ∧ i < 2 ^ 64) ∨ (-(2 ^ 64) < j ∧ j < 2 ^ 64) from of_decide_eq_true h)) fun _ _ _ _ _ => .int _
def modM : D → D → M D := intM (fun _ j => decide (0 < j)) fun i j => .int (i % j)
theorem m_mod : OpM X (rI (fun _ j => 0 < j) fun i j => .int (i % j)) modM := m_int (fun _ _ h => of_decide_eq_true h) fun _ _ _ _ _ => .int _
def divB (j : Int) : Bool := decide (0 < j ∧ j.natAbs.log2 < 9000)
def fdivM : D → D → M D := intM (fun _ j => divB j) fun i j => .int (i / j)
theorem m_fdiv : OpM X (rI CDivW fun i j => .int (i / j)) fdivM := m_int (fun _ j h => (show 0 < j ∧ j.natAbs.log2 < 9000 from of_decide_eq_true h)) fun _ _ _ _ _ => .int _
def powB (i j : Int) : Bool := decide (0 ≤ j ∧ j ≤ 1000000 ∧ i.natAbs < 2 ^ 64)
def powM : D → D → M D := intM powB fun i j => .int (i ^ j.toNat)
theorem m_pow : OpM X (rI CPow fun i j => .int (i ^ j.toNat)) powM := m_int (fun i j h => (show 0 ≤ j ∧ j ≤ 1000000 ∧ i.natAbs < 2 ^ 64 from of_decide_eq_true h)) fun _ _ _ _ _ => .int _
def ltM : D → D → M D := intM (fun _ _ => true) fun i j => .bl (decide (i < j))
def leM : D → D → M D := intM (fun _ _ => true) fun i j => .bl (decide (i ≤ j))
def gtM : D → D → M D := intM (fun _ _ => true) fun i j => .bl (decide (j < i))
def geM : D → D → M D := intM (fun _ _ => true) fun i j => .bl (decide (j ≤ i))
theorem m_lt : OpM X (rI0 fun i j => .bl (decide (i < j))) ltM := m_int0 fun _ _ _ _ _ => .bl _
theorem m_le : OpM X (rI0 fun i j => .bl (decide (i ≤ j))) leM := m_int0 fun _ _ _ _ _ => .bl _
theorem m_gt : OpM X (rI0 fun i j => .bl (decide (j < i))) gtM := m_int0 fun _ _ _ _ _ => .bl _
theorem m_ge : OpM X (rI0 fun i j => .bl (decide (j ≤ i))) geM := m_int0 fun _ _ _ _ _ => .bl _
def negM (d : D) : M D := match d with
  | .int i => fun s => .ok (.int (-i)) s
  | _ => fun _ => .bad

/-! ### equality -/
mutual
def py : D → Option PyData
  | .non => some .none
  | .bl b => some (.bool b)
  | .int i => some (.int i)
  | .str x => some (.str x)
  | .lst xs => (pys xs).map .list
  | .tup xs => (pys xs).map .tuple
  | .dct kvs => (pykv kvs).map .dict
  | .deck => none
  | .exc _ _ => none
def pys : List D → Option (List PyData)
  | [] => some []
  | x :: xs => (py x).bind fun a => (pys xs).map fun b => a :: b
def pykv : List (Key × D) → Option (List (PyData × PyData))
  | [] => some []
  | (k, x) :: xs => (py x).bind fun a => (pykv xs).map fun b => ((match k with | .inl i => PyData.int i | .inr z => PyData.str z), a) :: b
end
mutual
theorem dp_of {K : PySem.W.Frag} {dk : Addr} {F H : Hp} (sm : Same F H) : ∀ {v : V} {d : D} {p : PyData}, Rp K dk F v d → py d = some p → p.canLay0 = true → Dp K H v p
  | _, _, _, .non, e, _ => by unfold py at e; cases e; exact .non
  | _, _, _, .bl b, e, _ => by unfold py at e; cases e; exact .bl b
  | _, _, _, .int b, e, _ => by unfold py at e; cases e; exact .int b
  | _, _, _, .str b, e, _ => by unfold py at e; cases e; exact .str b
  | _, _, p, .lst (ds := ds) h k, e, c => by
    rw [py] at e
    cases e2 : pys ds with
    | none => rw [e2] at e; cases e
    | some ps =>
      rw [e2] at e; cases e
      exact .lst (SqL.of (sm _ _ h)) (dpAll_of sm k e2 (by simpa [PyData.canLay0] using c))
  | _, _, p, .tup (ds := ds) h k, e, c => by
    rw [py] at e
    cases e2 : pys ds with
    | none => rw [e2] at e; cases e
    | some ps =>
      rw [e2] at e; cases e
      exact .tup (seqT sm h) (dpAll_of sm k e2 (by simpa [PyData.canLay0] using c))
  | _, _, p, .dct (ds := ds) h k1 k, e, c => by
    rw [py] at e
    cases e2 : pykv ds with
    | none => rw [e2] at e; cases e
    | some ps =>
      rw [e2] at e; cases e
      simp [PyData.canLay0] at c
  | _, _, _, .deck, e, _ => by unfold py at e; cases e
  | _, _, _, .exc _ _ _ _ _, e, _ => by unfold py at e; cases e
theorem dpAll_of {K : PySem.W.Frag} {dk : Addr} {F H : Hp} (sm : Same F H) : ∀ {v : List V} {d : List D} {p : List PyData}, RpAll K dk F v d → pys d = some p → PyData.canLayAll0 p = true → DpAll K H v p
  | _, _, _, .nil, e, _ => by unfold pys at e; cases e; exact .nil
  | _, _, p, .cons (d := d) (ds := ds) h k, e, c => by
    rw [pys] at e
    cases e1 : py d with
    | none => rw [e1] at e; cases e
    | some a =>
      rw [e1] at e
      cases e2 : pys ds with
      | none => rw [e2] at e; cases e
      | some b =>
        rw [e2] at e; cases e
        have c' : a.canLay0 = true ∧ PyData.canLayAll0 b = true := by simpa [PyData.canLayAll0] using c
        exact .cons (dp_of sm h e1 c'.1) (dpAll_of sm k e2 c'.2)
end
def eqO (a b : D) : Option Bool := match py a, py b with
  | some p, some q => if SeqAt.shaped p = true then (if SeqAt.shaped q = true then some (PyData.eqv p q) else none) else none
  | _, _ => none
def eqM (a b : D) : M D := pureM ((eqO a b).map .bl)
def neM (a b : D) : M D := pureM ((eqO a b).map fun k => .bl (!k))
theorem eqO_some {K : PySem.W.Frag} {dk : Addr} {F H : Hp} {x y : V} {a b : D} {k : Bool} (sm : Same F H) (rx : Rp K dk F x a) (ry : Rp K dk F y b) (h : eqO a b = some k) : ∃ d e, Dp K H x d ∧ Dp K H y e ∧ SeqAt.shaped d = true ∧ SeqAt.shaped e = true ∧ k = PyData.eqv d e := by
  unfold eqO at h
  split at h
  · rename_i p q hp hq
    split at h
    · rename_i s1
      split at h
      · rename_i s2
        cases h
        exact ⟨p, q, dp_of sm rx hp (SeqAt.canLay_of_shaped s1), dp_of sm ry hq (SeqAt.canLay_of_shaped s2), s1, s2, rfl⟩
      · cases h
    · cases h
  · cases h
theorem m_eq : OpM X (rEqD X.K) eqM := by
  intro dk Wx F H s x y dx dy Q st rx ry q
  obtain ⟨d, e, hq⟩ := epost_pure st q
  cases h : eqO dx dy with
  | none => rw [h] at e; cases e
  | some k =>
    rw [h] at e; cases e
    obtain ⟨d1, d2, a1, a2, a3, a4, rfl⟩ := eqO_some st.sub rx ry h
    exact ⟨d1, d2, a1, a2, a3, a4, hq _ (.bl _)⟩
theorem m_ne : OpM X (rNeD X.K) neM := by
  intro dk Wx F H s x y dx dy Q st rx ry q
  obtain ⟨d, e, hq⟩ := epost_pure st q
  cases h : eqO dx dy with
  | none => rw [h] at e; cases e
  | some k =>
    rw [h] at e; cases e
    obtain ⟨d1, d2, a1, a2, a3, a4, rfl⟩ := eqO_some st.sub rx ry h
    exact ⟨d1, d2, a1, a2, a3, a4, hq _ (.bl _)⟩

/-! ### subscripts, slices -/
def getM (a b : D) : M D := match a, b with
  | .lst xs, .int i => pureM (atI xs i)
  | .tup xs, .int i => pureM (atI xs i)
  | .str z, .int i => fun s => if z.length ≤ 16777216 then (match atI z.cps.toList i with | some c => .ok (.str ⟨#[c]⟩) s | none => .bad) else .bad
  | .deck, .int 0 => fun s => .ok (.lst (s.cells.map .int)) s
  | .deck, .int 1 => fun s => .ok (.int s.turn) s
  | .deck, .int 2 => fun s => .ok (.int s.left) s
  | _, _ => fun _ => .bad
theorem atI_rp {K : PySem.W.Frag} {dk : Addr} {F : Hp} {vs : List V} {ds : List D} {i : Int} {d : D} (r : RpAll K dk F vs ds) (h : atI ds i = some d) : ∃ v, atI vs i = some v ∧ Rp K dk F v d := by
  unfold atI at h ⊢
  rw [r.length]
  cases e : ixN ds.length i with
  | none => rw [e] at h; cases h
  | some j =>
    rw [e] at h
    exact r.get h
theorem ints_rp {K : PySem.W.Frag} {dk : Addr} {F : Hp} : ∀ ns : List Int, RpAll K dk F (ns.map V.int) (ns.map D.int)
  | [] => .nil
  | n :: ns => .cons (.int n) (ints_rp ns)
def rGet (K : PySem.W.Frag) : R2 := fun x y H Q => (∃ p xs i v, x = .ref p ∧ y = .int i ∧ SqL K H p xs ∧ atI xs i = some v ∧ Q v H) ∨ rIxT K x y H Q ∨ rIxS x y H Q
theorem m_get : OpM X (rIx X.K) getM := by
  intro dk Wx F H s x y dx dy Q st rx ry q
  unfold getM at q
  split at q
  · cases rx with
    | lst h k =>
      cases ry
      obtain ⟨d, e, hq⟩ := epost_pure st q
      obtain ⟨v, hv, r⟩ := atI_rp k e
      exact .inl ⟨_, _, _, v, rfl, rfl, SqL.of (st.sub _ _ h), hv, hq v r⟩
  · cases rx with
    | tup h k =>
      cases ry
      obtain ⟨d, e, hq⟩ := epost_pure st q
      obtain ⟨v, hv, r⟩ := atI_rp k e
      exact .inr (.inl ⟨_, _, _, v, rfl, rfl, seqT st.sub h, hv, hq v r⟩)
  · cases rx; cases ry
    split at q
    · rename_i hz
      split at q
      · rename_i c hc
        exact .inr (.inr ⟨_, _, _, rfl, rfl, by rw [sizeLine_eq]; exact hz, hc, EPost.ok q st (.str _)⟩)
      · exact q.elim
    · exact q.elim
  · cases rx; cases ry
    obtain ⟨cl, h1, h2⟩ := st.deck
    exact .inl ⟨dk, _, 0, .ref cl, rfl, rfl, SqL.of h1, rfl, EPost.ok q st (.lst h2 (ints_rp _))⟩
  · cases rx; cases ry
    obtain ⟨cl, h1, h2⟩ := st.deck
    exact .inl ⟨dk, _, 1, .int s.turn, rfl, rfl, SqL.of h1, rfl, EPost.ok q st (.int _)⟩
  · cases rx; cases ry
    obtain ⟨cl, h1, h2⟩ := st.deck
    exact .inl ⟨dk, _, 2, .int s.left, rfl, rfl, SqL.of h1, rfl, EPost.ok q st (.int _)⟩
  · exact q.elim
variable {W : WX} {a b e : Expr} {f g : FE} {pos p2 : Pos}
theorem ev_get (ha : EV X W a f) (hb : EV X W b g) (hs : PlainIx b := by exact fun _ _ => rfl) : EV X W (.Subscript a b pos) (lift2 getM f g) :=
  pe_weak (pe_ix ix_seq ha hb hs) fun σ H Q q => two (fun _ _ _ z => z) (fun _ _ _ z => z) m_get q
/-- a slice's part -/
inductive Prt where
  | no
  | at (f : FE)
def prtM : Prt → DEnv → M (Option Int)
  | .no, _, s => .ok none s
  | .at f, δ, s => (f δ s).bind fun d s => match d with
    | .int i => .ok (some i) s
    | _ => .bad
def tPV (K : PySem.W.Frag) (mg : Str → Option Value) (W : WX) (f : DEnv → M (Option Int)) : TO := fun σ H Q => ∃ dk δ s F, EnvR K dk F σ δ ∧ Stt K dk F H s ∧ EPost K mg dk (fun _ (a b : Option Int) => a = b) (WE W σ) F H Q (f δ s)
def PV (X : Cx) (W : WX) (e : Option Expr) (f : Prt) : Prop := PO X e (tPV X.K X.mg W (prtM f))
theorem po_weak {X : Cx} {e : Option Expr} {t t' : TO} (h : PO X e t) (k : ∀ σ H Q, t' σ H Q → t σ H Q) : PO X e t' := ⟨fun pins s σ H Q I q => h.run pins s σ H Q I (k σ H Q q)⟩
theorem pv_no : PV X W none .no := po_weak po_none fun σ H Q ⟨dk, δ, s, F, er, st, q⟩ => EPost.ok (v := (none : Option Int)) q st rfl
theorem pv_at (h : EV X W a f) : PV X W (some a) (.at f) := by
  refine po_weak (po_some h) fun σ H Q ⟨dk, δ, s, F, er, st, q⟩ => ?_
  refine ⟨dk, δ, s, F, er, st, EPost.bind q fun x s1 v F1 H1 n rx q1 => ?_⟩
  cases rx with
  | int i => exact ⟨i, rfl, EPost.ok (v := some i) q1 n.st rfl⟩
  | _ => exact q1.elim
def cutD (xs : List D) (lo hi : Option Int) : List D := (xs.drop (HT.sIx xs.length 0 lo)).take (HT.sIx xs.length xs.length hi - HT.sIx xs.length 0 lo)
theorem cut_rp {K : PySem.W.Frag} {dk : Addr} {F : Hp} {vs : List V} {ds : List D} (lo hi : Option Int) (r : RpAll K dk F vs ds) : RpAll K dk F (cutV vs lo hi) (cutD ds lo hi) := by
  unfold cutV cutD
  rw [r.length]
  exact (r.drop _).take _
theorem sIx_le' (n : Nat) (lo : Option Int) (k : Nat) (h : k ≤ n) : HT.sIx n k lo ≤ n := HT.sIx_le _ _ h _
def slcM (d : D) (lo hi : Option Int) : M D := match d with
  | .lst xs => fun s => .ok (.lst (cutD xs lo hi)) s
  | .tup xs => fun s => .ok (.tup (cutD xs lo hi)) s
  | .str z => fun s => if z.length ≤ 16777216 then .ok (.str (cutS z lo hi)) s else .bad
  | _ => fun _ => .bad
def rSlc (K : PySem.W.Frag) : V → Option Int → Option Int → Hp → VK → Prop := fun x lo hi H Q => rSlL K x lo hi H Q ∨ rSlA K x lo hi H Q ∨ rSlS x lo hi H Q
theorem sl_all : SlR X (rSlc X.K) := sl_list.or (sl_tupA.or sl_str)
theorem cutD_whole {xs : List D} {lo hi : Option Int} (h : HT.sIx xs.length 0 lo = 0 ∧ HT.sIx xs.length xs.length hi = xs.length) : cutD xs lo hi = xs := by
  unfold cutD
  rw [h.1, h.2, List.drop_zero, Nat.sub_zero, List.take_length]
theorem m_slc {dk : Addr} {Wx : XK} {F H : Hp} {s : Deck} {x : V} {dx : D} {lo hi : Option Int} {Q : VK} (st : Stt X.K dk F H s) (rx : Rp X.K dk F x dx) (q : EPost X.K X.mg dk (RelD X.K dk) Wx F H Q (slcM dx lo hi s)) : rSlc X.K x lo hi H Q := by
  unfold slcM at q
  split at q
  · cases rx with
    | @lst a0 vs0 _ h k =>
      refine .inl ⟨_, _, rfl, SqL.of (st.sub _ _ h), fun p hp => ?_⟩
      have n := Nxt.new (o := .lst (cutV vs0 lo hi)) st hp
      exact q _ _ _ n (.lst upd_same ((cut_rp lo hi k).mono n.sm))
  · cases rx with
    | @tup a0 vs0 _ h k =>
      refine .inr (.inl ⟨_, _, rfl, seqT st.sub h, fun hw => ?_, fun hw p hp => ?_⟩)
      · rw [k.length] at hw
        rw [cutD_whole hw] at q
        exact EPost.ok q st (.tup h k)
      · have n := Nxt.new (o := .tup (cutV vs0 lo hi)) st hp
        exact q _ _ _ n (.tup (SqT.of upd_same) ((cut_rp lo hi k).mono n.sm))
  · cases rx
    split at q
    · rename_i hz
      exact .inr (.inr ⟨_, rfl, by rw [sizeLine_eq]; exact hz, EPost.ok q st (.str _)⟩)
    · exact q.elim
  · exact q.elim
def slcD (f : FE) (lo hi : Prt) : FE := fun δ s => (f δ s).bind fun x s => (prtM lo δ s).bind fun l s => (prtM hi δ s).bind fun u s => slcM x l u s
theorem ev_slc {lo hi : Option Expr} {pl ph : Prt} (ha : EV X W a f) (hl : PV X W lo pl) (hh : PV X W hi ph) : EV X W (.Subscript a (.Slice lo hi none p2) pos) (slcD f pl ph) := by
  refine pe_weak (pe_slice sl_all ha hl hh) fun σ H Q ⟨dk, δ, s, F, er, st, q⟩ => ?_
  refine ⟨dk, δ, s, F, er, st, EPost.bind q fun x s1 v F1 H1 n rx q1 => ?_⟩
  refine ⟨dk, δ, s1, F1, er.mono n.sm, n.st, EPost.bind q1 fun l s2 vl F2 H2 n2 rl q2 => ?_⟩
  have rl : vl = l := rl
  subst rl
  refine ⟨dk, δ, s2, F2, er.mono (n.sm.trans n2.sm), n2.st, EPost.bind q2 fun u s3 vu F3 H3 n3 ru q3 => ?_⟩
  have ru : vu = u := ru
  subst ru
  exact m_slc n3.st (rx.mono (n2.sm.trans n3.sm)) q3

/-! ### stores into the mixer -/
def putM (k : Int) (v : D) (s : Deck) : Option Deck := match k, v with
  | 1, .int i => some { s with turn := i }
  | 2, .int i => some { s with left := i }
  | _, _ => none
def putS (f : FE) (o : FE) (k : Int) : FS := fun δ s => (f δ s).toS δ fun v s => (o δ s).toS δ fun d s => match d with
  | .deck => match putM k v s with
    | some s' => .nx δ s'
    | none => .bad
  | _ => .bad
theorem Stt.put {K : PySem.W.Frag} {dk : Addr} {F H : Hp} {s : Deck} {cl : Addr} {i j : Int} (st : Stt K dk F H s) (h2 : F cl = some (.lst (s.cells.map V.int))) : Nxt K dk F H F (upd H dk (.lst [.ref cl, .int i, .int j])) { s with turn := i, left := j } := by
  refine ⟨Same.refl _, ⟨fun b u h => ?_, st.fdk, cl, upd_same, h2⟩, fun b o hb h => by rw [upd_ne hb]; exact h, fun b h _ => h⟩
  rw [upd_ne (fun z => by rw [z, st.fdk] at h; cases h)]
  exact st.sub b u h
theorem sv_put {o e : Expr} {k : Int} {fo : FE} {tpos : Pos} {j : Nat} {ip : Pos} (he : EV X W e f) (ho : EV X W o fo) (hsw : swapsWithSole [.Subscript o (.Constant (.int k) j ip) tpos] e pos.line X.env = pure false := by rfl) (hw : swappedStores [.Subscript o (.Constant (.int k) j ip) tpos] e X.env = pure none := by rfl)
    (h1 : (assignEach [.Subscript o (.Constant (.int k) j ip) tpos] X.env).map (·.2) = [assign (.Subscript o (.Constant (.int k) j ip) tpos) X.env] := by rfl)
    (ha : ∀ v, assign (.Subscript o (.Constant (.int k) j ip) tpos) X.env v = (do
      let ov ← holding [v] (eval o X.env)
      let iv ← holding [v, ov] (eval (.Constant (.int k) j ip) X.env)
      standAt tpos
      holding [v, ov, iv] (setItem ov iv v)
      release [v, ov, iv] []) := by intro _; rfl) :
    SV X W (.Assign [.Subscript o (.Constant (.int k) j ip) tpos] e pos) (putS f fo k) := by
  refine ps_weak (ps_asg he (pg_sub ho pe_int set_list ha) hsw hw h1) fun Dn σ H ⟨dk, δ, s, F, er, st, q⟩ => ?_
  refine ⟨dk, δ, s, F, er, st, SPost.ofE er q fun v s1 x F1 H1 n rx q1 => ?_⟩
  refine ⟨dk, δ, s1, F1, er.mono n.sm, n.st, SPost.ofE (er.mono n.sm) q1 fun d s2 y F2 H2 n2 ry q2 => ?_⟩
  cases ry with
  | deck =>
    dsimp only at q2
    obtain ⟨cl, c1, c2⟩ := n2.st.deck
    unfold putM at q2
    split at q2
    · rename_i s' hs
      split at hs
      · cases hs
        cases rx
        exact ⟨dk, _, 1, 1, rfl, rfl, c1, rfl, q2 σ F2 _ (Stt.put n2.st c2) (er.mono (n.sm.trans n2.sm))⟩
      · cases hs
        cases rx
        exact ⟨dk, _, 2, 2, rfl, rfl, c1, rfl, q2 σ F2 _ (Stt.put n2.st c2) (er.mono (n.sm.trans n2.sm))⟩
      · cases hs
    · exact q2.elim
  | _ => exact q2.elim
end
end FL

namespace FL
open PySem PySem.Spec L2

section
variable {X : Cx} {W : WX} {a b e : Expr} {es : List Expr} {f g : FE} {fs : FA} {pos p p1 p2 : Pos}
/-! ### len, abs, max, min, int, tuple, list, all, sorted, gcd -/
def lenM (ds : List D) : M D := fun s => match ds with
  | [.lst xs] => .ok (.int xs.length) s
  | [.tup xs] => .ok (.int xs.length) s
  | [.str z] => if z.length ≤ 16777216 then .ok (.int z.length) s else .bad
  | [.dct k] => .ok (.int k.length) s
  | _ => .bad
def rLen (X : Cx) : List V → Hp → VK → Prop := fun xs H Q => (∃ p ys, xs = [.ref p] ∧ (SqL X.K H p ys ∨ SqT X.K H p ys) ∧ Q (.int ys.length) H) ∨ (∃ z, xs = [.str z] ∧ z.length ≤ sizeLine ∧ Q (.int z.length) H) ∨ (∃ a kvs, xs = [V.ref a] ∧ H a = some (.dK kvs) ∧ Q (.int kvs.length) H)
theorem call_lenA : CallR X (.builtin "len") (rLen X) := call_len_seq.or (call_len_str.or call_lenD)
theorem m_len : CallM X (rLen X) lenM := by
  intro dk Wx F H s vs ds Q st r q
  unfold lenM at q
  split at q
  · cases r with
    | cons r1 r2 =>
      cases r2
      cases r1 with
      | lst h k =>
        rw [← k.length] at q
        exact .inl ⟨_, _, rfl, .inl (SqL.of (st.sub _ _ h)), EPost.ok q st (.int _)⟩
  · cases r with
    | cons r1 r2 =>
      cases r2
      cases r1 with
      | tup h k =>
        rw [← k.length] at q
        exact .inl ⟨_, _, rfl, .inr (seqT st.sub h), EPost.ok q st (.int _)⟩
  · cases r with
    | cons r1 r2 =>
      cases r2; cases r1
      split at q
      · rename_i hz
        exact .inr (.inl ⟨_, rfl, by rw [sizeLine_eq]; exact hz, EPost.ok q st (.int _)⟩)
      · exact q.elim
  · cases r with
    | cons r1 r2 =>
      cases r2
      cases r1 with
      | dct h e k =>
        have hl := congrArg List.length e
        simp only [List.length_map] at hl
        rw [← hl] at q
        exact .inr (.inr ⟨_, _, rfl, st.sub _ _ h, EPost.ok q st (.int _)⟩)
  · exact q.elim
def absM (ds : List D) : M D := fun s => match ds with
  | [.int i] => .ok (.int (if i < 0 then -i else i)) s
  | _ => .bad
theorem m_abs : CallM X (fun xs H Q => ∃ i, xs = [.int i] ∧ Q (.int (if i < 0 then -i else i)) H) absM := by
  intro dk Wx F H s vs ds Q st r q
  unfold absM at q
  split at q
  · cases r with
    | cons r1 r2 => cases r2; cases r1; exact ⟨_, rfl, EPost.ok q st (.int _)⟩
  · exact q.elim
def max2M (ds : List D) : M D := fun s => match ds with
  | [.int i, .int j] => .ok (.int (if j > i then j else i)) s
  | _ => .bad
theorem m_max2 : CallM X (fun xs H Q => ∃ i j, xs = [.int i, .int j] ∧ Q (.int (if j > i then j else i)) H) max2M := by
  intro dk Wx F H s vs ds Q st r q
  unfold max2M at q
  split at q
  · cases r with
    | cons r1 r2 => cases r2 with
      | cons r3 r4 => cases r4; cases r1; cases r3; exact ⟨_, _, rfl, EPost.ok q st (.int _)⟩
  · exact q.elim
def min2M (ds : List D) : M D := fun s => match ds with
  | [.int i, .int j] => .ok (.int (if j < i then j else i)) s
  | _ => .bad
theorem m_min2 : CallM X (fun xs H Q => ∃ i j, xs = [.int i, .int j] ∧ Q (.int (if j < i then j else i)) H) min2M := by
  intro dk Wx F H s vs ds Q st r q
  unfold min2M at q
  split at q
  · cases r with
    | cons r1 r2 => cases r2 with
      | cons r3 r4 => cases r4; cases r1; cases r3; exact ⟨_, _, rfl, EPost.ok q st (.int _)⟩
  · exact q.elim
def gcdM (ds : List D) : M D := fun s => match ds with
  | [.int i, .int j] => .ok (.int ((Nat.gcd i.natAbs j.natAbs : Nat) : Int)) s
  | _ => .bad
theorem m_gcd : CallM X rGcd gcdM := by
  intro dk Wx F H s vs ds Q st r q
  unfold gcdM at q
  split at q
  · cases r with
    | cons r1 r2 => cases r2 with
      | cons r3 r4 => cases r4; cases r1; cases r3; exact ⟨_, _, rfl, EPost.ok q st (.int _)⟩
  · exact q.elim
/-- a call of a module's name for a built-in function -/
theorem ev_callF {id : String} {x : Str} {r : List V → Hp → VK → Prop} {m : List D → M D} (hc : CallR X (.builtin id) r) (hm : CallM X r m) (hg : Gl X x) (hmg : X.mg x = some (.builtin id)) (ha : AV X W (a :: es) fs)
    (hdb : (x == ("__debug__" : Str)) = false := by decide) (he : starEach (a :: es) X.env = (false, eval a X.env) :: starEach es X.env := by rfl) (hpl : (backTo pos (starEach es X.env)).any (·.1) = false := by rfl) :
    EV X W (.Call (.Name x p) (a :: es) [] pos) (withA fs m) := pe_weak (pe_callBfun hc hg hmg ha hdb he hpl) (tcb hm)
def intM1 (ds : List D) : M D := fun s => match ds with
  | [.int i] => .ok (.int i) s
  | [.bl k] => .ok (.int (if k then 1 else 0)) s
  | [.str z] => match PySem.intText? z with
    | some n => if z.length ≤ 640 then .ok (.int n) s else .bad
    | none => .bad
  | _ => .bad
def rInt : List V → Hp → VK → Prop := fun xs H Q => ((∃ i, xs = [.int i] ∧ Q (.int i) H) ∨ ∃ k, xs = [.bl k] ∧ Q (.int (if k then 1 else 0)) H) ∨ (∃ a n, xs = [.str a] ∧ PySem.intText? a = some n ∧ a.length ≤ 640 ∧ Q (.int n) H)
theorem call_intA : CallR X (.type "int") rInt := call_int1.or call_int_str
theorem m_intc : CallM X rInt intM1 := by
  intro dk Wx F H s vs ds Q st r q
  unfold intM1 at q
  split at q
  · cases r with
    | cons r1 r2 => cases r2; cases r1; exact .inl (.inl ⟨_, rfl, EPost.ok q st (.int _)⟩)
  · cases r with
    | cons r1 r2 => cases r2; cases r1; exact .inl (.inr ⟨_, rfl, EPost.ok q st (.int _)⟩)
  · cases r with
    | cons r1 r2 =>
      cases r2; cases r1
      split at q
      · rename_i n hn
        split at q
        · rename_i hz; exact .inr ⟨_, _, rfl, hn, hz, EPost.ok q st (.int _)⟩
        · exact q.elim
      · exact q.elim
  · exact q.elim
def tupM (ds : List D) : M D := fun s => match ds with
  | [.lst xs] => .ok (.tup xs) s
  | [.tup xs] => .ok (.tup xs) s
  | _ => .bad
theorem m_tup : CallM X (fun xs H Q => ∃ p ys, xs = [.ref p] ∧ ((SqL X.K H p ys ∧ ∀ l, H l = none → Q (.ref l) (upd H l (.tup ys))) ∨ (SqT X.K H p ys ∧ Q (.ref p) H))) tupM := by
  intro dk Wx F H s vs ds Q st r q
  unfold tupM at q
  split at q
  · cases r with
    | cons r1 r2 =>
      cases r2
      cases r1 with
      | @lst a0 vs0 _ h k =>
        refine ⟨_, _, rfl, .inl ⟨SqL.of (st.sub _ _ h), fun l hl => ?_⟩⟩
        have n := Nxt.new (o := .tup vs0) st hl
        exact q _ _ _ n (.tup (SqT.of upd_same) (k.mono n.sm))
  · cases r with
    | cons r1 r2 =>
      cases r2
      cases r1 with
      | tup h k => exact ⟨_, _, rfl, .inr ⟨seqT st.sub h, EPost.ok q st (.tup h k)⟩⟩
  · exact q.elim
def lstM (ds : List D) : M D := fun s => match ds with
  | [.lst xs] => .ok (.lst xs) s
  | [.tup xs] => .ok (.lst xs) s
  | _ => .bad
theorem m_lst : CallM X (fun xs H Q => ∃ p ys, xs = [.ref p] ∧ (SqL X.K H p ys ∨ SqT X.K H p ys) ∧ ∀ l, H l = none → Q (.ref l) (upd H l (.lst ys))) lstM := by
  intro dk Wx F H s vs ds Q st r q
  unfold lstM at q
  split at q
  · cases r with
    | cons r1 r2 =>
      cases r2
      cases r1 with
      | @lst a0 vs0 _ h k =>
        refine ⟨_, _, rfl, .inl (SqL.of (st.sub _ _ h)), fun l hl => ?_⟩
        have n := Nxt.new (o := .lst vs0) st hl
        exact q _ _ _ n (.lst upd_same (k.mono n.sm))
  · cases r with
    | cons r1 r2 =>
      cases r2
      cases r1 with
      | @tup a0 vs0 _ h k =>
        refine ⟨_, _, rfl, .inr (seqT st.sub h), fun l hl => ?_⟩
        have n := Nxt.new (o := .lst vs0) st hl
        exact q _ _ _ n (.lst upd_same (k.mono n.sm))
  · exact q.elim
def boolsOf : List D → Option (List Bool)
  | [] => some []
  | .bl b :: r => (boolsOf r).map (b :: ·)
  | _ => none
def intsOf : List D → Option (List Int)
  | [] => some []
  | .int b :: r => (intsOf r).map (b :: ·)
  | _ => none
theorem bools_eq {K : PySem.W.Frag} {dk : Addr} {F : Hp} : ∀ {vs : List V} {ds : List D} {bs : List Bool}, RpAll K dk F vs ds → boolsOf ds = some bs → vs = bs.map V.bl
  | _, _, _, .nil, h => by unfold boolsOf at h; cases h; rfl
  | _, _, bs, .cons (ds := dr) (.bl b) t, h => by
    rw [boolsOf] at h
    cases e : boolsOf dr with
    | none => rw [e] at h; cases h
    | some l => rw [e] at h; cases h; rw [bools_eq t e]; rfl
  | _, _, _, .cons .non _, h => by unfold boolsOf at h; cases h
  | _, _, _, .cons (.int _) _, h => by unfold boolsOf at h; cases h
  | _, _, _, .cons (.str _) _, h => by unfold boolsOf at h; cases h
  | _, _, _, .cons (.lst _ _) _, h => by unfold boolsOf at h; cases h
  | _, _, _, .cons (.tup _ _) _, h => by unfold boolsOf at h; cases h
  | _, _, _, .cons (.dct _ _ _) _, h => by unfold boolsOf at h; cases h
  | _, _, _, .cons .deck _, h => by unfold boolsOf at h; cases h
  | _, _, _, .cons (.exc _ _ _ _ _) _, h => by unfold boolsOf at h; cases h
theorem ints_eq {K : PySem.W.Frag} {dk : Addr} {F : Hp} : ∀ {vs : List V} {ds : List D} {bs : List Int}, RpAll K dk F vs ds → intsOf ds = some bs → vs = bs.map V.int
  | _, _, _, .nil, h => by unfold intsOf at h; cases h; rfl
  | _, _, bs, .cons (ds := dr) (.int b) t, h => by
    rw [intsOf] at h
    cases e : intsOf dr with
    | none => rw [e] at h; cases h
    | some l => rw [e] at h; cases h; rw [ints_eq t e]; rfl
  | _, _, _, .cons .non _, h => by unfold intsOf at h; cases h
  | _, _, _, .cons (.bl _) _, h => by unfold intsOf at h; cases h
  | _, _, _, .cons (.str _) _, h => by unfold intsOf at h; cases h
  | _, _, _, .cons (.lst _ _) _, h => by unfold intsOf at h; cases h
  | _, _, _, .cons (.tup _ _) _, h => by unfold intsOf at h; cases h
  | _, _, _, .cons (.dct _ _ _) _, h => by unfold intsOf at h; cases h
  | _, _, _, .cons .deck _, h => by unfold intsOf at h; cases h
  | _, _, _, .cons (.exc _ _ _ _ _) _, h => by unfold intsOf at h; cases h
def allM (ds : List D) : M D := fun s => match ds with
  | [.lst xs] => match boolsOf xs with
    | some bs => .ok (.bl (bs.all id)) s
    | none => .bad
  | _ => .bad
theorem m_all : CallM X (rAll X.K) allM := by
  intro dk Wx F H s vs ds Q st r q
  unfold allM at q
  split at q
  · cases r with
    | cons r1 r2 =>
      cases r2
      cases r1 with
      | lst h k =>
        split at q
        · rename_i bs hb
          have e := bools_eq k hb
          subst e
          exact ⟨_, bs, rfl, SqL.of (st.sub _ _ h), EPost.ok q st (.bl _)⟩
        · exact q.elim
  · exact q.elim
def anyM (ds : List D) : M D := fun s => match ds with
  | [.lst xs] => match boolsOf xs with
    | some bs => .ok (.bl (bs.any id)) s
    | none => .bad
  | _ => .bad
theorem m_any : CallM X (rAny X.K) anyM := by
  intro dk Wx F H s vs ds Q st r q
  unfold anyM at q
  split at q
  · cases r with
    | cons r1 r2 =>
      cases r2
      cases r1 with
      | lst h k =>
        split at q
        · rename_i bs hb
          have e := bools_eq k hb
          subst e
          exact ⟨_, bs, rfl, SqL.of (st.sub _ _ h), EPost.ok q st (.bl _)⟩
        · exact q.elim
  · exact q.elim
def insI (x : Int) : List Int → List Int
  | [] => [x]
  | y :: r => if x ≤ y then x :: y :: r else y :: insI x r
def sortI : List Int → List Int
  | [] => []
  | x :: r => insI x (sortI r)
theorem insI_perm (x : Int) : ∀ l, (insI x l).Perm (x :: l)
  | [] => .refl _
  | y :: r => by
    unfold insI
    split
    · exact .refl _
    · exact ((insI_perm x r).cons y).trans (.swap x y r)
theorem sortI_perm : ∀ l, (sortI l).Perm l
  | [] => .refl _
  | x :: r => (insI_perm x (sortI r)).trans ((sortI_perm r).cons x)
theorem insI_sorted (x : Int) : ∀ l, l.Pairwise (· ≤ ·) → (insI x l).Pairwise (· ≤ ·)
  | [], _ => List.pairwise_singleton _ _
  | y :: r, h => by
    unfold insI
    obtain ⟨h1, h2⟩ := List.pairwise_cons.mp h
    split
    · rename_i hxy
      refine List.pairwise_cons.mpr ⟨fun z hz => ?_, h⟩
      rcases List.mem_cons.mp hz with e | hz
      · rw [e]; exact hxy
      · exact Int.le_trans hxy (h1 z hz)
    · rename_i hxy
      refine List.pairwise_cons.mpr ⟨fun z hz => ?_, insI_sorted x r h2⟩
      rcases List.mem_cons.mp ((insI_perm x r).subset hz) with e | hz
      · rw [e]; omega
      · exact h1 z hz
theorem sortI_sorted : ∀ l, (sortI l).Pairwise (· ≤ ·)
  | [] => .nil
  | x :: r => insI_sorted x _ (sortI_sorted r)
def sortedM (ds : List D) : M D := fun s => match ds with
  | [.lst xs] => match intsOf xs with
    | some ns => .ok (.lst ((sortI ns).map .int)) s
    | none => .bad
  | _ => .bad
theorem m_sorted : CallM X (rSortedI X.K) sortedM := by
  intro dk Wx F H s vs ds Q st r q
  unfold sortedM at q
  split at q
  · cases r with
    | cons r1 r2 =>
      cases r2
      cases r1 with
      | lst h k =>
        split at q
        · rename_i ns hb
          have e := ints_eq k hb
          subst e
          refine ⟨_, ns, rfl, SqL.of (st.sub _ _ h), fun ns' p hp hs hn => ?_⟩
          have ee : ns' = sortI ns := PySem.W.ksm_same (hp.trans (sortI_perm ns).symm) hs (sortI_sorted ns)
          subst ee
          have n := Nxt.new (o := .lst ((sortI ns).map V.int)) st hn
          exact q _ _ _ n (.lst upd_same (ints_rp _))
        · exact q.elim
  · exact q.elim

/-! ### isinstance -/
def tyD : D → Option String
  | .non => some "NoneType"
  | .bl _ => some "bool"
  | .int _ => some "int"
  | .str _ => some "str"
  | .lst _ => some "list"
  | .tup _ => some "tuple"
  | .dct _ => some "dict"
  | .deck => some "list"
  | .exc _ _ => none
theorem tyX_of {K : PySem.W.Frag} {dk : Addr} {F H : Hp} {s : Deck} {v : V} {d : D} {t : String} (st : Stt K dk F H s) (r : Rp K dk F v d) (h : tyD d = some t) : TyX K H v (.type t) := by
  cases r with
  | non => cases h; exact .base .non
  | bl b => cases h; exact .base (.bl b)
  | int b => cases h; exact .base (.int b)
  | str b => cases h; exact .base (.str b)
  | lst h1 _ => cases h; exact .base (.lst (st.sub _ _ h1))
  | tup h1 _ =>
    cases h
    rcases h1 with (h1 | ⟨o, h1⟩) | ⟨o, its, n, h1, h2, _⟩
    · exact .base (.tup (st.sub _ _ h1))
    · exact .fTuple (st.sub _ _ h1)
    · exact .kTuple h1 h2
  | dct h1 _ _ => cases h; exact .base (.dK (st.sub _ _ h1))
  | deck =>
    cases h
    obtain ⟨cl, h1, _⟩ := st.deck
    exact .base (.lst h1)
  | exc _ _ _ _ _ => cases h
def isiD (T : String) (d : D) : Option Bool := (tyD d).bind fun t => kitB t T
def isiF (f : FE) (T : String) : FE := fun δ s => (f δ s).bind fun x s => pureM ((isiD T x).map .bl) s
theorem ev_isi {T : Str} {Tn : String} (hg : Gl X "isinstance") (hm : X.mg "isinstance" = none) (hgT : Gl X T) (hmT : X.mg T = none) (hv : bootBuiltins T = some (.type Tn)) (ha : EV X W a f)
    (hnT : T ≠ "__name__" := by decide) (hdT : (T == ("__debug__" : Str)) = false := by decide)
    (h1 : starEach (a :: [.Name T p1]) X.env = (false, eval a X.env) :: starEach [.Name T p1] X.env := by rfl) (h2 : starEach (Expr.Name T p1 :: []) X.env = (false, eval (.Name T p1) X.env) :: starEach [] X.env := by rfl)
    (hpl : (backTo pos (starEach [.Name T p1] X.env)).any (·.1) = false := by rfl) :
    EV X W (.Call (.Name "isinstance" p) [a, .Name T p1] [] pos) (isiF f Tn) := by
  refine pe_weak (pe_callB call_isi hg hm (by decide +kernel) (pa_cons ha (pa_cons (pe_bltn (v := .ty Tn) hgT hmT hv rfl hnT hdT) pa_nil h2) h1) (by decide) (by decide) h1 hpl) fun σ H Q ⟨dk, δ, s, F, er, st, q⟩ => ?_
  refine ⟨dk, δ, s, F, er, st, EPost.bind q fun y s1 v F1 H1 n ry q1 => ?_⟩
  obtain ⟨d, e, hq⟩ := epost_pure n.st q1
  unfold isiD at e
  cases ht : tyD y with
  | none => rw [ht] at e; cases e
  | some t =>
    rw [ht] at e
    have e' : (kitB t Tn).map D.bl = some d := e
    cases hk : kitB t Tn with
    | none => rw [hk] at e'; cases e'
    | some k =>
      rw [hk] at e'; cases e'
      exact ⟨v, .ty Tn, .type t, .type Tn, k, rfl, .ty Tn, tyX_of n.st ry ht, kit_ty hk, hq _ (.bl _)⟩
/-- isinstance(x, (T, U)) -/
def isi2D (T U : String) (d : D) : Option Bool := (tyD d).bind fun t => (kitB t T).bind fun k => if k = true then some true else kitB t U
def isi2F (f : FE) (T U : String) : FE := fun δ s => (f δ s).bind fun x s => pureM ((isi2D T U x).map .bl) s
theorem ev_isi2 {T U : Str} {Tn Un : String} {kk : Nat} {tp : Pos} (hg : Gl X "isinstance") (hm : X.mg "isinstance" = none) (hgT : Gl X T) (hmT : X.mg T = none) (hv : bootBuiltins T = some (.type Tn)) (hgU : Gl X U) (hmU : X.mg U = none) (hvU : bootBuiltins U = some (.type Un)) (ha : EV X W a f)
    (hnT : T ≠ "__name__" := by decide) (hdT : (T == ("__debug__" : Str)) = false := by decide) (hnU : U ≠ "__name__" := by decide) (hdU : (U == ("__debug__" : Str)) = false := by decide)
    (h1 : starEach (a :: [.Tuple [.Name T p1, .Name U p2] kk tp]) X.env = (false, eval a X.env) :: starEach [.Tuple [.Name T p1, .Name U p2] kk tp] X.env := by rfl) (h2 : starEach (Expr.Tuple [.Name T p1, .Name U p2] kk tp :: []) X.env = (false, eval (.Tuple [.Name T p1, .Name U p2] kk tp) X.env) :: starEach [] X.env := by rfl)
    (h3 : starEach (Expr.Name T p1 :: [.Name U p2]) X.env = (false, eval (.Name T p1) X.env) :: starEach [.Name U p2] X.env := by rfl) (h4 : starEach (Expr.Name U p2 :: []) X.env = (false, eval (.Name U p2) X.env) :: starEach [] X.env := by rfl)
    (hpl : (backTo pos (starEach [.Tuple [.Name T p1, .Name U p2] kk tp] X.env)).any (·.1) = false := by rfl) :
    EV X W (.Call (.Name "isinstance" p) [a, .Tuple [.Name T p1, .Name U p2] kk tp] [] pos) (isi2F f Tn Un) := by
  refine pe_weak (pe_callB call_isiT hg hm (by decide +kernel) (pa_cons ha (pa_cons (pe_tup (pa_cons (pe_bltn (v := .ty Tn) hgT hmT hv rfl hnT hdT) (pa_cons (pe_bltn (v := .ty Un) hgU hmU hvU rfl hnU hdU) pa_nil h4) h3)) pa_nil h2) h1) (by decide) (by decide) h1 hpl) fun σ H Q ⟨dk, δ, s, F, er, st, q⟩ => ?_
  refine ⟨dk, δ, s, F, er, st, EPost.bind q fun y s1 v F1 H1 n ry q1 => ?_⟩
  refine ⟨by show 2 ≤ sizeLine; decide, fun tpA htp => ?_⟩
  have n2 := Nxt.new (o := .tup [.ty Tn, .ty Un]) n.st htp
  obtain ⟨d, e, hq⟩ := epost_pure n2.st (EPost.later n2 q1)
  unfold isi2D at e
  cases ht : tyD y with
  | none => rw [ht] at e; cases e
  | some t =>
    rw [ht] at e
    have e' : ((kitB t Tn).bind fun k => if k = true then some true else kitB t Un).map D.bl = some d := e
    cases hk : kitB t Tn with
    | none => rw [hk] at e'; cases e'
    | some k =>
      rw [hk] at e'
      have e2 : (if k = true then some true else kitB t Un).map D.bl = some d := e'
      have fin : ∀ r : Bool, (if k = true then some true else kitB t Un) = some r → PySem.W.kitAny X.K (.type t) [.type Tn, .type Un] = some r := by
        intro r hr
        refine kitAny_cons (kit_ty hk) (fun z => ?_) (fun z => ?_)
        · rw [z, if_neg Bool.false_ne_true] at hr
          refine kitAny_cons (kit_ty hr) (fun z => ?_) (fun z => z)
          rw [z]; rfl
        · rw [z, if_pos rfl] at hr; cases hr; rfl
      cases hr : (if k = true then some true else kitB t Un) with
      | none => rw [hr] at e2; cases e2
      | some r =>
        rw [hr] at e2; cases e2
        exact ⟨v, tpA, [.ty Tn, .ty Un], .type t, [.type Tn, .type Un], r, rfl, upd_same, .cons (.ty Tn) (.cons (.ty Un) .nil), tyX_of n2.st (ry.mono n2.sm) ht, fin r hr, hq _ (.bl _)⟩

/-! ### repr, where nothing is being shown -/
def rRepr (K : PySem.W.Frag) : List V → Hp → VK → Prop := fun xs H Q => ∃ (a : Addr) (p : PyData), xs = [.ref a] ∧ Dp K H (.ref a) p ∧ p.canLay0 = true ∧ p.showable = true ∧ p.depth ≤ 60 ∧ p.shown.length ≤ sizeLine ∧ Q (.str p.shown) H
theorem call_repr (hg : X.A.guards = some []) (hu : X.A.units + 64 < cLine) : CallR X (.builtin "repr") (rRepr X.K) := by
  intro pins s σ H xs us Q I r h
  obtain ⟨a, p, rfl, hd, hc, hs, hz, hl, q⟩ := h
  cases r with
  | cons r1 r2 =>
    cases r2
    cases r1
    obtain ⟨as, rd⟩ := Dp.reads I p _ _ hd rfl
    refine repr_of_reads' rd hs (PyData.noDict_hsm (PyData.hasDict_of_canLay p hc)) hg (by omega) (fun _ _ e => e) (fun h' u tk k => ?_) hl
    exact ⟨.str _, H, I.kept (t' := tk) k, ⟨_, rfl⟩, q⟩
def showP (p : PyData) : Bool := p.canLay0 && p.showable && decide (p.depth ≤ 60) && decide (p.shown.length ≤ 16777216)
def isRefD : D → Bool
  | .lst _ => true
  | .tup _ => true
  | _ => false
def reprM (ds : List D) : M D := fun s => match ds with
  | [d] => if isRefD d = true then (match py d with
    | some p => if showP p = true then .ok (.str p.shown) s else .bad
    | none => .bad) else .bad
  | _ => .bad
theorem m_repr : CallM X (rRepr X.K) reprM := by
  intro dk Wx F H s vs ds Q st r q
  unfold reprM at q
  split at q
  · rename_i d
    split at q
    · rename_i hr
      split at q
      · rename_i p hp
        split at q
        · rename_i hs
          unfold showP at hs
          simp only [Bool.and_eq_true, decide_eq_true_eq] at hs
          cases r with
          | cons r1 r2 =>
            cases r2
            have hD := dp_of st.sub r1 hp hs.1.1.1
            cases r1 with
            | lst h k => exact ⟨_, p, rfl, hD, hs.1.1.1, hs.1.1.2, hs.1.2, by rw [sizeLine_eq]; exact hs.2, EPost.ok q st (.str _)⟩
            | tup h k => exact ⟨_, p, rfl, hD, hs.1.1.1, hs.1.1.2, hs.1.2, by rw [sizeLine_eq]; exact hs.2, EPost.ok q st (.str _)⟩
            | _ => cases hr
        · exact q.elim
      · exact q.elim
    · exact q.elim
  · exact q.elim
end
end FL

namespace FL
open PySem PySem.Spec L2

section
variable {X : Cx} {W : WX} {a b e : Expr} {es : List Expr} {f g : FE} {fs : FA} {pos p p1 p2 kpos : Pos} {kws : List Keyword} {nm : Option Str}
def un1 (m : D → M D) (f : FE) : FE := fun δ s => (f δ s).bind m
theorem ev_neg (ha : EV X W a f) : EV X W (.UnaryOp .USub a pos) (un1 negM f) := by
  refine pe_weak (pe_un un_neg ha) fun σ H Q ⟨dk, δ, s, F, er, st, q⟩ => ?_
  refine ⟨dk, δ, s, F, er, st, EPost.bind q fun x s1 v F1 H1 n rx q1 => ?_⟩
  cases rx with
  | int i => exact ⟨i, rfl, EPost.ok q1 n.st (.int _)⟩
  | _ => exact q1.elim
/-! ### keywords -/
def KV' (X : Cx) (W : WX) (kws : List Keyword) (f : FA) : Prop := PK X kws (tAV X.K X.mg W f)
theorem pk_weak {t t' : TA} (h : PK X kws t) (k : ∀ σ H Q, t' σ H Q → t σ H Q) : PK X kws t' := ⟨fun pos pins s σ H Q I q => h.run pos pins s σ H Q I (k σ H Q q)⟩
theorem kv_nil : KV' X W [] av0 := pk_weak pk_nil fun σ H Q ⟨dk, δ, s, F, er, st, q⟩ => EPost.ok q st .nil
theorem kv_cons (ha : EV X W a f) (hb : KV' X W kws fs) : KV' X W (⟨nm, a, kpos⟩ :: kws) (avC f fs) := by
  refine pk_weak (pk_cons ha hb) fun σ H Q ⟨dk, δ, s, F, er, st, q⟩ => ?_
  refine ⟨dk, δ, s, F, er, st, EPost.bind q fun x s1 v F1 H1 n rx q1 => ?_⟩
  refine ⟨dk, δ, s1, F1, er.mono n.sm, n.st, EPost.bind q1 fun xs s2 us F2 H2 n2 rxs q2 => ?_⟩
  exact q2.ok n2.st (.cons (rx.mono n2.sm) rxs)
/-- all by keywords: parameter j is the perm[j]-th keyword -/
def permL {α : Type} (z : α) (perm : List Nat) (l : List α) : List α := perm.map fun i => l.getD i z
def KBind (K : PySem.W.Frag) (fd : FuncData) (ps ks : List Str) (perm : List Nat) : Prop := ∀ (s : Shared) (ws : List Value), K.In s.heap → ws.length = ks.length → BindsTo s fd ⟨[], ks.zip ws⟩ (ps.zip (permL .none perm ws))
theorem vals_perm {vs : List V} {us : List Value} (r : Vals vs us) (perm : List Nat) : Vals (permL .non perm vs) (permL .none perm us) := by
  induction perm with
  | nil => exact .nil
  | cons i r' ih =>
    refine .cons ?_ ih
    show RelV (vs.getD i V.non) (us.getD i Value.none)
    by_cases hi : i < vs.length
    · obtain ⟨u, h1, h2⟩ := r.get (List.getElem?_eq_getElem hi)
      rw [List.getD_eq_getElem?_getD, List.getD_eq_getElem?_getD, List.getElem?_eq_getElem hi, h1]
      exact h2
    · have hl := r.length
      rw [List.getD_eq_getElem?_getD, List.getD_eq_getElem?_getD, List.getElem?_eq_none (by omega), List.getElem?_eq_none (by omega)]
      exact rfl
theorem rp_perm {K : PySem.W.Frag} {dk : Addr} {F : Hp} {vs : List V} {ds : List D} (r : RpAll K dk F vs ds) (perm : List Nat) : RpAll K dk F (permL .non perm vs) (permL .non perm ds) := by
  induction perm with
  | nil => exact .nil
  | cons i r' ih =>
    refine .cons ?_ ih
    show Rp K dk F (vs.getD i V.non) (ds.getD i D.non)
    by_cases hi : i < ds.length
    · obtain ⟨u, h1, h2⟩ := r.get (List.getElem?_eq_getElem hi)
      rw [List.getD_eq_getElem?_getD, List.getD_eq_getElem?_getD, List.getElem?_eq_getElem hi, h1]
      exact h2
    · have hl := r.length
      rw [List.getD_eq_getElem?_getD, List.getD_eq_getElem?_getD, List.getElem?_eq_none (by omega), List.getElem?_eq_none (by omega)]
      exact .non
def callP (perm : List Nat) (n : Nat) (m : List D → M D) : List D → M D := fun ds => callN n m (permL .non perm ds)
theorem ev_callK {x : Str} {k n nk : Nat} {fn : Addr} {fd : FuncData} {ps ks : List Str} {m : List D → M D} {perm : List Nat} (G : FnG X.prog X.w X.K X.mg X.base k fn fd ps (spD X.K X.mg n m)) (hr : Room k X.A) (hgd : X.A.guards = some []) (hg : Gl X x) (hm : X.mg x = some (.ref fn)) (hk : PySem.W.keepIn X.K (.ref fn) = true) (hb : KBind X.K fd ps ks perm)
    (tk : Takes X W) (ha : KV' X W kws fs) (hall : (backToKw pos (keywordEach kws X.env)).all (·.1.isSome) = true := by rfl) (hks : (backToKw pos (keywordEach kws X.env)).filterMap (·.1) = ks := by rfl) (hnk : ks.length = nk := by rfl) (hdb : (x == ("__debug__" : Str)) = false := by decide)
    (hpl : ((backTo pos (starEach [] X.env)).any (·.1) || (backToKw pos (keywordEach kws X.env)).any (·.1.isNone)) = false := by rfl) :
    EV X W (.Call (.Name x p) [] kws pos) (withA fs fun ds => if ds.length = nk then callP perm n m ds else fun _ => .bad) := by
  refine ⟨fun pins s σ H Q I h => ?_⟩
  refine wpAny_Call_Name_kw (ld_glob I hg hm ?_ hdb)
  refine PySem.W.callWith_KW0 (h₀ := X.base) I.ok.mod.kin hk hall ?_ hpl
  obtain ⟨dk, δ, sd, F, er, st, q⟩ := h
  refine thn (ha.run pos pins s σ H _ I ⟨dk, δ, sd, F, er, st, EPost.bind q fun xs s1 vs F1 H1 n r q1 => (show ∃ xs s1 F1, Nxt X.K dk F H F1 H1 s1 ∧ RpAll X.K dk F1 vs xs ∧ EPost X.K X.mg dk (RelD X.K dk) (WE W σ) F1 H1 Q ((if xs.length = nk then callP perm _ m xs else fun _ => .bad) s1) from ⟨xs, s1, F1, n, r, q1⟩)⟩) fun ws s2 hh => ?_
  obtain ⟨vs, H2, I2, rz, xs, s1, F1, n, r, q1⟩ := hh
  refine ⟨I2.kIn, ?_⟩
  rw [hks]
  split at q1
  · rename_i hl
    unfold callP callN at q1
    split at q1
    · rename_i hln
      have len1 : ws.length = ks.length := by rw [← rz.length, r.length, hl, hnk]
      have r2 := vals_perm rz perm
      have hsp : spD X.K X.mg _ m (permL .non perm vs) H2 Q (WE W σ) := ⟨dk, _, s1, F1, n.st, rp_perm r perm, hln, q1⟩
      refine wpAny_call (codeAny_mono (G.run X.A X.stack s2 H2 ⟨[], ks.zip ws⟩ _ _ Q (WE W σ) hr hgd I2.env0 (hb s2 ws I2.kIn len1) r2 hsp) fun r' s' hq => ?_)
      cases r' with
      | error er => exact passAt tk σ pins H2 s2 er s' I2 hq
      | ok fl =>
        cases fl with
        | ret u => exact I2.after hq
        | next => exact hq.elim
        | brk => exact hq.elim
        | cont => exact hq.elim
    · exact q1.elim
  · exact q1.elim
/-! ### dict displays -/
def keyOf : D → Option Key
  | .int i => some (.inl i)
  | .str x => some (.inr x)
  | _ => none
def dctOf : List (D × D) → Option (List (Key × D))
  | [] => some []
  | (k, v) :: r => (keyOf k).bind fun k => (dctOf r).map fun r => (k, v) :: r
def mkDct (ps : List (D × D)) : M D := fun s => match dctOf ps with
  | some kvs => if decide ((kvs.map (·.1)).Nodup) = true then (if decide (kvs.length ≤ 15) = true then .ok (.dct kvs) s else .bad) else .bad
  | none => .bad
abbrev FP := DEnv → M (List (D × D))
def dv0 : FP := fun _ s => .ok [] s
def dvC (f g : FE) (h : FP) : FP := fun δ s => (f δ s).bind fun x s => (g δ s).bind fun y s => (h δ s).bind fun r s => .ok ((x, y) :: r) s
theorem ev_dict0 : EV X W (.Dict [] [] pos) (cst (.dct [])) := by
  refine pe_weak pe_dnewK fun σ H Q ⟨dk, δ, s, F, er, st, q⟩ => ?_
  intro pA hp
  have n := Nxt.new (o := .dK []) st hp
  exact q _ _ _ n (.dct upd_same rfl .nil)
def PairsP (K : PySem.W.Frag) (dk : Addr) (F : Hp) (vs : List (V × V)) (ds : List (D × D)) : Prop := RpAll K dk F (vs.map (·.1)) (ds.map (·.1)) ∧ RpAll K dk F (vs.map (·.2)) (ds.map (·.2))
def DVs (X : Cx) (W : WX) (trs : List (TE × TE)) (h : FP) : Prop := ∀ σ H (Q : List (V × V) → Hp → Prop), (∃ dk δ s F, EnvR X.K dk F σ δ ∧ Stt X.K dk F H s ∧ EPost X.K X.mg dk (fun F v d => PairsP X.K dk F v d) (WE W σ) F H Q (h δ s)) → tPairs trs σ H Q
theorem dvs_nil : DVs X W [] dv0 := fun σ H Q ⟨dk, δ, s, F, er, st, q⟩ => EPost.ok (v := []) q st ⟨.nil, .nil⟩
theorem dvs_cons {trs : List (TE × TE)} {h : FP} (hr : DVs X W trs h) : DVs X W ((tEV X.K X.mg W f, tEV X.K X.mg W g) :: trs) (dvC f g h) := fun σ H Q ⟨dk, δ, s, F, er, st, q⟩ => by
  refine ⟨dk, δ, s, F, er, st, EPost.bind q fun x s1 v F1 H1 n rx q1 => ?_⟩
  refine ⟨dk, δ, s1, F1, er.mono n.sm, n.st, EPost.bind q1 fun y s2 u F2 H2 n2 ry q2 => ?_⟩
  refine hr σ H2 _ ⟨dk, δ, s2, F2, er.mono (n.sm.trans n2.sm), n2.st, EPost.bind q2 fun r s3 rv F3 H3 n3 rr q3 => ?_⟩
  exact EPost.ok q3 n3.st ⟨.cons (rx.mono (n2.sm.trans n3.sm)) rr.1, .cons (ry.mono n3.sm) rr.2⟩
theorem putK_new {acc : List (Key × V)} {k : Key} {v : V} (h : k ∉ acc.map (·.1)) : putK acc k v = acc ++ [(k, v)] := by
  unfold putK
  rw [if_neg]
  intro z
  obtain ⟨kv, h1, h2⟩ := List.any_eq_true.mp z
  exact h (List.mem_map.mpr ⟨kv, h1, of_decide_eq_true h2⟩)
theorem merge_new : ∀ (more acc : List (Key × V)), ((acc ++ more).map (·.1)).Nodup → mergeK acc more = acc ++ more
  | [], acc, _ => by simp [mergeK]
  | (k, v) :: r, acc, h => by
    have h1 : k ∉ acc.map (·.1) := fun z => by
      rw [List.map_append] at h
      exact (List.nodup_append.mp h).2.2 k z k (by simp) rfl
    show mergeK (putK acc k v) r = _
    rw [putK_new h1, merge_new r (acc ++ [(k, v)]) (by rw [List.append_assoc]; exact h), List.append_assoc]
    rfl
theorem dct_pairs {K : PySem.W.Frag} {dk : Addr} {F : Hp} : ∀ {vs : List (V × V)} {ds : List (D × D)} {kds : List (Key × D)}, PairsP K dk F vs ds → dctOf ds = some kds →
    ∃ kvs : List (Key × V), vs = kvs.map (fun kv => (kV kv.1, kv.2)) ∧ kvs.map (·.1) = kds.map (·.1) ∧ RpAll K dk F (kvs.map (·.2)) (kds.map (·.2))
  | [], [], kds, _, h => by unfold dctOf at h; cases h; exact ⟨[], rfl, rfl, .nil⟩
  | [], _ :: _, _, ⟨h, _⟩, _ => by cases h
  | _ :: _, [], _, ⟨h, _⟩, _ => by cases h
  | (x, y) :: vr, (dx, dy) :: dr, kds, ⟨h1, h2⟩, h => by
    rw [dctOf] at h
    cases hk : keyOf dx with
    | none => rw [hk] at h; cases h
    | some k =>
      rw [hk] at h
      cases hr : dctOf dr with
      | none => rw [hr] at h; cases h
      | some kr =>
        rw [hr] at h; cases h
        cases h1 with
        | cons a1 a2 =>
          cases h2 with
          | cons b1 b2 =>
            obtain ⟨kvs, e1, e2, e3⟩ := dct_pairs (vs := vr) ⟨a2, b2⟩ hr
            have ek : x = kV k := by
              cases a1 with
              | int i => unfold keyOf at hk; cases hk; rfl
              | str i => unfold keyOf at hk; cases hk; rfl
              | _ => unfold keyOf at hk; cases hk
            exact ⟨(k, y) :: kvs, by rw [e1, ek]; rfl, by simp [e2], .cons b1 e3⟩
theorem EPost.bindAt {α β γ δ : Type} {K : PySem.W.Frag} {mg : Str → Option Value} {dk : Addr} {RR : Hp → β → α → Prop} {RS : Hp → δ → γ → Prop} {W : XK} {F H F' H' : Hp} {s : Deck} {Q : δ → Hp → Prop} {r : R α} {g : α → Deck → R γ} {P : β → Hp → Prop}
    (n1 : Nxt K dk F H F' H' s) (h : EPost K mg dk RS W F H Q (r.bind g)) (k : ∀ a s1 v F1 H1, Nxt K dk F' H' F1 H1 s1 → RR F1 v a → EPost K mg dk RS W F H Q (g a s1) → P v H1) : EPost K mg dk RR W F' H' P r := by
  cases r with
  | ok a s' => exact fun v F2 H2 n rr => k a s' v F2 H2 n rr h
  | raise e s' => exact EPost.later n1 h
  | bad => exact h
theorem ev_dict {keys : List (Option Expr)} {values : List Expr} {trs : List (TE × TE)} {h : FP} (hp : PPs X pos keys values trs) (hd : DVs X W trs h) (hall : keys.all (·.isSome) = true := by rfl) (hl : keys.length = values.length := by rfl) (h0 : keys ≠ [] := by exact List.cons_ne_nil _ _) (h15 : keys.length ≤ 15 := by decide) :
    EV X W (.Dict keys values pos) (fun δ s => (h δ s).bind mkDct) := by
  refine pe_weak (pe_disp hp hall hl h0 h15) fun σ H Q ⟨dk, δ, s, F, er, st, q⟩ => ?_
  intro pA hpA
  have fpA : F pA = none := st.sub.free hpA
  obtain ⟨cl, hdk, _⟩ := st.deck
  have hne : pA ≠ dk := fun z => by rw [z, hdk] at hpA; cases hpA
  have st1 : Stt X.K dk F (upd H pA (.dK [])) s := Nxt.upd (o := .dK []) st fpA hne
  have fr1 : Fr dk H (upd H pA (.dK [])) := fun b u _ e => by rw [upd_ne (ne_of_none e hpA)]; exact e
  have n1 : Nxt X.K dk F H F (upd H pA (.dK [])) s := ⟨Same.refl _, st1, fr1, fun _ e _ => e⟩
  refine hd σ _ _ ⟨dk, δ, s, F, er, st1, EPost.bindAt n1 q fun ds s2 vs F2 H2 n2 rv q2 => ?_⟩
  have hD2 : H2 pA = some (.dK []) := n2.fr _ _ hne upd_same
  have hF2 : F2 pA = none := n2.pv _ fpA (by rw [upd_same]; exact fun z => by cases z)
  unfold mkDct at q2
  split at q2
  · rename_i kds hk
    split at q2
    · rename_i hn
      split at q2
      · rename_i hz
        have hn' := of_decide_eq_true hn
        have hz' := of_decide_eq_true hz
        obtain ⟨kvs, e1, e2, e3⟩ := dct_pairs rv hk
        have hlen : kvs.length = kds.length := by have := congrArg List.length e2; simpa using this
        refine ⟨hD2, kvs, e1, by omega, ?_⟩
        rw [merge_new kvs [] (by rw [List.nil_append, e2]; exact hn'), List.nil_append]
        obtain ⟨cl2, k1, k2⟩ := n2.st.deck
        have sm2 : Same F2 (upd F2 pA (.dK kvs)) := fun b u e => by rw [upd_ne (fun z => by rw [z, hF2] at e; cases e)]; exact e
        have n12 := n1.trans n2
        refine q2 (.ref pA) (upd F2 pA (.dK kvs)) (upd H2 pA (.dK kvs)) ⟨n12.sm.trans sm2, ⟨fun b u e => ?_, by rw [upd_ne (Ne.symm hne)]; exact n2.st.fdk, cl2, by rw [upd_ne (Ne.symm hne)]; exact k1, sm2 _ _ k2⟩, fun b o hb e => by rw [upd_ne (ne_of_none e hpA)]; exact n12.fr b o hb e, fun b e1 e2 => ?_⟩ (.dct upd_same e2 (e3.mono sm2))
        · by_cases hb : b = pA
          · rw [hb] at e ⊢; rw [upd_same] at e ⊢; exact e
          · rw [upd_ne hb] at e ⊢; exact n2.st.sub b u e
        · rw [upd_ne (fun z => e2 (by rw [z]; exact hpA))]
          exact n12.pv b e1 e2
      · exact q2.elim
    · exact q2.elim
  · exact q2.elim
end
end FL

namespace FL
open PySem PySem.Spec L2

theorem hu64 {A : Around} {k : Nat} (hr : Room k A) : A.units + 64 < cLine := Nat.lt_of_le_of_lt (by omega) hr.un
/-- a def of the text stands under its name -/
def Here (K : PySem.W.Frag) (mg : Str → Option Value) (x : Str) (st : Stmt) : Prop := ∃ f fd, Fun K x x st f fd ∧ mg x = some (.ref f)
/-- .. and is worth m -/
def Worth (P : Program) (w : World) (K : PySem.W.Frag) (mg : Str → Option Value) (base : Heap) (k : Nat) (x : Str) (st : Stmt) (ps : List Str) (n : Nat) (m : List D → M D) : Prop :=
  ∃ f fd, FnG P w K mg base k f fd ps (spD K mg n m) ∧ Fun K x x st f fd ∧ mg x = some (.ref f)
section
variable {P : Program} {w : World} {K : PySem.W.Frag} {mg : Str → Option Value} {base : Heap} {x : Str} {st : Stmt} {ps N : List Str} {k n : Nat} {m : List D → M D} {g : FS}
theorem worth_mk (h : Here K mg x st) (S : FnScope N ps (defScope st)) (hN : ps.length ≤ N.length)
    (hbody : ∀ {f : Addr} (cdv : Value) (A : Around) (outer : List Env) (s : Shared) (H : Hp) (E : XK), Room k (A.deeper (PyProof.Rows.envOfC x (defScope st) s.heap.objs.size f cdv)) → A.guards = some [] →
      BV (cxOf (L2.CX P w) P w K mg base N x (defScope st) f cdv A outer s H E) (fun cls d _ H => E cls d H) (defBody st) g) : Worth P w K mg base (k + 1) x st ps ps.length (defM N.length g) := by
  obtain ⟨f, fd, Fn, hm⟩ := h
  exact ⟨f, fd, fn_defG Fn S hN hbody, Fn, hm⟩
theorem worth_zero (h : Here K mg x st) (hb : ∀ ds s, m ds s = .bad) : Worth P w K mg base k x st ps n m := by
  obtain ⟨f, fd, Fn, hm⟩ := h
  have no : ∀ vs H Q E, ¬ spD K mg n m vs H Q E := fun vs H Q E ⟨dk, ds, s, F, st, r, hl, q⟩ => by rw [hb] at q; exact q
  exact ⟨f, fd, ⟨fun vs H Q E q => absurd q (no _ _ _ _), fun A outer s H args us vs Q E _ _ _ _ _ q => absurd q (no _ _ _ _)⟩, Fn, hm⟩
theorem Worth.mono (h : Worth P w K mg base k x st ps n m) {j : Nat} (hk : k ≤ j) : Worth P w K mg base j x st ps n m := by
  obtain ⟨f, fd, G, r⟩ := h
  exact ⟨f, fd, G.mono hk, r⟩
theorem Worth.imp (h : Worth P w K mg base k x st ps n m) {m' : List D → M D} (hm : ∀ ds s, ds.length = n → m' ds s ≠ .bad → m ds s = m' ds s) : Worth P w K mg base k x st ps n m' := by
  obtain ⟨f, fd, G, r⟩ := h
  refine ⟨f, fd, G.imp fun vs H Q E ⟨dk, ds, s, F, st, rr, hl, q⟩ => ⟨dk, ds, s, F, st, rr, hl, ?_⟩, r⟩
  by_cases hb : m' ds s = .bad
  · rw [hb] at q; exact q.elim
  · rw [hm ds s hl hb]; exact q
end
section
variable {X : Cx} {W : WX} {a : Expr} {es : List Expr} {fs : FA} {pos p : Pos} {kws : List Keyword} {x : Str} {st : Stmt} {k n : Nat} {ps : List Str} {m : List D → M D}
theorem ev_callW (Wt : Worth X.prog X.w X.K X.mg X.base k x st ps n m) (hr : Room k X.A) (hgd : X.A.guards = some []) (hg : Gl X x)
    (hbind : ∀ (kV doc pm : Value) (an : Option Addr) (cdv ct : Value) (us : List Value), us.length = ps.length → bindArgs (PySem.W.fnOf x x (defArgs st) (defBody st) (defScope st) .none kV doc pm an cdv ct) ⟨us, []⟩ = pure (ps.zip us))
    (tk : Takes X W) (ha : AV X W (a :: es) fs) (hdb : (x == ("__debug__" : Str)) = false := by decide) (he : starEach (a :: es) X.env = (false, eval a X.env) :: starEach es X.env := by rfl) (hpl : (backTo pos (starEach es X.env)).any (·.1) = false := by rfl) :
    EV X W (.Call (.Name x p) (a :: es) [] pos) (withA fs (callN n m)) := by
  obtain ⟨f, fd, G, Fn, hm⟩ := Wt
  exact ev_callG G hr hgd hg hm Fn.kp (Fn.binds hbind) tk ha hdb he hpl
def callKW (nk : Nat) (perm : List Nat) (n : Nat) (m : List D → M D) : List D → M D := fun ds => if ds.length = nk then callP perm n m ds else fun _ => .bad
theorem ev_callKW {ks : List Str} {perm : List Nat} (Wt : Worth X.prog X.w X.K X.mg X.base k x st ps n m) (hr : Room k X.A) (hgd : X.A.guards = some []) (hg : Gl X x)
    (hbind : ∀ (kV doc pm : Value) (an : Option Addr) (cdv ct : Value) (ws : List Value), ws.length = ks.length → bindArgs (PySem.W.fnOf x x (defArgs st) (defBody st) (defScope st) .none kV doc pm an cdv ct) ⟨[], ks.zip ws⟩ = pure (ps.zip (permL .none perm ws)))
    (tk : Takes X W) (ha : KV' X W kws fs) (hall : (backToKw pos (keywordEach kws X.env)).all (·.1.isSome) = true := by rfl) (hks : (backToKw pos (keywordEach kws X.env)).filterMap (·.1) = ks := by rfl) (hdb : (x == ("__debug__" : Str)) = false := by decide)
    (hpl : ((backTo pos (starEach [] X.env)).any (·.1) || (backToKw pos (keywordEach kws X.env)).any (·.1.isNone)) = false := by rfl) :
    EV X W (.Call (.Name x p) [] kws pos) (withA fs (callKW ks.length perm n m)) := by
  obtain ⟨f, fd, G, Fn, hm⟩ := Wt
  have kp := Fn.kp
  refine ev_callK (ks := ks) (perm := perm) G hr hgd hg hm kp (fun s ws _ hl => ?_) tk ha hall hks rfl hdb hpl
  obtain ⟨oc, od, kV, doc, pm, an, cdv, ct, osl, rfl, lk, hcd⟩ := Fn.ex
  exact .of_eq (hbind kV doc pm an cdv ct ws hl)
end
end FL

namespace FL
open PySem PySem.Spec L2

/-! ### the mixer is made -/
def spDeck (K : PySem.W.Frag) (N : Nat) : Sp := fun vs H Q _ => ∃ (a : Addr) (ns : List Int), vs = [.ref a] ∧ SqL K H a (ns.map V.int) ∧ ns.length ≤ 63 ∧
  ∀ (H' : Hp) (p cl : Addr), Same H H' → H p = none → p ≠ cl → H' p = some (.lst [.ref cl, .int 0, .int 0]) → H' cl = some (.lst ((ns.take N).map V.int)) → Q (.ref p) H'
def rIntT : List V → Hp → VK → Prop := fun xs H Q => (∃ i, xs = [.int i] ∧ Q (.int i) H) ∨ ∃ k, xs = [.bl k] ∧ Q (.int (if k then 1 else 0)) H
def tDeck (K : PySem.W.Frag) (N : Nat) : TS := tRet (tLst (tCons (tLc (iList K (tSl (rSlL K) (tVar 0) tNoPart (tPart (tC (.int N))))) (gName 1) tYes (tCB rIntT (tCons (tVar 1) tNil)) [1]) (tCons (tC (.int 0)) (tCons (tC (.int 0)) tNil))))
theorem cut_take (xs : List V) (N : Nat) : cutV xs none (some (N : Int)) = xs.take N := by
  unfold cutV HT.sIx
  simp only [List.drop_zero, Nat.sub_zero]
  have h : ¬ ((N : Int) < 0) := by omega
  rw [if_neg h]
  by_cases hn : N ≤ xs.length
  · congr 1
    omega
  · rw [List.take_of_length_le (by omega), List.take_of_length_le (by omega)]
theorem deck_reads {K : PySem.W.Frag} {N : Nat} {vs : List V} {H : Hp} {Q : VK} {E : XK} {n1 n2 : Str} (h : spDeck K N vs H Q E) : tDeck K N { nx := fun _ H' => Q .non H', rt := Q } (L2.start [n1, n2] vs) H := by
  obtain ⟨a, ns, rfl, hS, hl, k⟩ := h
  obtain ⟨ms, hms⟩ : ∃ ms, ms = ns.take N := ⟨_, rfl⟩
  rw [← hms] at k
  have hcut : cutV (ns.map V.int) none (some (N : Int)) = ms.map V.int := by rw [cut_take, ← List.map_take, hms]
  refine ⟨_, rfl, (N : Int), rfl, a, _, rfl, hS, fun p1 hp1 => ?_⟩
  rw [hcut]
  have s1 : Same H (upd H p1 (.lst (ms.map V.int))) := fun b o e => by rw [upd_ne (ne_of_none e hp1)]; exact e
  refine ⟨p1, rfl, ⟨_, SqL.of upd_same⟩, fun Dl hD => ?_⟩
  have hD0 : H Dl = none := s1.free hD
  have ne1 : p1 ≠ Dl := fun z => by rw [← z, upd_same] at hD; cases hD
  have hml : ms.length ≤ 63 := by rw [hms, List.length_take]; omega
  refine lc_list (K := K) (a := p1) (xs := ms.map V.int) (fun i H' => Same (upd H p1 (.lst (ms.map V.int))) H' ∧ H' Dl = some (.lst ((ms.take i).map V.int)))
    ⟨fun b o e => by rw [upd_ne (fun z => by rw [z, upd_ne (Ne.symm ne1), hD0] at e; cases e)]; exact e, by rw [upd_same]; rfl⟩ (fun i H' _ z => z.1.seq (SqL.of upd_same)) ?_ ?_
  · rintro i x H' hi ⟨sm, hd⟩
    obtain ⟨z, hz, rfl⟩ : ∃ z, ms[i]? = some z ∧ x = V.int z := by
      rw [List.getElem?_map] at hi
      cases e : ms[i]? with
      | none => rw [e] at hi; cases hi
      | some z => rw [e] at hi; exact ⟨z, rfl, (Option.some.inj hi).symm⟩
    refine ⟨rfl, ?_⟩
    unfold tYes
    refine iteT ?_
    refine ⟨V.int z, rfl, .inl ⟨z, rfl, ?_⟩⟩
    refine ⟨_, hd, ?_, ?_, ?_⟩
    · rw [List.length_map, List.length_take, sizeLine_eq]; omega
    · exact fun b o e => by
        rw [upd_ne (fun q => by rw [q, upd_ne (Ne.symm ne1), hD0] at e; cases e)]
        exact sm b o e
    · rw [upd_same]
      have e2 : ms.take (i + 1) = ms.take i ++ [z] := by
        obtain ⟨hlt, e3⟩ := List.getElem?_eq_some_iff.mp hz
        rw [List.take_succ, hz]
        rfl
      rw [e2, List.map_append]
      rfl
  · rintro H' ⟨sm, hd⟩
    rw [List.length_map, List.take_length] at hd
    refine ⟨by show 3 ≤ sizeLine; decide, fun p hp => ?_⟩
    have ne2 : Dl ≠ p := ne_of_none hd hp
    have hp0 : H p = none := s1.free (sm.free hp)
    refine k _ p Dl (fun b o e => ?_) hp0 (Ne.symm ne2) upd_same (by rw [upd_ne ne2, hd])
    rw [upd_ne (ne_of_none e hp0)]
    exact sm b o (by rw [upd_ne (ne_of_none e hp1)]; exact e)

/-! ### the law -/
def spLawG (K : PySem.W.Frag) : Sp := fun vs H Q _ => ∃ (a : Addr) (ns : List Int), vs = [.ref a] ∧ SqL K H a (ns.map V.int) ∧ ns.length ≤ 63 ∧ ∀ H', Q (.bl true) H'
def deck0 (n : Nat) : DEnv := (List.replicate n none).set 1 (some .deck)
/-- the def that makes the mixer -/
def DeckOk (P : Program) (w : World) (K : PySem.W.Frag) (mg : Str → Option Value) (base : Heap) (k : Nat) (x : Str) (st : Stmt) (ps : List Str) (N : Nat) : Prop :=
  ∃ f fd, FnG P w K mg base k f fd ps (spDeck K N) ∧ Fun K x x st f fd ∧ mg x = some (.ref f)
theorem deck_mk {P : Program} {w : World} {K : PySem.W.Frag} {mg : Str → Option Value} {base : Heap} {k N : Nat} {x n1 n2 : Str} {st : Stmt} (h : Here K mg x st) (S : FnScope [n1, n2] [n1] (defScope st))
    (hbody : ∀ {f : Addr} (cdv : Value) (A : Around) (outer : List Env) (s : Shared) (H : Hp) (E : XK), Room k (A.deeper (PyProof.Rows.envOfC x (defScope st) s.heap.objs.size f cdv)) → A.guards = some [] →
      PSs (cxOf (L2.CX P w) P w K mg base [n1, n2] x (defScope st) f cdv A outer s H E) (defBody st) (tDeck K N)) : DeckOk P w K mg base (k + 1) x st [n1] N := by
  obtain ⟨f, fd, Fn, hm⟩ := h
  refine ⟨f, fd, fn_ofG Fn S (fun vs H Q E h => ?_) (fun cdv A outer s H vs Q E hr hgd h => ?_), Fn, hm⟩
  · obtain ⟨a, ns, rfl, _⟩ := h
    rfl
  · exact ⟨_, hbody cdv A outer s H E hr hgd, deck_reads h⟩
def tDeckCall (K : PySem.W.Frag) (N : Nat) (E : List (Option V) → XK) : TS := tAsg (fun σ H Q => (tCons (tVar 0) tNil) σ H fun vs H1 => spDeck K N (vs ++ []) H1 Q (E σ)) (gName 1)
theorem law_reads {K : PySem.W.Frag} {mg : Str → Option Value} {W : WX} {N : Nat} {Nl : List Str} {g : FS} {vs : List V} {H : Hp} {Q : VK} {E : XK} {E' : List (Option V) → XK} (h : spLawG K vs H Q E) (hN : 2 ≤ Nl.length)
    (hm : ∀ cells : List Int, cells.length ≤ 63 → ∃ s', g (deck0 Nl.length) ⟨cells, 0, 0⟩ = .rt (.bl true) s') :
    tSeq (tDeckCall K N E') (tSV K mg W g) { nx := fun _ H' => Q .non H', rt := Q } (L2.start Nl vs) H := by
  obtain ⟨a, ns, rfl, hS, hl, k⟩ := h
  refine ⟨V.ref a, rfl, a, ns, rfl, hS, hl, fun H' p cl sm hp ne h1 h2 => ?_⟩
  obtain ⟨s', hs⟩ := hm (ns.take N) (by rw [List.length_take]; omega)
  refine ⟨p, deck0 Nl.length, ⟨ns.take N, 0, 0⟩, fun b => if b = p then none else H' b, ⟨?_, fun i d e => ?_⟩, ⟨fun b o e => ?_, if_pos rfl, cl, h1, ?_⟩, ?_⟩
  · unfold L2.start deck0
    simp
    omega
  · unfold deck0 at e
    by_cases hi : i = 1
    · subst hi
      rw [List.getElem?_set_self (by simp; omega)] at e
      cases e
      refine ⟨.ref p, List.getElem?_set_self (by unfold L2.start; simp; omega), .deck⟩
    · rw [List.getElem?_set_ne (Ne.symm hi)] at e
      have z := List.eq_of_mem_replicate (List.mem_of_getElem? e)
      cases z
  · by_cases hb : b = p
    · rw [if_pos hb] at e; cases e
    · rw [if_neg hb] at e; exact e
  · rw [if_neg (Ne.symm ne)]; exact h2
  · rw [hs]
    intro v F' H2 _ r
    cases r
    exact k H2
theorem law_mk {P : Program} {w : World} {K : PySem.W.Frag} {mg : Str → Option Value} {base : Heap} {k N : Nat} {st : Stmt} {Nl : List Str} {x0 : Str} {g : FS} (h : Here K mg "law" st) (S : FnScope Nl [x0] (defScope st)) (hN : 2 ≤ Nl.length)
    (hm : ∀ cells : List Int, cells.length ≤ 63 → ∃ s', g (deck0 Nl.length) ⟨cells, 0, 0⟩ = .rt (.bl true) s')
    (hbody : ∀ {f : Addr} (cdv : Value) (A : Around) (outer : List Env) (s : Shared) (H : Hp) (E : XK), Room k (A.deeper (PyProof.Rows.envOfC "law" (defScope st) s.heap.objs.size f cdv)) → A.guards = some [] →
      PSs (cxOf (L2.CX P w) P w K mg base Nl "law" (defScope st) f cdv A outer s H E) (defBody st) (tSeq (tDeckCall K N (WE fun cls d _ H => E cls d H)) (tSV K mg (fun cls d _ H => E cls d H) g))) :
    ∃ f fd, FnG P w K mg base (k + 1) f fd [x0] (spLawG K) ∧ Fun K "law" "law" st f fd ∧ mg "law" = some (.ref f) := by
  obtain ⟨f, fd, Fn, hm'⟩ := h
  refine ⟨f, fd, fn_ofG Fn S (fun vs H Q E h => ?_) (fun cdv A outer s H vs Q E hr hgd h => ?_), Fn, hm'⟩
  · obtain ⟨a, ns, rfl, _⟩ := h
    rfl
  · exact ⟨_, hbody cdv A outer s H E hr hgd, law_reads h hN hm⟩
theorem ps_deck {X : Cx} {k N : Nat} {x y n1 : Str} {st : Stmt} {W : WX} {arg : Expr} {p pos pos' pos2 : Pos} (Wd : DeckOk X.prog X.w X.K X.mg X.base k x st [n1] N) (hr : Room k X.A) (hgd : X.A.guards = some []) (hg : Gl X x)
    (hbind : ∀ (kV doc pm : Value) (an : Option Addr) (cdv ct : Value) (us : List Value), us.length = [n1].length → bindArgs (PySem.W.fnOf x x (defArgs st) (defBody st) (defScope st) .none kV doc pm an cdv ct) ⟨us, []⟩ = pure ([n1].zip us))
    (tk : Takes X W) (hN : X.N.Nodup) (hi : X.N[1]? = some y) (hy : Loc X.env.scope y) (ha : PE X arg (tVar 0)) (hdb : (x == ("__debug__" : Str)) = false := by decide) (he : starEach (arg :: []) X.env = (false, eval arg X.env) :: starEach [] X.env := by rfl) (hpl : (backTo pos (starEach [] X.env)).any (·.1) = false := by rfl)
    (hs : swapsWith (.Call (.Name x p) [arg] [] pos) (some (.Name y pos')) pos2.line X.env = pure false := by rfl) (hf : X.fn y = true ∨ X.env.scope.names.lookup y = some .local := by first | exact .inl rfl | exact .inr rfl | assumption) :
    PS X (.Assign [.Name y pos'] (.Call (.Name x p) [arg] [] pos) pos2) (tDeckCall X.K N (WE W)) := by
  obtain ⟨f, fd, G, Fn, hm⟩ := Wd
  exact ps_set (i := 1) hN hi hy (pe_callG (E := WE W) (dvs := []) G hr hgd hg hm Fn.kp (Fn.binds hbind) .nil (fun σ => passAt tk σ) (pa_cons ha pa_nil he) hdb he hpl) hs hf
end FL

namespace FL
open PySem PySem.Spec L2

/-! ### the end: the law's call, from a promise that holds where nothing is being shown -/
theorem callG {P : Program} {w : World} {K : PySem.W.Frag} {mg mb : Str → Option Value} {k : Nat} {fa a : Addr} {fd : FuncData} {x : Str} {st : Shared} {vs : List Value} {ns : List Int}
    (inK : K.In st.heap) (hmn : st.heap.Ns mainGlobals mg) (hbu : st.heap.Ns builtinsNs mb) (hbo : ∀ y : Str, y ≠ "__name__" → mb y = bootBuiltins y) (hno : st.heap.NoLimit) (hge : st.gens = #[])
    (hat : st.heap.get? a = some { cls := .type "list", data := .seq vs.toArray }) (hin : PyProof.Rows.IntsAre vs ns) (h63 : ns.length ≤ 63) (room : Room k callerA)
    (F : ∀ base : Heap, K.In base → base.Ns mainGlobals mg → FnG P w K mg base k fa fd [x] (spLawG K)) (hbd : ∀ (s : Shared) (u : Value), BindsTo s fd ⟨[u], []⟩ [(x, u)]) :
    codeAny (model P w) callerA (.call (.ref fa) ⟨[.ref a], []⟩) (fun r s' => r = .ok (.ret (.bool true)) ∧ OldK st.heap s'.heap ∧ s'.os = st.os ∧ PyProof.Rows.AllBare s'.gens) st := by
  have rel := L2.vals_ints hin
  have nV := hin.length
  have hsz : ns.length ≤ sizeLine := by rw [sizeLine_eq]; omega
  have main : ∀ H : Hp, L2.Only H → SqL K H a (ns.map V.int) → HOk P w H st.heap → (∀ b, H b ≠ none → b = a) → (H a ≠ none → K.lookup a = none) →
      codeAny (model P w) callerA (.call (.ref fa) ⟨[.ref a], []⟩) (fun r s' => r = .ok (.ret (.bool true)) ∧ OldK st.heap s'.heap ∧ s'.os = st.os ∧ PyProof.Rows.AllBare s'.gens) st := by
    intro H only scr ok one noK
    have hid : ∀ {b : Addr} {o : Obj}, st.heap.get? b = some o → H b = none → (hidT st.heap H).get? b = some o := fun z n => hidT_get z n
    have dictless : ∀ {b : Addr} {o : Obj} {es : Array DictEntry} {ep : Nat}, st.heap.get? b = some o → o.data = .dict es ep → H b = none := by
      intro b o es ep z dz
      cases q : H b with
      | none => rfl
      | some u =>
        have eb : b = a := one b (by rw [q]; simp)
        rw [eb, hat] at z
        cases z
        exact absurd dz (fun y => by cases (show Data.seq vs.toArray _ = Data.dict es ep from y))
    have nsH : ∀ {b : Addr} {m : Str → Option Value}, st.heap.Ns b m → (hidT st.heap H).Ns b m := by
      rintro b m ⟨o, es, ep, z, dz, r⟩
      exact ⟨o, es, ep, hid z (dictless z dz), dz, r⟩
    have kb : K.In (hidT st.heap H) := by
      intro b o z
      refine hid (inK b o z) ?_
      cases q : H b with
      | none => rfl
      | some u =>
        have eb : b = a := one b (by rw [q]; simp)
        rw [eb, noK (by rw [← eb, q]; simp)] at z
        cases z
    obtain ⟨mc, l1, l2⟩ := hno
    have md : Mod K mg (hidT st.heap H) := ⟨kb, nsH hmn, ⟨mb, nsH hbu, hbo⟩, ⟨mc, nsH l1, l2⟩⟩
    have env : Env0 P w K mg (hidT st.heap H) callerA [] st H := ⟨rfl, md, fun b o z => of_hidT z, Nat.le_of_eq (hidT_size _ _), trivial, fun b hb => absurd (show b ∈ ([] : List Addr) from hb) (by simp), ok, .of_eq hge⟩
    refine codeAny_mono ((F _ kb (nsH hmn)).run callerA [] st H ⟨[.ref a], []⟩ [.ref a] [.ref a] (fun v _ => v = .bl true) (fun _ _ _ => False) room rfl env (hbd st (.ref a)) (.cons rfl .nil) ⟨a, ns, rfl, scr, h63, fun _ => rfl⟩) fun r s' hr => ?_
    cases r with
    | error e =>
      obtain ⟨_, _, _, _, _, _, _, _, _, _, _, _, no⟩ := hr
      exact no.elim
    | ok fl =>
      cases fl with
      | next => exact hr.elim
      | brk => exact hr.elim
      | cont => exact hr.elim
      | ret u =>
        obtain ⟨v, H', os, bare, un, ok', rr, q⟩ := hr
        cases (show v = .bl true from q)
        cases (show u = Value.bool true from rr)
        refine ⟨rfl, OldK.of_keep fun b o z => ?_, os, bare⟩
        cases q2 : H b with
        | none => exact un.keep b o z q2 (fun y => absurd (show b ∈ ([] : List Addr) from y) (by simp)) (by simp)
        | some u =>
          rcases only b with y | ⟨ob, xs, y⟩
          · rw [q2] at y
            cases y
          · obtain ⟨g1, _⟩ := ok b _ y
            obtain ⟨g2, _⟩ := ok' b _ (un.frzs b ob _ y)
            rw [z] at g1
            cases g1
            exact g2
  cases hk : K.lookup a with
  | some o =>
    have z := inK a o hk
    rw [hat] at z
    cases z
    exact main (fun _ => none) (fun _ => .inl rfl) (.inr ⟨_, vs.toArray, _, hk, rfl, rfl, rfl, by rw [List.size_toArray, nV]; exact hsz, by simpa using rel⟩) (fun b u y => nomatch y) (fun b y => absurd rfl y) fun y => absurd rfl y
  | none =>
    obtain ⟨H, hH⟩ : ∃ H : Hp, H = fun b => if b = a then some (.frz { cls := .type "list", data := .seq vs.toArray } (.lst (ns.map V.int))) else none := ⟨_, rfl⟩
    have at_a : H a = some (.frz { cls := .type "list", data := .seq vs.toArray } (.lst (ns.map V.int))) := by rw [hH]; exact if_pos rfl
    have not_a : ∀ b, b ≠ a → H b = none := fun b n => by rw [hH]; exact if_neg n
    refine main H (fun b => ?_) (.inl (.inr ⟨_, at_a⟩)) (fun b u y => ?_) (fun b y => ?_) fun _ => hk
    · by_cases e : b = a
      · rw [e]; exact .inr ⟨_, _, at_a⟩
      · exact .inl (not_a b e)
    · by_cases e : b = a
      · subst e
        rw [at_a] at y
        cases y
        exact ⟨hat, by rw [List.length_map]; exact hsz, vs, _, rel, hat⟩
      · rw [not_a b e] at y
        cases y
    · by_cases e : b = a
      · exact e
      · exact absurd (not_a b e) y
theorem walkG {l : PySem.W.OpenLaw} {k : Nat} {q : Program} {loose : List Str} {XP : (Str → Option Value) → Heap → Prop} {YP : World → Heap → Prop} {d : DefRec} {K : Params → PySem.W.Frag} {x : Str} (h63 : l.most = some 63) (hdf : d.params.defaults = []) (room : Room k callerA)
    (hY : ∀ (w : World) (h : Heap), YP w h → (K w.params).In h)
    (F : ∀ (w : World) (mg : Str → Option Value) (fa : Addr) (h : Heap), (K w.params).In h → h.Ns mainGlobals mg → mg d.name = some (.ref fa) →
      ∃ fd : FuncData, (∀ (s : Shared) (u : Value), BindsTo s fd ⟨[u], []⟩ [(x, u)]) ∧ ∀ base : Heap, (K w.params).In base → base.Ns mainGlobals mg → FnG l.prog w (K w.params) mg base k fa fd [x] (spLawG (K w.params))) :
    PySem.W.WalkO q loose XP YP l.row.toRowW d [] (fun f vs => PySem.call f vs) :=
  Att.attach_call h63 hdf fun w s₀ s₁ mg mb fa o pm cd doc a vs ns G Y ho hd hcd hmg hobj hints hlen hg =>
    have inK := hY w _ Y
    have ⟨_, hb, hF⟩ := F w mg fa _ inK G.T.g hmg
    callG inK G.T.g G.T.b G.T.builtins G.T.nolimit hg hobj hints hlen room hF hb
end FL
namespace FL
open PySem PySem.Spec L2
/-! ### what the program's top has left -/
def At (K : PySem.W.Frag) (x : Str) (st : Stmt) : Prop := ∃ (f : Addr) (oc : Value) (od : Option Addr) (osl : Array (Option Value)) (kV dc pm : Value) (an : Option Addr) (cd ct : Value),
  PySem.W.nsIn K mainGlobals x = some (some (.ref f)) ∧ K.lookup f = some ⟨oc, od, .func (PySem.W.fnOf x x (defArgs st) (defBody st) (defScope st) .none kV dc pm an cd ct), osl⟩ ∧ PySem.W.codeIn K cd x = true ∧ PySem.W.keepIn K (.ref f) = true
theorem At.mk {K : PySem.W.Frag} {x : Str} {st : Stmt} {f : Addr} {oc : Value} {od : Option Addr} {osl : Array (Option Value)} {kV dc pm : Value} {an : Option Addr} {cd ct : Value} (a : PySem.W.nsIn K mainGlobals x = some (some (.ref f)))
    (l : K.lookup f = some ⟨oc, od, .func (PySem.W.fnOf x x (defArgs st) (defBody st) (defScope st) .none kV dc pm an cd ct), osl⟩) (c : PySem.W.codeIn K cd x = true) (k : PySem.W.keepIn K (.ref f) = true) : At K x st := ⟨f, oc, od, osl, kV, dc, pm, an, cd, ct, a, l, c, k⟩
theorem At.here {K : PySem.W.Frag} {h : Heap} {mg : Str → Option Value} {x : Str} {st : Stmt} (A : At K x st) (X : K.In h) (G : h.Ns mainGlobals mg) : Here K mg x st := by
  obtain ⟨f, oc, od, osl, kV, dc, pm, an, cd, ct, a, l, c, k⟩ := A
  exact ⟨f, _, fun_mk l c k, PySem.W.mg_of X G a⟩
theorem fun_one {K : PySem.W.Frag} {x y : Str} {st : Stmt} {f : Addr} {fd fd' : FuncData} (F : Fun K x y st f fd) (F' : Fun K x y st f fd') : fd = fd' := by
  obtain ⟨_, _, _, _, _, _, _, _, _, e1, l1, _⟩ := F.ex
  obtain ⟨_, _, _, _, _, _, _, _, _, e2, l2, _⟩ := F'.ex
  rw [l1] at l2
  have := congrArg (fun o => o.map Obj.data) l2
  simp only [Option.map_some] at this
  injection this with h
  injection h
end FL

namespace FL
open PySem PySem.Spec L2
/-! ### reckoning with mirrors: what each piece gives at what is known -/
section
variable {α β : Type} {a : α} {s s' : Deck} {e : Ex} {f g : FE} {fs gs : FS} {δ δ' : DEnv} {d d' : D} {k : Bool} {i j : Int} {xs ys : List D} {n : Nat} {m : List D → M D} {fa : FA} {ft fu : FT} {p : Pat}
@[simp] theorem q_bind {h : α → Deck → R β} : (R.ok a s).bind h = h a s := rfl
@[simp] theorem q_toS {h : α → Deck → RS} : (R.ok a s).toS δ h = h a s := rfl
@[simp] theorem q_toS_raise {h : α → Deck → RS} : (R.raise e s).toS δ h = .raise e δ s := rfl
@[simp] theorem q_rt : toR (.rt d s) = .ok d s := rfl
@[simp] theorem q_nx : toR (.nx δ s) = .ok .non s := rfl
@[simp] theorem q_raise : toR (.raise e δ s) = .raise e s := rfl
def RS.thn (r : RS) (g : FS) : RS := match r with
  | .nx δ s => g δ s
  | r => r
theorem q_seq : seqS fs gs δ s = (fs δ s).thn gs := by unfold seqS RS.thn; cases fs δ s <;> rfl
@[simp] theorem q_thn_nx : (RS.nx δ s).thn gs = gs δ s := rfl
@[simp] theorem q_thn_rt : (RS.rt d s).thn gs = .rt d s := rfl
@[simp] theorem q_thn_raise : (RS.raise e δ s).thn gs = .raise e δ s := rfl
theorem q_def {g : FS} {ds : List D} : defM n g ds s = toR (g (startD n ds) s) := rfl
theorem q_ite : iteS ft fs gs δ s = (ft δ s).toS δ fun k s => if k = true then fs δ s else gs δ s := rfl
theorem q_ret : retS f δ s = (f δ s).toS δ fun d s => .rt d s := rfl
theorem q_set {i : Nat} : setS i f δ s = (f δ s).toS δ fun d s => .nx (δ.set i (some d)) s := rfl
theorem q_drop : dropS f δ s = (f δ s).toS δ fun d s => .nx δ s := rfl
def nxO (l : Option (List (Nat × D))) (δ : DEnv) (s : Deck) : RS := match l with
  | some l => .nx (setD δ l) s
  | none => .bad
theorem q_asg : asgS p f δ s = (f δ s).toS δ fun d s => nxO (asgP p d) δ s := by unfold asgS nxO; rfl
@[simp] theorem q_nxO {l : List (Nat × D)} : nxO (some l) δ s = .nx (setD δ l) s := rfl
theorem q_for : forS fa p fs δ s = (fa δ s).toS δ fun xs s => forD (turnS p fs) xs δ s := rfl
@[simp] theorem q_for0 {b : D → FS} : forD b [] δ s = .nx δ s := rfl
theorem q_forC {b : D → FS} {x : D} (h : b x δ s = .nx δ' s') : forD b (x :: xs) δ s = forD b xs δ' s' := by show (match b x δ s with | .nx δ' s' => forD b xs δ' s' | .ct δ' s' => forD b xs δ' s' | .bk δ' s' => .nx δ' s' | r => r) = _; rw [h]
theorem q_forR {b : D → FS} {x : D} (h : b x δ s = .rt d s') : forD b (x :: xs) δ s = .rt d s' := by show (match b x δ s with | .nx δ' s' => forD b xs δ' s' | .ct δ' s' => forD b xs δ' s' | .bk δ' s' => .nx δ' s' | r => r) = _; rw [h]
def RS.frd (r : RS) (g : FS) : RS := match r with
  | .nx δ s => g δ s
  | .ct δ s => g δ s
  | .bk δ s => .nx δ s
  | r => r
theorem q_fc {b : D → FS} {x : D} : forD b (x :: xs) δ s = (b x δ s).frd fun δ s => forD b xs δ s := by
  show (match b x δ s with | .nx δ' s' => forD b xs δ' s' | .ct δ' s' => forD b xs δ' s' | .bk δ' s' => .nx δ' s' | r => r) = _
  unfold RS.frd
  cases b x δ s <;> rfl
@[simp] theorem q_frd_nx : (RS.nx δ s).frd gs = gs δ s := rfl
@[simp] theorem q_frd_rt : (RS.rt d s).frd gs = .rt d s := rfl
@[simp] theorem q_frd_ct : (RS.ct δ s).frd gs = gs δ s := rfl
@[simp] theorem q_frd_bk : (RS.bk δ s).frd gs = .nx δ s := rfl
theorem q_turn {i : Nat} : turnS (.nm i) fs d δ s = fs (δ.set i (some d)) s := rfl
def okO (o : Option (Option D)) (s : Deck) : R D := match o with
  | some (some d) => .ok d s
  | _ => .bad
theorem q_get {i : Nat} : getE i δ s = okO δ[i]? s := by unfold getE okO; rfl
@[simp] theorem q_okO : okO (some (some d)) s = .ok d s := rfl
theorem q_cst : cst d δ s = .ok d s := rfl
theorem q_lift {h : D → D → M D} : lift2 h f g δ s = (f δ s).bind fun x s => (g δ s).bind fun y s => h x y s := rfl
theorem q_un {h : D → M D} : un1 h f δ s = (f δ s).bind h := rfl
theorem q_with : withA fa m δ s = (fa δ s).bind m := rfl
theorem q_av0 : av0 δ s = .ok [] s := rfl
theorem q_avC : avC f fa δ s = (f δ s).bind fun x s => (fa δ s).bind fun xs s => .ok (x :: xs) s := rfl
theorem q_callN {ds : List D} : callN n m ds s = if ds.length = n then m ds s else .bad := rfl
theorem q_callKW {nk : Nat} {perm : List Nat} {ds : List D} : callKW nk perm n m ds s = if ds.length = nk then callN n m (permL .non perm ds) s else .bad := by unfold callKW callP; split <;> rfl
theorem q_andD : andD f g δ s = (f δ s).bind fun x s => (tru x s).bind fun k s => if k = true then g δ s else .ok x s := rfl
theorem q_orD : orD f g δ s = (f δ s).bind fun x s => (tru x s).bind fun k s => if k = true then .ok x s else g δ s := rfl
theorem q_notD : notD f δ s = (f δ s).bind fun x s => (tru x s).bind fun k s => .ok (.bl (!k)) s := rfl
theorem q_fAnd : fAnd ft fu δ s = (ft δ s).bind fun k s => if k = true then fu δ s else .ok false s := rfl
theorem q_fOr : fOr ft fu δ s = (ft δ s).bind fun k s => if k = true then .ok true s else fu δ s := rfl
theorem q_fNot : fNot ft δ s = (ft δ s).bind fun k s => .ok (!k) s := rfl
theorem q_fTru : fTru f δ s = (f δ s).bind tru := rfl
theorem q_fBoo : fBoo f δ s = (f δ s).bind boo := rfl
theorem q_ifD : ifD ft f g δ s = (ft δ s).bind fun k s => if k = true then f δ s else g δ s := rfl
theorem q_isN : isN f δ s = (f δ s).bind fun x s => .ok (.bl (isNone x)) s := rfl
theorem q_fIsN : fIsN f δ s = (f δ s).bind fun x s => .ok (isNone x) s := rfl
theorem q_fNotN : fNotN f δ s = (f δ s).bind fun x s => .ok (!isNone x) s := rfl
theorem q_isi {T : String} : isiF f T δ s = (f δ s).bind fun x s => pureM ((isiD T x).map .bl) s := rfl
theorem q_isi2 {T U : String} : isi2F f T U δ s = (f δ s).bind fun x s => pureM ((isi2D T U x).map .bl) s := rfl
@[simp] theorem q_pure : pureM (some d) s = .ok d s := rfl
@[simp] theorem q_none0 : isNone .non = true := rfl
@[simp] theorem q_none1 : isNone (.int i) = false := rfl
@[simp] theorem q_none2 : isNone (.lst xs) = false := rfl
@[simp] theorem q_none3 : isNone (.tup xs) = false := rfl
@[simp] theorem q_none4 : isNone (.bl k) = false := rfl
@[simp] theorem q_tru_bl : tru (.bl k) s = .ok k s := rfl
@[simp] theorem q_tru_int : tru (.int i) s = .ok (i != 0) s := rfl
@[simp] theorem q_tru_lst : tru (.lst xs) s = .ok (!xs.isEmpty) s := rfl
@[simp] theorem q_tru_tup : tru (.tup xs) s = .ok (!xs.isEmpty) s := rfl
@[simp] theorem q_tru_non : tru .non s = .ok false s := rfl
@[simp] theorem q_boo : boo (.bl k) s = .ok k s := rfl
theorem q_mkLst (h : xs.length ≤ 16777216) : mkLst xs s = .ok (.lst xs) s := by unfold mkLst small; rw [if_pos (decide_eq_true h)]
theorem q_mkTup (h : xs.length ≤ 16777216) : mkTup xs s = .ok (.tup xs) s := by unfold mkTup small; rw [if_pos (decide_eq_true h)]
@[simp] theorem q_seqL : seqM (.lst xs) s = .ok xs s := rfl
@[simp] theorem q_seqT : seqM (.tup xs) s = .ok xs s := rfl
@[simp] theorem q_lenL : lenM [.lst xs] s = .ok (.int xs.length) s := rfl
@[simp] theorem q_lenT : lenM [.tup xs] s = .ok (.int xs.length) s := rfl
@[simp] theorem q_eqI : eqM (.int i) (.int j) s = .ok (.bl (decide (i = j))) s := by
  have h : ∀ n : Int, SeqAt.shaped (PyData.int n) = true := fun n => rfl
  unfold eqM eqO pureM
  simp only [py, h, PyData.eqv, if_true, Option.map_some]
  by_cases e : i = j <;> simp [e]
@[simp] theorem q_neI : neM (.int i) (.int j) s = .ok (.bl (!decide (i = j))) s := by
  have h : ∀ n : Int, SeqAt.shaped (PyData.int n) = true := fun n => rfl
  unfold neM eqO pureM
  simp only [py, h, PyData.eqv, if_true, Option.map_some]
  by_cases e : i = j <;> simp [e]
@[simp] theorem q_lt : ltM (.int i) (.int j) s = .ok (.bl (decide (i < j))) s := rfl
@[simp] theorem q_le : leM (.int i) (.int j) s = .ok (.bl (decide (i ≤ j))) s := rfl
@[simp] theorem q_gt : gtM (.int i) (.int j) s = .ok (.bl (decide (j < i))) s := rfl
@[simp] theorem q_ge : geM (.int i) (.int j) s = .ok (.bl (decide (j ≤ i))) s := rfl
@[simp] theorem q_add : addM (.int i) (.int j) s = .ok (.int (i + j)) s := rfl
@[simp] theorem q_addL : addM (.lst xs) (.lst ys) s = mkLst (xs ++ ys) s := rfl
@[simp] theorem q_sub : subM (.int i) (.int j) s = .ok (.int (i - j)) s := rfl
@[simp] theorem q_neg : negM (.int i) s = .ok (.int (-i)) s := rfl
@[simp] theorem q_abs : absM [.int i] s = .ok (.int (if i < 0 then -i else i)) s := rfl
@[simp] theorem q_int : intM1 [.int i] s = .ok (.int i) s := rfl
@[simp] theorem q_intB : intM1 [.bl k] s = .ok (.int (if k then 1 else 0)) s := rfl
@[simp] theorem q_max : max2M [.int i, .int j] s = .ok (.int (if j > i then j else i)) s := rfl
@[simp] theorem q_gcd : gcdM [.int i, .int j] s = .ok (.int ((Nat.gcd i.natAbs j.natAbs : Nat) : Int)) s := rfl
@[simp] theorem q_tupL : tupM [.lst xs] s = .ok (.tup xs) s := rfl
theorem q_mod (h : 0 < j) : modM (.int i) (.int j) s = .ok (.int (i % j)) s := by unfold modM intM; simp [h]
theorem q_fdiv (h : 0 < j) (h2 : j.natAbs.log2 < 9000) : fdivM (.int i) (.int j) s = .ok (.int (i / j)) s := by unfold fdivM intM; simp [divB, h, h2]
theorem q_mul (h : -(2 ^ 64) < i ∧ i < 2 ^ 64) : mulM (.int i) (.int j) s = .ok (.int (i * j)) s := by
  unfold mulM intM
  simp only []
  rw [if_pos]
  exact Bool.or_eq_true_iff.mpr (.inr (decide_eq_true (.inl h)))
theorem q_mulR (h : -(2 ^ 64) < j ∧ j < 2 ^ 64) : mulM (.int i) (.int j) s = .ok (.int (i * j)) s := by
  unfold mulM intM
  simp only []
  rw [if_pos]
  exact Bool.or_eq_true_iff.mpr (.inr (decide_eq_true (.inr h)))
theorem q_pow (h : 0 ≤ j ∧ j ≤ 1000000 ∧ i.natAbs < 2 ^ 64) : powM (.int i) (.int j) s = .ok (.int (i ^ j.toNat)) s := by
  unfold powM intM
  simp only []
  rw [if_pos (show powB i j = true from decide_eq_true h)]
@[simp] theorem q_gL : getM (.lst xs) (.int i) s = pureM (atI xs i) s := rfl
@[simp] theorem q_gT : getM (.tup xs) (.int i) s = pureM (atI xs i) s := rfl
@[simp] theorem q_g0 : getM .deck (.int 0) s = .ok (.lst (s.cells.map .int)) s := rfl
@[simp] theorem q_g1 : getM .deck (.int 1) s = .ok (.int s.turn) s := rfl
@[simp] theorem q_g2 : getM .deck (.int 2) s = .ok (.int s.left) s := rfl
theorem q_put1 : putS f g 1 δ s = (f δ s).toS δ fun v s => (g δ s).toS δ fun d s => match d with
  | .deck => match putM 1 v s with
    | some s' => .nx δ s'
    | none => .bad
  | _ => .bad := rfl
theorem q_comp {b : D → Deck → R (Option D)} {h : D → D} : ∀ {xs : List D}, (∀ x ∈ xs, b x s = .ok (some (h x)) s) → compD b xs s = .ok (xs.map h) s
  | [], _ => rfl
  | x :: xs, hx => by
    unfold compD
    rw [hx x (List.mem_cons_self ..)]
    simp only []
    rw [q_comp fun y hy => hx y (List.mem_cons_of_mem _ hy)]
    rfl
theorem q_lc {src : FA} {vs : List Nat} : lcD src p vs ft f δ s = (src δ s).bind fun xs s => (compD (elemD p vs ft f δ) xs s).bind mkLst := rfl
theorem q_elem {vs : List Nat} {x : D} {l : List (Nat × D)} (h : asgP p x = some l) (h2 : patIn vs l = true) : elemD p vs yesT f δ x s = (f (setD (wipeE δ vs) l) s).bind fun y s => .ok (some y) s := by
  unfold elemD
  rw [h]
  simp only [h2, if_true]
  rfl
theorem q_bools : ∀ (l : List Bool), boolsOf (l.map D.bl) = some l
  | [] => rfl
  | b :: l => by simp [boolsOf, q_bools l]
theorem q_all {l : List Bool} : allM [.lst (l.map D.bl)] s = .ok (.bl (l.all id)) s := by
  unfold allM
  simp only [q_bools]
theorem q_isi2lt (d : D) : isi2D "list" "tuple" d = (match d with | .lst _ => some true | .tup _ => some true | .deck => some true | .exc _ _ => none | _ => some false) := by cases d <;> rfl
end
theorem q_slc {f : FE} {lo hi : Prt} {δ : DEnv} {s : Deck} : slcD f lo hi δ s = (f δ s).bind fun x s => (prtM lo δ s).bind fun l s => (prtM hi δ s).bind fun u s => slcM x l u s := rfl
theorem q_prt0 {δ : DEnv} {s : Deck} : prtM .no δ s = .ok none s := rfl
def intR (r : R D) : R (Option Int) := r.bind fun d s => match d with
  | .int i => .ok (some i) s
  | _ => .bad
theorem q_prt1 {f : FE} {δ : DEnv} {s : Deck} : prtM (.at f) δ s = intR (f δ s) := rfl
theorem q_intR {i : Int} {s : Deck} : intR (.ok (.int i) s) = .ok (some i) s := rfl
theorem q_slcL {xs : List D} {lo hi : Option Int} {s : Deck} : slcM (.lst xs) lo hi s = .ok (.lst (cutD xs lo hi)) s := rfl
theorem q_slcT {xs : List D} {lo hi : Option Int} {s : Deck} : slcM (.tup xs) lo hi s = .ok (.tup (cutD xs lo hi)) s := rfl
theorem q_zipL {xs ys : List D} {s : Deck} : zipM [.lst xs, .lst ys] s = .ok (pairsZ xs ys) s := rfl
theorem q_zipT {xs ys : List D} {s : Deck} : zipM [.tup xs, .tup ys] s = .ok (pairsZ xs ys) s := rfl
theorem q_allp {α : Type} {p : α → Bool} {xs : List α} {s : Deck} : allM [.lst (xs.map fun x => D.bl (p x))] s = .ok (.bl (xs.all p)) s := by
  have h := q_all (l := xs.map p) (s := s)
  rw [List.map_map] at h
  rw [show (xs.map p).all id = xs.all p from by rw [List.all_map]; rfl] at h
  exact h
theorem q_asgN {i : Nat} {d : D} : asgP (.nm i) d = some [(i, d)] := by simp only [asgP]
theorem q_asgT {ps : List Pat} {xs : List D} : asgP (.tp ps) (.tup xs) = asgPs ps xs := by simp only [asgP]
theorem q_asgL {ps : List Pat} {xs : List D} : asgP (.tp ps) (.lst xs) = asgPs ps xs := by simp only [asgP]
theorem q_asgs0 : asgPs [] [] = some [] := by simp only [asgPs]
theorem q_asgsC {p : Pat} {ps : List Pat} {x : D} {xs : List D} : asgPs (p :: ps) (x :: xs) = (asgP p x).bind fun l => (asgPs ps xs).bind fun m => some (l ++ m) := by simp only [asgPs]
theorem q_and_bl {b c : Bool} {s : Deck} : (if b = true then R.ok (D.bl c) s else R.ok (D.bl b) s) = R.ok (D.bl (b && c)) s := by cases b <;> rfl
theorem q_or_bl {b c : Bool} {s : Deck} : (if b = true then R.ok (D.bl b) s else R.ok (D.bl c) s) = R.ok (D.bl (b || c)) s := by cases b <;> rfl
theorem q_c0 : ((0 : Nat) : Int) = 0 := rfl
theorem q_c1 : ((1 : Nat) : Int) = 1 := rfl
theorem q_c2 : ((2 : Nat) : Int) = 2 := rfl
theorem q_c3 : ((3 : Nat) : Int) = 3 := rfl
theorem q_c4 : ((4 : Nat) : Int) = 4 := rfl
theorem q_c5 : ((5 : Nat) : Int) = 5 := rfl
theorem q_c6 : ((6 : Nat) : Int) = 6 := rfl
theorem q_c9 : ((9 : Nat) : Int) = 9 := rfl
theorem q_c13 : ((13 : Nat) : Int) = 13 := rfl
def parO (i j : Nat) (ds : List D) (δ : DEnv) (s : Deck) : RS := match ds with
  | [d, e] => .nx ((δ.set i (some d)).set j (some e)) s
  | _ => .bad
theorem q_par {i j : Nat} {fa : FA} {δ : DEnv} {s : Deck} : parS i j fa δ s = (fa δ s).toS δ fun ds s => parO i j ds δ s := by unfold parS parO; rfl
theorem q_parO {i j : Nat} {d e : D} {δ : DEnv} {s : Deck} : parO i j [d, e] δ s = .nx ((δ.set i (some d)).set j (some e)) s := rfl
theorem q_whS {c : FT} {b : FS} {fu : DEnv → Deck → Nat} {δ : DEnv} {s : Deck} : whileS fu c b δ s = whileD c b (fu δ s) δ s := rfl
theorem q_whD {c : FT} {b : FS} {n : Nat} {δ : DEnv} {s : Deck} : whileD c b (n + 1) δ s = (c δ s).toS δ fun k s => if k = true then (b δ s).frd (whileD c b n) else .nx δ s := rfl
end FL

namespace FL
open PySem PySem.Spec PyProof.Rows L2

/-! ### try with several clauses, each with a name -/
abbrev Su := Addr → Value → Option Addr → TS
def unD (i : Nat) (D : Ends) : Ends := { nx := fun σ' H' => D.nx (σ'.set i none) H', rt := D.rt, bk := fun σ' H' => D.bk (σ'.set i none) H', ct := fun σ' H' => D.ct (σ'.set i none) H' }
/-- the clauses' wishes, one after the other -/
def wAll (K : PySem.W.Frag) (Wout : WX) (D : Ends) : List (Nat × Value × Su) → WX
  | [] => Wout
  | (i, c, ts) :: r => fun cls d σ H => ∃ b, PySem.W.exmOne K cls c = some b ∧ (b = true → ∀ a, H a = none → ts a cls d (unD i D) (σ.set i (some (.ref a))) H) ∧ (b = false → wAll K Wout D r cls d σ H)
inductive HdsN (X : Cx) : List ExceptHandler → List (Nat × Value × Su) → Prop
  | nil : HdsN X [] []
  | cons {x n : Str} {i : Nat} {c : Value} {ts : Su} {b0 : Stmt} {sts : List Stmt} {np po : Pos} {hds : List ExceptHandler} {l : List (Nat × Value × Su)} (hc : Names X x c) (hi : X.N[i]? = some n) (hk : X.env.kindOf n = some .local)
      (hsu : ∀ (a : Addr) (oe : Obj) (cls : Value) (d : Option Addr) (pn : List (Addr × Obj)), Zc cls d oe → (∃ vs, oe.data = .fields vs) → PSs (X.suite a ((a, oe) :: pn)) (b0 :: sts) (ts a cls d)) (r : HdsN X hds l) :
      HdsN X (.ExceptHandler (some (.Name x np)) (some n) (b0 :: sts) po :: hds) ((i, c, ts) :: l)
theorem ps_tryN {X : Cx} {body : List Stmt} {h0 : ExceptHandler} {hds : List ExceptHandler} {l : List (Nat × Value × Su)} {pos : Pos} {tb : WX → TS} {Wout : WX} (hs : X.stack = X.env :: X.outer) (hf : X.env.frame = some X.env.locals) (hN : X.N.Nodup) (tk : Takes X Wout)
    (hb : ∀ (W : WX) (pn : List (Addr × Obj)) (xe : Value → Shared → Prop), Takes (X.tr pn xe) W → PassesOwn (model X.prog X.w) X.A X.env xe → PSs (X.tr pn xe) body (tb W))
    (hh : HdsN X (h0 :: hds) l) : PS X (.Try body (h0 :: hds) [] [] pos) (fun D σ H => tb (wAll X.K Wout D l) D σ H) := by
  refine ⟨fun pins s σ H D inv red => wpAny_Try_except ?_⟩
  have okI := inv.ok
  have frm : X.A.frames = some (X.env :: X.outer) := by rw [okI.frames, hs]
  refine wpAny_mono ((hb (wAll X.K Wout D l) (X.pn ++ pins)
    (fun e s1 => wpAny (model X.prog X.w) X.A (noteFrame e X.env) (fun _ s2 => wpAny (model X.prog X.w) X.A (setFlight e none) (fun _ s3 => wpAny (model X.prog X.w) X.A (handleBy e X.env (h0 :: hds)) (SP X pins D) X.xe s3) X.xe s2) X.xe s1)
    (fun u s' caught => ?_) PassesOwn.looking).run [] s σ H D (inv.toTry _) red) (fun fl s1 post => ?_) (fun e s1 z => z)
  · obtain ⟨a, B, sI, pinsB, σ1, H1, cls, d, rfl, invB, nb, upB, skyB, na, os, ag, wish⟩ := caught
    have inv1 : Inv X pins σ1 H1 sI := invB.ofTry okI
    have sky1 : Sky B (X.env :: X.outer) a (Zc cls d) X.env.locals s'.heap := by rw [← hs]; exact skyB
    show wpAny (model X.prog X.w) X.A (noteFrame (.ref a) X.env) _ _ _
    refine Sky.land Zc.steady frm hf sky1 fun h3 fl3 up3 => ?_
    have inv3 : Inv X pins σ1 H1 { s' with heap := h3 } := inv1.landed nb fl3.1 (upB.trans up3) os ag
    obtain ⟨oe3, vs3, he3, hz3, hd3⟩ := fl3.there
    have off : a ∉ frs (X.env :: X.outer) := fun hm => by
      obtain ⟨_, oz, ez, hnf⟩ := fl3.2.2.1.mem hm
      rw [he3] at ez
      cases ez
      exact hnf _ hd3
    have notL : a ≠ X.env.locals := fun z => off (List.mem_filterMap.mpr ⟨X.env, List.mem_cons_self, by rw [hf, z]⟩)
    have notF : a ∉ X.fs := fun hm => by
      obtain ⟨e, he, q⟩ := List.mem_filterMap.mp hm
      exact off (List.mem_filterMap.mpr ⟨e, List.mem_cons_of_mem _ he, q⟩)
    have suite3 := inv3.suite he3 hd3 na notL notF
    have each : ∀ {hs2 : List ExceptHandler} {l2 : List (Nat × Value × Su)}, HdsN X hs2 l2 → wAll X.K Wout D l2 cls d σ1 H1 → wpAny (model X.prog X.w) X.A (handleBy (.ref a) X.env hs2) (SP X pins D) X.xe { s' with heap := h3 } := by
      intro hs2 l2 hk
      induction hk with
      | nil =>
        intro wn
        refine wpAny_handleBy_nil ?_
        obtain ⟨_, _, _, oeZ, vsZ, T, _, _, heZ, _, hdZ, h1Z, _⟩ := id fl3
        unfold PySem.passOn
        refine wpAny_bind (wpAny_field heZ hdZ h1Z ?_)
        rw [if_neg (show ¬ ((Value.ref T == Value.none) = true) from by simp)]
        have out : wpAny (model X.prog X.w) X.A (setFlight (.ref a) X.env.frame) (fun _ s4 => wpAny (model X.prog X.w) X.A (throw (.ref a) : Sem Flow) (SP X pins D) X.xe s4) X.xe { s' with heap := h3 } := by
          rw [hf]
          exact HandSPX.setFlight_upZ fl3 fun h4 sk4 up4 => wpAny_throw (tk _ _ ⟨a, B, sI, pins, σ1, H1, cls, d, rfl, inv1, nb, (upB.trans up3).trans up4, .inr (.inr (by rw [hs]; exact sk4)), na, os, ag, wn⟩)
        first
          | exact wpAny_bind (wpAny_pure (wpAny_bind out))
          | exact wpAny_bind out
      | @cons x n i c ts b0 sts np po hds3 l3 hc hi hkind hsu r ih =>
        intro wn
        obtain ⟨b, hb1, yes, no⟩ := wn
        refine wpAny_handleBy_cons (codeAny_handlers_test ?_) (by intro q; cases q)
        have looksT : PySem.W.Looks (model X.prog X.w) h3 (typeOf (.ref a)) cls := fun A Q E s k q => wpAny_typeOf_ref (k _ _ he3) (by rw [hz3.1]; exact q)
        have looksM := PySem.W.exm_one (M := model X.prog X.w) inv3.kIn looksT hb1
        have named : ∀ {Q E : Value → Shared → Prop}, Q c { s' with heap := h3 } → wpAny (model X.prog X.w) (X.A.mark (some (.ref a))) (eval (.Name x np) X.env) Q E { s' with heap := h3 } := fun {Q E} q => by
          obtain ⟨hg, hdb, hm | ⟨hm, hv, hnn⟩⟩ := hc
          · exact ld_glob (X := X.suite a ((a, oe3) :: (X.pn ++ pins))) suite3 hg hm q hdb
          · exact ld_blt (X := X.suite a ((a, oe3) :: (X.pn ++ pins))) suite3 hg hm hv q hnn hdb
        refine named (looksM.here ?_)
        cases b with
        | false => exact ih (no rfl)
        | true =>
          refine codeAny_handlers_suite_as (HandSPX.lands_againZ fl3 fun h4 fl4 up4 => ?_)
          have inv4 : Inv X pins σ1 H1 { s' with heap := h4 } := inv1.landed nb fl4.1 ((upB.trans up3).trans up4) os ag
          obtain ⟨oe4, vs4, he4, hz4, hd4⟩ := fl4.there
          have suite4 := inv4.suite he4 hd4 na notL notF
          refine store_ok (X := X.suite a ((a, oe4) :: (X.pn ++ pins))) (v := .ref a) suite4 hN hi (.inl hkind) rfl (fun s5 suite5 => ?_) (.inr hkind)
          refine wpAny_mono ((hsu a oe4 cls d (X.pn ++ pins) hz4 ⟨_, hd4⟩).run [] s5 _ H1 _ suite5 (yes rfl a na)) (fun fl s6 post => ?_) (fun _ _ z => False.elim z)
          have behind : ∀ {σ6 : L2.St} {H6 : Hp} {Q : Shared → Prop}, Inv (X.suite a ((a, oe4) :: (X.pn ++ pins))) [] σ6 H6 s6 → (∀ s7, Inv X pins (σ6.set i none) H6 s7 → Q s7) →
              wpAny (model X.prog X.w) X.A (do bindName X.env n .none; unbindBehindTheSuite X.env n po) (fun _ s7 => Q s7) X.xe s6 := fun {σ6 H6 Q} S6 hq => gone_ok (S6.unsuite okI) hN hi hkind hq
          cases fl with
          | ret u =>
            obtain ⟨v6, σ6, H6, S6, r6, q6⟩ := post
            exact behind S6 fun s7 J7 => ⟨_, _, _, J7, r6, q6⟩
          | next =>
            obtain ⟨σ6, H6, S6, q6⟩ := post
            exact behind S6 fun s7 J7 => ⟨_, _, J7, q6⟩
          | brk =>
            obtain ⟨σ6, H6, S6, q6⟩ := post
            exact behind S6 fun s7 J7 => ⟨_, _, J7, q6⟩
          | cont =>
            obtain ⟨σ6, H6, S6, q6⟩ := post
            exact behind S6 fun s7 J7 => ⟨_, _, J7, q6⟩
    exact each hh wish
  · cases fl with
    | ret u =>
      obtain ⟨v, σ', H', J', r, q⟩ := post
      exact ⟨v, σ', H', J'.ofTry okI, r, q⟩
    | next =>
      obtain ⟨σ', H', J', q⟩ := post
      exact wpAny_execs_nil ⟨σ', H', J'.ofTry okI, q⟩
    | brk =>
      obtain ⟨σ', H', J', q⟩ := post
      exact ⟨σ', H', J'.ofTry okI, q⟩
    | cont =>
      obtain ⟨σ', H', J', q⟩ := post
      exact ⟨σ', H', J'.ofTry okI, q⟩
end FL

namespace PySem
namespace HandSPX
open Builtin Builtin.ObjectAttr
section
variable {M : Model} {A : Around} {E : Value → Shared → Prop} {h : Heap} {g : Array GenState} {d : Drawn} {t : Nat} {os : OsState}
variable {nm q : Str} {C N : Addr} {bs bm bmB : List Value} {hdct : Bool} {sn : List Str} {sub : List Value} {ab : Bool} {col : Option Bool} {dd : Option Addr} {k0 k1 k2 k3 k5 : Option Value} {B newId initId : String} {kw : List (Str × Value)}
theorem check_new_kw (F : ExcBaseFacts B newId initId bmB) (hT : ∀ X : String, bm.contains (.type X) = bmB.contains (.type X)) {rest : List Value} {Q : Unit → Shared → Prop}
    (hC : h.get? C = some (excClassObj nm q C N bs bm hdct sn sub ab col dd k0 k1 k2 k3 k5 newId)) (hq : Q () ⟨h, g, d, t, os⟩) : wpAny M A (checkBuiltinCall newId ⟨.ref C :: rest, kw⟩) Q E ⟨h, g, d, t, os⟩ := by
  have hcont : (Value.ref C :: bm).contains (.type B) = true := by rw [List.contains_cons, hT, F.hasB, Bool.or_true]
  have hstar := F.noStar
  simp only [checkBuiltinCall, F.newKind, F.newSplit, F.newRow]
  repeat (first | refine wpAny_loadPart_at hC ?_ | (refine wpAny_isSubtype_exc hC ?_; rw [hcont]) | refine wpAny_staticBase_exc hC ?_ | refine wpAny_madeBy_exc hC ?_ | simp only [bne_self_eq_false, Bool.false_eq_true, if_false] | wp_step)

  exact hq
end
section
variable {prog : Program} {w : World} {A : Around} {E : Value → Shared → Prop} {R : Result → Shared → Prop} {h : Heap} {g : Array GenState} {d : Drawn} {t : Nat} {os : OsState}
variable {nm q : Str} {C N : Addr} {bs bm bmB : List Value} {hdct : Bool} {sn : List Str} {sub : List Value} {ab : Bool} {col : Option Bool} {dd : Option Addr} {k0 k1 k2 k3 k5 : Option Value} {B newId initId : String} {kw : List (Str × Value)}
theorem new_kw (F : ExcBaseFacts B newId initId bmB) (hT : ∀ X : String, bm.contains (.type X) = bmB.contains (.type X)) {rest : List Value}
    (hC : h.get? C = some (excClassObj nm q C N bs bm hdct sn sub ab col dd k0 k1 k2 k3 k5 newId))
    (hq : R (.ok (.ret (.ref (h.objs.size + 1)))) ⟨(h.push { cls := .type "tuple", data := .seq rest.toArray }).push
      { cls := .ref C, data := .fields #[.ref h.objs.size, .none, .none, .none, .bool false, .none] }, g, d, t, os⟩) (hrest : rest.length ≤ sizeLine) :
    codeAny (model prog w) A (.builtin newId ⟨.ref C :: rest, kw⟩) R ⟨h, g, d, t, os⟩ := by
  have hends := F.ends
  have hcB : (Value.ref C :: bm).contains (.type B) = true := by rw [List.contains_cons, hT, F.hasB, Bool.or_true]
  have hcA : (Value.ref C :: bm).contains (.type "AttributeError") = false := by rw [List.contains_cons, hT, F.noAttr]; rfl
  have hcN : (Value.ref C :: bm).contains (.type "NameError") = false := by rw [List.contains_cons, hT, F.noName]; rfl
  refine codeAny_builtinAt F.entry ?_
  unfold Builtin.«BaseException.__new__»
  refine wpAt_bind ?_
  show wpAt _ _ _ (stack >>= _) _ _ _
  refine wpAt_bind (wpAt_stack fun p below => wpAt_of_wpAny ?_)
  wp_walk
  refine wpAt_of_wpAny ?_
  rw [F.owner]
  repeat (first | with_reducible refine wpAny_madeHere_exc F.canon hC ?_ | with_reducible refine wpAny_loadPart_at hC ?_ | (with_reducible refine wpAny_isSubtype_exc hC ?_; first | rw [hcB] | rw [hcA] | rw [hcN]) | wp_step)
  show R _ _
  rw [Heap.size_push]
  exact hq
theorem type_call_kw (F : ExcBaseFacts B newId initId bmB) (hT : ∀ X : String, bm.contains (.type X) = bmB.contains (.type X)) {rest : List Value} {fI : Addr} {Q : Fin → Shared → Prop}
    (hC : h.get? C = some (excClassObj nm q C N bs bm hdct sn sub ab col dd k0 k1 k2 k3 k5 newId))
    (hi : W.Looks (model prog w) h (typeLookup (.ref C) "__init__") (some (.ref fI))) (hb : ∀ self, W.Looks (model prog w) h (bindSpecial (.ref fI) self) (.ref fI, [self])) (hrest : rest.length ≤ sizeLine)
    (hq : codeAny (model prog w) A (.call (.ref fI) ⟨.ref (h.objs.size + 1) :: rest, kw⟩)
      (fun r s' => match r with | .ok (.ret v) => v = .none ∧ Q (.done (.ret (.ref (h.objs.size + 1)))) s' | .ok _ => False | .error e => E e s')
      ⟨(h.push (W.kdv_tup rest)).push (excO C h.objs.size), g, d, t, os⟩) :
    wpAny (model prog w) A (Builtin.«type.__call__» ⟨.ref C :: rest, kw⟩) Q E ⟨h, g, d, t, os⟩ := by
  repeat (first | with_reducible refine wpAny_loadPart_at hC ?_ | with_reducible refine wpAny_madeBy_exc hC ?_ | wp_step)
  refine codeAny_call_builtin_code (Code.quiet_builtin _ F.quiet) (check_new_kw F hT hC ?_)
  refine new_kw F hT hC ?_ hrest
  show wpAny _ _ _ _ _ _
  have k : ∀ b o, h.get? b = some o → ((h.push (W.kdv_tup rest)).push (excO C h.objs.size)).get? b = some o := fun b o e => Heap.get?_push_of_some _ (Heap.get?_push_of_some _ e)
  have hC₁ := k _ _ hC
  have hget : ((h.push (W.kdv_tup rest)).push (excO C h.objs.size)).get? (h.objs.size + 1) = some (excO C h.objs.size) := by heap_get
  have hcC : (Value.ref C :: bm).contains (.ref C) = true := by simp
  have i1 := hi.keeps k
  have b1 := (hb (.ref (h.objs.size + 1))).keeps k
  unfold isInstance
  repeat (first | with_reducible refine wpAny_loadPart_at hget ?_ | (with_reducible refine wpAny_isSubtype_exc hC₁ ?_; rw [hcC]) | wp_step)
  show wpAny _ _ (typeLookup (.ref C) _) _ _ _
  refine i1.at ?_
  refine wpAny_holding (wpAny_bind (b1.at ?_))
  refine wpAny_bind (wpAny_call (codeAny_mono hq fun r s' z => ?_))
  rcases r with e | (v | _ | _ | _) <;> first | exact z | exact z.elim | skip
  obtain ⟨rfl, z⟩ := z
  first
    | exact wpAny_pure (wpAny_pure z)
    | (wp_walk; exact z)
theorem check_type_call_kw {M : Model} {rest : List Value} {Q : Unit → Shared → Prop} (hC : h.get? C = some (excClassObj nm q C N bs bm hdct sn sub ab col dd k0 k1 k2 k3 k5 newId))
    (hq : Q () ⟨h, g, d, t, os⟩) : wpAny M A (checkBuiltinCall "type.__call__" ⟨.ref C :: rest, kw⟩) Q E ⟨h, g, d, t, os⟩ := by
  have f3 := tc_sub
  have hT : (⟨h, g, d, t, os⟩ : Shared).TypeIs (.ref C) "type" := ⟨_, hC, rfl⟩
  simp only [checkBuiltinCall, tc_kind, tc_split]
  repeat (any_goals (first | assumption | with_reducible refine wpAny_loadPart_at hC ?_ | with_reducible refine wpAny_onRaise ?_ | with_reducible refine wpAny_map ?_ | wp_step))

theorem call_own_kw (F : ExcBaseFacts B newId initId bmB) (hT : ∀ X : String, bm.contains (.type X) = bmB.contains (.type X)) {rest : List Value} {fI : Addr}
    (hC : h.get? C = some (excClassObj nm q C N bs bm hdct sn sub ab col dd k0 k1 k2 k3 k5 newId))
    (hi : W.Looks (model prog w) h (typeLookup (.ref C) "__init__") (some (.ref fI))) (hb : ∀ self, W.Looks (model prog w) h (bindSpecial (.ref fI) self) (.ref fI, [self])) (hrest : rest.length ≤ sizeLine)
    (hq : codeAny (model prog w) (A.under (.builtin "type.__call__" ⟨.ref C :: rest, kw⟩)) (.call (.ref fI) ⟨.ref (h.objs.size + 1) :: rest, kw⟩) (W.InitBack (h.objs.size + 1) R)
      ⟨(h.push (W.kdv_tup rest)).push (excO C h.objs.size), g, d, t, os⟩) :
    codeAny (model prog w) A (.call (.ref C) ⟨rest, kw⟩) R ⟨h, g, d, t, os⟩ := by
  have f1 := tc_lookup
  have f2 := tc_bind (.ref C)
  have hTy : (⟨h, g, d, t, os⟩ : Shared).TypeIs (.ref C) "type" := ⟨_, hC, rfl⟩
  refine codeAny_of_tree ?_
  show wpAny _ _ (callAny (.ref C) _) _ _ _
  repeat (any_goals (first | assumption | with_reducible refine wpAny_loadPart_at hC ?_ | wp_step))
  refine ⟨rfl, ?_⟩
  refine codeAny_call_builtin_at (Code.quiet_builtin _ (by decide +kernel)) entry_typeCall (check_type_call_kw hC (type_call_kw F hT hC hi hb hrest ?_))
  refine codeAny_mono hq fun r s' z => ?_
  rcases r with e | (v | _ | _ | _) <;> exact z
end
end HandSPX
end PySem

namespace FL
open PySem PySem.Spec L2

/-! ### errors of own classes -/
/-- what its __init__ does: it keeps the fields -/
def spInit (C : Addr) (fl : List Str) : Sp := fun vs H Q _ => ∃ (a : Addr) (ys : List V), vs = .ref a :: ys ∧ ys.length = fl.length ∧ H a = some (exo a C none) ∧
  ∀ (d : Addr) (H' : Hp), H d = none → d ≠ a → H' a = some (exo a C (some d)) → H' d = some (exd d (fl.zip ys).reverse) → (∀ b, b ≠ a → b ≠ d → H' b = H b) → Q .non H'
def KBindX (K : PySem.W.Frag) (fd : FuncData) (ps ks : List Str) (perm : List Nat) : Prop := ∀ (s : Shared) (u : Value) (ws : List Value), K.In s.heap → ws.length = ks.length → BindsTo s fd ⟨[u], ks.zip ws⟩ (ps.zip (u :: permL .none perm ws))
structure ExcW (P : Program) (w : World) (K : PySem.W.Frag) (mg : Str → Option Value) (base : Heap) (x : Str) (fl : List Str) (kp : List (List Str × List Nat)) : Prop where
  ex : ∃ (C fI : Addr) (fd : FuncData) (ps : List Str), mg x = some (.ref C) ∧ CNm K x C ∧ OexC K C ∧ PySem.W.findIn K (.ref C) "__init__" = some (some (.ref fI)) ∧ PySem.W.typeIn K (.ref fI) = some (.type "function") ∧
    FnOk P w K mg base CX0 1 fI fd ps (spInit C fl) ∧ Binds K fd ps [] ∧ XfC K C ∧ (∀ f ∈ fl, PySem.W.findIn K (.ref C) f = some none) ∧ ∀ e ∈ kp, KBindX K fd ps e.1 e.2
  nd : fl.Nodup
section
variable {P : Program} {w : World} {K : PySem.W.Frag} {mg : Str → Option Value} {base : Heap}
theorem init1 {qual f n0 n1 : Str} {st : Stmt} {fI C : Addr} {fd : FuncData} (Fn : Fun K "__init__" qual st fI fd) (S : FnScope [n0, n1] [n0, n1] (defScope st)) (T : OexC K C) (hf : PySem.W.findIn K (.ref C) f = some none)
    (hb : ∀ {fa : Addr} (cdv : Value) (A : Around) (outer : List Env) (s : Shared) (H : Hp) (E : XK), PSs (cxOf CX0 P w K mg base [n0, n1] qual (defScope st) fa cdv A outer s H E).nox (defBody st) (tOst K f (tVar 0) (tVar 1))) : FnOk P w K mg base CX0 1 fI fd [n0, n1] (spInit C [f]) := by
  refine Fn.ok S (fun vs H Q E h => ?_) (fun cdv A outer s H vs Q E hr h => ⟨tOst K f (tVar 0) (tVar 1), hb cdv A outer s H E, ?_⟩)
  · obtain ⟨a, ys, rfl, hl, _⟩ := h
    simp [hl]
  · obtain ⟨a, ys, rfl, hl, ha, k⟩ := h
    match ys, hl with
    | [y], _ =>
      refine ⟨y, rfl, .ref a, rfl, a, C, rfl, T, hf, .inl ⟨ha, fun dx hdx hne => ?_⟩⟩
      exact k dx _ hdx hne upd_same (by rw [upd_ne hne, upd_same]; rfl) fun b h1 h2 => by rw [upd_ne h1, upd_ne h2]
theorem init2 {qual f g n0 n1 n2 : Str} {st : Stmt} {fI C : Addr} {fd : FuncData} (Fn : Fun K "__init__" qual st fI fd) (S : FnScope [n0, n1, n2] [n0, n1, n2] (defScope st)) (T : OexC K C) (hf : PySem.W.findIn K (.ref C) f = some none) (hg : PySem.W.findIn K (.ref C) g = some none)
    (hb : ∀ {fa : Addr} (cdv : Value) (A : Around) (outer : List Env) (s : Shared) (H : Hp) (E : XK), PSs (cxOf CX0 P w K mg base [n0, n1, n2] qual (defScope st) fa cdv A outer s H E).nox (defBody st) (tSeq (tOst K f (tVar 0) (tVar 1)) (tOst K g (tVar 0) (tVar 2)))) : FnOk P w K mg base CX0 1 fI fd [n0, n1, n2] (spInit C [f, g]) := by
  refine Fn.ok S (fun vs H Q E h => ?_) (fun cdv A outer s H vs Q E hr h => ⟨_, hb cdv A outer s H E, ?_⟩)
  · obtain ⟨a, ys, rfl, hl, _⟩ := h
    simp [hl]
  · obtain ⟨a, ys, rfl, hl, ha, k⟩ := h
    match ys, hl with
    | [y, z], _ =>
      refine ⟨y, rfl, .ref a, rfl, a, C, rfl, T, hf, .inl ⟨ha, fun dx hdx hne => ?_⟩⟩
      have e1 : (upd (upd H dx (exd dx [(f, y)])) a (exo a C (some dx))) dx = some (exd dx [(f, y)]) := by rw [upd_ne hne, upd_same]
      refine ⟨z, rfl, .ref a, rfl, a, C, rfl, T, hg, .inr ⟨dx, [(f, y)], upd_same, e1, by show 1 ≤ 900; decide, ?_⟩⟩
      exact k dx _ hdx hne (by rw [upd_ne (Ne.symm hne), upd_same]) upd_same fun b h1 h2 => by rw [upd_ne h2, upd_ne h1, upd_ne h2]
end
/-! ### raise C(..) -/
def raiseS (x : Str) (fl : List Str) (fs : FA) : FS := fun δ s => (fs δ s).toS δ fun ds s => if ds.length = fl.length then .raise ⟨x, (fl.zip ds).reverse⟩ δ s else .bad
theorem RpAll.reverse {K : PySem.W.Frag} {dk : Addr} {F : Hp} : ∀ {vs : List V} {ds : List D}, RpAll K dk F vs ds → RpAll K dk F vs.reverse ds.reverse
  | _, _, .nil => .nil
  | _, _, .cons r t => by
    rw [List.reverse_cons, List.reverse_cons]
    exact (RpAll.reverse t).append (.cons r .nil)
theorem zip_rp {K : PySem.W.Frag} {dk : Addr} {F : Hp} : ∀ {fl : List Str} {vs : List V} {ds : List D}, RpAll K dk F vs ds → (fl.zip vs).map (·.1) = (fl.zip ds).map (·.1) ∧ RpAll K dk F ((fl.zip vs).map (·.2)) ((fl.zip ds).map (·.2))
  | [], _, _, _ => ⟨by simp, by simpa using RpAll.nil⟩
  | _ :: _, _, _, .nil => ⟨by simp, by simpa using RpAll.nil⟩
  | f :: fl, _, _, .cons r t => by
    obtain ⟨h1, h2⟩ := zip_rp (fl := fl) t
    exact ⟨by simp [h1], .cons r h2⟩
theorem rev_rp {K : PySem.W.Frag} {dk : Addr} {F : Hp} {fl : List Str} {vs : List V} {ds : List D} (r : RpAll K dk F vs ds) : ((fl.zip vs).reverse).map (·.1) = ((fl.zip ds).reverse).map (·.1) ∧ RpAll K dk F (((fl.zip vs).reverse).map (·.2)) (((fl.zip ds).reverse).map (·.2)) := by
  obtain ⟨h1, h2⟩ := zip_rp (fl := fl) r
  rw [List.map_reverse, List.map_reverse, List.map_reverse, List.map_reverse, h1]
  exact ⟨rfl, h2.reverse⟩
section
variable {X : Cx} {W : WX}
/-- behind the making of an error -/
theorem made_end {K : PySem.W.Frag} {dk a d : Addr} {F1 H1 H' : Hp} {s1 : Deck} {fl : List Str} {vs : List V} {ds : List D} {x : Str} (st : Stt K dk F1 H1 s1) (rr : RpAll K dk F1 vs ds) (ha : H1 a = none) (hd0 : H1 d = none) (h3 : ∀ b, b ≠ a → b ≠ d → H' b = upd H1 a (exo a C none) b) :
    Nxt K dk F1 H1 (upd F1 d (.xd (fl.zip vs).reverse)) (upd (del H' a) d (.xd (fl.zip vs).reverse)) s1 ∧ ExAt K dk (upd F1 d (.xd (fl.zip vs).reverse)) d ⟨x, (fl.zip ds).reverse⟩ := by
  have keep : ∀ b o, H1 b = some o → upd (del H' a) d (.xd (fl.zip vs).reverse) b = some o := fun b o hbo => by
    have e1 : b ≠ d := fun z => by rw [z, hd0] at hbo; cases hbo
    have e2 : b ≠ a := fun z => by rw [z, ha] at hbo; cases hbo
    rw [upd_ne e1, del_ne e2, h3 b e2 e1, upd_ne e2]
    exact hbo
  have hdk : F1 d = none := by
    cases z : F1 d with
    | none => rfl
    | some o => rw [st.sub _ _ z] at hd0; cases hd0
  obtain ⟨cl, c1, c2⟩ := st.deck
  have ned : dk ≠ d := fun z => by rw [z, hd0] at c1; cases c1
  have sm : Same F1 (upd F1 d (.xd (fl.zip vs).reverse)) := fun b o e => by rw [upd_ne (fun z => by rw [z, hdk] at e; cases e)]; exact e
  obtain ⟨k1, k2⟩ := rev_rp (fl := fl) rr
  refine ⟨⟨sm, ⟨fun b o e => ?_, by rw [upd_ne ned]; exact st.fdk, cl, keep _ _ c1, sm _ _ c2⟩, fun b o _ hbo => keep b o hbo, fun b hb hn => ?_⟩, _, upd_same, k1, k2.mono sm⟩
  · by_cases hb : b = d
    · subst hb
      rw [upd_same] at e ⊢
      exact e
    · rw [upd_ne hb] at e
      exact keep b o (st.sub _ _ e)
  · rw [upd_ne (fun z => hn (by rw [z]; exact hd0))]
    exact hb
theorem sv_raise {kp : List (List Str × List Nat)} {x : Str} {fl : List Str} {e : Expr} {es : List Expr} {fs : FA} {p pos pos2 : Pos} (Ex : ExcW X.prog X.w X.K X.mg X.base x fl kp) (hc : X.calm = true) (hr : Room 2 X.A) (tk : Takes X W) (hg : Gl X x) (hfl : fl.length ≤ 1000) (ha : AV X W (e :: es) fs)
    (hdb : (x == ("__debug__" : Str)) = false := by decide) (he : starEach (e :: es) X.env = (false, eval e X.env) :: starEach es X.env := by rfl) (hpl : (backTo pos (starEach es X.env)).any (·.1) = false := by rfl) :
    SV X W (.Raise (some (.Call (.Name x p) (e :: es) [] pos)) none pos2) (raiseS x fl fs) := by
  obtain ⟨⟨C, fI, fd, ps, gC, cN, T, iC, tI, F1, hb, _, _, hkb⟩, nd⟩ := Ex
  refine ps_weak (ps_raise hc tk (pmk_oex T iC tI F1 hr hb .nil pass0 hg gC ha hdb he hpl)) fun Dn σ H ⟨dk, δ, s, F, er, st, q⟩ => ?_
  refine ⟨dk, δ, s, F, er, st, SPost.ofE er q fun ds s1 vs F1 H1 n rr q1 => ?_⟩
  have lv := RpAll.length rr
  split at q1
  · rename_i hl
    refine ⟨by omega, fun a ha => ⟨a, vs, by rw [List.append_nil], by omega, upd_same, fun d H' hd hne h1 h2 h3 => ⟨rfl, d, _, h1, h2, by rw [upd_ne hne] at hd; exact hd, ?_⟩⟩⟩
    have hd0 : H1 d = none := by rw [upd_ne hne] at hd; exact hd
    obtain ⟨n2, ea⟩ := made_end (x := x) n.st rr ha hd0 h3
    exact q1 σ C d _ _ n2 (er.mono (n.sm.trans n2.sm)) cN ea
  · exact q1.elim
/-! ### raise C(k = ..) -/
def tMkK (C : Addr) (sp : Sp) (nk : Nat) (perm : List Nat) (t : TA) : St → Hp → XK → Prop := fun σ H Q => t σ H fun vs H1 => vs.length = nk ∧ ∀ a, H1 a = none →
  sp (.ref a :: permL .non perm vs) (upd H1 a (exo a C none)) (fun v H2 => v = .non ∧ ∃ d fs, H2 a = some (exo a C (some d)) ∧ H2 d = some (exd d fs) ∧ H1 d = none ∧ Q (.ref C) (some d) (upd (del H2 a) d (.xd fs))) (fun _ _ _ => False)
theorem pmk_oexK {CX : CXT} {x : Str} {C fI : Addr} {k nk : Nat} {fd : FuncData} {ps ks : List Str} {sp : Sp} {perm : List Nat} {kws : List Keyword} {ta : TA} {p pos : Pos} (T : OexC X.K C) (iC : PySem.W.findIn X.K (.ref C) "__init__" = some (some (.ref fI))) (tI : PySem.W.typeIn X.K (.ref fI) = some (.type "function"))
    (F1 : FnOk X.prog X.w X.K X.mg X.base CX k fI fd ps sp) (hr : Room (k + 1) X.A) (hb : KBindX X.K fd ps ks perm) (hx : Passes CX X (fun _ _ _ => False)) (hg : Gl X x) (hm : X.mg x = some (.ref C)) (ha : PK X kws ta)
    (hall : (backToKw pos (keywordEach kws X.env)).all (·.1.isSome) = true := by rfl) (hks : (backToKw pos (keywordEach kws X.env)).filterMap (·.1) = ks := by rfl)
    (hnk : ks.length = nk := by rfl)
    (hdb : (x == ("__debug__" : Str)) = false := by decide) (hpl : ((backTo pos (starEach [] X.env)).any (·.1) || (backToKw pos (keywordEach kws X.env)).any (·.1.isNone)) = false := by rfl) :
    PMk X (.Call (.Name x p) [] kws pos) (tMkK C sp nk perm ta) := by
  intro pins s σ H Q I h
  obtain ⟨nm, q, N, bs, bm, sn, sub, ab, col, dd, k0, k1, k2, k3, k5, hC, hbm⟩ := T.cls
  refine wpAny_Call_Name_kw (ld_glob I hg hm ?_ hdb)
  refine PySem.W.callWith_KW0 (h₀ := X.base) I.ok.mod.kin T.kC hall (thn (ha.run pos pins s σ H _ I h) fun us s1 ⟨vs, H1, I1, r1, hz, q1⟩ => ⟨I1.kIn, ?_⟩) hpl
  rw [hks]
  show wpAny _ _ (call (.ref C) [] (ks.zip us)) _ _ _
  obtain ⟨hp, g, dr, tk, os⟩ := s1
  have hsz : hp.objs.size ≤ hp.objs.size + 1 := Nat.le_succ _
  have hn : H1 (hp.objs.size + 1) = none := I1.hok.fresh hsz
  have hq := q1 (hp.objs.size + 1) hn
  have kk : ∀ b o, hp.get? b = some o → ((hp.push (PySem.W.kdv_tup [])).push (PySem.HandSPX.excO C hp.objs.size)).get? b = some o := fun b o e => Heap.get?_push_of_some _ (Heap.get?_push_of_some _ e)
  have hget : ((hp.push (PySem.W.kdv_tup [])).push (PySem.HandSPX.excO C hp.objs.size)).get? (hp.objs.size + 1) = some (PySem.HandSPX.excO C hp.objs.size) := by heap_get
  have I2 : Inv X pins σ (upd H1 (hp.objs.size + 1) (exo (hp.objs.size + 1) C none)) ⟨(hp.push (PySem.W.kdv_tup [])).push (PySem.HandSPX.excO C hp.objs.size), g, dr, tk, os⟩ :=
    I1.laid (t' := tk) (a := hp.objs.size + 1) (o := exo (hp.objs.size + 1) C none) (h' := (hp.push (PySem.W.kdv_tup [])).push (PySem.HandSPX.excO C hp.objs.size)) kk hsz (exo_ok hget)
  have r2 : Vals (V.ref (hp.objs.size + 1) :: permL .non perm vs) (Value.ref (hp.objs.size + 1) :: permL .none perm us) := .cons rfl (vals_perm r1 perm)
  have hlu : us.length = ks.length := by rw [← Paired.length r1, hz, hnk]
  refine wpAny_call (PySem.HandSPX.call_own_kw F.excBase_ValueError (fun Y => PySem.HandSPX.refsVE_contains Y bm hbm) (I1.kIn _ _ hC) (PySem.W.looks_findIn I1.kIn iC) (fun self => PySem.W.bind_fn I1.kIn self tI) (by show 0 ≤ sizeLine; omega)
    (codeAny_mono (F1.run _ X.stack _ _ ⟨[Value.ref (hp.objs.size + 1)], ks.zip us⟩ (Value.ref (hp.objs.size + 1) :: permL .none perm us) _ _ (fun _ _ _ => False) (hr.make C [] (ks.zip us)) (I2.env0.make C [] (ks.zip us)) (hb _ (Value.ref (hp.objs.size + 1)) us I2.kIn hlu) r2 hq) fun r s' hq' => ?_))
  cases r with
  | error er => exact hx pins σ _ _ er s' I2 hq'
  | ok fl =>
    cases fl with
    | ret u =>
      obtain ⟨v, H2, os2, bare2, un2, hok2, rv, ev, d, fs, ea, ed, hd1, q2⟩ := hq'
      subst ev
      obtain ⟨h2, g2, d2, t2, os'⟩ := s'
      exact ⟨rv, mk_end (raises_own T.exC T.tyC) I1 hsz kk un2 hok2 os2 bare2 ea ed hd1 q2⟩
    | next => exact False.elim hq'
    | brk => exact False.elim hq'
    | cont => exact False.elim hq'
def raiseKS (x : Str) (fl : List Str) (nk : Nat) (perm : List Nat) (fs : FA) : FS := fun δ s => (fs δ s).toS δ fun ds s => if ds.length = nk then (if perm.length = fl.length then .raise ⟨x, (fl.zip (permL .non perm ds)).reverse⟩ δ s else .bad) else .bad
theorem sv_raiseK {kp : List (List Str × List Nat)} {x : Str} {fl ks : List Str} {nk : Nat} {perm : List Nat} {kws : List Keyword} {fs : FA} {p pos pos2 : Pos} (Ex : ExcW X.prog X.w X.K X.mg X.base x fl kp) (hkp : (ks, perm) ∈ kp)
    (hc : X.calm = true) (hr : Room 2 X.A) (tk : Takes X W) (hg : Gl X x) (ha : KV' X W kws fs)
    (hall : (backToKw pos (keywordEach kws X.env)).all (·.1.isSome) = true := by rfl) (hks : (backToKw pos (keywordEach kws X.env)).filterMap (·.1) = ks := by rfl) (hnk : ks.length = nk := by rfl)
    (hdb : (x == ("__debug__" : Str)) = false := by decide) (hpl : ((backTo pos (starEach [] X.env)).any (·.1) || (backToKw pos (keywordEach kws X.env)).any (·.1.isNone)) = false := by rfl) :
    SV X W (.Raise (some (.Call (.Name x p) [] kws pos)) none pos2) (raiseKS x fl nk perm fs) := by
  obtain ⟨⟨C, fI, fd, ps, gC, cN, T, iC, tI, F1, hb, _, _, hkb⟩, nd⟩ := Ex
  refine ps_weak (ps_raise hc tk (pmk_oexK (nk := nk) T iC tI F1 hr (hkb (ks, perm) hkp) pass0 hg gC ha hall hks hnk hdb hpl)) fun Dn σ H ⟨dk, δ, s, F, er, st, q⟩ => ?_
  refine ⟨dk, δ, s, F, er, st, SPost.ofE er q fun ds s1 vs F1 H1 n rr q1 => ?_⟩
  have lv := RpAll.length rr
  split at q1
  · rename_i hl
    split at q1
    · rename_i hp
      refine ⟨by omega, fun a ha => ⟨a, permL .non perm vs, rfl, by unfold permL; rw [List.length_map]; exact hp, upd_same, fun d H' hd hne h1 h2 h3 => ⟨rfl, d, _, h1, h2, by rw [upd_ne hne] at hd; exact hd, ?_⟩⟩⟩
      have hd0 : H1 d = none := by rw [upd_ne hne] at hd; exact hd
      obtain ⟨n2, ea⟩ := made_end (x := x) n.st (rp_perm rr perm) ha hd0 h3
      exact q1 σ C d _ _ n2 (er.mono (n.sm.trans n2.sm)) cN ea
    · exact q1.elim
  · exact q1.elim
end
end FL

namespace FL
open PySem PySem.Spec L2

/-! ### in a clause's suite: the error is known -/
structure InSu (K : PySem.W.Frag) (mg : Str → Option Value) (i : Nat) (a : Addr) (cls : Value) (d : Option Addr) (dk : Addr) (F H : Hp) (σ : L2.St) (δ : DEnv) (s : Deck) (e : Ex) (C dd : Addr) : Prop where
  c : cls = .ref C
  d : d = some dd
  m : CNm K e.cls C
  x : ExAt K dk F dd e
  v : σ[i]? = some (some (.ref a))
  er : EnvR K dk F σ δ
  st : Stt K dk F H s
theorem InSu.next {K : PySem.W.Frag} {mg : Str → Option Value} {i : Nat} {a : Addr} {cls : Value} {d : Option Addr} {dk : Addr} {F H F' H' : Hp} {σ : L2.St} {δ : DEnv} {s s' : Deck} {e : Ex} {C dd : Addr} (h : InSu K mg i a cls d dk F H σ δ s e C dd) (n : Nxt K dk F H F' H' s') :
    InSu K mg i a cls d dk F' H' σ δ s' e C dd := ⟨h.c, h.d, h.m, h.x.mono n.sm, h.v, h.er.mono n.sm, n.st⟩
abbrev HE := Ex → FE
abbrev HA := Ex → FA
abbrev HS := Ex → FS
def tEH (K : PySem.W.Frag) (mg : Str → Option Value) (i : Nat) (a : Addr) (cls : Value) (d : Option Addr) (f : HE) : TE := fun σ H Q => ∃ dk δ s F e C dd, InSu K mg i a cls d dk F H σ δ s e C dd ∧ EPost K mg dk (RelD K dk) (fun _ _ _ => False) F H Q (f e δ s)
def tAH (K : PySem.W.Frag) (mg : Str → Option Value) (i : Nat) (a : Addr) (cls : Value) (d : Option Addr) (f : HA) : TA := fun σ H Q => ∃ dk δ s F e C dd, InSu K mg i a cls d dk F H σ δ s e C dd ∧ EPost K mg dk (RelL K dk) (fun _ _ _ => False) F H Q (f e δ s)
def tSH (K : PySem.W.Frag) (mg : Str → Option Value) (i : Nat) (a : Addr) (cls : Value) (d : Option Addr) (g : HS) : TS := fun Dn σ H => ∃ dk δ s F e C dd, InSu K mg i a cls d dk F H σ δ s e C dd ∧ SPost K mg dk W0 F H Dn (g e δ s)
/-- in every suite of X: e is worth f -/
def EH (X : Cx) (i : Nat) (e : Expr) (f : HE) : Prop := ∀ (a : Addr) (oe : Obj) (cls : Value) (d : Option Addr) (pn : List (Addr × Obj)), Zc cls d oe → (∃ vs, oe.data = .fields vs) → PE (X.suite a ((a, oe) :: pn)) e (tEH X.K X.mg i a cls d f)
def AH (X : Cx) (i : Nat) (es : List Expr) (f : HA) : Prop := ∀ (a : Addr) (oe : Obj) (cls : Value) (d : Option Addr) (pn : List (Addr × Obj)), Zc cls d oe → (∃ vs, oe.data = .fields vs) → PA (X.suite a ((a, oe) :: pn)) es (tAH X.K X.mg i a cls d f)
def SH (X : Cx) (i : Nat) (st : Stmt) (g : HS) : Prop := ∀ (a : Addr) (oe : Obj) (cls : Value) (d : Option Addr) (pn : List (Addr × Obj)), Zc cls d oe → (∃ vs, oe.data = .fields vs) → PS (X.suite a ((a, oe) :: pn)) st (tSH X.K X.mg i a cls d g)
section
variable {X : Cx} {i : Nat} {e : Expr} {es : List Expr} {pos : Pos}
theorem eh_of {f : FE} (h : ∀ (a : Addr) (pn : List (Addr × Obj)), EV (X.suite a pn) W0 e f) : EH X i e (fun _ => f) := fun a oe cls d pn hz hf =>
  pe_weak (h a ((a, oe) :: pn)) fun σ H Q ⟨dk, δ, s, F, ex, C, dd, I, q⟩ => ⟨dk, δ, s, F, I.er, I.st, q⟩
def fldH (x f : Str) : HE := fun e δ s => if e.cls = x then pureM (e.flds.lookup f) s else .bad
theorem eh_fld {kp : List (List Str × List Nat)} {x f n : Str} {fl : List Str} {p2 : Pos} (Ex : ExcW X.prog X.w X.K X.mg X.base x fl kp) (hf : f ∈ fl) (hN : X.N[i]? = some n) (hv : Vis X.env.scope n) (hd : (n == ("__debug__" : Str)) = false := by decide) (hcd : (n == ("__classdict__" : Str)) = false := by decide)
    (hb : attributeBase (.Name n p2) f X.env (eval (.Name n p2) X.env) = eval (.Name n p2) X.env := by rfl) : EH X i (.Attribute (.Name n p2) f pos) (fldH x f) := by
  obtain ⟨⟨C, fI, fd, ps, gC, cN, T, iC, tI, F1, _, xf, hno, _⟩, nd⟩ := Ex
  intro a oe cls d pn hz hfl
  refine pe_weak (pe_xf xf (hno f hf) hz hfl (pe_var (X := X.suite a ((a, oe) :: pn)) hN hv hd hcd) hb) fun σ H Q ⟨dk, δ, s, F, e, C', dd, I, q⟩ => ?_
  unfold fldH at q
  split at q
  · rename_i hx
    have hm := I.m
    rw [hx] at hm
    obtain rfl : C' = C := by
      have z := cN.symm.trans hm
      injection z with z; injection z with z; injection z with z
      exact z.symm
    obtain ⟨d0, hd0, hq⟩ := epost_pure I.st q
    obtain ⟨fs, h1, h2, h3⟩ := I.x
    obtain ⟨v, hv, rv⟩ := look_rp h2 h3 hd0
    exact ⟨_, I.v, rfl, I.c, dd, fs, v, I.d, I.st.sub _ _ h1, hv, hq v rv⟩
  · exact q.elim
theorem ah_nil : AH X i [] (fun _ => av0) := fun a oe cls d pn hz hf => pa_weak pa_nil fun σ H Q ⟨dk, δ, s, F, ex, C, dd, I, q⟩ => EPost.ok q I.st .nil
theorem ah_cons {f : HE} {g : HA} (h1 : EH X i e f) (h2 : AH X i es g) (hs : starEach (e :: es) X.env = (false, eval e X.env) :: starEach es X.env := by rfl) : AH X i (e :: es) (fun x => avC (f x) (g x)) := fun a oe cls d pn hz hf => by
  refine pa_weak (pa_cons (h1 a oe cls d pn hz hf) (h2 a oe cls d pn hz hf) hs) fun σ H Q ⟨dk, δ, s, F, ex, C, dd, I, q⟩ => ?_
  refine ⟨dk, δ, s, F, ex, C, dd, I, EPost.bind q fun x s1 v F1 H1 n r q1 => ?_⟩
  refine ⟨dk, δ, s1, F1, ex, C, dd, I.next n, EPost.bind q1 fun xs s2 vs F2 H2 n2 rs q2 => ?_⟩
  exact EPost.ok q2 n2.st (.cons (r.mono n2.sm) rs)
end
end FL
namespace FL
open PySem PySem.Spec L2
section
variable {X : Cx} {i : Nat} {e a b : Expr} {es : List Expr} {pos : Pos} {f g : HE} {fs : HA}
theorem eh_tup {x1} (ha : AH X i es fs) : EH X i (.Tuple es x1 pos) (fun x => withA (fs x) mkTup) := fun a oe cls d pn hz hf => by
  refine pe_weak (pe_tup (ha a oe cls d pn hz hf)) fun σ H Q ⟨dk, δ, s, F, ex, C, dd, I, q⟩ => ?_
  exact ⟨dk, δ, s, F, ex, C, dd, I, EPost.bind q fun xs s1 vs F1 H1 n r q1 => epost_tup n.st r q1⟩
theorem eh_lst {k} (ha : AH X i es fs) : EH X i (.List es k) (fun x => withA (fs x) mkLst) := fun a oe cls d pn hz hf => by
  refine pe_weak (pe_lst (ha a oe cls d pn hz hf)) fun σ H Q ⟨dk, δ, s, F, ex, C, dd, I, q⟩ => ?_
  exact ⟨dk, δ, s, F, ex, C, dd, I, EPost.bind q fun xs s1 vs F1 H1 n r q1 => epost_lst n.st r q1⟩
theorem eh_cmp {op : CmpOp} {r : R2} {m : D → D → M D} (ho : ∀ (a : Addr) (pn : List (Addr × Obj)), OpR (X.suite a pn) (compareOp op) r) (hr : ∀ (a : Addr) (pn : List (Addr × Obj)), OpM (X.suite a pn) r m) (ha : EH X i a f) (hb : EH X i b g) (hm : behindInMarks op b = false := by first | exact nomark _ | rfl) : EH X i (.Compare a [op] [b] pos) (fun x => lift2 m (f x) (g x)) := fun ad oe cls d pn hz hf => by
  refine pe_weak (pe_cmpR (ho _ _) (ha ad oe cls d pn hz hf) (hb ad oe cls d pn hz hf) hm) fun σ H Q ⟨dk, δ, s, F, ex, C, dd, I, q⟩ => ?_
  refine ⟨dk, δ, s, F, ex, C, dd, I, EPost.bind q fun x s1 v F1 H1 n rx q1 => ?_⟩
  refine ⟨dk, δ, s1, F1, ex, C, dd, I.next n, EPost.bind q1 fun y s2 u F2 H2 n2 ry q2 => ?_⟩
  exact hr ad ((ad, oe) :: pn) dk _ F2 H2 s2 v u x y Q n2.st (rx.mono n2.sm) ry q2
theorem sh_set {j : Nat} {y : Str} {pos' : Pos} (hN : X.N.Nodup) (hj : X.N[j]? = some y) (hy : Loc X.env.scope y) (he : EH X i e f) (hs : swapsWith e (some (.Name y pos')) pos.line X.env = pure false := by rfl)
    (hfn : X.fn y = true ∨ X.env.scope.names.lookup y = some .local := by first | exact .inl rfl | exact .inr rfl | assumption) : SH X i (.Assign [.Name y pos'] e pos) (fun x => setS j (f x)) := fun a oe cls d pn hz hf => by
  refine ps_weak (ps_set (X := X.suite a ((a, oe) :: pn)) (i := j) hN hj hy (he a oe cls d pn hz hf) hs hfn) fun Dn σ H ⟨dk, δ, s, F, ex, C, dd, I, q⟩ => ?_
  refine ⟨dk, δ, s, F, ex, C, dd, I, SPost.ofE (W := W0) I.er q fun d s1 v F1 H1 n rr q1 => ?_⟩
  exact q1 _ F1 H1 (Nxt.refl n.st) ((I.er.mono n.sm).set rr)
theorem sh_ret (he : EH X i e f) : SH X i (.Return (some e) pos) (fun x => retS (f x)) := fun a oe cls d pn hz hf => by
  refine ps_weak (ps_ret (he a oe cls d pn hz hf)) fun Dn σ H ⟨dk, δ, s, F, ex, C, dd, I, q⟩ => ?_
  exact ⟨dk, δ, s, F, ex, C, dd, I, SPost.ofE (W := W0) I.er q fun d s1 v F1 H1 n rr q1 => q1 v F1 H1 (Nxt.refl n.st) rr⟩
end
/-! ### try -/
def unS (i : Nat) : RS → RS
  | .nx δ s => .nx (δ.set i none) s
  | .rt d s => .rt d s
  | .bk δ s => .bk (δ.set i none) s
  | .ct δ s => .ct (δ.set i none) s
  | _ => .bad
def catchS (tbl : Str → Str → Option Bool) : List (Str × Nat × HS) → HS
  | [], e => fun δ s => .raise e δ s
  | (y, i, h) :: r, e => fun δ s => if i < δ.length then (match tbl e.cls y with
    | some true => unS i (h e (δ.set i none) s)
    | some false => catchS tbl r e δ s
    | none => .bad) else .bad
def tryS (tbl : Str → Str → Option Bool) (g : FS) (l : List (Str × Nat × HS)) : FS := fun δ s => match g δ s with
  | .raise e δ' s' => catchS tbl l e δ' s'
  | r => r
def TblOk (K : PySem.W.Frag) (mg : Str → Option Value) (tbl : Str → Str → Option Bool) : Prop := ∀ x y b Cx Cy, tbl x y = some b → CNm K x Cx → CNm K y Cy → PySem.W.exmOne K (.ref Cx) (.ref Cy) = some b
inductive HdsD (X : Cx) : List ExceptHandler → List (Str × Nat × HS) → Prop
  | nil : HdsD X [] []
  | cons {y n : Str} {i : Nat} {h : HS} {st : Stmt} {np po : Pos} {hds : List ExceptHandler} {l : List (Str × Nat × HS)} (hg : Gl X y) (hdb : (y == ("__debug__" : Str)) = false) (hm : ∃ C, X.mg y = some (.ref C) ∧ CNm X.K y C) (hi : X.N[i]? = some n) (hk : X.env.kindOf n = some .local)
      (hsu : SH X i st h) (r : HdsD X hds l) : HdsD X (.ExceptHandler (some (.Name y np)) (some n) [st] po :: hds) ((y, i, h) :: l)
theorem spost_un {K : PySem.W.Frag} {mg : Str → Option Value} {dk : Addr} {W : WX} {F H : Hp} {Dn : Ends} {i : Nat} {r : RS} (h : SPost K mg dk W F H Dn (unS i r)) : SPost K mg dk W0 F H (unD i Dn) r := by
  cases r with
  | nx δ s => exact fun σ' F' H' n er => h _ F' H' n er.unset
  | bk δ s => exact fun σ' F' H' n er => h _ F' H' n er.unset
  | ct δ s => exact fun σ' F' H' n er => h _ F' H' n er.unset
  | rt d s => exact h
  | raise e δ s => exact h.elim
  | bad => exact h.elim
theorem hds_of {X : Cx} {tbl : Str → Str → Option Bool} (HT : TblOk X.K X.mg tbl) : ∀ {hds : List ExceptHandler} {l : List (Str × Nat × HS)}, HdsD X hds l → ∃ l', HdsN X hds l' ∧
    ∀ (W : WX) (Dn : Ends) (dk : Addr) (F H : Hp) (e : Ex) (δ : DEnv) (s : Deck) (σ : L2.St) (C dd : Addr), SPost X.K X.mg dk W F H Dn (catchS tbl l e δ s) → Stt X.K dk F H s → EnvR X.K dk F σ δ → CNm X.K e.cls C → ExAt X.K dk F dd e → wAll X.K W Dn l' (.ref C) (some dd) σ H
  | _, _, .nil => ⟨[], .nil, fun W Dn dk F H e δ s σ C dd q st er hm hx => q σ C dd F H (Nxt.refl st) er hm hx⟩
  | _, _, .cons (y := y) (i := i) (h := h) hg hdb hm hi hk hsu r => by
    obtain ⟨l', N, w⟩ := hds_of HT r
    obtain ⟨Cy, hy, ny⟩ := hm
    refine ⟨(i, .ref Cy, fun a cls d => tSH X.K X.mg i a cls d h) :: l', .cons ⟨hg, hdb, .inl hy⟩ hi hk (fun a oe cls d pn hz hf => pss_one (hsu a oe cls d pn hz hf)) N, fun W Dn dk F H e δ s σ C dd q st er hm hx => ?_⟩
    unfold catchS at q
    split at q
    · rename_i hl
      split at q
      · rename_i ht
        refine ⟨true, HT _ _ _ _ _ ht hm ny, fun _ a _ => ?_, fun z => by cases z⟩
        exact ⟨dk, _, s, F, e, C, dd, ⟨rfl, rfl, hm, hx, List.getElem?_set_self (by rw [er.len]; exact hl), er.unset, st⟩, spost_un q⟩
      · rename_i ht
        exact ⟨false, HT _ _ _ _ _ ht hm ny, (fun z => nomatch z), fun _ => w W Dn dk F H e δ s σ C dd q st er hm hx⟩
      · exact q.elim
    · exact q.elim
theorem sv_try {X : Cx} {W : WX} {tbl : Str → Str → Option Bool} {body : List Stmt} {h0 : ExceptHandler} {hds : List ExceptHandler} {l : List (Str × Nat × HS)} {pos : Pos} {g : FS} (HT : TblOk X.K X.mg tbl) (hs : X.stack = X.env :: X.outer) (hf : X.env.frame = some X.env.locals) (hN : X.N.Nodup) (tk : Takes X W)
    (hb : ∀ (W' : WX) (pn : List (Addr × Obj)) (xe : Value → Shared → Prop), Takes (X.tr pn xe) W' → PassesOwn (model X.prog X.w) X.A X.env xe → BV (X.tr pn xe) W' body g) (hh : HdsD X (h0 :: hds) l) : SV X W (.Try body (h0 :: hds) [] [] pos) (tryS tbl g l) := by
  obtain ⟨l', N, w⟩ := hds_of HT hh
  refine ps_weak (ps_tryN (tb := fun W' => tSV X.K X.mg W' g) hs hf hN tk hb N) fun Dn σ H ⟨dk, δ, s, F, er, st, q⟩ => ⟨dk, δ, s, F, er, st, ?_⟩
  unfold tryS at q
  cases hg : g δ s with
  | raise e δ' s' =>
    rw [hg] at q
    exact fun σ' C dd F' H' n er' hm hx => w W Dn dk F' H' e δ' s' σ' C dd (SPost.later n q) n.st er' hm hx
  | nx δ' s' => rw [hg] at q; exact q
  | bk δ' s' => rw [hg] at q; exact q
  | ct δ' s' => rw [hg] at q; exact q
  | rt d' s' => rw [hg] at q; exact q
  | bad => rw [hg] at q; exact q
end FL

namespace FL
open PySem PySem.Spec L2

/-! ### texts -/
section
variable {X : Cx} {W : WX} {a b tg o e : Expr} {es : List Expr} {f g : FE} {fs : FA} {pos p apos : Pos}
/-- one sign in a text -/
def signIn (x z : Str) : Option Bool := match x.cps.toList with
  | [c] => some (decide (c ∈ z.cps.toList))
  | _ => none
def inM (a b : D) : M D := match a, b with
  | .str x, .str z => pureM ((signIn x z).map .bl)
  | _, _ => fun _ => .bad
def notInM (a b : D) : M D := match a, b with
  | .str x, .str z => pureM ((signIn x z).map fun k => .bl (!k))
  | _, _ => fun _ => .bad
theorem sign_one {x : Str} {c : Nat} (h : x.cps.toList = [c]) : x = ⟨#[c]⟩ := by
  obtain ⟨⟨l⟩⟩ := x
  simp at h
  rw [h]
theorem m_in : OpM X (fun x y H Q => ∃ (c : Nat) (z : Str), x = .str ⟨#[c]⟩ ∧ y = .str z ∧ Q (.bl (decide (c ∈ z.cps.toList))) H) inM := by
  intro dk Wx F H s x y dx dy Q st rx ry q
  unfold inM at q
  split at q
  · rename_i x' z'
    cases rx
    cases ry
    obtain ⟨d, hd, hq⟩ := epost_pure st q
    unfold signIn at hd
    split at hd
    · rename_i c hc
      cases hd
      exact ⟨c, z', by rw [sign_one hc], rfl, hq _ (.bl _)⟩
    · cases hd
  · exact q.elim
theorem m_notIn : OpM X (fun x y H Q => ∃ (c : Nat) (z : Str), x = .str ⟨#[c]⟩ ∧ y = .str z ∧ Q (.bl (!decide (c ∈ z.cps.toList))) H) notInM := by
  intro dk Wx F H s x y dx dy Q st rx ry q
  unfold notInM at q
  split at q
  · rename_i x' z'
    cases rx
    cases ry
    obtain ⟨d, hd, hq⟩ := epost_pure st q
    unfold signIn at hd
    split at hd
    · rename_i c hc
      cases hd
      exact ⟨c, z', by rw [sign_one hc], rfl, hq _ (.bl _)⟩
    · cases hd
  · exact q.elim
/-- methods without arguments -/
def m0M (C : Str → Bool) (k : Str → D) (d : D) : M D := match d with
  | .str z => fun s => if C z = true then .ok (k z) s else .bad
  | _ => fun _ => .bad
theorem ev_m0 {id : String} {name : Str} {C : Str → Bool} {C' : Str → Prop} {k : Str → D} {kv : Str → V} (slot : Slot "str" name id) (ty : typeOf (.builtin id) = pure (.type "method_descriptor")) (rule : MtR X id (fun x xs H Q => ∃ a, x = .str a ∧ xs = [] ∧ C' a ∧ Q (kv a) H)) (hC : ∀ a, C a = true → C' a) (hk : ∀ a K dk F, Rp K dk F (kv a) (k a)) (ho : EV X W o f)
    (hbase : attributeBase o name X.env (eval o X.env) = eval o X.env := by rfl) (hline : (apos.endLine == pos.line) = true := by rfl) : EV X W (.Call (.Attribute o name apos) [] [] pos) (un1 (m0M C k) f) := by
  refine pe_weak (pe_m0 slot ty rule ho hbase hline) fun σ H Q ⟨dk, δ, s, F, er, st, q⟩ => ?_
  refine ⟨dk, δ, s, F, er, st, EPost.bind q fun d s1 v F1 H1 n r q1 => ?_⟩
  unfold m0M at q1
  split at q1
  · split at q1
    · rename_i hc
      cases r
      exact ⟨⟨_, rfl⟩, _, rfl, rfl, hC _ hc, EPost.ok q1 n.st (hk _ _ _ _)⟩
    · exact q1.elim
  · exact q1.elim
theorem ev_isascii (ho : EV X W o f) (hbase : attributeBase o "isascii" X.env (eval o X.env) = eval o X.env := by rfl) (hline : (apos.endLine == pos.line) = true := by rfl) : EV X W (.Call (.Attribute o "isascii" apos) [] [] pos) (un1 (m0M (fun _ => true) fun a => .bl (Txt.isascii a)) f) :=
  ev_m0 F.slot_str_isascii F.type_str_isascii mt_isascii (fun _ _ => trivial) (fun _ _ _ _ => .bl _) ho hbase hline
theorem ev_isdigit (ho : EV X W o f) (hbase : attributeBase o "isdigit" X.env (eval o X.env) = eval o X.env := by rfl) (hline : (apos.endLine == pos.line) = true := by rfl) : EV X W (.Call (.Attribute o "isdigit" apos) [] [] pos) (un1 (m0M (fun _ => true) fun a => .bl (Txt.isdigit a)) f) :=
  ev_m0 F.slot_str_isdigit F.type_str_isdigit mt_isdigit (fun _ _ => trivial) (fun _ _ _ _ => .bl _) ho hbase hline
/-- methods of one text -/
def strR {α : Type} (r : Str → Deck → R α) (d : D) : M α := fun s => match d with
  | .str z => r z s
  | _ => .bad
def m1D (k : Str → Str → M D) (f g : FE) : FE := fun δ s => (f δ s).bind (strR fun z s => (g δ s).bind (strR fun y s => k z y s))
theorem ev_m1 {id : String} {name : Str} {r : V → List V → Hp → VK → Prop} {k : Str → Str → M D} (slot : Slot "str" name id) (ty : typeOf (.builtin id) = pure (.type "method_descriptor")) (rule : MtR X id r)
    (hk : ∀ (z y : Str) (dk : Addr) (Wx : XK) (F H : Hp) (s : Deck) (Q : VK), Stt X.K dk F H s → EPost X.K X.mg dk (RelD X.K dk) Wx F H Q (k z y s) → r (.str z) [.str y] H Q) (ho : EV X W o f) (he : EV X W e g)
    (hs : starEach [e] X.env = [(false, eval e X.env)] := by rfl) (hbase : attributeBase o name X.env (eval o X.env) = eval o X.env := by rfl) (hline : (apos.endLine == pos.line) = true := by rfl) : EV X W (.Call (.Attribute o name apos) [e] [] pos) (m1D k f g) := by
  refine pe_weak (pe_m1 slot ty rule ho he hs hbase hline) fun σ H Q ⟨dk, δ, s, F, er, st, q⟩ => ?_
  refine ⟨dk, δ, s, F, er, st, EPost.bind q fun d s1 v F1 H1 n r1 q1 => ?_⟩
  unfold strR at q1
  split at q1
  · rename_i z
    cases r1
    refine ⟨⟨z, rfl⟩, dk, δ, s1, F1, er.mono n.sm, n.st, EPost.bind q1 fun d2 s2 v2 F2 H2 n2 r2 q2 => ?_⟩
    dsimp only at q2
    split at q2
    · cases r2
      exact hk _ _ _ _ _ _ _ _ n2.st q2
    · exact q2.elim
  · exact q1.elim
def rmpM (z y : Str) : M D := fun s => if z.length ≤ 16777216 then .ok (.str (Txt.removeprefix z y)) s else .bad
theorem ev_removeprefix (ho : EV X W o f) (he : EV X W e g) (hs : starEach [e] X.env = [(false, eval e X.env)] := by rfl) (hbase : attributeBase o "removeprefix" X.env (eval o X.env) = eval o X.env := by rfl) (hline : (apos.endLine == pos.line) = true := by rfl) : EV X W (.Call (.Attribute o "removeprefix" apos) [e] [] pos) (m1D rmpM f g) :=
  ev_m1 F.slot_str_removeprefix F.type_str_removeprefix mt_removeprefix (fun z y dk Wx F H s Q st q => by
    unfold rmpM at q
    split at q
    · rename_i hz
      exact ⟨z, y, rfl, rfl, by rw [sizeLine_eq]; exact hz, EPost.ok q st (.str _)⟩
    · exact q.elim) ho he hs hbase hline
def findM (z y : Str) : M D := fun s => .ok (.int (Txt.find z y)) s
theorem ev_find (ho : EV X W o f) (he : EV X W e g) (hs : starEach [e] X.env = [(false, eval e X.env)] := by rfl) (hbase : attributeBase o "find" X.env (eval o X.env) = eval o X.env := by rfl) (hline : (apos.endLine == pos.line) = true := by rfl) : EV X W (.Call (.Attribute o "find" apos) [e] [] pos) (m1D findM f g) :=
  ev_m1 F.slot_str_find F.type_str_find mt_find (fun z y dk Wx F H s Q st q => ⟨z, y, rfl, rfl, EPost.ok q st (.int _)⟩) ho he hs hbase hline
def prtnM (z y : Str) : M D := fun s => if (y.length == 0) = false ∧ z.length ≤ 16777216 then mkTup [.str (Txt.partition z y).1, .str (Txt.partition z y).2.1, .str (Txt.partition z y).2.2] s else .bad
theorem ev_partition (ho : EV X W o f) (he : EV X W e g) (hs : starEach [e] X.env = [(false, eval e X.env)] := by rfl) (hbase : attributeBase o "partition" X.env (eval o X.env) = eval o X.env := by rfl) (hline : (apos.endLine == pos.line) = true := by rfl) : EV X W (.Call (.Attribute o "partition" apos) [e] [] pos) (m1D prtnM f g) :=
  ev_m1 F.slot_str_partition F.type_str_partition mt_partition (fun z y dk Wx F H s Q st q => by
    unfold prtnM at q
    split at q
    · rename_i hz
      exact ⟨z, y, rfl, rfl, hz.1, by rw [sizeLine_eq]; exact hz.2, (epost_tup st (.cons (.str _) (.cons (.str _) (.cons (.str _) .nil))) q).2⟩
    · exact q.elim) ho he hs hbase hline
/-- str(int) -/
def strM1 (ds : List D) : M D := fun s => match ds with
  | [.int i] => if i.natAbs.log2 < 1920 then .ok (.str (toString i)) s else .bad
  | _ => .bad
theorem m_strc : CallM X (fun xs H Q => ∃ i, xs = [.int i] ∧ i.natAbs.log2 < 1920 ∧ Q (.str (toString i)) H) strM1 := by
  intro dk Wx F H s vs ds Q st r q
  unfold strM1 at q
  split at q
  · split at q
    · rename_i hz
      cases r with
      | cons r1 r2 => cases r2; cases r1; exact ⟨_, rfl, hz, EPost.ok q st (.str _)⟩
    · exact q.elim
  · exact q.elim
/-- for .. in a text -/
def signs (z : Str) : List D := z.cps.toList.map fun c => .str ⟨#[c]⟩
def txtM : D → M (List D) := strR fun z s => .ok (signs z) s
theorem its_ok {K : PySem.W.Frag} {dk : Addr} {F0 : Hp} {z : Str} : ItD K dk F0 (Its z) (signs z) := by
  intro i F H s sm st
  have hl : (signs z).length = z.cps.size := by unfold signs; rw [List.length_map, Array.length_toList]
  refine ⟨fun hi => by rw [hl] at hi; exact hi, fun hi => by rw [hl] at hi; exact hi, fun x H' hi y => ?_⟩
  obtain ⟨rfl, c, hc, rfl⟩ := y
  refine ⟨F, .str ⟨#[c]⟩, ?_, Nxt.refl st, .str _⟩
  unfold signs
  rw [List.getElem?_map, Array.getElem?_toList, hc]
  rfl
theorem iv_txt (ha : EV X W a f) : IV X W tg a (fun δ s => (f δ s).bind txtM) := by
  refine pi_weak (pi_str ha) fun σ H RQ ⟨dk, δ, s, F, er, st, q⟩ => ?_
  refine ⟨dk, δ, s, F, er, st, EPost.bind q fun d s1 v F1 H1 n r q1 => ?_⟩
  unfold txtM strR at q1
  split at q1
  · cases r
    exact ⟨_, rfl, EPost.ok q1 n.st its_ok⟩
  · exact q1.elim
end
/-! ### is False, names of the module -/
def isBM (a b : D) : M D := match a, b with
  | .bl i, .bl j => fun s => .ok (.bl (decide (i = j))) s
  | _, _ => fun _ => .bad
section
variable {X : Cx} {W : WX}
theorem m_isB : OpM X rIsB isBM := by
  intro dk Wx F H s x y dx dy Q st rx ry q
  unfold isBM at q
  split at q
  · cases rx
    cases ry
    exact ⟨_, _, rfl, rfl, EPost.ok q st (.bl _)⟩
  · exact q.elim
theorem ev_glob {x : Str} {pos : Pos} {i : Int} (h : ∃ t, X.mg x = some (.int i t)) (hg : Gl X x) (hdb : (x == ("__debug__" : Str)) = false := by decide) : EV X W (.Name x pos) (cst (.int i)) := by
  obtain ⟨t, e⟩ := h
  exact pe_weak (pe_glob (v := .int i) hg e ⟨t, rfl⟩ hdb) fun σ H Q ⟨dk, δ, s, F, er, st, q⟩ => EPost.ok q st (.int i)
end
/-! ### f'..' -/
def fmtM (d : D) : M D := fun s => match d with
  | .str y => if y.length ≤ 16777216 then .ok (.str y) s else .bad
  | .int i => if i.natAbs.log2 < 1920 then .ok (.str (toString i)) s else .bad
  | _ => .bad
section
variable {X : Cx} {W : WX} {e : Expr} {es : List Expr} {f : FE} {pos : Pos}
theorem ev_fmt (he : EV X W e f) : EV X W (.FormattedValue e (-1) none pos) (un1 fmtM f) := by
  refine pe_weak (pe_fmt he) fun σ H Q ⟨dk, δ, s, F, er, st, q⟩ => ?_
  refine ⟨dk, δ, s, F, er, st, EPost.bind q fun d s1 v F1 H1 n r q1 => ?_⟩
  unfold fmtM at q1
  split at q1
  · split at q1
    · rename_i hz
      cases r
      exact .inl ⟨_, rfl, by rw [sizeLine_eq]; exact hz, EPost.ok q1 n.st (.str _)⟩
    · exact q1.elim
  · split at q1
    · rename_i hz
      cases r
      exact .inr ⟨_, rfl, hz, EPost.ok q1 n.st (.str _)⟩
    · exact q1.elim
  · exact q1.elim
abbrev FJ := Str → DEnv → M Str
def js0 : FJ := fun acc _ s => .ok acc s
def jsC (f : FE) (g : FJ) : FJ := fun acc δ s => (f δ s).bind (strR fun y s => if (acc ++ y).length ≤ 16777216 then g (acc ++ y) δ s else .bad)
def JV (X : Cx) (W : WX) (es : List Expr) (g : FJ) : Prop := ∃ ts, PJ X es ts ∧ ∀ acc σ H (Q : Str → Hp → Prop), (∃ dk δ s F, EnvR X.K dk F σ δ ∧ Stt X.K dk F H s ∧ EPost X.K X.mg dk (fun _ (a b : Str) => a = b) (WE W σ) F H Q (g acc δ s)) → tJs ts acc σ H Q
theorem jv_nil : JV X W [] js0 := ⟨[], .nil, fun acc σ H Q ⟨dk, δ, s, F, er, st, q⟩ => EPost.ok (v := acc) q st rfl⟩
theorem jv_cons {g : FJ} (he : EV X W e f) (hr : JV X W es g) : JV X W (e :: es) (jsC f g) := by
  obtain ⟨ts, P, k⟩ := hr
  refine ⟨_ :: ts, .cons he P, fun acc σ H Q ⟨dk, δ, s, F, er, st, q⟩ => ?_⟩
  refine ⟨dk, δ, s, F, er, st, EPost.bind q fun d s1 v F1 H1 n r q1 => ?_⟩
  unfold strR at q1
  split at q1
  · dsimp only at q1
    split at q1
    · rename_i hz
      cases r
      exact ⟨_, rfl, by rw [sizeLine_eq]; exact hz, k _ _ _ _ ⟨dk, δ, s1, F1, er.mono n.sm, n.st, q1⟩⟩
    · exact q1.elim
  · exact q1.elim
def joinD (g : FJ) : FE := fun δ s => (g Str.empty δ s).bind fun y s => .ok (.str y) s
theorem ev_joined {e2 : Expr} {g : FJ} (h : JV X W (e :: e2 :: es) g) : EV X W (.JoinedStr (e :: e2 :: es) pos) (joinD g) := by
  obtain ⟨ts, P, k⟩ := h
  refine pe_weak (pe_joined P) fun σ H Q ⟨dk, δ, s, F, er, st, q⟩ => ?_
  refine k _ _ _ _ ⟨dk, δ, s, F, er, st, EPost.bind q fun y s1 v F1 H1 n r q1 => ?_⟩
  have r : v = y := r
  subst r
  exact EPost.ok q1 n.st (.str _)
end
end FL

namespace FL
open PySem PySem.Spec L2
/-! ### error classes as the program's top has left them -/
def XAt (K : PySem.W.Frag) (x qual : Str) (fl : List Str) (ist : Stmt) (C : Addr) : Prop :=
  PySem.W.nsIn K mainGlobals x = some (some (.ref C)) ∧ OexC K C ∧ XfC K C ∧ (∀ f ∈ fl, PySem.W.findIn K (.ref C) f = some none) ∧
    ∃ (fI : Addr) (fd : FuncData), PySem.W.findIn K (.ref C) "__init__" = some (some (.ref fI)) ∧ PySem.W.typeIn K (.ref fI) = some (.type "function") ∧ Fun K "__init__" qual ist fI fd
section
variable {K : PySem.W.Frag} {x qual : Str} {ist : Stmt} {C N fI : Addr} {nm q : Str} {bs bm : List Value} {sn : List Str} {sub : List Value} {ab : Bool} {col : Option Bool} {dd : Option Addr} {k0 k1 k2 k3 k5 : Option Value} {od an : Option Addr} {sl : Array (Option Value)} {oc kV dc pm cd ct : Value} {f g : Str}
theorem XAt.mk1 (aC : PySem.W.nsIn K mainGlobals x = some (some (.ref C))) (xL : K.lookup C = some (excClassObj nm q C N bs bm true sn sub ab col dd k0 k1 k2 k3 k5 "ValueError.__new__")) (hb : PySem.HandSPX.refsVE bm = true)
    (sa : PySem.W.findIn K (.ref C) "__setattr__" = some (some (.builtin "object.__setattr__"))) (ga : PySem.W.findIn K (.ref C) "__getattribute__" = some (some (.builtin "BaseException.__getattribute__"))) (gg : PySem.W.findIn K (.ref C) "__getattr__" = some none)
    (n1 : PySem.W.findIn K (.ref C) f = some none) (i1 : PySem.W.findIn K (.ref C) "__init__" = some (some (.ref fI))) (t1 : PySem.W.typeIn K (.ref fI) = some (.type "function"))
    (l1 : K.lookup fI = some ⟨oc, od, .func (PySem.W.fnOf "__init__" qual (defArgs ist) (defBody ist) (defScope ist) .none kV dc pm an cd ct), sl⟩) (c1 : PySem.W.codeIn K cd qual = true) (kf : PySem.W.keepIn K (.ref fI) = true)
    (kC : PySem.W.keepIn K (.ref C) = true) (eC : PySem.W.subIn K (.ref C) (.type "BaseException") = some true) (tC : PySem.W.typeIn K (.ref C) = some (.type "type")) (hC : PySem.W.hasDictIn K C = true) : XAt K x qual [f] ist C :=
  ⟨aC, ⟨⟨nm, q, N, bs, bm, sn, sub, ab, col, dd, k0, k1, k2, k3, k5, xL, hb⟩, sa, eC, tC, kC⟩, ⟨ga, gg, eC, hC⟩, fun z hz => by
    obtain rfl : z = f := by simpa using hz
    exact n1, fI, _, i1, t1, fun_mk l1 c1 kf⟩
theorem XAt.mk2 (aC : PySem.W.nsIn K mainGlobals x = some (some (.ref C))) (xL : K.lookup C = some (excClassObj nm q C N bs bm true sn sub ab col dd k0 k1 k2 k3 k5 "ValueError.__new__")) (hb : PySem.HandSPX.refsVE bm = true)
    (sa : PySem.W.findIn K (.ref C) "__setattr__" = some (some (.builtin "object.__setattr__"))) (ga : PySem.W.findIn K (.ref C) "__getattribute__" = some (some (.builtin "BaseException.__getattribute__"))) (gg : PySem.W.findIn K (.ref C) "__getattr__" = some none)
    (n1 : PySem.W.findIn K (.ref C) f = some none) (n2 : PySem.W.findIn K (.ref C) g = some none) (i1 : PySem.W.findIn K (.ref C) "__init__" = some (some (.ref fI))) (t1 : PySem.W.typeIn K (.ref fI) = some (.type "function"))
    (l1 : K.lookup fI = some ⟨oc, od, .func (PySem.W.fnOf "__init__" qual (defArgs ist) (defBody ist) (defScope ist) .none kV dc pm an cd ct), sl⟩) (c1 : PySem.W.codeIn K cd qual = true) (kf : PySem.W.keepIn K (.ref fI) = true)
    (kC : PySem.W.keepIn K (.ref C) = true) (eC : PySem.W.subIn K (.ref C) (.type "BaseException") = some true) (tC : PySem.W.typeIn K (.ref C) = some (.type "type")) (hC : PySem.W.hasDictIn K C = true) : XAt K x qual [f, g] ist C :=
  ⟨aC, ⟨⟨nm, q, N, bs, bm, sn, sub, ab, col, dd, k0, k1, k2, k3, k5, xL, hb⟩, sa, eC, tC, kC⟩, ⟨ga, gg, eC, hC⟩, fun z hz => by
    have : z = f ∨ z = g := by simpa using hz
    rcases this with rfl | rfl
    · exact n1
    · exact n2, fI, _, i1, t1, fun_mk l1 c1 kf⟩
/-- what a clause's class must be, and which classes it takes -/
theorem exm_of {D0 : Addr} {b : Bool} (e : PySem.W.subIn K (.ref D0) (.type "BaseException") = some true) (i : PySem.W.isClsIn K D0 = true) (t : PySem.W.typeIn K (.ref D0) = some (.type "type")) (s : PySem.W.subIn K (.ref C) (.ref D0) = some b) : PySem.W.exmOne K (.ref C) (.ref D0) = some b := by
  have e1 : (PySem.W.subIn K (.ref D0) (.type "BaseException") == some true) = true := by rw [e] <;> rfl
  have e2 : ((PySem.W.clsIn K D0).isSome && PySem.W.typeIn K (.ref D0) == some (.type "type")) = true := by
    have i' : (PySem.W.clsIn K D0).isSome = true := i
    rw [i', t] <;> rfl
  show (if (PySem.W.subIn K (.ref D0) (.type "BaseException") == some true) = true then (if ((PySem.W.clsIn K D0).isSome && PySem.W.typeIn K (.ref D0) == some (.type "type")) = true then PySem.W.subIn K (.ref C) (.ref D0) else none) else none) = some b
  rw [if_pos e1, if_pos e2]
  exact s
end
end FL

namespace FL
open PySem PySem.Spec PyProof.Rows L2

/-! ### an error that is kept behind its clause -/
theorem Inv.track {X : Cx} {pins : List (Addr × Obj)} {σ : L2.St} {H : Hp} {s : Shared} {a : Addr} {oe : Obj} {vs : Array Value} {φ : Heap → Prop} (I : Inv X ((a, oe) :: pins) σ H s) (h0 : X.s_0.heap.get? a = none) (hp : ∀ p ∈ X.pn ++ pins, p.1 ≠ a)
    (hd : oe.data = .fields vs) (ok : φ s.heap) (st : ∀ h1 h2 : Heap, φ h1 → (∀ o, h1.get? a = some o → h2.get? a = some o) → φ h2) : Inv X pins σ (upd H a (.ext φ)) s := by
  obtain ⟨ha, hn, hL, hF, _⟩ := I.pin (a, oe) (List.mem_append_right _ List.mem_cons_self)
  have ne0 : ∀ {b : Addr} {o : Obj}, X.s_0.heap.get? b = some o → b ≠ a := fun e z => by rw [z, h0] at e; cases e
  refine ⟨I.ok, I.os, I.bare, ⟨I.base.keep, I.base.slot, fun b o e n hx => ?_, I.base.there, fun b xs e => ?_, fun b o u e => ?_, fun b ps e => ?_⟩, I.loc, I.cell, ?_, fun x c e => ?_, fun p hm => ?_, fun b u e => ?_, I.len⟩
  · rw [upd_ne (ne0 e)]
    exact I.base.free b o e n hx
  · have q := I.base.tups b xs e
    rw [upd_ne (ne_of_none q hn)]
    exact q
  · have q := I.base.frzs b o u e
    rw [upd_ne (ne_of_none q hn)]
    exact q
  · obtain ⟨m, q⟩ := I.base.tbls b ps e
    exact ⟨m, by rw [upd_ne (ne_of_none q hn)]; exact q⟩
  · rw [upd_ne (Ne.symm hL)]
    exact I.free
  · have ne : c ≠ a := fun z => by
      obtain ⟨v, o, ho, hc⟩ := I.cell x c e
      rw [z] at ho
      have ha' : s.heap.get? a = some oe := ha
      rw [ha'] at ho
      cases ho
      rw [hd] at hc
      cases hc
    rw [upd_ne ne]
    exact I.freeC x c e
  · have hm' : p ∈ X.pn ++ (a, oe) :: pins := by
      rcases List.mem_append.mp hm with z | z
      · exact List.mem_append_left _ z
      · exact List.mem_append_right _ (List.mem_cons_of_mem _ z)
    obtain ⟨e1, n1, l1, f1, d1⟩ := I.pin p hm'
    exact ⟨e1, by rw [upd_ne (hp p hm)]; exact n1, l1, f1, d1⟩
  · by_cases hb : b = a
    · subst hb
      rw [upd_same] at e
      cases e
      exact ⟨ok, ⟨oe, ha⟩, st⟩
    · rw [upd_ne hb] at e
      exact (I.hok b u e).stay (fun _ _ _ q => q) (fun c q => by rw [upd_ne (ne_of_none q hn)]; exact q) fun c xs q => by rw [upd_ne (ne_of_none q hn)]; exact q
def unK (i : Nat) (a C dd : Addr) (D : Ends) : Ends := { nx := fun σ' H' => H' a = none → D.nx (σ'.set i none) (upd H' a (EvO a C dd)), rt := D.rt, bk := fun σ' H' => D.bk (σ'.set i none) H', ct := fun σ' H' => D.ct (σ'.set i none) H' }
def wK (K : PySem.W.Frag) (Wout : WX) (D : Ends) (i : Nat) (c : Value) (ts : Su) : WX := fun cls d σ H => ∃ C dd b, cls = .ref C ∧ d = some dd ∧ PySem.W.exmOne K cls c = some b ∧ (b = true → ∀ a, H a = none → ts a cls d (unK i a C dd D) (σ.set i (some (.ref a))) H) ∧ (b = false → Wout cls d σ H)
theorem ps_tryK {X : Cx} {body : List Stmt} {x n : Str} {i : Nat} {c : Value} {ts : Su} {b0 : Stmt} {sts : List Stmt} {np po pos : Pos} {tb : WX → TS} {Wout : WX} (hs : X.stack = X.env :: X.outer) (hf : X.env.frame = some X.env.locals) (hN : X.N.Nodup) (hex : X.ex = []) (tk : Takes X Wout)
    (hb : ∀ (W : WX) (pn : List (Addr × Obj)) (xe : Value → Shared → Prop), Takes (X.tr pn xe) W → PassesOwn (model X.prog X.w) X.A X.env xe → PSs (X.tr pn xe) body (tb W))
    (hc : Names X x c) (hi : X.N[i]? = some n) (hkind : X.env.kindOf n = some .local)
    (hsu : ∀ (a : Addr) (oe : Obj) (cls : Value) (d : Option Addr) (pn : List (Addr × Obj)), Zc cls d oe → (∃ vs, oe.data = .fields vs) → PSs (X.suite a ((a, oe) :: pn)) (b0 :: sts) (ts a cls d)) :
    PS X (.Try body [.ExceptHandler (some (.Name x np)) (some n) (b0 :: sts) po] [] [] pos) (fun D σ H => tb (wK X.K Wout D i c ts) D σ H) := by
  refine ⟨fun pins s σ H D inv red => wpAny_Try_except ?_⟩
  have okI := inv.ok
  have frm : X.A.frames = some (X.env :: X.outer) := by rw [okI.frames, hs]
  refine wpAny_mono ((hb (wK X.K Wout D i c ts) (X.pn ++ pins)
    (fun e s1 => wpAny (model X.prog X.w) X.A (noteFrame e X.env) (fun _ s2 => wpAny (model X.prog X.w) X.A (setFlight e none) (fun _ s3 => wpAny (model X.prog X.w) X.A (handleBy e X.env [.ExceptHandler (some (.Name x np)) (some n) (b0 :: sts) po]) (SP X pins D) X.xe s3) X.xe s2) X.xe s1)
    (fun u s' caught => ?_) PassesOwn.looking).run [] s σ H D (inv.toTry _) red) (fun fl s1 post => ?_) (fun e s1 z => z)
  · obtain ⟨a, B, sI, pinsB, σ1, H1, cls, d, rfl, invB, nb, upB, skyB, na, os, ag, wish⟩ := caught
    have inv1 : Inv X pins σ1 H1 sI := invB.ofTry okI
    have sky1 : Sky B (X.env :: X.outer) a (Zc cls d) X.env.locals s'.heap := by rw [← hs]; exact skyB
    have hBa : B.get? a = none := by
      rcases sky1 with z | z | z
      · exact z.2.1
      · exact z.2.1
      · exact z.2.1
    show wpAny (model X.prog X.w) X.A (noteFrame (.ref a) X.env) _ _ _
    refine Sky.land Zc.steady frm hf sky1 fun h3 fl3 up3 => ?_
    have inv3 : Inv X pins σ1 H1 { s' with heap := h3 } := inv1.landed nb fl3.1 (upB.trans up3) os ag
    obtain ⟨oe3, vs3, he3, hz3, hd3⟩ := fl3.there
    have off : a ∉ frs (X.env :: X.outer) := fun hm => by
      obtain ⟨_, oz, ez, hnf⟩ := fl3.2.2.1.mem hm
      rw [he3] at ez
      cases ez
      exact hnf _ hd3
    have hIa : sI.heap.get? a = none := by
      cases e : sI.heap.get? a with
      | none => rfl
      | some o =>
        have z := nb a o e (by rw [show (X.tr (X.pn ++ pins) _).stack = X.stack from rfl, hs]; exact off)
        rw [hBa] at z
        cases z
    have h0a : X.s_0.heap.get? a = none := by
      cases e : X.s_0.heap.get? a with
      | none => rfl
      | some o =>
        obtain ⟨o', z⟩ := inv1.base.there a o e (by rw [hex]; exact fun z => nomatch z)
        rw [hIa] at z
        cases z
    have hpa : ∀ p ∈ X.pn ++ pins, p.1 ≠ a := fun p hp z => by
      obtain ⟨e, _⟩ := inv1.pin p hp
      rw [z, hIa] at e
      cases e
    have notL : a ≠ X.env.locals := fun z => off (List.mem_filterMap.mpr ⟨X.env, List.mem_cons_self, by rw [hf, z]⟩)
    have notF : a ∉ X.fs := fun hm => by
      obtain ⟨e, he, q⟩ := List.mem_filterMap.mp hm
      exact off (List.mem_filterMap.mpr ⟨e, List.mem_cons_of_mem _ he, q⟩)
    have suite3 := inv3.suite he3 hd3 na notL notF
    obtain ⟨C, dd, b, ec, ed, hb1, yes, no⟩ := wish
    refine wpAny_handleBy_cons (codeAny_handlers_test ?_) (by intro q; cases q)
    have looksT : PySem.W.Looks (model X.prog X.w) h3 (typeOf (.ref a)) cls := fun A Q E s k q => wpAny_typeOf_ref (k _ _ he3) (by rw [hz3.1]; exact q)
    have looksM := PySem.W.exm_one (M := model X.prog X.w) inv3.kIn looksT hb1
    have named : ∀ {Q E : Value → Shared → Prop}, Q c { s' with heap := h3 } → wpAny (model X.prog X.w) (X.A.mark (some (.ref a))) (eval (.Name x np) X.env) Q E { s' with heap := h3 } := fun {Q E} q => by
      obtain ⟨hg, hdb, hm | ⟨hm, hv, hnn⟩⟩ := hc
      · exact ld_glob (X := X.suite a ((a, oe3) :: (X.pn ++ pins))) suite3 hg hm q hdb
      · exact ld_blt (X := X.suite a ((a, oe3) :: (X.pn ++ pins))) suite3 hg hm hv q hnn hdb
    refine named (looksM.here ?_)
    cases b with
    | false =>
      refine wpAny_handleBy_nil ?_
      obtain ⟨_, _, _, oeZ, vsZ, T, _, _, heZ, _, hdZ, h1Z, _⟩ := id fl3
      unfold PySem.passOn
      refine wpAny_bind (wpAny_field heZ hdZ h1Z ?_)
      rw [if_neg (show ¬ ((Value.ref T == Value.none) = true) from by simp)]
      have out : wpAny (model X.prog X.w) X.A (setFlight (.ref a) X.env.frame) (fun _ s4 => wpAny (model X.prog X.w) X.A (throw (.ref a) : Sem Flow) (SP X pins D) X.xe s4) X.xe { s' with heap := h3 } := by
        rw [hf]
        exact HandSPX.setFlight_upZ fl3 fun h4 sk4 up4 => wpAny_throw (tk _ _ ⟨a, B, sI, pins, σ1, H1, cls, d, rfl, inv1, nb, (upB.trans up3).trans up4, .inr (.inr (by rw [hs]; exact sk4)), na, os, ag, no rfl⟩)
      first
        | exact wpAny_bind (wpAny_pure (wpAny_bind out))
        | exact wpAny_bind out
    | true =>
      refine codeAny_handlers_suite_as (HandSPX.lands_againZ fl3 fun h4 fl4 up4 => ?_)
      have inv4 : Inv X pins σ1 H1 { s' with heap := h4 } := inv1.landed nb fl4.1 ((upB.trans up3).trans up4) os ag
      obtain ⟨oe4, vs4, he4, hz4, hd4⟩ := fl4.there
      have suite4 := inv4.suite he4 hd4 na notL notF
      refine store_ok (X := X.suite a ((a, oe4) :: (X.pn ++ pins))) (v := .ref a) suite4 hN hi (.inl hkind) rfl (fun s5 suite5 => ?_) (.inr hkind)
      refine wpAny_mono ((hsu a oe4 cls d (X.pn ++ pins) hz4 ⟨_, hd4⟩).run [] s5 _ H1 _ suite5 (yes rfl a na)) (fun fl s6 post => ?_) (fun _ _ z => False.elim z)
      have behind : ∀ {σ6 : L2.St} {H6 : Hp} {Q : Shared → Prop}, Inv (X.suite a ((a, oe4) :: (X.pn ++ pins))) [] σ6 H6 s6 → (∀ s7, Inv X ((a, oe4) :: pins) (σ6.set i none) H6 s7 → Q s7) →
          wpAny (model X.prog X.w) X.A (do bindName X.env n .none; unbindBehindTheSuite X.env n po) (fun _ s7 => Q s7) X.xe s6 := fun {σ6 H6 Q} S6 hq => by
        have I6 : Inv X ((a, oe4) :: pins) σ6 H6 s6 := ⟨okI, S6.os, S6.bare, S6.base, S6.loc, S6.cell, S6.free, S6.freeC, fun p hp => S6.pin p (by
          show p ∈ ((a, oe4) :: (X.pn ++ pins)) ++ []
          rw [List.append_nil]
          rcases List.mem_append.mp hp with z | z
          · exact List.mem_cons_of_mem _ (List.mem_append_left _ z)
          · rcases List.mem_cons.mp z with z | z
            · rw [z]; exact List.mem_cons_self
            · exact List.mem_cons_of_mem _ (List.mem_append_right _ z)), S6.hok, S6.len⟩
        exact gone_ok I6 hN hi hkind hq
      have down : ∀ {σ7 : L2.St} {H7 : Hp} {s7 : Shared}, Inv X ((a, oe4) :: pins) σ7 H7 s7 → Inv X pins σ7 H7 s7 := fun I => I.pins_of fun p hp => I.pin p (List.mem_append_right _ (List.mem_cons_of_mem _ hp))
      cases fl with
      | ret u =>
        obtain ⟨v6, σ6, H6, S6, r6, q6⟩ := post
        exact behind S6 fun s7 J7 => ⟨_, _, _, down J7, r6, q6⟩
      | next =>
        obtain ⟨σ6, H6, S6, q6⟩ := post
        refine behind S6 fun s7 J7 => ?_
        obtain ⟨ha7, hn7, _⟩ := J7.pin (a, oe4) (List.mem_append_right _ List.mem_cons_self)
        have J8 : Inv X pins (σ6.set i none) (upd H6 a (EvO a C dd)) s7 := Inv.track J7 h0a hpa hd4 ⟨oe4, vs4, ha7, by rw [← ec, ← ed]; exact hz4, hd4⟩ (fun h1 h2 ⟨o, v, z1, z2⟩ k => ⟨o, v, k o z1, z2⟩)
        exact ⟨_, _, J8, q6 hn7⟩
      | brk =>
        obtain ⟨σ6, H6, S6, q6⟩ := post
        exact behind S6 fun s7 J7 => ⟨_, _, down J7, q6⟩
      | cont =>
        obtain ⟨σ6, H6, S6, q6⟩ := post
        exact behind S6 fun s7 J7 => ⟨_, _, down J7, q6⟩
  · cases fl with
    | ret u =>
      obtain ⟨v, σ', H', J', r, q⟩ := post
      exact ⟨v, σ', H', J'.ofTry okI, r, q⟩
    | next =>
      obtain ⟨σ', H', J', q⟩ := post
      exact wpAny_execs_nil ⟨σ', H', J'.ofTry okI, q⟩
    | brk =>
      obtain ⟨σ', H', J', q⟩ := post
      exact ⟨σ', H', J'.ofTry okI, q⟩
    | cont =>
      obtain ⟨σ', H', J', q⟩ := post
      exact ⟨σ', H', J'.ofTry okI, q⟩
/-- try: .. except C as n: y = n -/
def keepS (tbl : Str → Str → Option Bool) (g : FS) (y : Str) (i j : Nat) : FS := fun δ s => match g δ s with
  | .raise e δ' s' => if i < δ'.length then (match tbl e.cls y with
    | some true => .nx (((δ'.set i none).set j (some (.exc e.cls e.flds))).set i none) s'
    | some false => .raise e δ' s'
    | none => .bad) else .bad
  | r => r
theorem sv_keep {X : Cx} {W : WX} {tbl : Str → Str → Option Bool} {body : List Stmt} {y n z : Str} {i j : Nat} {np po pz pn2 p1 pos : Pos} {g : FS} (HT : TblOk X.K X.mg tbl) (hs : X.stack = X.env :: X.outer) (hf : X.env.frame = some X.env.locals) (hN : X.N.Nodup) (hex : X.ex = []) (tk : Takes X W)
    (hb : ∀ (W' : WX) (pn : List (Addr × Obj)) (xe : Value → Shared → Prop), Takes (X.tr pn xe) W' → PassesOwn (model X.prog X.w) X.A X.env xe → BV (X.tr pn xe) W' body g) (hg : Gl X y) (hdb : (y == ("__debug__" : Str)) = false) (hm : ∃ C, X.mg y = some (.ref C) ∧ CNm X.K y C) (hi : X.N[i]? = some n) (hk : X.env.kindOf n = some .local)
    (hv : Vis X.env.scope n) (hj : X.N[j]? = some z) (hz : Loc X.env.scope z) (hd : (n == ("__debug__" : Str)) = false := by decide) (hcd : (n == ("__classdict__" : Str)) = false := by decide) (hsw : swapsWith (.Name n pn2) (some (.Name z pz)) p1.line X.env = pure false := by rfl)
    (hfn : X.fn z = true ∨ X.env.scope.names.lookup z = some .local := by first | exact .inl rfl | exact .inr rfl | assumption) :
    SV X W (.Try body [.ExceptHandler (some (.Name y np)) (some n) [.Assign [.Name z pz] (.Name n pn2) p1] po] [] [] pos) (keepS tbl g y i j) := by
  obtain ⟨Cy, hy, ny⟩ := hm
  refine ps_weak (ps_tryK (tb := fun W' => tSV X.K X.mg W' g) (c := .ref Cy) (i := i) (ts := fun a cls d => tAsg (tVar i) (gName j)) hs hf hN hex tk hb ⟨hg, hdb, .inl hy⟩ hi hk
    (fun a oe cls d pn hz' hf' => pss_one (ps_set (X := X.suite a ((a, oe) :: pn)) (i := j) hN hj hz (pe_var (X := X.suite a ((a, oe) :: pn)) hi hv hd hcd) hsw hfn))) fun Dn σ H ⟨dk, δ, s, F, er, st, q⟩ => ⟨dk, δ, s, F, er, st, ?_⟩
  unfold keepS at q
  cases hg' : g δ s with
  | raise e δ' s' =>
    rw [hg'] at q
    intro σ' C dd F' H' n1 er' hm hx
    have q := SPost.later n1 q
    dsimp only at q
    split at q
    · rename_i hl
      have er0 := er'
      split at q
      · rename_i ht
        refine ⟨C, dd, true, rfl, rfl, HT _ _ _ _ _ ht hm ny, fun _ a ha => ?_, fun z => by cases z⟩
        refine ⟨.ref a, List.getElem?_set_self (by rw [er0.len]; exact hl), fun hn => ?_⟩
        obtain ⟨fs, x1, x2, x3⟩ := hx
        have n2 := Nxt.new (o := EvO a C dd) n1.st hn
        exact q _ _ _ n2 (((er0.mono n2.sm).unset.set (.exc upd_same hm (n2.sm _ _ x1) x2 (x3.mono n2.sm))).unset)
      · rename_i ht
        exact ⟨C, dd, false, rfl, rfl, HT _ _ _ _ _ ht hm ny, (fun z => nomatch z), fun _ => q σ' C dd F' H' (Nxt.refl n1.st) er' hm hx⟩
      · exact q.elim
    · exact q.elim
  | nx δ' s' => rw [hg'] at q; exact q
  | bk δ' s' => rw [hg'] at q; exact q
  | ct δ' s' => rw [hg'] at q; exact q
  | rt d' s' => rw [hg'] at q; exact q
  | bad => rw [hg'] at q; exact q
end FL

namespace PySem.W
open PySem PySem.Spec PySem.Calls PyProof.Rows
section
variable {prog : Program} {w : World} {A : Around} {E : Value → Shared → Prop} {s : Shared} {K : Frag} {x D : Addr} {ox od : Obj}
theorem kin_classD {Q : Option Value → Shared → Prop} (hga : findIn K (.ref D) "__getattribute__" = some (some (.builtin "BaseException.__getattribute__"))) (hgt : findIn K (.ref D) "__getattr__" = some none) (hsub : subIn K (.ref D) (.type "BaseException") = some true)
    (hdct : hasDictIn K D = true) (ha : findIn K (.ref D) "__class__" = some (some (.builtin "object.__class__")))
    (hn : specialIn K (.builtin "object.__class__") "__get__" = some (some (.builtin "getset_descriptor.__get__"))) (htk : takesIn K (.builtin "object.__class__") = some true) (hm : mroIn K D (.type "object") = some true)
    (X : K.In s.heap) (I : InstAt s.heap x ox D (some od)) (h : Q (some (.ref D)) { s with toks := s.toks + 1 }) : wpAny (model prog w) A (getAttr? (.ref x) "__class__") Q E s := by
  have hf : findObj K D (some od) "__class__" = some (.bind (.builtin "getset_descriptor.__get__") (.builtin "object.__class__")) := findObj_data (by obtain ⟨cd, hc, _⟩ := any_some hdct; rw [hc]; rfl) ha hn htk
  obtain ⟨hp, g, d, t, os⟩ := s
  have L0 := I.type (M := model prog w)
  have L1 := looks_findIn (M := model prog w) X hga
  have L2 := looks_findIn (M := model prog w) X hgt
  have L3 := looks_find (M := model prog w) X I hf
  have sub : Looks (model prog w) hp (isInstance (.ref x) (.type "BaseException")) true := L0.andThen (looks_subIn X hsub)
  have hx0 : (false && onTheHeap (Value.builtin "BaseException.__getattribute__")) = false := rfl
  have hx2 : (Value.builtin "BaseException.__getattribute__" == Value.builtin "object.__getattribute__") = false := by decide +kernel
  have hx1 : (onTheHeap (Value.ref D) && Value.builtin "BaseException.__getattribute__" == Value.builtin "object.__getattribute__") = false := by rw [hx2]; rfl
  unfold getAttr? getAttrBy? getAttrBy
  refine wpAny_bind (wpAny_mkText (wpAny_bind (wpAny_attempt (wpAny_holding (wpAny_bind (L0.at (wpAny_bind (L1.at ?_))))))))
  show wpAny _ _ (if (onTheHeap (Value.ref D) && Value.builtin "BaseException.__getattribute__" == Value.builtin "object.__getattribute__") = true then _ else _) _ _ _
  rw [hx1, if_neg Bool.false_ne_true]
  unfold getAttrByItsOwn hookBefore
  refine wpAny_bind ?_
  rw [if_pos (show onTheHeap (Value.ref D) = true from rfl)]
  refine L2.at ?_
  refine wpAny_bind (wpAny_attempt (wpAny_holding ?_))
  unfold callGetattribute
  rw [hx0, if_neg Bool.false_ne_true]
  unfold boundAndCalled
  rw [PySem.F.excAttr_ValueError.ga.bind (.ref x)]
  refine wpAny_bind (wpAny_pure ?_)
  show wpAny _ _ (call (.builtin "BaseException.__getattribute__") [.ref x, .str "__class__" t]) _ _ _
  refine wpAny_call (codeAny_call_builtin PySem.F.excAttr_ValueError.ga.plain PySem.F.entry_bexc_ga ?_)
  refine @check_slot (model prog w) _ _ ⟨hp, g, d, t + 1, os⟩ "BaseException.__getattribute__" "BaseException" "__getattribute__" (.ref x) [.str "__class__" t] [] _ (by decide +kernel) (by decide +kernel) sub (PySem.F.args_bexc_ga (.ref x) (.str "__class__" t)) ?_
  unfold Builtin.«object.__getattribute__»
  refine wpAny_bind (wpAny_of_eq (a := ((Value.ref x : Value), [Value.str "__class__" t])) (by first | rfl | (simp only [slotArgs]; rfl)) ?_)
  refine wpAny_bind (wpAny_pure (wpAny_bind (L0.at (wpAny_bind (L3.at ?_)))))
  show wpAny _ _ (holding [Value.builtin "object.__class__"] (call (.builtin "getset_descriptor.__get__") [.builtin "object.__class__", .ref x, .ref D]) >>= ret) _ _ _
  refine wpAny_bind (wpAny_holding (wpAny_call (class_get (s := ⟨hp, g, d, t + 1, os⟩) (ox := ox) (od := some od) X I hm ?_)))
  refine wpAny_pure ?_
  show wpAny _ _ (handedOut (.ref D)) _ _ _
  rw [handedOut_of (v := .ref D) rfl]
  first
    | exact wpAny_pure (wpAny_pure h)
    | exact wpAny_pure h
    | exact wpAny_pure (wpAny_bind (wpAny_pure (wpAny_pure h)))
theorem kitx_excD (hga : findIn K (.ref D) "__getattribute__" = some (some (.builtin "BaseException.__getattribute__"))) (hgt : findIn K (.ref D) "__getattr__" = some none) (hsub : subIn K (.ref D) (.type "BaseException") = some true) (hdct : hasDictIn K D = true) (ha : findIn K (.ref D) "__class__" = some (some (.builtin "object.__class__")))
    (hn : specialIn K (.builtin "object.__class__") "__get__" = some (some (.builtin "getset_descriptor.__get__"))) (htk : takesIn K (.builtin "object.__class__") = some true) (hm : mroIn K D (.type "object") = some true) :
    KitX K (.ref x) (.ref D) (fun h => InstAt h x ox D (some od)) where
  ty := fun _ _ _ I => I.type
  it := fun _ _ X _ => by
    obtain ⟨cdD, hcD, _⟩ := any_some hdct
    unfold clsIn at hcD
    split at hcD
    · rename_i c' d' cd' sl' ho
      intro A' Q' E' s' k q
      unfold isType loadHead
      exact wpAny_bind (wpAny_loadPart (k _ _ (X _ _ ho)) (wpAny_pure q))
    · cases hcD
  ne := fun h tp dd its n sl X htp => by
    obtain ⟨cdD, hcD, _⟩ := any_some hdct
    refine Bool.eq_false_iff.mpr fun q => ?_
    have e : D = tp := Value.ref.inj (beq_iff_eq.mp q)
    subst e
    unfold clsIn at hcD
    split at hcD
    · rename_i c' d' cd' sl' ho
      have z := (X _ _ ho).symm.trans htp
      cases z
    · cases hcD
  ca := fun X I k => kin_classD hga hgt hsub hdct ha hn htk hm X I k
end
end PySem.W
namespace FL
open PySem PySem.Spec PyProof.Rows L2
/-! ### an error as a value -/
section
variable {X : Cx} {pins : List (Addr × Obj)} {σ : L2.St} {H : Hp} {s : Shared} {a C dd : Addr} {fs : List (Str × V)}
theorem ev_at (I : Inv X pins σ H s) (ea : H a = some (EvO a C dd)) (ed : H dd = some (.xd fs)) : ∃ (oe od : Obj) (mA : Str → Option Value), PySem.W.InstAt s.heap a oe C (some od) ∧ (∀ f, PySem.W.lookIn f od = some (mA f)) ∧ ∀ f, RelO (fs.lookup f) (mA f) := by
  have hz : ObjOk X.prog X.w H s.heap a (.ext fun h => ∃ (oe : Obj) (vs : Array Value), h.get? a = some oe ∧ Zc (.ref C) (some dd) oe ∧ oe.data = .fields vs) := I.hok a _ ea
  obtain ⟨⟨oe, vs, ho, hz, hd⟩, _⟩ := hz
  have hx : ObjOk X.prog X.w H s.heap dd (.xd fs) := I.hok dd _ ed
  obtain ⟨mA, hns, hr⟩ := hx
  obtain ⟨od, ho2, hl⟩ := lookIn_ns hns
  exact ⟨oe, od, mA, ⟨ho, hz.1, by unfold PySem.W.notCls; rw [hd] <;> rfl, by rw [hz.2]; exact ho2⟩, hl, hr⟩
def rIsX (K : PySem.W.Frag) : List V → Hp → VK → Prop := fun xs H Q => ∃ (a C dd : Addr) (fs : List (Str × V)) (c : V) (cv : Value) (b : Bool), xs = [.ref a, c] ∧ H a = some (EvO a C dd) ∧ H dd = some (.xd fs) ∧ ExcC K C ∧ (∀ u, RelV c u → u = cv) ∧ PySem.W.kitOne K (.ref C) cv = some b ∧ Q (.bl b) H
theorem call_isX : CallR X (.builtin "isinstance") (rIsX X.K) := by
  intro pins s σ H xs us Q I r h
  obtain ⟨a, C, dd, fs, c, cv, b, rfl, ea, ed, T, hcv, e, q⟩ := h
  cases r with
  | cons rx rr =>
    cases rr with
    | cons rt rr =>
      cases rr
      cases rx
      have ec := hcv _ rt
      subst ec
      obtain ⟨oe, od, mA, J, _, _⟩ := ev_at I ea ed
      exact PySem.W.kia_one (PySem.W.kitx_excD T.hg T.hk T.hs T.hd T.ha T.hn T.ht T.hm) I.kIn J e (fun z => nomatch z) fun tk => ⟨.bl b, H, I.kept (t' := tk) fun _ _ z => z, rfl, q⟩
end
/-- what stands of the classes: which takes which; the types of Python that take them; the fields that each has -/
structure Tab (K : PySem.W.Frag) (tbl tbx : Str → Str → Option Bool) (fT : Str → Str → Bool) (tyL : List String) : Prop where
  ex : ∀ x y C, tbl x y ≠ none → CNm K x C → ExcC K C
  kit : ∀ x y b C D, tbl x y = some b → CNm K x C → CNm K y D → PySem.W.kitOne K (.ref C) (.ref D) = some b
  kix : ∀ (x : Str) (y : String) b C, y ∈ tyL → tbx x y = some b → CNm K x C → ExcC K C ∧ PySem.W.kitOne K (.ref C) (.type y) = some b
  fl : ∀ x f C, fT x f = true → CNm K x C → XfC K C ∧ PySem.W.findIn K (.ref C) f = some none
def isxF (tbl : Str → Str → Option Bool) (f : FE) (y : Str) : FE := fun δ s => (f δ s).bind fun x s => match x with
  | .exc c _ => pureM ((tbl c y).map .bl) s
  | _ => .bad
def fldF (fT : Str → Str → Bool) (f : FE) (n : Str) : FE := fun δ s => (f δ s).bind fun x s => match x with
  | .exc c fs => if fT c n = true then pureM (fs.lookup n) s else .bad
  | _ => .bad
section
variable {X : Cx} {W : WX} {a e : Expr} {f : FE} {pos p p1 : Pos} {tbl tbx : Str → Str → Option Bool} {fT : Str → Str → Bool} {tyL : List String}
theorem ev_isx {T : Str} (HT : Tab X.K tbl tbx fT tyL) (hg : Gl X "isinstance") (hm : X.mg "isinstance" = none) (hgT : Gl X T) (hmT : ∃ C, X.mg T = some (.ref C) ∧ CNm X.K T C) (ha : EV X W a f)
    (hdT : (T == ("__debug__" : Str)) = false := by decide)
    (h1 : starEach (a :: [.Name T p1]) X.env = (false, eval a X.env) :: starEach [.Name T p1] X.env := by rfl) (h2 : starEach (Expr.Name T p1 :: []) X.env = (false, eval (.Name T p1) X.env) :: starEach [] X.env := by rfl)
    (hpl : (backTo pos (starEach [.Name T p1] X.env)).any (·.1) = false := by rfl) :
    EV X W (.Call (.Name "isinstance" p) [a, .Name T p1] [] pos) (isxF tbl f T) := by
  obtain ⟨D, hD, nD⟩ := hmT
  refine pe_weak (pe_callB call_isX hg hm (by decide +kernel) (pa_cons ha (pa_cons (pe_glob (v := .ref D) hgT hD rfl hdT) pa_nil h2) h1) (by decide) (by decide) h1 hpl) fun σ H Q ⟨dk, δ, s, F, er, st, q⟩ => ?_
  refine ⟨dk, δ, s, F, er, st, EPost.bind q fun y s1 v F1 H1 n ry q1 => ?_⟩
  cases ry with
  | @exc a C dd cls fs ds h1 hc h2 hk h3 =>
    have q1 : EPost X.K X.mg dk (RelD X.K dk) (WE W σ) F1 H1 Q (pureM ((tbl cls T).map .bl) s1) := q1
    obtain ⟨d, e, hq⟩ := epost_pure n.st q1
    cases ht : tbl cls T with
    | none => rw [ht] at e; cases e
    | some b =>
      rw [ht] at e
      cases e
      exact ⟨a, C, dd, fs, .ref D, .ref D, b, rfl, n.st.sub _ _ h1, n.st.sub _ _ h2, HT.ex _ _ _ (by rw [ht]; exact fun z => nomatch z) hc, fun u z => z, HT.kit _ _ _ _ _ ht hc nD, hq _ (.bl _)⟩
  | _ => exact q1.elim
theorem ev_isxT {T : Str} {Tn : String} (HT : Tab X.K tbl tbx fT tyL) (hg : Gl X "isinstance") (hm : X.mg "isinstance" = none) (hgT : Gl X T) (hmT : X.mg T = none) (hv : bootBuiltins T = some (.type Tn)) (hTn : (Tn : Str) = T) (hin : Tn ∈ tyL) (ha : EV X W a f)
    (hnT : T ≠ "__name__" := by decide) (hdT : (T == ("__debug__" : Str)) = false := by decide)
    (h1 : starEach (a :: [.Name T p1]) X.env = (false, eval a X.env) :: starEach [.Name T p1] X.env := by rfl) (h2 : starEach (Expr.Name T p1 :: []) X.env = (false, eval (.Name T p1) X.env) :: starEach [] X.env := by rfl)
    (hpl : (backTo pos (starEach [.Name T p1] X.env)).any (·.1) = false := by rfl) :
    EV X W (.Call (.Name "isinstance" p) [a, .Name T p1] [] pos) (isxF tbx f T) := by
  refine pe_weak (pe_callB call_isX hg hm (by decide +kernel) (pa_cons ha (pa_cons (pe_bltn (v := .ty Tn) hgT hmT hv rfl hnT hdT) pa_nil h2) h1) (by decide) (by decide) h1 hpl) fun σ H Q ⟨dk, δ, s, F, er, st, q⟩ => ?_
  refine ⟨dk, δ, s, F, er, st, EPost.bind q fun y s1 v F1 H1 n ry q1 => ?_⟩
  cases ry with
  | @exc a C dd cls fs ds h1 hc h2 hk h3 =>
    have q1 : EPost X.K X.mg dk (RelD X.K dk) (WE W σ) F1 H1 Q (pureM ((tbx cls T).map .bl) s1) := q1
    obtain ⟨d, e, hq⟩ := epost_pure n.st q1
    cases ht : tbx cls T with
    | none => rw [ht] at e; cases e
    | some b =>
      rw [ht] at e
      cases e
      rw [← hTn] at ht
      obtain ⟨k1, k2⟩ := HT.kix _ _ _ _ hin ht hc
      exact ⟨a, C, dd, fs, .ty Tn, .type Tn, b, rfl, n.st.sub _ _ h1, n.st.sub _ _ h2, k1, fun u z => z, k2, hq _ (.bl _)⟩
  | _ => exact q1.elim
def tXfT (K : PySem.W.Frag) (n : Str) (te : TE) : TE := fun σ H Q => te σ H fun x H1 => ∃ (a C dd : Addr) (fs : List (Str × V)) (v : V), x = .ref a ∧ H1 a = some (EvO a C dd) ∧ H1 dd = some (.xd fs) ∧ XfC K C ∧ PySem.W.findIn K (.ref C) n = some none ∧ fs.lookup n = some v ∧ Q v H1
theorem pe_xfT {n : Str} {te : TE} (he : PE X e te) (hb : attributeBase e n X.env (eval e X.env) = eval e X.env := by rfl) : PE X (.Attribute e n pos) (tXfT X.K n te) := by
  refine ⟨fun pins s σ H Q I h => ?_⟩
  refine attr_of hb (thn (he.run pins s σ H _ I h) fun u s1 hh => ?_)
  obtain ⟨x, H1, I1, rx, a, C, dd, fs, v, ex, ea, ed, T, hno, l, q⟩ := hh
  subst ex
  obtain rfl : u = Value.ref a := rx
  obtain ⟨oe, od, mA, J, hl, hr⟩ := ev_at I1 ea ed
  obtain ⟨u, hu, ru⟩ := RelO.some_of (v := v) (o := mA n) (by rw [← l]; exact hr n)
  exact HandSPX.exc_get I1.kIn J T.ga T.gg T.exC (PySem.W.findObj_own T.hdC hno rfl (by rw [hl, hu])) (handed_of ru) ⟨v, H1, I1.tok _, ru, q⟩
theorem ev_fldX {n : Str} (HT : Tab X.K tbl tbx fT tyL) (he : EV X W e f) (hb : attributeBase e n X.env (eval e X.env) = eval e X.env := by rfl) : EV X W (.Attribute e n pos) (fldF fT f n) := by
  refine pe_weak (pe_xfT he hb) fun σ H Q ⟨dk, δ, s, F, er, st, q⟩ => ?_
  refine ⟨dk, δ, s, F, er, st, EPost.bind q fun y s1 v F1 H1 n1 ry q1 => ?_⟩
  cases ry with
  | @exc a C dd cls fs ds h1 hc h2 hk h3 =>
    dsimp only at q1
    split at q1
    · rename_i hf
      obtain ⟨d, e, hq⟩ := epost_pure n1.st q1
      obtain ⟨v, hv, rv⟩ := look_rp hk h3 e
      obtain ⟨k1, k2⟩ := HT.fl _ _ _ hf hc
      exact ⟨a, C, dd, fs, v, rfl, n1.st.sub _ _ h1, n1.st.sub _ _ h2, k1, k2, hv, hq v rv⟩
    · exact q1.elim
  | _ => exact q1.elim
end
end FL

namespace FL
open PySem PySem.Spec PyProof.Rows L2
/-! ### repr of a list whose items are data without dicts, or flat dicts -/
def plainD : D → Bool
  | .non => true
  | .bl _ => true
  | .int _ => true
  | .str _ => true
  | _ => false
def itemOk (d : D) : Bool := match d with
  | .dct kvs => kvs.all fun e => plainD e.2
  | _ => match py d with
    | some p => p.canLay0
    | none => false
def encK : Key → PyData
  | .inl i => .int i
  | .inr z => .str z
section
variable {X : Cx} {pins : List (Addr × Obj)} {σ : L2.St} {H F : Hp} {s : Shared} {dk : Addr}
theorem plain_reads {v : V} {d : D} {p : PyData} {u : Value} (r : Rp X.K dk F v d) (hp : py d = some p) (h : plainD d = true) (rv : RelV v u) : Reads s.heap u p [] := by
  cases r with
  | non => unfold py at hp; cases hp; cases rv; exact Reads.none
  | bl b => unfold py at hp; cases hp; cases rv; exact Reads.bool b
  | int i => unfold py at hp; cases hp; obtain ⟨t, rfl⟩ := rv; exact Reads.int i t
  | str x => unfold py at hp; cases hp; obtain ⟨t, rfl⟩ := rv; exact Reads.str x t
  | _ => cases h
theorem pairs_read : ∀ {kvs : List (Key × V)} {ds : List (Key × D)} {D0 : List (PyData × PyData)} {vs : List (Key × Value)}, kvs.map (·.1) = ds.map (·.1) → RpAll X.K dk F (kvs.map (·.2)) (ds.map (·.2)) → pykv ds = some D0 → (ds.all fun e => plainD e.2) = true → L2.KV kvs vs →
    PyProof.V.PairsRead s.heap encK vs D0 []
  | [], [], D0, vs, _, _, hp, _, kv => by
    unfold pykv at hp
    cases hp
    cases kv
    exact .nil
  | [], _ :: _, _, _, h, _, _, _, _ => by simp at h
  | _ :: _, [], _, _, h, _, _, _, _ => by simp at h
  | (k, v) :: kvs, (k', d) :: ds, D0, vs, hk, hr, hp, ha, kv => by
    simp only [List.map_cons, List.cons.injEq] at hk
    obtain ⟨rfl, hk⟩ := hk
    unfold pykv at hp
    cases h1 : py d with
    | none => rw [h1] at hp; cases hp
    | some p1 =>
      rw [h1] at hp
      cases h2 : pykv ds with
      | none => rw [h2] at hp; cases hp
      | some D1 =>
        rw [h2] at hp
        cases hp
        cases hr with
        | cons r rs =>
          cases kv with
          | @cons _ q _ _ e kv =>
            obtain ⟨q1, q2⟩ := q
            obtain ⟨e1, e2⟩ := e
            cases (show k = q1 from e1)
            simp only [List.all_cons, Bool.and_eq_true] at ha
            have a := plain_reads (s := s) r h1 ha.1 e2
            have b := pairs_read hk rs h2 ha.2 kv
            cases k with
            | inl i => exact PyProof.V.PairsRead.cons (k := Sum.inl i) (enc := encK) a b
            | inr z => exact PyProof.V.PairsRead.cons (k := Sum.inr z) (enc := encK) a b
theorem item_reads (I : Inv X pins σ H s) (sm : Same F H) {v : V} {d : D} {p : PyData} {u : Value} (r : Rp X.K dk F v d) (hp : py d = some p) (ok : itemOk d = true) (rv : RelV v u) : ∃ as, Reads s.heap u p as ∧ (p.hasDict = true → sysModules ∉ as) := by
  by_cases c : p.canLay0 = true
  · obtain ⟨as, ra⟩ := Dp.reads I p v u (dp_of sm r hp c) rv
    exact ⟨as, ra, PyData.noDict_hsm (PyData.hasDict_of_canLay p c)⟩
  · cases r with
    | @dct a kvs ds h1 hk h2 =>
      have hp' : (pykv ds).map PyData.dict = some p := by rw [← hp, py]
      cases e : pykv ds with
      | none => rw [e] at hp'; cases hp'
      | some D0 =>
        rw [e] at hp'
        cases hp'
        cases rv
        obtain ⟨_, hne, vs, kv, dd⟩ := dk_of I.hok (sm _ _ h1)
        have pr := pairs_read (s := s) hk h2 e ok kv
        refine ⟨[a], PyProof.V.reads_dictOf (fun k key hkey => ?_) dd pr, fun _ hm => ?_⟩
        · rcases keyIs_shape (k := k) (v := key) hkey with ⟨i, t, rfl, rfl⟩ | ⟨x, t, rfl, rfl⟩
          · exact Reads.int i t
          · exact Reads.str x t
        · have z : sysModules = a := by simpa using hm
          rw [← z] at hne
          simp at hne
    | _ =>
      exfalso
      first
        | (unfold itemOk at ok; rw [hp] at ok; exact c ok)
        | (unfold itemOk at ok; dsimp only at ok; rw [hp] at ok; exact c ok)
theorem items_repr (I : Inv X pins σ H s) (sm : Same F H) : ∀ {vs : List V} {ds : List D} {ps : List PyData} {us : List Value}, RpAll X.K dk F vs ds → pys ds = some ps → ds.all itemOk = true → PyData.showableAll ps = true → (∀ t ∈ PyData.shownAll ps, t.length ≤ sizeLine) → Vals vs us →
    ∃ bs as, ReadsAll s.heap us ps as ∧ ReadAtMost s.heap (PyData.depthAll ps) bs ∧ ReprAllK X.prog X.w bs s.heap (PyData.depthAll ps) us (PyData.shownAll ps)
  | _, _, ps, us, .nil, hp, _, _, _, rv => by
    unfold pys at hp
    cases hp
    cases rv
    exact ⟨[], [], .nil, (fun _ h => nomatch h), by simp only [PyData.shownAll]; exact .nil⟩
  | _, _, ps, us, .cons (d := d) (ds := ds) r rs, hp, ok, sh, hz, rv => by
    rw [pys] at hp
    cases h1 : py d with
    | none => rw [h1] at hp; cases hp
    | some p1 =>
      rw [h1] at hp
      cases h2 : pys ds with
      | none => rw [h2] at hp; cases hp
      | some ps' =>
        rw [h2] at hp
        cases hp
        cases rv with
        | cons rv1 rv2 =>
          simp only [List.all_cons, Bool.and_eq_true] at ok
          have sh' : p1.showable = true ∧ PyData.showableAll ps' = true := by simpa [PyData.showableAll] using sh
          have hz1 : p1.shown.length ≤ sizeLine := hz _ (by simp only [PyData.shownAll]; exact List.mem_cons_self ..)
          obtain ⟨as1, ra1, nm⟩ := item_reads I sm r h1 ok.1 rv1
          obtain ⟨b1, hb1, k1⟩ := ReprK.of_reads (prog := X.prog) (w := X.w) ra1 sh'.1 nm hz1
          obtain ⟨b2, as2, ra2, hb2, k2⟩ := items_repr I sm rs h2 ok.2 sh'.2 (fun t ht => hz t (by simp only [PyData.shownAll]; exact List.mem_cons_of_mem _ ht)) rv2
          refine ⟨b1 ++ b2, as1 ++ as2, .cons ra1 ra2, ?_, ?_⟩
          · simp only [PyData.depthAll]
            exact (hb1.mono (Nat.le_max_left _ _)).append (hb2.mono (Nat.le_max_right _ _))
          · simp only [PyData.depthAll, PyData.shownAll]
            exact .cons ((k1.more fun b hb => List.mem_append_left _ hb).level_le (Nat.le_max_left _ _)) (k2.more_le (fun b hb => List.mem_append_right _ hb) (Nat.le_max_right _ _))
end
def rReprL (K : PySem.W.Frag) : List V → Hp → VK → Prop := fun xs H Q => ∃ (a dk : Addr) (F : Hp) (vs : List V) (ds : List D) (ps : List PyData), xs = [.ref a] ∧ H a = some (.lst vs) ∧ Same F H ∧ RpAll K dk F vs ds ∧ pys ds = some ps ∧ ds.all itemOk = true ∧ PyData.showableAll ps = true ∧ PyData.depthAll ps ≤ 50 ∧ (listText (PyData.shownAll ps)).length ≤ sizeLine ∧ Q (.str (listText (PyData.shownAll ps))) H
theorem call_reprL {X : Cx} (hg : X.A.guards = some []) (hu : X.A.units + 64 < cLine) : CallR X (.builtin "repr") (rReprL X.K) := by
  intro pins s σ H xs us Q I r h
  obtain ⟨a, dk, F, vs, ds, ps, rfl, ea, sm, ra, hp, ok, sh, hd, hz, q⟩ := h
  cases r with
  | cons r1 r2 =>
    cases r2
    cases r1
    obtain ⟨_, its, n, rv, ho⟩ := (show ObjOk X.prog X.w H s.heap a (.lst vs) from I.hok a _ ea)
    obtain ⟨bs, as, rd, hb, k⟩ := items_repr I sm ra hp ok sh (fun t ht => Nat.le_trans (listText_mem_le ht) hz) rv
    have hT : s.TypeIs (.ref a) "list" := ⟨_, ho, rfl⟩
    refine call_repr_slot (by omega) hT PySem.F.slot_list_repr.toG ?_
    cases its with
    | nil =>
      cases rd
      have q' : Q (.str "[]") H := by
        have e : listText (PyData.shownAll []) = ("[]" : Str) := by simp only [PyData.shownAll]; exact listText_nil
        rw [← e]
        exact q
      exact call_list_repr_empty hT ho rfl ⟨_, _, rfl, .str _, H, I.tok _, ⟨_, rfl⟩, q'⟩
    | cons x l =>
      have hna : a ∉ bs := not_mem_of_deeper (.list ho rfl rfl rd) (by simp only [PyData.depth]; omega) hb
      exact call_list_reprK (h₀ := s.heap) (d := PyData.depthAll ps) ho rfl rfl hna (by simpa using k.length_eq) (fun i y e => k.item i y (by simpa using e)) (g := []) hg (fun b _ => Clear.nil b) (by show X.A.in1.units + (PyData.depthAll ps + 1) < cLine; have : X.A.in1.units = X.A.units + 1 := rfl; omega) (fun _ _ e => e)
        (fun h' u tk kk => ⟨_, _, rfl, .str _, H, I.kept (t' := tk) kk, ⟨_, rfl⟩, q⟩) hz
def reprLM (ds : List D) : M D := fun s => match ds with
  | [.lst xs] => match pys xs with
    | some ps => if xs.all itemOk = true then (if PyData.showableAll ps = true then (if PyData.depthAll ps ≤ 50 then (if (listText (PyData.shownAll ps)).length ≤ 16777216 then .ok (.str (listText (PyData.shownAll ps))) s else .bad) else .bad) else .bad) else .bad
    | none => .bad
  | _ => .bad
theorem m_reprL {X : Cx} : CallM X (rReprL X.K) reprLM := by
  intro dk Wx F H s vs ds Q st r q
  unfold reprLM at q
  split at q
  · rename_i xs
    split at q
    · rename_i ps hp
      split at q
      · rename_i h1
        split at q
        · rename_i h2
          split at q
          · rename_i h3
            split at q
            · rename_i h4
              cases r with
              | cons r1 r2 =>
                cases r2
                cases r1 with
                | lst e1 e2 => exact ⟨_, dk, F, _, xs, ps, rfl, st.sub _ _ e1, st.sub, e2, hp, h1, h2, h3, by rw [sizeLine_eq]; exact h4, EPost.ok q st (.str _)⟩
            · exact q.elim
          · exact q.elim
        · exact q.elim
      · exact q.elim
    · exact q.elim
  · exact q.elim
end FL

namespace FL
open PySem PySem.Spec L2
theorem cn_one {K : PySem.W.Frag} {x : Str} {C D : Addr} (h : CNm K x C) (h' : CNm K x D) : C = D := by
  have z := Eq.trans (Eq.symm h) h'
  injection z with z
  injection z with z
  injection z with z
theorem kbX {K : PySem.W.Frag} {qual : Str} {ist : Stmt} {fI : Addr} {fd : FuncData} {ps ks : List Str} {perm : List Nat} (Fn : Fun K "__init__" qual ist fI fd)
    (h : ∀ (kV doc pm : Value) (an : Option Addr) (cdv ct : Value) (u : Value) (ws : List Value), ws.length = ks.length → bindArgs (PySem.W.fnOf "__init__" qual (defArgs ist) (defBody ist) (defScope ist) .none kV doc pm an cdv ct) ⟨[u], ks.zip ws⟩ = pure (ps.zip (u :: permL .none perm ws))) : KBindX K fd ps ks perm := by
  obtain ⟨oc, od, kV, doc, pm, an, cdv, ct, osl, rfl, lk, hcd⟩ := Fn.ex
  exact fun s u ws _ hl => .of_eq (h kV doc pm an cdv ct u ws hl)
theorem exc_c {K : PySem.W.Frag} {C : Addr} (T : XfC K C) (ha : PySem.W.findIn K (.ref C) "__class__" = some (some (.builtin "object.__class__"))) (hm : PySem.W.mroIn K C (.type "object") = some true)
    (hn : PySem.W.specialIn K (.builtin "object.__class__") "__get__" = some (some (.builtin "getset_descriptor.__get__"))) (ht : PySem.W.takesIn K (.builtin "object.__class__") = some true) : ExcC K C := ⟨T.ga, T.gg, T.exC, T.hdC, ha, hn, ht, hm⟩
theorem kit_mk {K : PySem.W.Frag} {C D : Addr} {b : Bool} (s : PySem.W.subIn K (.ref C) (.ref D) = some b) (i : PySem.W.isClsIn K D = true) (t : PySem.W.typeIn K (.ref D) = some (.type "type")) (h : C = D → b = true) : PySem.W.kitOne K (.ref C) (.ref D) = some b := by
  unfold PySem.W.kitOne
  by_cases e : C = D
  · subst e
    rw [h rfl]
    simp
  · rw [if_neg (by simpa using e)]
    have i' : (PySem.W.clsIn K D).isSome = true := i
    show (if ((PySem.W.clsIn K D).isSome && PySem.W.typeIn K (.ref D) == some (.type "type")) = true then PySem.W.subIn K (.ref C) (.ref D) else none) = some b
    rw [if_pos (by rw [i', t] <;> rfl)]
    exact s
theorem kit_ty' {K : PySem.W.Frag} {C : Addr} {T : String} {b : Bool} (s : PySem.W.subIn K (.ref C) (.type T) = some b) (h : PySem.W.kitMeta T = true) : PySem.W.kitOne K (.ref C) (.type T) = some b := by
  unfold PySem.W.kitOne
  rw [if_neg (by simp)]
  show (if PySem.W.kitMeta T = true then PySem.W.subIn K (.ref C) (.type T) else none) = some b
  rw [if_pos h]
  exact s
/-- all that is said of two classes -/
structure Rel2 (K : PySem.W.Frag) (C D : Addr) (b : Bool) : Prop where
  s : PySem.W.subIn K (.ref C) (.ref D) = some b
  i : PySem.W.isClsIn K D = true
  t : PySem.W.typeIn K (.ref D) = some (.type "type")
  e : PySem.W.subIn K (.ref D) (.type "BaseException") = some true
  q : C = D → b = true
theorem rel2_mk {K : PySem.W.Frag} {tbl : Str → Str → Option Bool} {x y : Str} {C D C' D' : Addr} {b b0 : Bool} (cx : CNm K x C) (cy : CNm K y D) (S : PySem.W.subIn K (.ref C) (.ref D) = some b0) (SD : PySem.W.subIn K (.ref D) (.ref D) = some true)
    (i : PySem.W.isClsIn K D = true) (t : PySem.W.typeIn K (.ref D) = some (.type "type")) (e : PySem.W.subIn K (.ref D) (.type "BaseException") = some true) (h0 : tbl x y = some b0)
    (h : tbl x y = some b) (hx : CNm K x C') (hy : CNm K y D') : Rel2 K C' D' b := by
  obtain rfl := cn_one cx hx
  obtain rfl := cn_one cy hy
  rw [h0] at h
  cases h
  exact ⟨S, i, t, e, fun z => by subst z; rw [S] at SD; cases SD; rfl⟩
end FL

namespace K00
open PySem L2 FL
def top (i : Nat) : Stmt := PySem.Challenge.pw_planless_k00_errors_and_their_fields.main.body.getD i (.Pass ⟨0, 0, 0, 0⟩)
def lowN : List Str := ["BadNumber", "BadPiece", "BadFrame", "BadBook", "BadProgram", "BadPlayer", "BadPaper", "Misfit", "NoWay", "NoPart", "TooMany", "Impossible", "BadText"]
def tbl (x y : Str) : Option Bool := if lowN.contains x then (if y = "PlayError" then some true else if lowN.contains y then some (decide (x = y)) else none) else none
def tyL : List String := ["ArithmeticError", "LookupError", "RuntimeError", "TypeError", "ValueError"]
def tbxN : List Str := ["ArithmeticError", "LookupError", "RuntimeError", "TypeError", "ValueError"]
def tbx (x y : Str) : Option Bool := if lowN.contains x then (if tbxN.contains y then some (decide (y = "ValueError")) else none) else none
def fldN : List (Str × List Str) := [("BadNumber", ["part"]), ("BadPiece", ["part"]), ("BadFrame", ["part"]), ("BadBook", ["part"]), ("BadProgram", ["part"]), ("BadPlayer", ["part"]), ("BadPaper", ["part"]), ("Misfit", ["part"]), ("NoWay", ["value"]), ("NoPart", ["value"]), ("TooMany", ["what", "most"]), ("Impossible", ["paper"]), ("BadText", ["line", "item"])]
def fT (c n : Str) : Bool := fldN.any fun e => decide (e.1 = c) && e.2.contains n
abbrev kp_BadNumber : List (List Str × List Nat) := [(["part"], [0])]
abbrev kp_BadPiece : List (List Str × List Nat) := [(["part"], [0])]
abbrev kp_BadFrame : List (List Str × List Nat) := [(["part"], [0])]
abbrev kp_BadBook : List (List Str × List Nat) := [(["part"], [0])]
abbrev kp_BadProgram : List (List Str × List Nat) := [(["part"], [0])]
abbrev kp_BadPlayer : List (List Str × List Nat) := [(["part"], [0])]
abbrev kp_BadPaper : List (List Str × List Nat) := [(["part"], [0])]
abbrev kp_Misfit : List (List Str × List Nat) := [(["part"], [0])]
abbrev kp_NoWay : List (List Str × List Nat) := [(["value"], [0])]
abbrev kp_NoPart : List (List Str × List Nat) := [(["value"], [0])]
abbrev kp_TooMany : List (List Str × List Nat) := [(["most", "what"], [1, 0])]
abbrev kp_Impossible : List (List Str × List Nat) := [(["paper"], [0])]
abbrev kp_BadText : List (List Str × List Nat) := [(["item", "line"], [1, 0])]
abbrev s_law_deck : Stmt := top 16
abbrev s_law_deal : Stmt := top 17
abbrev N_law_deal : List Str := ["deck", "many", "left", "turn", "cell", "mixed"]
theorem sc_law_deal : FnScope N_law_deal ["deck", "many"] (defScope s_law_deal) := ⟨rfl, rfl, rfl, by decide +kernel, rfl, by decide +kernel, by decide +kernel⟩
abbrev s_law_pick : Stmt := top 18
abbrev N_law_pick : List Str := ["deck", "some"]
theorem sc_law_pick : FnScope N_law_pick ["deck", "some"] (defScope s_law_pick) := ⟨rfl, rfl, rfl, by decide +kernel, rfl, by decide +kernel, by decide +kernel⟩
abbrev s_law_value : Stmt := top 19
abbrev N_law_value : List Str := ["deck"]
theorem sc_law_value : FnScope N_law_value ["deck"] (defScope s_law_value) := ⟨rfl, rfl, rfl, by decide +kernel, rfl, by decide +kernel, by decide +kernel⟩
abbrev s_law_first : Stmt := top 20
abbrev N_law_first : List Str := ["at", "one"]
theorem sc_law_first : FnScope N_law_first ["at", "one"] (defScope s_law_first) := ⟨rfl, rfl, rfl, by decide +kernel, rfl, by decide +kernel, by decide +kernel⟩
abbrev s_law_named : Stmt := top 21
abbrev N_law_named : List Str := ["at", "one"]
theorem sc_law_named : FnScope N_law_named ["at", "one"] (defScope s_law_named) := ⟨rfl, rfl, rfl, by decide +kernel, rfl, by decide +kernel, by decide +kernel⟩
abbrev s_law_last : Stmt := top 22
abbrev N_law_last : List Str := ["at", "one", "other", "by_name"]
theorem sc_law_last : FnScope N_law_last ["at", "one", "other", "by_name"] (defScope s_law_last) := ⟨rfl, rfl, rfl, by decide +kernel, rfl, by decide +kernel, by decide +kernel⟩
abbrev s_law_kinds : Stmt := top 23
abbrev N_law_kinds : List Str := ["error", "some", ".0", "at", "is_kind"]
theorem sc_law_kinds : FnScope N_law_kinds ["error"] (defScope s_law_kinds) := ⟨rfl, rfl, rfl, by decide +kernel, rfl, by decide +kernel, by decide +kernel⟩
abbrev s_law_fields : Stmt := top 24
abbrev N_law_fields : List Str := ["at", "error"]
theorem sc_law_fields : FnScope N_law_fields ["at", "error"] (defScope s_law_fields) := ⟨rfl, rfl, rfl, by decide +kernel, rfl, by decide +kernel, by decide +kernel⟩
abbrev s_law_raises : Stmt := top 25
abbrev N_law_raises : List Str := ["at", "one", "other", "by_name"]
theorem sc_law_raises : FnScope N_law_raises ["at", "one", "other", "by_name"] (defScope s_law_raises) := ⟨rfl, rfl, rfl, by decide +kernel, rfl, by decide +kernel, by decide +kernel⟩
abbrev s_law_right : Stmt := top 26
abbrev N_law_right : List Str := ["at", "one", "other", "by_name", "caught", "error", "due"]
theorem sc_law_right : FnScope N_law_right ["at", "one", "other", "by_name"] (defScope s_law_right) := ⟨rfl, rfl, rfl, by decide +kernel, rfl, by decide +kernel, by decide +kernel⟩
abbrev s_law : Stmt := top 27
abbrev N_law : List Str := ["script", "deck", "at", "one", "other"]
theorem sc_law : FnScope N_law ["script"] (defScope s_law) := ⟨rfl, rfl, rfl, by decide +kernel, rfl, by decide +kernel, by decide +kernel⟩
theorem sc_law_deck : FnScope ["script", "cell"] ["script"] (defScope s_law_deck) := ⟨rfl, rfl, rfl, by decide +kernel, rfl, by decide +kernel, by decide +kernel⟩
def g_law_deal : FS :=
    (seqS (iteS (fBoo (lift2 gtM (lift2 getM (getE 0) (cst (.int 2))) (cst (.int 0)))) (seqS (setS 2 (withA (avC (lift2 getM (getE 0) (cst (.int 2))) av0) intM1))
    (seqS (putS (lift2 fdivM (getE 2) (getE 1)) (getE 0) 2)
    (retS (lift2 modM (withA (avC (getE 2) av0) intM1) (getE 1))))) (fun δ s => .nx δ s))
    (seqS (setS 3 (lift2 getM (getE 0) (cst (.int 1))))
    (seqS (putS (lift2 addM (getE 3) (cst (.int 1))) (getE 0) 1)
    (seqS (setS 4 (lift2 addM (lift2 mulM (cst (.int 108161)) (getE 3)) (cst (.int 8147))))
    (seqS (iteS (fBoo (lift2 neM (lift2 getM (getE 0) (cst (.int 0))) (withA av0 mkLst))) (setS 4 (lift2 getM (lift2 getM (getE 0) (cst (.int 0))) (lift2 modM (withA (avC (getE 3) av0) intM1) (withA (avC (lift2 getM (getE 0) (cst (.int 0))) av0) lenM)))) (fun δ s => .nx δ s))
    (seqS (iteS (fAnd (fBoo (lift2 ltM (getE 3) (withA (avC (lift2 getM (getE 0) (cst (.int 0))) av0) lenM))) (fBoo (lift2 geM (withA (avC (getE 4) av0) absM) (lift2 powM (cst (.int 10)) (cst (.int 18)))))) (seqS (setS 2 (lift2 addM (lift2 mulM (cst (.int 2)) (lift2 subM (withA (avC (withA (avC (getE 4) av0) intM1) av0) absM) (lift2 powM (cst (.int 10)) (cst (.int 18))))) (withA (avC (lift2 ltM (getE 4) (cst (.int 0))) av0) intM1)))
    (seqS (putS (lift2 fdivM (getE 2) (getE 1)) (getE 0) 2)
    (retS (lift2 modM (withA (avC (getE 2) av0) intM1) (getE 1))))) (fun δ s => .nx δ s))
    (seqS (setS 5 (lift2 modM (withA (avC (lift2 powM (lift2 addM (lift2 addM (lift2 modM (withA (avC (getE 4) av0) intM1) (cst (.int 2147483563))) (lift2 mulM (cst (.int 85133)) (getE 3))) (cst (.int 8147))) (cst (.int 5))) av0) intM1) (cst (.int 2147483579))))
    (seqS (setS 5 (lift2 modM (withA (avC (lift2 powM (lift2 addM (lift2 addM (lift2 mulM (getE 5) (lift2 addM (lift2 mulM (cst (.int 2)) (getE 3)) (cst (.int 8147)))) (lift2 mulM (lift2 mulM (cst (.int 108161)) (getE 3)) (getE 3))) (cst (.int 85133))) (cst (.int 3))) av0) intM1) (cst (.int 2147483549))))
    (retS (lift2 modM (withA (avC (lift2 fdivM (getE 5) (cst (.int 64))) av0) intM1) (getE 1)))))))))))
def m_law_deal : List D → M D := defM 6 g_law_deal
def g_law_pick : FS :=
    (retS (lift2 getM (getE 1) (withA (avC (getE 0) (avC (withA (avC (getE 1) av0) lenM) av0)) (callN 2 m_law_deal))))
def m_law_pick : List D → M D := defM 2 g_law_pick
def g_law_value : FS :=
    (retS (withA (avC (getE 0) (avC (withA (avC (cst .non) (avC (cst (.bl true)) (avC (cst (.int 5)) (avC (un1 negM (cst (.int 7))) (avC (withA (avC (cst (.int 7)) (avC (cst (.int 2)) av0)) mkTup) (avC (cst (.str "piece")) (avC (withA (avC (cst (.int 1)) (avC (withA (avC (cst (.int 2)) av0) mkLst) av0)) mkLst) (avC (fun δ s => ((dvC (cst (.str "a")) (cst (.int 1)) dv0) δ s).bind mkDct) (avC (withA av0 mkTup) (avC (cst (.str "")) (avC (lift2 powM (cst (.int 10)) (cst (.int 30))) av0))))))))))) mkLst) av0)) (callN 2 m_law_pick)))
def m_law_value : List D → M D := defM 1 g_law_value
def g_law_first : FS :=
    (seqS (iteS (fBoo (lift2 eqM (getE 0) (cst (.int 0)))) (raiseS "BadNumber" ["part"] (avC (getE 1) av0)) (fun δ s => .nx δ s))
    (seqS (iteS (fBoo (lift2 eqM (getE 0) (cst (.int 1)))) (raiseS "BadPiece" ["part"] (avC (getE 1) av0)) (fun δ s => .nx δ s))
    (seqS (iteS (fBoo (lift2 eqM (getE 0) (cst (.int 2)))) (raiseS "BadFrame" ["part"] (avC (getE 1) av0)) (fun δ s => .nx δ s))
    (seqS (iteS (fBoo (lift2 eqM (getE 0) (cst (.int 3)))) (raiseS "BadBook" ["part"] (avC (getE 1) av0)) (fun δ s => .nx δ s))
    (seqS (iteS (fBoo (lift2 eqM (getE 0) (cst (.int 4)))) (raiseS "BadProgram" ["part"] (avC (getE 1) av0)) (fun δ s => .nx δ s))
    (seqS (iteS (fBoo (lift2 eqM (getE 0) (cst (.int 5)))) (raiseS "BadPlayer" ["part"] (avC (getE 1) av0)) (fun δ s => .nx δ s))
    (seqS (iteS (fBoo (lift2 eqM (getE 0) (cst (.int 6)))) (raiseS "BadPaper" ["part"] (avC (getE 1) av0)) (fun δ s => .nx δ s))
    (seqS (iteS (fBoo (lift2 eqM (getE 0) (cst (.int 7)))) (raiseS "Misfit" ["part"] (avC (getE 1) av0)) (fun δ s => .nx δ s))
    (seqS (iteS (fBoo (lift2 eqM (getE 0) (cst (.int 8)))) (raiseS "NoWay" ["value"] (avC (getE 1) av0)) (fun δ s => .nx δ s))
    (seqS (iteS (fBoo (lift2 eqM (getE 0) (cst (.int 9)))) (raiseS "NoPart" ["value"] (avC (getE 1) av0)) (fun δ s => .nx δ s))
    (raiseS "Impossible" ["paper"] (avC (getE 1) av0))))))))))))
def m_law_first : List D → M D := defM 2 g_law_first
def g_law_named : FS :=
    (seqS (iteS (fBoo (lift2 eqM (getE 0) (cst (.int 0)))) (raiseKS "BadNumber" ["part"] 1 [0] (avC (getE 1) av0)) (fun δ s => .nx δ s))
    (seqS (iteS (fBoo (lift2 eqM (getE 0) (cst (.int 1)))) (raiseKS "BadPiece" ["part"] 1 [0] (avC (getE 1) av0)) (fun δ s => .nx δ s))
    (seqS (iteS (fBoo (lift2 eqM (getE 0) (cst (.int 2)))) (raiseKS "BadFrame" ["part"] 1 [0] (avC (getE 1) av0)) (fun δ s => .nx δ s))
    (seqS (iteS (fBoo (lift2 eqM (getE 0) (cst (.int 3)))) (raiseKS "BadBook" ["part"] 1 [0] (avC (getE 1) av0)) (fun δ s => .nx δ s))
    (seqS (iteS (fBoo (lift2 eqM (getE 0) (cst (.int 4)))) (raiseKS "BadProgram" ["part"] 1 [0] (avC (getE 1) av0)) (fun δ s => .nx δ s))
    (seqS (iteS (fBoo (lift2 eqM (getE 0) (cst (.int 5)))) (raiseKS "BadPlayer" ["part"] 1 [0] (avC (getE 1) av0)) (fun δ s => .nx δ s))
    (seqS (iteS (fBoo (lift2 eqM (getE 0) (cst (.int 6)))) (raiseKS "BadPaper" ["part"] 1 [0] (avC (getE 1) av0)) (fun δ s => .nx δ s))
    (seqS (iteS (fBoo (lift2 eqM (getE 0) (cst (.int 7)))) (raiseKS "Misfit" ["part"] 1 [0] (avC (getE 1) av0)) (fun δ s => .nx δ s))
    (seqS (iteS (fBoo (lift2 eqM (getE 0) (cst (.int 8)))) (raiseKS "NoWay" ["value"] 1 [0] (avC (getE 1) av0)) (fun δ s => .nx δ s))
    (seqS (iteS (fBoo (lift2 eqM (getE 0) (cst (.int 9)))) (raiseKS "NoPart" ["value"] 1 [0] (avC (getE 1) av0)) (fun δ s => .nx δ s))
    (raiseKS "Impossible" ["paper"] 1 [0] (avC (getE 1) av0))))))))))))
def m_law_named : List D → M D := defM 2 g_law_named
def g_law_last : FS :=
    (seqS (iteS (fAnd (fBoo (lift2 eqM (getE 0) (cst (.int 11)))) (fTru (getE 3))) (raiseKS "TooMany" ["what", "most"] 2 [1, 0] (avC (getE 2) (avC (getE 1) av0))) (fun δ s => .nx δ s))
    (seqS (iteS (fBoo (lift2 eqM (getE 0) (cst (.int 11)))) (raiseS "TooMany" ["what", "most"] (avC (getE 1) (avC (getE 2) av0))) (fun δ s => .nx δ s))
    (seqS (iteS (fTru (getE 3)) (raiseKS "BadText" ["line", "item"] 2 [1, 0] (avC (getE 2) (avC (getE 1) av0))) (fun δ s => .nx δ s))
    (raiseS "BadText" ["line", "item"] (avC (getE 1) (avC (getE 2) av0))))))
def m_law_last : List D → M D := defM 4 g_law_last
def g_law_kinds : FS :=
    (seqS (setS 1 (withA (avC (isxF tbl (getE 0) "BadNumber") (avC (isxF tbl (getE 0) "BadPiece") (avC (isxF tbl (getE 0) "BadFrame") (avC (isxF tbl (getE 0) "BadBook") av0)))) mkLst))
    (seqS (setS 1 (lift2 addM (getE 1) (withA (avC (isxF tbl (getE 0) "BadProgram") (avC (isxF tbl (getE 0) "BadPlayer") (avC (isxF tbl (getE 0) "BadPaper") av0))) mkLst)))
    (seqS (setS 1 (lift2 addM (getE 1) (withA (avC (isxF tbl (getE 0) "Misfit") (avC (isxF tbl (getE 0) "NoWay") (avC (isxF tbl (getE 0) "NoPart") (avC (isxF tbl (getE 0) "Impossible") av0)))) mkLst)))
    (seqS (setS 1 (lift2 addM (getE 1) (withA (avC (isxF tbl (getE 0) "TooMany") (avC (isxF tbl (getE 0) "BadText") av0)) mkLst)))
    (retS (lcD (fun δ s => ((avC (getE 1) av0) δ s).bind enumM) (.tp [(.nm 3), (.nm 4)]) [2, 3, 4] (fTru (getE 4)) (getE 3)))))))
def m_law_kinds : List D → M D := defM 5 g_law_kinds
def g_law_fields : FS :=
    (seqS (iteS (fBoo (lift2 ltM (getE 0) (cst (.int 8)))) (retS (withA (avC (fldF fT (getE 1) "part") av0) mkLst)) (fun δ s => .nx δ s))
    (seqS (iteS (fBoo (lift2 ltM (getE 0) (cst (.int 10)))) (retS (withA (avC (fldF fT (getE 1) "value") av0) mkLst)) (fun δ s => .nx δ s))
    (seqS (iteS (fBoo (lift2 eqM (getE 0) (cst (.int 10)))) (retS (withA (avC (fldF fT (getE 1) "paper") av0) mkLst)) (fun δ s => .nx δ s))
    (retS (ifD (fBoo (lift2 eqM (getE 0) (cst (.int 11)))) (withA (avC (fldF fT (getE 1) "what") (avC (fldF fT (getE 1) "most") av0)) mkLst) (withA (avC (fldF fT (getE 1) "line") (avC (fldF fT (getE 1) "item") av0)) mkLst))))))
def m_law_fields : List D → M D := defM 2 g_law_fields
def g_law_raises : FS :=
    (seqS (iteS (fBoo (lift2 gtM (getE 0) (cst (.int 10)))) (dropS (withA (avC (getE 0) (avC (getE 1) (avC (getE 2) (avC (getE 3) av0)))) (callN 4 m_law_last))) (fun δ s => .nx δ s))
    (seqS (iteS (fTru (getE 3)) (dropS (withA (avC (getE 0) (avC (getE 1) av0)) (callN 2 m_law_named))) (fun δ s => .nx δ s))
    (dropS (withA (avC (getE 0) (avC (getE 1) av0)) (callN 2 m_law_first)))))
def m_law_raises : List D → M D := defM 4 g_law_raises
def g_law_right : FS :=
    (seqS (setS 4 (cst .non))
    (seqS (keepS tbl (dropS (withA (avC (getE 0) (avC (getE 1) (avC (getE 2) (avC (getE 3) av0)))) (callN 4 m_law_raises))) "PlayError" 5 4)
    (seqS (iteS (fOr (fIsN (getE 4)) (fOr (fNot (fTru (isxF tbx (getE 4) "ValueError"))) (fBoo (lift2 neM (withA (avC (getE 4) av0) (callN 1 m_law_kinds)) (withA (avC (getE 0) av0) mkLst))))) (retS (cst (.bl false))) (fun δ s => .nx δ s))
    (seqS (iteS (fOr (fTru (isxF tbx (getE 4) "LookupError")) (fOr (fTru (isxF tbx (getE 4) "TypeError")) (fTru (isxF tbx (getE 4) "ArithmeticError")))) (retS (cst (.bl false))) (fun δ s => .nx δ s))
    (seqS (setS 6 (ifD (fBoo (lift2 gtM (getE 0) (cst (.int 10)))) (withA (avC (getE 1) (avC (getE 2) av0)) mkLst) (withA (avC (getE 1) av0) mkLst)))
    (retS (andD (lift2 eqM (withA (avC (withA (avC (getE 0) (avC (getE 4) av0)) (callN 2 m_law_fields)) av0) reprLM) (withA (avC (getE 6) av0) reprLM)) (notD (isxF tbx (getE 4) "RuntimeError")))))))))
def m_law_right : List D → M D := defM 7 g_law_right
def g_law : FS :=
    (seqS (forS (fun δ s => ((avC (cst (.int 13)) av0) δ s).bind rng1M) (.nm 2) (seqS (parS 3 4 (avC (withA (avC (getE 1) av0) (callN 1 m_law_value)) (avC (withA (avC (getE 1) av0) (callN 1 m_law_value)) av0)))
    (iteS (fOr (fNot (fTru (withA (avC (getE 2) (avC (getE 3) (avC (getE 4) (avC (cst (.bl false)) av0)))) (callN 4 m_law_right)))) (fNot (fTru (withA (avC (getE 2) (avC (getE 3) (avC (getE 4) (avC (cst (.bl true)) av0)))) (callN 4 m_law_right))))) (retS (cst (.bl false))) (fun δ s => .nx δ s))))
    (retS (cst (.bl true))))
structure Blt (mg : Str → Option Value) : Prop where
  ArithmeticError : mg "ArithmeticError" = none
  LookupError : mg "LookupError" = none
  RuntimeError : mg "RuntimeError" = none
  TypeError : mg "TypeError" = none
  ValueError : mg "ValueError" = none
  abs : mg "abs" = none
  enumerate : mg "enumerate" = none
  int : mg "int" = none
  isinstance : mg "isinstance" = none
  len : mg "len" = none
  range : mg "range" = none
  repr : mg "repr" = none
section
variable {P : Program} {w : World} {K : PySem.W.Frag} {mg : Str → Option Value} {base : Heap}
theorem w_law_deal (B : Blt mg) (h : Here K mg "_law_deal" s_law_deal)  : Worth P w K mg base 1 "_law_deal" s_law_deal ["deck", "many"] 2 m_law_deal :=
  worth_mk (k := 0) h sc_law_deal (by decide) (fun cdv A outer s H E hr hgd =>
      (bv_cons (sv_if (tv_cmp op_gt m_gt (ev_get (ev_var (pv 0)) ev_int) ev_int) (bv_cons (sv_name (i := 2) sc_law_deal.nd rfl (Or.inl rfl) (ev_callTy call_intA m_intc rfl B.int (by decide +kernel) (av_cons (ev_get (ev_var (pv 0)) ev_int) av_nil)))
      (bv_cons (sv_put (ev_op op_fdivW m_fdiv (ev_var (pv 2)) (ev_var (pv 1))) (ev_var (pv 0)))
      (bv_one (sv_ret (ev_op op_mod m_mod (ev_callTy call_intA m_intc rfl B.int (by decide +kernel) (av_cons (ev_var (pv 2)) av_nil)) (ev_var (pv 1))))))) bv_nil)
      (bv_cons (sv_name (i := 3) sc_law_deal.nd rfl (Or.inl rfl) (ev_get (ev_var (pv 0)) ev_int))
      (bv_cons (sv_put (ev_op op_addM m_add (ev_var (pv 3)) ev_int) (ev_var (pv 0)))
      (bv_cons (sv_name (i := 4) sc_law_deal.nd rfl (Or.inl rfl) (ev_op op_addM m_add (ev_op op_mulA m_mul ev_int (ev_var (pv 3))) ev_int))
      (bv_cons (sv_if (tv_cmp (op_neD (hu64 hr)) m_ne (ev_get (ev_var (pv 0)) ev_int) (ev_lst av_nil)) (bv_one (sv_name (i := 4) sc_law_deal.nd rfl (Or.inl rfl) (ev_get (ev_get (ev_var (pv 0)) ev_int) (ev_op op_mod m_mod (ev_callTy call_intA m_intc rfl B.int (by decide +kernel) (av_cons (ev_var (pv 3)) av_nil)) (ev_callB call_lenA m_len rfl B.len (by decide +kernel) (av_cons (ev_get (ev_var (pv 0)) ev_int) av_nil)))))) bv_nil)
      (bv_cons (sv_if (tv_w (wv_and (tv_cmp op_lt m_lt (ev_var (pv 3)) (ev_callB call_lenA m_len rfl B.len (by decide +kernel) (av_cons (ev_get (ev_var (pv 0)) ev_int) av_nil))) (wv_and1 (tv_cmp op_ge m_ge (ev_callB call_abs m_abs rfl B.abs (by decide +kernel) (av_cons (ev_var (pv 4)) av_nil)) (ev_op op_pow m_pow ev_int ev_int))))) (bv_cons (sv_name (i := 2) sc_law_deal.nd rfl (Or.inl rfl) (ev_op op_addM m_add (ev_op op_mulA m_mul ev_int (ev_op op_sub m_sub (ev_callB call_abs m_abs rfl B.abs (by decide +kernel) (av_cons (ev_callTy call_intA m_intc rfl B.int (by decide +kernel) (av_cons (ev_var (pv 4)) av_nil)) av_nil)) (ev_op op_pow m_pow ev_int ev_int))) (ev_callTy call_intA m_intc rfl B.int (by decide +kernel) (av_cons (ev_cmp op_lt m_lt (ev_var (pv 4)) ev_int) av_nil))))
      (bv_cons (sv_put (ev_op op_fdivW m_fdiv (ev_var (pv 2)) (ev_var (pv 1))) (ev_var (pv 0)))
      (bv_one (sv_ret (ev_op op_mod m_mod (ev_callTy call_intA m_intc rfl B.int (by decide +kernel) (av_cons (ev_var (pv 2)) av_nil)) (ev_var (pv 1))))))) bv_nil)
      (bv_cons (sv_name (i := 5) sc_law_deal.nd rfl (Or.inl rfl) (ev_op op_mod m_mod (ev_callTy call_intA m_intc rfl B.int (by decide +kernel) (av_cons (ev_op op_pow m_pow (ev_op op_addM m_add (ev_op op_addM m_add (ev_op op_mod m_mod (ev_callTy call_intA m_intc rfl B.int (by decide +kernel) (av_cons (ev_var (pv 4)) av_nil)) ev_int) (ev_op op_mulA m_mul ev_int (ev_var (pv 3)))) ev_int) ev_int) av_nil)) ev_int))
      (bv_cons (sv_name (i := 5) sc_law_deal.nd rfl (Or.inl rfl) (ev_op op_mod m_mod (ev_callTy call_intA m_intc rfl B.int (by decide +kernel) (av_cons (ev_op op_pow m_pow (ev_op op_addM m_add (ev_op op_addM m_add (ev_op op_mulA m_mul (ev_var (pv 5)) (ev_op op_addM m_add (ev_op op_mulA m_mul ev_int (ev_var (pv 3))) ev_int)) (ev_op op_mulA m_mul (ev_op op_mulA m_mul ev_int (ev_var (pv 3))) (ev_var (pv 3)))) ev_int) ev_int) av_nil)) ev_int))
      (bv_one (sv_ret (ev_op op_mod m_mod (ev_callTy call_intA m_intc rfl B.int (by decide +kernel) (av_cons (ev_op op_fdivW m_fdiv (ev_var (pv 5)) ev_int) av_nil)) (ev_var (pv 1))))))))))))))
theorem w_law_pick (B : Blt mg) (h : Here K mg "_law_pick" s_law_pick) (W_law_deal : Worth P w K mg base 1 "_law_deal" s_law_deal ["deck", "many"] 2 m_law_deal) : Worth P w K mg base 2 "_law_pick" s_law_pick ["deck", "some"] 2 m_law_pick :=
  worth_mk (k := 1) h sc_law_pick (by decide) (fun cdv A outer s H E hr hgd =>
      (bv_one (sv_ret (ev_get (ev_var (pv 1)) (ev_callW W_law_deal (hr.mono (by decide)) hgd rfl (fun _ _ _ _ _ _ us hl => match us, hl with | [_, _], _ => rfl) (takes_of rfl rfl rfl rfl) (av_cons (ev_var (pv 0)) (av_cons (ev_callB call_lenA m_len rfl B.len (by decide +kernel) (av_cons (ev_var (pv 1)) av_nil)) av_nil)))))))
theorem w_law_value (B : Blt mg) (h : Here K mg "_law_value" s_law_value) (W_law_pick : Worth P w K mg base 2 "_law_pick" s_law_pick ["deck", "some"] 2 m_law_pick) : Worth P w K mg base 3 "_law_value" s_law_value ["deck"] 1 m_law_value :=
  worth_mk (k := 2) h sc_law_value (by decide) (fun cdv A outer s H E hr hgd =>
      (bv_one (sv_ret (ev_callW W_law_pick (hr.mono (by decide)) hgd rfl (fun _ _ _ _ _ _ us hl => match us, hl with | [_, _], _ => rfl) (takes_of rfl rfl rfl rfl) (av_cons (ev_var (pv 0)) (av_cons (ev_lst (av_cons ev_non (av_cons ev_bl (av_cons ev_int (av_cons (ev_neg ev_int) (av_cons (ev_tup (av_cons ev_int (av_cons ev_int av_nil))) (av_cons ev_str (av_cons (ev_lst (av_cons ev_int (av_cons (ev_lst (av_cons ev_int av_nil)) av_nil))) (av_cons (ev_dict (pps_cons ev_str ev_int pps_nil) (dvs_cons dvs_nil)) (av_cons (ev_tup av_nil) (av_cons ev_str (av_cons (ev_op op_pow m_pow ev_int ev_int) av_nil)))))))))))) av_nil))))))
theorem w_law_first (B : Blt mg) (h : Here K mg "_law_first" s_law_first) (E_BadBook : ExcW P w K mg base "BadBook" ["part"] kp_BadBook) (E_BadFrame : ExcW P w K mg base "BadFrame" ["part"] kp_BadFrame) (E_BadNumber : ExcW P w K mg base "BadNumber" ["part"] kp_BadNumber) (E_BadPaper : ExcW P w K mg base "BadPaper" ["part"] kp_BadPaper) (E_BadPiece : ExcW P w K mg base "BadPiece" ["part"] kp_BadPiece) (E_BadPlayer : ExcW P w K mg base "BadPlayer" ["part"] kp_BadPlayer) (E_BadProgram : ExcW P w K mg base "BadProgram" ["part"] kp_BadProgram) (E_Impossible : ExcW P w K mg base "Impossible" ["paper"] kp_Impossible) (E_Misfit : ExcW P w K mg base "Misfit" ["part"] kp_Misfit) (E_NoPart : ExcW P w K mg base "NoPart" ["value"] kp_NoPart) (E_NoWay : ExcW P w K mg base "NoWay" ["value"] kp_NoWay) : Worth P w K mg base 3 "_law_first" s_law_first ["at", "one"] 2 m_law_first :=
  worth_mk (k := 2) h sc_law_first (by decide) (fun cdv A outer s H E hr hgd =>
      (bv_cons (sv_if (tv_cmp (op_eqD (hu64 hr)) m_eq (ev_var (pv 0)) ev_int) (bv_one (sv_raise E_BadNumber rfl (hr.mono (by decide)) (takes_of rfl rfl rfl rfl) rfl (by decide) (av_cons (ev_var (pv 1)) av_nil))) bv_nil)
      (bv_cons (sv_if (tv_cmp (op_eqD (hu64 hr)) m_eq (ev_var (pv 0)) ev_int) (bv_one (sv_raise E_BadPiece rfl (hr.mono (by decide)) (takes_of rfl rfl rfl rfl) rfl (by decide) (av_cons (ev_var (pv 1)) av_nil))) bv_nil)
      (bv_cons (sv_if (tv_cmp (op_eqD (hu64 hr)) m_eq (ev_var (pv 0)) ev_int) (bv_one (sv_raise E_BadFrame rfl (hr.mono (by decide)) (takes_of rfl rfl rfl rfl) rfl (by decide) (av_cons (ev_var (pv 1)) av_nil))) bv_nil)
      (bv_cons (sv_if (tv_cmp (op_eqD (hu64 hr)) m_eq (ev_var (pv 0)) ev_int) (bv_one (sv_raise E_BadBook rfl (hr.mono (by decide)) (takes_of rfl rfl rfl rfl) rfl (by decide) (av_cons (ev_var (pv 1)) av_nil))) bv_nil)
      (bv_cons (sv_if (tv_cmp (op_eqD (hu64 hr)) m_eq (ev_var (pv 0)) ev_int) (bv_one (sv_raise E_BadProgram rfl (hr.mono (by decide)) (takes_of rfl rfl rfl rfl) rfl (by decide) (av_cons (ev_var (pv 1)) av_nil))) bv_nil)
      (bv_cons (sv_if (tv_cmp (op_eqD (hu64 hr)) m_eq (ev_var (pv 0)) ev_int) (bv_one (sv_raise E_BadPlayer rfl (hr.mono (by decide)) (takes_of rfl rfl rfl rfl) rfl (by decide) (av_cons (ev_var (pv 1)) av_nil))) bv_nil)
      (bv_cons (sv_if (tv_cmp (op_eqD (hu64 hr)) m_eq (ev_var (pv 0)) ev_int) (bv_one (sv_raise E_BadPaper rfl (hr.mono (by decide)) (takes_of rfl rfl rfl rfl) rfl (by decide) (av_cons (ev_var (pv 1)) av_nil))) bv_nil)
      (bv_cons (sv_if (tv_cmp (op_eqD (hu64 hr)) m_eq (ev_var (pv 0)) ev_int) (bv_one (sv_raise E_Misfit rfl (hr.mono (by decide)) (takes_of rfl rfl rfl rfl) rfl (by decide) (av_cons (ev_var (pv 1)) av_nil))) bv_nil)
      (bv_cons (sv_if (tv_cmp (op_eqD (hu64 hr)) m_eq (ev_var (pv 0)) ev_int) (bv_one (sv_raise E_NoWay rfl (hr.mono (by decide)) (takes_of rfl rfl rfl rfl) rfl (by decide) (av_cons (ev_var (pv 1)) av_nil))) bv_nil)
      (bv_cons (sv_if (tv_cmp (op_eqD (hu64 hr)) m_eq (ev_var (pv 0)) ev_int) (bv_one (sv_raise E_NoPart rfl (hr.mono (by decide)) (takes_of rfl rfl rfl rfl) rfl (by decide) (av_cons (ev_var (pv 1)) av_nil))) bv_nil)
      (bv_one (sv_raise E_Impossible rfl (hr.mono (by decide)) (takes_of rfl rfl rfl rfl) rfl (by decide) (av_cons (ev_var (pv 1)) av_nil))))))))))))))
theorem w_law_named (B : Blt mg) (h : Here K mg "_law_named" s_law_named) (E_BadBook : ExcW P w K mg base "BadBook" ["part"] kp_BadBook) (E_BadFrame : ExcW P w K mg base "BadFrame" ["part"] kp_BadFrame) (E_BadNumber : ExcW P w K mg base "BadNumber" ["part"] kp_BadNumber) (E_BadPaper : ExcW P w K mg base "BadPaper" ["part"] kp_BadPaper) (E_BadPiece : ExcW P w K mg base "BadPiece" ["part"] kp_BadPiece) (E_BadPlayer : ExcW P w K mg base "BadPlayer" ["part"] kp_BadPlayer) (E_BadProgram : ExcW P w K mg base "BadProgram" ["part"] kp_BadProgram) (E_Impossible : ExcW P w K mg base "Impossible" ["paper"] kp_Impossible) (E_Misfit : ExcW P w K mg base "Misfit" ["part"] kp_Misfit) (E_NoPart : ExcW P w K mg base "NoPart" ["value"] kp_NoPart) (E_NoWay : ExcW P w K mg base "NoWay" ["value"] kp_NoWay) : Worth P w K mg base 3 "_law_named" s_law_named ["at", "one"] 2 m_law_named :=
  worth_mk (k := 2) h sc_law_named (by decide) (fun cdv A outer s H E hr hgd =>
      (bv_cons (sv_if (tv_cmp (op_eqD (hu64 hr)) m_eq (ev_var (pv 0)) ev_int) (bv_one (sv_raiseK (ks := ["part"]) (perm := [0]) E_BadNumber (by decide +kernel) rfl (hr.mono (by decide)) (takes_of rfl rfl rfl rfl) rfl (kv_cons (ev_var (pv 1)) kv_nil))) bv_nil)
      (bv_cons (sv_if (tv_cmp (op_eqD (hu64 hr)) m_eq (ev_var (pv 0)) ev_int) (bv_one (sv_raiseK (ks := ["part"]) (perm := [0]) E_BadPiece (by decide +kernel) rfl (hr.mono (by decide)) (takes_of rfl rfl rfl rfl) rfl (kv_cons (ev_var (pv 1)) kv_nil))) bv_nil)
      (bv_cons (sv_if (tv_cmp (op_eqD (hu64 hr)) m_eq (ev_var (pv 0)) ev_int) (bv_one (sv_raiseK (ks := ["part"]) (perm := [0]) E_BadFrame (by decide +kernel) rfl (hr.mono (by decide)) (takes_of rfl rfl rfl rfl) rfl (kv_cons (ev_var (pv 1)) kv_nil))) bv_nil)
      (bv_cons (sv_if (tv_cmp (op_eqD (hu64 hr)) m_eq (ev_var (pv 0)) ev_int) (bv_one (sv_raiseK (ks := ["part"]) (perm := [0]) E_BadBook (by decide +kernel) rfl (hr.mono (by decide)) (takes_of rfl rfl rfl rfl) rfl (kv_cons (ev_var (pv 1)) kv_nil))) bv_nil)
      (bv_cons (sv_if (tv_cmp (op_eqD (hu64 hr)) m_eq (ev_var (pv 0)) ev_int) (bv_one (sv_raiseK (ks := ["part"]) (perm := [0]) E_BadProgram (by decide +kernel) rfl (hr.mono (by decide)) (takes_of rfl rfl rfl rfl) rfl (kv_cons (ev_var (pv 1)) kv_nil))) bv_nil)
      (bv_cons (sv_if (tv_cmp (op_eqD (hu64 hr)) m_eq (ev_var (pv 0)) ev_int) (bv_one (sv_raiseK (ks := ["part"]) (perm := [0]) E_BadPlayer (by decide +kernel) rfl (hr.mono (by decide)) (takes_of rfl rfl rfl rfl) rfl (kv_cons (ev_var (pv 1)) kv_nil))) bv_nil)
      (bv_cons (sv_if (tv_cmp (op_eqD (hu64 hr)) m_eq (ev_var (pv 0)) ev_int) (bv_one (sv_raiseK (ks := ["part"]) (perm := [0]) E_BadPaper (by decide +kernel) rfl (hr.mono (by decide)) (takes_of rfl rfl rfl rfl) rfl (kv_cons (ev_var (pv 1)) kv_nil))) bv_nil)
      (bv_cons (sv_if (tv_cmp (op_eqD (hu64 hr)) m_eq (ev_var (pv 0)) ev_int) (bv_one (sv_raiseK (ks := ["part"]) (perm := [0]) E_Misfit (by decide +kernel) rfl (hr.mono (by decide)) (takes_of rfl rfl rfl rfl) rfl (kv_cons (ev_var (pv 1)) kv_nil))) bv_nil)
      (bv_cons (sv_if (tv_cmp (op_eqD (hu64 hr)) m_eq (ev_var (pv 0)) ev_int) (bv_one (sv_raiseK (ks := ["value"]) (perm := [0]) E_NoWay (by decide +kernel) rfl (hr.mono (by decide)) (takes_of rfl rfl rfl rfl) rfl (kv_cons (ev_var (pv 1)) kv_nil))) bv_nil)
      (bv_cons (sv_if (tv_cmp (op_eqD (hu64 hr)) m_eq (ev_var (pv 0)) ev_int) (bv_one (sv_raiseK (ks := ["value"]) (perm := [0]) E_NoPart (by decide +kernel) rfl (hr.mono (by decide)) (takes_of rfl rfl rfl rfl) rfl (kv_cons (ev_var (pv 1)) kv_nil))) bv_nil)
      (bv_one (sv_raiseK (ks := ["paper"]) (perm := [0]) E_Impossible (by decide +kernel) rfl (hr.mono (by decide)) (takes_of rfl rfl rfl rfl) rfl (kv_cons (ev_var (pv 1)) kv_nil))))))))))))))
theorem w_law_last (B : Blt mg) (h : Here K mg "_law_last" s_law_last) (E_BadText : ExcW P w K mg base "BadText" ["line", "item"] kp_BadText) (E_TooMany : ExcW P w K mg base "TooMany" ["what", "most"] kp_TooMany) : Worth P w K mg base 3 "_law_last" s_law_last ["at", "one", "other", "by_name"] 4 m_law_last :=
  worth_mk (k := 2) h sc_law_last (by decide) (fun cdv A outer s H E hr hgd =>
      (bv_cons (sv_if (tv_w (wv_and (tv_cmp (op_eqD (hu64 hr)) m_eq (ev_var (pv 0)) ev_int) (wv_and1 (tv_of (ev_var (pv 3)))))) (bv_one (sv_raiseK (ks := ["most", "what"]) (perm := [1, 0]) E_TooMany (by decide +kernel) rfl (hr.mono (by decide)) (takes_of rfl rfl rfl rfl) rfl (kv_cons (ev_var (pv 2)) (kv_cons (ev_var (pv 1)) kv_nil)))) bv_nil)
      (bv_cons (sv_if (tv_cmp (op_eqD (hu64 hr)) m_eq (ev_var (pv 0)) ev_int) (bv_one (sv_raise E_TooMany rfl (hr.mono (by decide)) (takes_of rfl rfl rfl rfl) rfl (by decide) (av_cons (ev_var (pv 1)) (av_cons (ev_var (pv 2)) av_nil)))) bv_nil)
      (bv_cons (sv_if (tv_of (ev_var (pv 3))) (bv_one (sv_raiseK (ks := ["item", "line"]) (perm := [1, 0]) E_BadText (by decide +kernel) rfl (hr.mono (by decide)) (takes_of rfl rfl rfl rfl) rfl (kv_cons (ev_var (pv 2)) (kv_cons (ev_var (pv 1)) kv_nil)))) bv_nil)
      (bv_one (sv_raise E_BadText rfl (hr.mono (by decide)) (takes_of rfl rfl rfl rfl) rfl (by decide) (av_cons (ev_var (pv 1)) (av_cons (ev_var (pv 2)) av_nil))))))))
theorem w_law_kinds (B : Blt mg) (h : Here K mg "_law_kinds" s_law_kinds) (M_BadBook : ∃ C, mg "BadBook" = some (.ref C) ∧ CNm K "BadBook" C) (M_BadFrame : ∃ C, mg "BadFrame" = some (.ref C) ∧ CNm K "BadFrame" C) (M_BadNumber : ∃ C, mg "BadNumber" = some (.ref C) ∧ CNm K "BadNumber" C) (M_BadPaper : ∃ C, mg "BadPaper" = some (.ref C) ∧ CNm K "BadPaper" C) (M_BadPiece : ∃ C, mg "BadPiece" = some (.ref C) ∧ CNm K "BadPiece" C) (M_BadPlayer : ∃ C, mg "BadPlayer" = some (.ref C) ∧ CNm K "BadPlayer" C) (M_BadProgram : ∃ C, mg "BadProgram" = some (.ref C) ∧ CNm K "BadProgram" C) (M_BadText : ∃ C, mg "BadText" = some (.ref C) ∧ CNm K "BadText" C) (M_Impossible : ∃ C, mg "Impossible" = some (.ref C) ∧ CNm K "Impossible" C) (M_Misfit : ∃ C, mg "Misfit" = some (.ref C) ∧ CNm K "Misfit" C) (M_NoPart : ∃ C, mg "NoPart" = some (.ref C) ∧ CNm K "NoPart" C) (M_NoWay : ∃ C, mg "NoWay" = some (.ref C) ∧ CNm K "NoWay" C) (M_TooMany : ∃ C, mg "TooMany" = some (.ref C) ∧ CNm K "TooMany" C) (HTab : Tab K tbl tbx fT tyL) : Worth P w K mg base 1 "_law_kinds" s_law_kinds ["error"] 1 m_law_kinds :=
  worth_mk (k := 0) h sc_law_kinds (by decide) (fun cdv A outer s H E hr hgd =>
      (bv_cons (sv_name (i := 1) sc_law_kinds.nd rfl (Or.inl rfl) (ev_lst (av_cons (ev_isx HTab rfl B.isinstance rfl M_BadNumber (ev_var (pv 0))) (av_cons (ev_isx HTab rfl B.isinstance rfl M_BadPiece (ev_var (pv 0))) (av_cons (ev_isx HTab rfl B.isinstance rfl M_BadFrame (ev_var (pv 0))) (av_cons (ev_isx HTab rfl B.isinstance rfl M_BadBook (ev_var (pv 0))) av_nil))))))
      (bv_cons (sv_name (i := 1) sc_law_kinds.nd rfl (Or.inl rfl) (ev_op op_addM m_add (ev_var (pv 1)) (ev_lst (av_cons (ev_isx HTab rfl B.isinstance rfl M_BadProgram (ev_var (pv 0))) (av_cons (ev_isx HTab rfl B.isinstance rfl M_BadPlayer (ev_var (pv 0))) (av_cons (ev_isx HTab rfl B.isinstance rfl M_BadPaper (ev_var (pv 0))) av_nil))))))
      (bv_cons (sv_name (i := 1) sc_law_kinds.nd rfl (Or.inl rfl) (ev_op op_addM m_add (ev_var (pv 1)) (ev_lst (av_cons (ev_isx HTab rfl B.isinstance rfl M_Misfit (ev_var (pv 0))) (av_cons (ev_isx HTab rfl B.isinstance rfl M_NoWay (ev_var (pv 0))) (av_cons (ev_isx HTab rfl B.isinstance rfl M_NoPart (ev_var (pv 0))) (av_cons (ev_isx HTab rfl B.isinstance rfl M_Impossible (ev_var (pv 0))) av_nil)))))))
      (bv_cons (sv_name (i := 1) sc_law_kinds.nd rfl (Or.inl rfl) (ev_op op_addM m_add (ev_var (pv 1)) (ev_lst (av_cons (ev_isx HTab rfl B.isinstance rfl M_TooMany (ev_var (pv 0))) (av_cons (ev_isx HTab rfl B.isinstance rfl M_BadText (ev_var (pv 0))) av_nil)))))
      (bv_one (sv_ret (ev_lc (own := [(".0", 2), ("at", 3), ("is_kind", 4)]) rfl sc_law_kinds.nd (iv_enum rfl B.enumerate (av_cons (ev_var (pv 1)) av_nil)) (blkOk_by (N := N_law_kinds) (sc := defScope s_law_kinds) (by decide +kernel)) (fun _ _ _ _ _ => (gv_tup rfl (gvs_cons (gv_name (pg_name (i := 3) sc_law_kinds.nd rfl (Or.inl rfl))) (gvs_cons (gv_name (pg_name (i := 4) sc_law_kinds.nd rfl (Or.inl rfl))) gvs_nil)))) (fun _ _ _ _ _ => (tsv_one (tv_of (ev_var (pv 4))))) (fun _ _ _ _ _ => (ev_var (pv 3)))))))))))
theorem w_law_fields (B : Blt mg) (h : Here K mg "_law_fields" s_law_fields) (HTab : Tab K tbl tbx fT tyL) : Worth P w K mg base 1 "_law_fields" s_law_fields ["at", "error"] 2 m_law_fields :=
  worth_mk (k := 0) h sc_law_fields (by decide) (fun cdv A outer s H E hr hgd =>
      (bv_cons (sv_if (tv_cmp op_lt m_lt (ev_var (pv 0)) ev_int) (bv_one (sv_ret (ev_lst (av_cons (ev_fldX HTab (ev_var (pv 1))) av_nil)))) bv_nil)
      (bv_cons (sv_if (tv_cmp op_lt m_lt (ev_var (pv 0)) ev_int) (bv_one (sv_ret (ev_lst (av_cons (ev_fldX HTab (ev_var (pv 1))) av_nil)))) bv_nil)
      (bv_cons (sv_if (tv_cmp (op_eqD (hu64 hr)) m_eq (ev_var (pv 0)) ev_int) (bv_one (sv_ret (ev_lst (av_cons (ev_fldX HTab (ev_var (pv 1))) av_nil)))) bv_nil)
      (bv_one (sv_ret (ev_if (tv_cmp (op_eqD (hu64 hr)) m_eq (ev_var (pv 0)) ev_int) (ev_lst (av_cons (ev_fldX HTab (ev_var (pv 1))) (av_cons (ev_fldX HTab (ev_var (pv 1))) av_nil))) (ev_lst (av_cons (ev_fldX HTab (ev_var (pv 1))) (av_cons (ev_fldX HTab (ev_var (pv 1))) av_nil))))))))))
theorem w_law_raises (B : Blt mg) (h : Here K mg "_law_raises" s_law_raises) (W_law_first : Worth P w K mg base 3 "_law_first" s_law_first ["at", "one"] 2 m_law_first) (W_law_named : Worth P w K mg base 3 "_law_named" s_law_named ["at", "one"] 2 m_law_named) (W_law_last : Worth P w K mg base 3 "_law_last" s_law_last ["at", "one", "other", "by_name"] 4 m_law_last) : Worth P w K mg base 4 "_law_raises" s_law_raises ["at", "one", "other", "by_name"] 4 m_law_raises :=
  worth_mk (k := 3) h sc_law_raises (by decide) (fun cdv A outer s H E hr hgd =>
      (bv_cons (sv_if (tv_cmp op_gt m_gt (ev_var (pv 0)) ev_int) (bv_one (sv_expr (ev_callW W_law_last (hr.mono (by decide)) hgd rfl (fun _ _ _ _ _ _ us hl => match us, hl with | [_, _, _, _], _ => rfl) (takes_of rfl rfl rfl rfl) (av_cons (ev_var (pv 0)) (av_cons (ev_var (pv 1)) (av_cons (ev_var (pv 2)) (av_cons (ev_var (pv 3)) av_nil))))))) bv_nil)
      (bv_cons (sv_if (tv_of (ev_var (pv 3))) (bv_one (sv_expr (ev_callW W_law_named (hr.mono (by decide)) hgd rfl (fun _ _ _ _ _ _ us hl => match us, hl with | [_, _], _ => rfl) (takes_of rfl rfl rfl rfl) (av_cons (ev_var (pv 0)) (av_cons (ev_var (pv 1)) av_nil))))) bv_nil)
      (bv_one (sv_expr (ev_callW W_law_first (hr.mono (by decide)) hgd rfl (fun _ _ _ _ _ _ us hl => match us, hl with | [_, _], _ => rfl) (takes_of rfl rfl rfl rfl) (av_cons (ev_var (pv 0)) (av_cons (ev_var (pv 1)) av_nil))))))))
theorem w_law_right (B : Blt mg) (h : Here K mg "_law_right" s_law_right) (M_PlayError : ∃ C, mg "PlayError" = some (.ref C) ∧ CNm K "PlayError" C) (HT : TblOk K mg tbl) (HTab : Tab K tbl tbx fT tyL) (W_law_kinds : Worth P w K mg base 1 "_law_kinds" s_law_kinds ["error"] 1 m_law_kinds) (W_law_fields : Worth P w K mg base 1 "_law_fields" s_law_fields ["at", "error"] 2 m_law_fields) (W_law_raises : Worth P w K mg base 4 "_law_raises" s_law_raises ["at", "one", "other", "by_name"] 4 m_law_raises) : Worth P w K mg base 5 "_law_right" s_law_right ["at", "one", "other", "by_name"] 4 m_law_right :=
  worth_mk (k := 4) h sc_law_right (by decide) (fun cdv A outer s H E hr hgd =>
      (bv_cons (sv_name (i := 4) sc_law_right.nd rfl (Or.inl rfl) ev_non)
      (bv_cons (sv_keep (i := 5) (j := 4) HT rfl rfl sc_law_right.nd rfl (takes_of rfl rfl rfl rfl) (fun _ _ _ tk hp => (bv_one (sv_expr (ev_callW W_law_raises (hr.mono (by decide)) hgd rfl (fun _ _ _ _ _ _ us hl => match us, hl with | [_, _, _, _], _ => rfl) tk (av_cons (ev_var (pv 0)) (av_cons (ev_var (pv 1)) (av_cons (ev_var (pv 2)) (av_cons (ev_var (pv 3)) av_nil)))))))) rfl (by decide) M_PlayError rfl rfl (Or.inl rfl) rfl (Or.inl rfl))
      (bv_cons (sv_if (tv_w (wv_or (tv_isN (ev_var (pv 4))) (wv_or (tv_not (tv_of (ev_isxT HTab rfl B.isinstance rfl B.ValueError (by decide +kernel) rfl (by decide) (ev_var (pv 4))))) (wv_or1 (tv_cmp (op_neD (hu64 hr)) m_ne (ev_callW W_law_kinds (hr.mono (by decide)) hgd rfl (fun _ _ _ _ _ _ us hl => match us, hl with | [_], _ => rfl) (takes_of rfl rfl rfl rfl) (av_cons (ev_var (pv 4)) av_nil)) (ev_lst (av_cons (ev_var (pv 0)) av_nil))))))) (bv_one (sv_ret ev_bl)) bv_nil)
      (bv_cons (sv_if (tv_w (wv_or (tv_of (ev_isxT HTab rfl B.isinstance rfl B.LookupError (by decide +kernel) rfl (by decide) (ev_var (pv 4)))) (wv_or (tv_of (ev_isxT HTab rfl B.isinstance rfl B.TypeError (by decide +kernel) rfl (by decide) (ev_var (pv 4)))) (wv_or1 (tv_of (ev_isxT HTab rfl B.isinstance rfl B.ArithmeticError (by decide +kernel) rfl (by decide) (ev_var (pv 4)))))))) (bv_one (sv_ret ev_bl)) bv_nil)
      (bv_cons (sv_name (i := 6) sc_law_right.nd rfl (Or.inl rfl) (ev_if (tv_cmp op_gt m_gt (ev_var (pv 0)) ev_int) (ev_lst (av_cons (ev_var (pv 1)) (av_cons (ev_var (pv 2)) av_nil))) (ev_lst (av_cons (ev_var (pv 1)) av_nil))))
      (bv_one (sv_ret (ev_and (ev_cmp (op_eqD (hu64 hr)) m_eq (ev_callB (call_reprL hgd (hu64 hr)) m_reprL rfl B.repr (by decide +kernel) (av_cons (ev_callW W_law_fields (hr.mono (by decide)) hgd rfl (fun _ _ _ _ _ _ us hl => match us, hl with | [_, _], _ => rfl) (takes_of rfl rfl rfl rfl) (av_cons (ev_var (pv 0)) (av_cons (ev_var (pv 4)) av_nil))) av_nil)) (ev_callB (call_reprL hgd (hu64 hr)) m_reprL rfl B.repr (by decide +kernel) (av_cons (ev_var (pv 6)) av_nil))) (ev_one (ev_not (ev_isxT HTab rfl B.isinstance rfl B.RuntimeError (by decide +kernel) rfl (by decide) (ev_var (pv 4))))))))))))))
theorem w_law_deck (B : Blt mg) (h : Here K mg "_law_deck" s_law_deck) : DeckOk P w K mg base 1 "_law_deck" s_law_deck ["script"] 60 :=
  deck_mk (k := 0) h sc_law_deck (fun cdv A outer s H E hr hgd =>
    pss_one (ps_ret (pe_lst (pa_cons (pe_lc (own := [("cell", 1)]) (g := gName 1) (tt := tYes) rfl sc_law_deck.nd (pi_list (pe_slice sl_list (pv 0) po_none (po_some pe_int)))
      (blkOk_by (N := ["script", "cell"]) (sc := defScope s_law_deck) (by decide +kernel)) (fun _ _ _ _ _ => pg_name (i := 1) sc_law_deck.nd rfl (Or.inl rfl)) (fun _ _ _ _ _ => pts_nil) (fun _ _ _ _ _ => pe_callTy call_int1 rfl B.int (by decide +kernel) (pa_cons (pv 1) pa_nil)))
      (pa_cons pe_int (pa_cons pe_int pa_nil))))))
theorem w_law (B : Blt mg) (h : Here K mg "law" s_law) (Wd : DeckOk P w K mg base 1 "_law_deck" s_law_deck ["script"] 60)  (W_law_value : Worth P w K mg base 3 "_law_value" s_law_value ["deck"] 1 m_law_value) (W_law_right : Worth P w K mg base 5 "_law_right" s_law_right ["at", "one", "other", "by_name"] 4 m_law_right)
    (hm : ∀ cells : List Int, cells.length ≤ 63 → ∃ s', g_law (deck0 N_law.length) ⟨cells, 0, 0⟩ = .rt (.bl true) s') :
    ∃ f fd, FnG P w K mg base 6 f fd ["script"] (spLawG K) ∧ Fun K "law" "law" s_law f fd ∧ mg "law" = some (.ref f) :=
  law_mk (k := 5) (N := 60) h sc_law (by decide) hm (fun cdv A outer s H E hr hgd =>
    pss_cons (ps_deck Wd (hr.mono (by decide)) hgd rfl (fun _ _ _ _ _ _ us hl => match us, hl with | [_], _ => rfl) (takes_of rfl rfl rfl rfl) sc_law.nd rfl (Or.inl rfl) (pv 0))
      (bv_cons (sv_for (passes_of rfl) rfl (iv_range1 rfl B.range (av_cons ev_int av_nil)) (gv_name (pg_name (i := 2) sc_law.nd rfl (Or.inl rfl))) (bv_cons (sv_par (i := 3) (j := 4) rfl sc_law.nd rfl rfl (by decide) rfl rfl (av_cons (ev_callW W_law_value (hr.mono (by decide)) hgd rfl (fun _ _ _ _ _ _ us hl => match us, hl with | [_], _ => rfl) (takes_of rfl rfl rfl rfl) (av_cons (ev_var (pv 1)) av_nil)) (av_cons (ev_callW W_law_value (hr.mono (by decide)) hgd rfl (fun _ _ _ _ _ _ us hl => match us, hl with | [_], _ => rfl) (takes_of rfl rfl rfl rfl) (av_cons (ev_var (pv 1)) av_nil)) av_nil)) rfl)
      (bv_one (sv_if (tv_w (wv_or (tv_not (tv_of (ev_callW W_law_right (hr.mono (by decide)) hgd rfl (fun _ _ _ _ _ _ us hl => match us, hl with | [_, _, _, _], _ => rfl) (takes_of rfl rfl rfl rfl) (av_cons (ev_var (pv 2)) (av_cons (ev_var (pv 3)) (av_cons (ev_var (pv 4)) (av_cons ev_bl av_nil))))))) (wv_or1 (tv_not (tv_of (ev_callW W_law_right (hr.mono (by decide)) hgd rfl (fun _ _ _ _ _ _ us hl => match us, hl with | [_, _, _, _], _ => rfl) (takes_of rfl rfl rfl rfl) (av_cons (ev_var (pv 2)) (av_cons (ev_var (pv 3)) (av_cons (ev_var (pv 4)) (av_cons ev_bl av_nil)))))))))) (bv_one (sv_ret ev_bl)) bv_nil))))
      (bv_one (sv_ret ev_bl))))
end
end K00

namespace K00
open PySem L2 FL
/-! ### the mixer -/
structure Good (b : Int) (s : Deck) : Prop where
  t0 : 0 ≤ s.turn
  t1 : s.turn ≤ b
  l0 : 0 ≤ s.left
theorem Good.mono {b c : Int} {s : Deck} (h : Good b s) (k : b ≤ c) : Good c s := ⟨h.t0, Int.le_trans h.t1 k, h.l0⟩
theorem q_put {k : Int} {f g : FE} {δ : DEnv} {s : Deck} : putS f g k δ s = (f δ s).toS δ fun v s => (g δ s).toS δ fun d s => (match d with
  | .deck => match putM k v s with
    | some s' => RS.nx δ s'
    | none => .bad
  | _ => .bad) := rfl
def putO (k : Int) (v d : D) (δ : DEnv) (s : Deck) : RS := match d with
  | .deck => match putM k v s with
    | some s' => RS.nx δ s'
    | none => .bad
  | _ => .bad
theorem q_put' {k : Int} {f g : FE} {δ : DEnv} {s : Deck} : putS f g k δ s = (f δ s).toS δ fun v s => (g δ s).toS δ fun d s => putO k v d δ s := rfl
theorem q_putO1 {i : Int} {δ : DEnv} {s : Deck} : putO 1 (.int i) .deck δ s = .nx δ { s with turn := i } := rfl
theorem q_putO2 {i : Int} {δ : DEnv} {s : Deck} : putO 2 (.int i) .deck δ s = .nx δ { s with left := i } := rfl
theorem q_neL0 {s : Deck} : neM (.lst []) (.lst []) s = .ok (.bl false) s := rfl
theorem pys_ints : ∀ ns : List Int, pys (ns.map .int) = some (ns.map .int)
  | [] => rfl
  | n :: ns => by simp only [List.map_cons, pys, py, pys_ints ns]; rfl
theorem lay_ints : ∀ ns : List Int, PyData.canLayAll0 (ns.map .int) = true
  | [] => rfl
  | n :: ns => by simp only [List.map_cons, PyData.canLayAll0, PyData.canLay0, lay_ints ns]; rfl
theorem deep_ints : ∀ ns : List Int, PyData.depthAll (ns.map .int) ≤ 1
  | [] => by simp [PyData.depthAll]
  | n :: ns => by
    have h := deep_ints ns
    simp only [List.map_cons, PyData.depthAll, PyData.depth]
    omega
theorem q_neL1 {c : Int} {cs : List Int} {s : Deck} : neM (.lst (.int c :: cs.map .int)) (.lst []) s = .ok (.bl true) s := by
  have h := pys_ints (c :: cs)
  rw [List.map_cons] at h
  have h2 := lay_ints (c :: cs)
  have h3 := deep_ints (c :: cs)
  have h4 : SeqAt.shaped (PyData.list ((c :: cs).map .int)) = true := by
    unfold SeqAt.shaped
    simp only [PyData.canLay0, PyData.depth, h2, Bool.true_and]
    exact decide_eq_true (Nat.le_trans (Nat.add_le_add_right h3 1) (by decide))
  have h5 : SeqAt.shaped (PyData.list []) = true := rfl
  have h6 : py (.lst (.int c :: cs.map .int)) = some (.list ((c :: cs).map .int)) := by
    show (pys (.int c :: cs.map .int)).map _ = _
    rw [h]
    rfl
  unfold neM eqO
  rw [h6, show py (.lst []) = some (.list []) from rfl]
  simp only [h4, h5, if_true, Option.map_some]
  rfl
theorem sift_left (many : Int) (s : Deck) (hm : 0 < many) (hl : many.natAbs.log2 < 9000) (h : 0 < s.left) : m_law_deal [.deck, .int many] s = .ok (.int (s.left % many)) { s with left := s.left / many } := by
  unfold m_law_deal g_law_deal
  simp only [q_def, q_seq, q_ite, q_ret, q_set, q_drop, q_asg, q_for, q_for0, q_fc, q_frd_nx, q_frd_rt, q_frd_ct, q_frd_bk, q_turn, q_mkLst, q_mkTup, Nat.reduceLeDiff, q_and_bl, q_or_bl, q_c0, q_c1, q_c2, q_c3, q_c4, q_c5, q_c6, q_c9, q_c13, decide_true, decide_false, Int.reduceEq, Int.reduceLT, Int.reduceLE, Int.reduceAdd, Int.reduceSub, Int.reduceMul, Int.reduceNeg, Int.reducePow, Int.reduceToNat, Int.reduceBNe, Int.reduceNe, Nat.zero_le, q_get, q_cst, q_lift, q_un, q_with, q_av0, q_avC, q_callN, q_callKW, q_andD, q_orD, q_notD, q_fAnd, q_fOr, q_fNot, q_fTru, q_fBoo, q_ifD, q_isN, q_fIsN, q_fNotN, startD, q_bind, q_toS, q_rt, q_nx, q_thn_nx, q_thn_rt, q_okO, q_nxO, q_pure, q_none0, q_none1, q_none2, q_none3, q_none4, q_tru_bl, q_tru_int, q_tru_lst, q_tru_tup, q_tru_non, q_boo, q_seqL, q_seqT, q_lenL, q_lenT, q_eqI, q_neI, q_lt, q_le, q_gt, q_ge, q_add, q_addL, q_sub, q_neg, q_abs, q_int, q_intB, q_max, q_gcd, q_tupL, q_gL, q_gT, q_g0, q_g1, q_g2, q_lc, q_par, q_parO, q_whS, q_slc, q_prt0, q_prt1, q_intR, q_slcL, q_slcT, q_zipL, q_zipT, q_allp, List.length_map, wipeE, List.map_cons, List.map_nil, List.length_cons, List.length_nil, List.replicate, List.cons_append, List.nil_append, List.getElem?_cons_zero, List.getElem?_cons_succ, List.set_cons_zero, List.set_cons_succ, Nat.reduceSub, Nat.reduceAdd, if_true, Bool.not_true, Bool.not_false, Bool.false_eq_true, if_false, reduceIte, setD, List.foldl_cons, List.foldl_nil, q_asgN, q_asgT, q_asgL, q_asgs0, q_asgsC, Option.bind_some, List.append_nil, q_put', q_putO2, q_mod, q_fdiv, *]
def mix (c T : Int) : Int :=
  (((c % 2147483563 + 85133 * T + 8147) ^ 5 % 2147483579 * (2 * T + 8147) + 108161 * T * T + 85133) ^ 3 % 2147483549) / 64
def tailS : FS :=
    (seqS (setS 5 (lift2 modM (withA (avC (lift2 powM (lift2 addM (lift2 addM (lift2 modM (withA (avC (getE 4) av0) intM1) (cst (.int 2147483563))) (lift2 mulM (cst (.int 85133)) (getE 3))) (cst (.int 8147))) (cst (.int 5))) av0) intM1) (cst (.int 2147483579))))
    (seqS (setS 5 (lift2 modM (withA (avC (lift2 powM (lift2 addM (lift2 addM (lift2 mulM (getE 5) (lift2 addM (lift2 mulM (cst (.int 2)) (getE 3)) (cst (.int 8147)))) (lift2 mulM (lift2 mulM (cst (.int 108161)) (getE 3)) (getE 3))) (cst (.int 85133))) (cst (.int 3))) av0) intM1) (cst (.int 2147483549))))
    (retS (lift2 modM (withA (avC (lift2 fdivM (getE 5) (cst (.int 64))) av0) intM1) (getE 1)))))
theorem sift_fold : g_law_deal =
    (seqS (iteS (fBoo (lift2 gtM (lift2 getM (getE 0) (cst (.int 2))) (cst (.int 0)))) (seqS (setS 2 (withA (avC (lift2 getM (getE 0) (cst (.int 2))) av0) intM1))
    (seqS (putS (lift2 fdivM (getE 2) (getE 1)) (getE 0) 2)
    (retS (lift2 modM (withA (avC (getE 2) av0) intM1) (getE 1))))) (fun δ s => .nx δ s))
    (seqS (setS 3 (lift2 getM (getE 0) (cst (.int 1))))
    (seqS (putS (lift2 addM (getE 3) (cst (.int 1))) (getE 0) 1)
    (seqS (setS 4 (lift2 addM (lift2 mulM (cst (.int 108161)) (getE 3)) (cst (.int 8147))))
    (seqS (iteS (fBoo (lift2 neM (lift2 getM (getE 0) (cst (.int 0))) (withA av0 mkLst))) (setS 4 (lift2 getM (lift2 getM (getE 0) (cst (.int 0))) (lift2 modM (withA (avC (getE 3) av0) intM1) (withA (avC (lift2 getM (getE 0) (cst (.int 0))) av0) lenM)))) (fun δ s => .nx δ s))
    (seqS (iteS (fAnd (fBoo (lift2 ltM (getE 3) (withA (avC (lift2 getM (getE 0) (cst (.int 0))) av0) lenM))) (fBoo (lift2 geM (withA (avC (getE 4) av0) absM) (lift2 powM (cst (.int 10)) (cst (.int 18)))))) (seqS (setS 2 (lift2 addM (lift2 mulM (cst (.int 2)) (lift2 subM (withA (avC (withA (avC (getE 4) av0) intM1) av0) absM) (lift2 powM (cst (.int 10)) (cst (.int 18))))) (withA (avC (lift2 ltM (getE 4) (cst (.int 0))) av0) intM1)))
    (seqS (putS (lift2 fdivM (getE 2) (getE 1)) (getE 0) 2)
    (retS (lift2 modM (withA (avC (getE 2) av0) intM1) (getE 1))))) (fun δ s => .nx δ s))
    tailS)))))) := rfl
theorem mul0 {n : Int} (T : Int) (s : Deck) (h : -18446744073709551616 < n ∧ n < 18446744073709551616) : mulM (.int n) (.int T) s = .ok (.int (n * T)) s := q_mul (by simpa using h)
theorem mul1 {n : Int} (T : Int) (s : Deck) (h : -18446744073709551616 < T ∧ T < 18446744073709551616) : mulM (.int n) (.int T) s = .ok (.int (n * T)) s := q_mulR (by simpa using h)
theorem tail_eq (c T many : Int) (s : Deck) (h0 : 0 ≤ T) (h1 : T ≤ 1000000) (hm : 0 < many) (x2 x5 : Option D) : tailS [some .deck, some (.int many), x2, some (.int T), some (.int c), x5] s = .rt (.int (mix c T % many)) s := by
  unfold tailS mix
  have p1 : powM (.int (c % 2147483563 + 85133 * T + 8147)) (.int 5) s = .ok (.int ((c % 2147483563 + 85133 * T + 8147) ^ 5)) s := q_pow ⟨by decide, by decide, by omega⟩
  obtain ⟨a, ha⟩ : ∃ a, a = (c % 2147483563 + 85133 * T + 8147) ^ 5 % 2147483579 := ⟨_, rfl⟩
  have a0 : 0 ≤ a := by omega
  have a1 : a < 2147483579 := by omega
  have m1 := mul0 T s (n := 85133) (by decide)
  have m2 := mul0 T s (n := 2) (by decide)
  have m3 := mul0 T s (n := 108161) (by decide)
  have m4 := mul1 (n := 108161 * T) T s (by omega)
  have m5 := mul1 (n := a) (2 * T + 8147) s (by omega)
  have b1 : a * (2 * T + 8147) ≤ 2147483579 * 2008147 := Int.mul_le_mul (by omega) (by omega) (by omega) (by omega)
  have b2 : 0 ≤ a * (2 * T + 8147) := Int.mul_nonneg a0 (by omega)
  have b3 : 108161 * T * T ≤ 108161000000 * 1000000 := Int.mul_le_mul (by omega) (by omega) (by omega) (by omega)
  have b4 : 0 ≤ 108161 * T * T := Int.mul_nonneg (by omega) h0
  have p2 : powM (.int (a * (2 * T + 8147) + 108161 * T * T + 85133)) (.int 3) s = .ok (.int ((a * (2 * T + 8147) + 108161 * T * T + 85133) ^ 3)) s := q_pow ⟨by decide, by decide, by omega⟩
  have d1 : ∀ x : Int, fdivM (.int x) (.int 64) s = .ok (.int (x / 64)) s := fun x => q_fdiv (by decide) (by decide +kernel)
  have k1 : ∀ x : Int, modM (.int x) (.int 2147483563) s = .ok (.int (x % 2147483563)) s := fun x => q_mod (by decide)
  have k2 : ∀ x : Int, modM (.int x) (.int 2147483579) s = .ok (.int (x % 2147483579)) s := fun x => q_mod (by decide)
  have k3 : ∀ x : Int, modM (.int x) (.int 2147483549) s = .ok (.int (x % 2147483549)) s := fun x => q_mod (by decide)
  have k4 : ∀ x : Int, modM (.int x) (.int many) s = .ok (.int (x % many)) s := fun x => q_mod hm
  clear a0 a1 b1 b2 b3 b4 h0 h1 hm
  rw [← ha]
  have hb := ha.symm
  clear ha
  simp only [q_def, q_seq, q_ite, q_ret, q_set, q_drop, q_asg, q_for, q_for0, q_fc, q_frd_nx, q_frd_rt, q_frd_ct, q_frd_bk, q_turn, q_mkLst, q_mkTup, Nat.reduceLeDiff, q_and_bl, q_or_bl, q_c0, q_c1, q_c2, q_c3, q_c4, q_c5, q_c6, q_c9, q_c13, decide_true, decide_false, Int.reduceEq, Int.reduceLT, Int.reduceLE, Int.reduceAdd, Int.reduceSub, Int.reduceMul, Int.reduceNeg, Int.reducePow, Int.reduceToNat, Int.reduceBNe, Int.reduceNe, Nat.zero_le, q_get, q_cst, q_lift, q_un, q_with, q_av0, q_avC, q_callN, q_callKW, q_andD, q_orD, q_notD, q_fAnd, q_fOr, q_fNot, q_fTru, q_fBoo, q_ifD, q_isN, q_fIsN, q_fNotN, startD, q_bind, q_toS, q_rt, q_nx, q_thn_nx, q_thn_rt, q_okO, q_nxO, q_pure, q_none0, q_none1, q_none2, q_none3, q_none4, q_tru_bl, q_tru_int, q_tru_lst, q_tru_tup, q_tru_non, q_boo, q_seqL, q_seqT, q_lenL, q_lenT, q_eqI, q_neI, q_lt, q_le, q_gt, q_ge, q_add, q_addL, q_sub, q_neg, q_abs, q_int, q_intB, q_max, q_gcd, q_tupL, q_gL, q_gT, q_g0, q_g1, q_g2, q_lc, q_par, q_parO, q_whS, q_slc, q_prt0, q_prt1, q_intR, q_slcL, q_slcT, q_zipL, q_zipT, q_allp, List.length_map, wipeE, List.map_cons, List.map_nil, List.length_cons, List.length_nil, List.replicate, List.cons_append, List.nil_append, List.getElem?_cons_zero, List.getElem?_cons_succ, List.set_cons_zero, List.set_cons_succ, Nat.reduceSub, Nat.reduceAdd, if_true, Bool.not_true, Bool.not_false, Bool.false_eq_true, if_false, reduceIte, setD, List.foldl_cons, List.foldl_nil, q_asgN, q_asgT, q_asgL, q_asgs0, q_asgsC, Option.bind_some, List.append_nil, *]
theorem atI_in {xs : List D} {i : Int} (h0 : 0 ≤ i) (h1 : i < xs.length) : ∃ x, x ∈ xs ∧ atI xs i = some x := by
  obtain ⟨n, rfl⟩ := Int.eq_ofNat_of_zero_le h0
  have hn : n < xs.length := by omega
  refine ⟨xs[n], List.getElem_mem _, ?_⟩
  unfold atI ixN
  simp [hn]
theorem ten18 (s : Deck) : powM (.int 10) (.int 18) s = .ok (.int 1000000000000000000) s := q_pow (by decide)
theorem at_ints {cs : List Int} {i : Int} (h0 : 0 ≤ i) (h1 : i < (cs.length : Int)) : ∃ c : Int, atI (cs.map D.int) i = some (.int c) := by
  obtain ⟨x, hx, e⟩ := atI_in (xs := cs.map D.int) h0 (by simpa using h1)
  obtain ⟨c, _, rfl⟩ := List.mem_map.mp hx
  exact ⟨c, e⟩
theorem sift_new (many : Int) (s : Deck) (hm : 0 < many) (hl : many.natAbs.log2 < 9000) (hc : ¬ 0 < s.left) (h0 : 0 ≤ s.turn) (h1 : s.turn ≤ 1000000) (hl0 : 0 ≤ s.left) :
    ∃ r s', m_law_deal [.deck, .int many] s = .ok (.int r) s' ∧ 0 ≤ r ∧ r < many ∧ s'.turn = s.turn + 1 ∧ 0 ≤ s'.left := by
  unfold m_law_deal
  rw [sift_fold]
  have tl : ∀ (c : Int) (x2 x5 : Option D) (s' : Deck), tailS [some .deck, some (.int many), x2, some (.int s.turn), some (.int c), x5] s' = .rt (.int (mix c s.turn % many)) s' := fun c x2 x5 s' => tail_eq c s.turn many s' h0 h1 hm x2 x5
  have c0 := decide_eq_false hc
  have mm := mul0 s.turn { s with turn := s.turn + 1 } (n := 108161) (by decide)
  obtain ⟨cells, turn, left⟩ := s
  simp only at *
  have r0 : ∀ x : Int, 0 ≤ x % many := fun x => Int.emod_nonneg _ (by omega)
  have r1 : ∀ x : Int, x % many < many := fun x => Int.emod_lt_of_pos _ hm
  cases cells with
  | nil =>
    have z : decide (turn < 0) = false := decide_eq_false (by omega)
    refine ⟨mix (108161 * turn + 8147) turn % many, ⟨[], turn + 1, left⟩, ?_, r0 _, r1 _, rfl, hl0⟩
    clear h0 h1 hm hl hc hl0 r0 r1
    simp only [q_def, q_seq, q_ite, q_ret, q_set, q_drop, q_asg, q_for, q_for0, q_fc, q_frd_nx, q_frd_rt, q_frd_ct, q_frd_bk, q_turn, q_mkLst, q_mkTup, Nat.reduceLeDiff, q_and_bl, q_or_bl, q_c0, q_c1, q_c2, q_c3, q_c4, q_c5, q_c6, q_c9, q_c13, decide_true, decide_false, Int.reduceEq, Int.reduceLT, Int.reduceLE, Int.reduceAdd, Int.reduceSub, Int.reduceMul, Int.reduceNeg, Int.reducePow, Int.reduceToNat, Int.reduceBNe, Int.reduceNe, Nat.zero_le, q_get, q_cst, q_lift, q_un, q_with, q_av0, q_avC, q_callN, q_callKW, q_andD, q_orD, q_notD, q_fAnd, q_fOr, q_fNot, q_fTru, q_fBoo, q_ifD, q_isN, q_fIsN, q_fNotN, startD, q_bind, q_toS, q_rt, q_nx, q_thn_nx, q_thn_rt, q_okO, q_nxO, q_pure, q_none0, q_none1, q_none2, q_none3, q_none4, q_tru_bl, q_tru_int, q_tru_lst, q_tru_tup, q_tru_non, q_boo, q_seqL, q_seqT, q_lenL, q_lenT, q_eqI, q_neI, q_lt, q_le, q_gt, q_ge, q_add, q_addL, q_sub, q_neg, q_abs, q_int, q_intB, q_max, q_gcd, q_tupL, q_gL, q_gT, q_g0, q_g1, q_g2, q_lc, q_par, q_parO, q_whS, q_slc, q_prt0, q_prt1, q_intR, q_slcL, q_slcT, q_zipL, q_zipT, q_allp, List.length_map, wipeE, List.map_cons, List.map_nil, List.length_cons, List.length_nil, List.replicate, List.cons_append, List.nil_append, List.getElem?_cons_zero, List.getElem?_cons_succ, List.set_cons_zero, List.set_cons_succ, Nat.reduceSub, Nat.reduceAdd, if_true, Bool.not_true, Bool.not_false, Bool.false_eq_true, if_false, reduceIte, setD, List.foldl_cons, List.foldl_nil, q_asgN, q_asgT, q_asgL, q_asgs0, q_asgsC, Option.bind_some, List.append_nil, q_put', q_putO1, q_neL0, *]
  | cons c cs =>
    have hlen : (0 : Int) < ((c :: cs).length : Int) := by simp only [List.length_cons]; omega
    obtain ⟨e, he⟩ := at_ints (cs := c :: cs) (i := turn % ((c :: cs).length : Int)) (Int.emod_nonneg _ (by omega)) (Int.emod_lt_of_pos _ hlen)
    have md : ∀ s : Deck, modM (.int turn) (.int ((c :: cs).length : Int)) s = .ok (.int (turn % ((c :: cs).length : Int))) s := fun s => q_mod hlen
    simp only [List.length_cons, List.map_cons] at he md hlen
    have t18 := ten18
    have ms : ∀ (x : Int) (s : Deck), modM (.int x) (.int many) s = .ok (.int (x % many)) s := fun x s => q_mod hm
    have ds : ∀ (x : Int) (s : Deck), fdivM (.int x) (.int many) s = .ok (.int (x / many)) s := fun x s => q_fdiv hm hl
    by_cases b1 : turn < ((cs.length + 1 : Nat) : Int)
    · by_cases b2 : (1000000000000000000 : Int) ≤ if e < 0 then -e else e
      · obtain ⟨v, hv⟩ : ∃ v, v = 2 * ((if e < 0 then -e else e) - 1000000000000000000) + (if decide (e < 0) = true then 1 else 0) := ⟨_, rfl⟩
        have v0 : 0 ≤ v := by
          rw [hv]
          have : (0 : Int) ≤ if decide (e < 0) = true then 1 else 0 := by split <;> decide
          omega
        have m2 : ∀ (x : Int) (s : Deck), mulM (.int 2) (.int x) s = .ok (.int (2 * x)) s := fun x s => mul0 x s (by decide)
        refine ⟨v % many, ⟨c :: cs, turn + 1, v / many⟩, ?_, r0 _, r1 _, rfl, Int.ediv_nonneg v0 (by omega)⟩
        have b1 := decide_eq_true b1
        have b2 := decide_eq_true b2
        subst hv
        clear h0 h1 hm hl hc hl0 r0 r1 tl v0 hlen
        simp only [q_def, q_seq, q_ite, q_ret, q_set, q_drop, q_asg, q_for, q_for0, q_fc, q_frd_nx, q_frd_rt, q_frd_ct, q_frd_bk, q_turn, q_mkLst, q_mkTup, Nat.reduceLeDiff, q_and_bl, q_or_bl, q_c0, q_c1, q_c2, q_c3, q_c4, q_c5, q_c6, q_c9, q_c13, decide_true, decide_false, Int.reduceEq, Int.reduceLT, Int.reduceLE, Int.reduceAdd, Int.reduceSub, Int.reduceMul, Int.reduceNeg, Int.reducePow, Int.reduceToNat, Int.reduceBNe, Int.reduceNe, Nat.zero_le, q_get, q_cst, q_lift, q_un, q_with, q_av0, q_avC, q_callN, q_callKW, q_andD, q_orD, q_notD, q_fAnd, q_fOr, q_fNot, q_fTru, q_fBoo, q_ifD, q_isN, q_fIsN, q_fNotN, startD, q_bind, q_toS, q_rt, q_nx, q_thn_nx, q_thn_rt, q_okO, q_nxO, q_pure, q_none0, q_none1, q_none2, q_none3, q_none4, q_tru_bl, q_tru_int, q_tru_lst, q_tru_tup, q_tru_non, q_boo, q_seqL, q_seqT, q_lenL, q_lenT, q_eqI, q_neI, q_lt, q_le, q_gt, q_ge, q_add, q_addL, q_sub, q_neg, q_abs, q_int, q_intB, q_max, q_gcd, q_tupL, q_gL, q_gT, q_g0, q_g1, q_g2, q_lc, q_par, q_parO, q_whS, q_slc, q_prt0, q_prt1, q_intR, q_slcL, q_slcT, q_zipL, q_zipT, q_allp, List.length_map, wipeE, List.map_cons, List.map_nil, List.length_cons, List.length_nil, List.replicate, List.cons_append, List.nil_append, List.getElem?_cons_zero, List.getElem?_cons_succ, List.set_cons_zero, List.set_cons_succ, Nat.reduceSub, Nat.reduceAdd, if_true, Bool.not_true, Bool.not_false, Bool.false_eq_true, if_false, reduceIte, setD, List.foldl_cons, List.foldl_nil, q_asgN, q_asgT, q_asgL, q_asgs0, q_asgsC, Option.bind_some, List.append_nil, q_put', q_putO1, q_putO2, q_neL1, *]
      · refine ⟨mix e turn % many, ⟨c :: cs, turn + 1, left⟩, ?_, r0 _, r1 _, rfl, hl0⟩
        have b1 := decide_eq_true b1
        have b2 := decide_eq_false b2
        clear h0 h1 hm hl hc hl0 r0 r1 hlen
        simp only [q_def, q_seq, q_ite, q_ret, q_set, q_drop, q_asg, q_for, q_for0, q_fc, q_frd_nx, q_frd_rt, q_frd_ct, q_frd_bk, q_turn, q_mkLst, q_mkTup, Nat.reduceLeDiff, q_and_bl, q_or_bl, q_c0, q_c1, q_c2, q_c3, q_c4, q_c5, q_c6, q_c9, q_c13, decide_true, decide_false, Int.reduceEq, Int.reduceLT, Int.reduceLE, Int.reduceAdd, Int.reduceSub, Int.reduceMul, Int.reduceNeg, Int.reducePow, Int.reduceToNat, Int.reduceBNe, Int.reduceNe, Nat.zero_le, q_get, q_cst, q_lift, q_un, q_with, q_av0, q_avC, q_callN, q_callKW, q_andD, q_orD, q_notD, q_fAnd, q_fOr, q_fNot, q_fTru, q_fBoo, q_ifD, q_isN, q_fIsN, q_fNotN, startD, q_bind, q_toS, q_rt, q_nx, q_thn_nx, q_thn_rt, q_okO, q_nxO, q_pure, q_none0, q_none1, q_none2, q_none3, q_none4, q_tru_bl, q_tru_int, q_tru_lst, q_tru_tup, q_tru_non, q_boo, q_seqL, q_seqT, q_lenL, q_lenT, q_eqI, q_neI, q_lt, q_le, q_gt, q_ge, q_add, q_addL, q_sub, q_neg, q_abs, q_int, q_intB, q_max, q_gcd, q_tupL, q_gL, q_gT, q_g0, q_g1, q_g2, q_lc, q_par, q_parO, q_whS, q_slc, q_prt0, q_prt1, q_intR, q_slcL, q_slcT, q_zipL, q_zipT, q_allp, List.length_map, wipeE, List.map_cons, List.map_nil, List.length_cons, List.length_nil, List.replicate, List.cons_append, List.nil_append, List.getElem?_cons_zero, List.getElem?_cons_succ, List.set_cons_zero, List.set_cons_succ, Nat.reduceSub, Nat.reduceAdd, if_true, Bool.not_true, Bool.not_false, Bool.false_eq_true, if_false, reduceIte, setD, List.foldl_cons, List.foldl_nil, q_asgN, q_asgT, q_asgL, q_asgs0, q_asgsC, Option.bind_some, List.append_nil, q_put', q_putO1, q_neL1, *]
    · refine ⟨mix e turn % many, ⟨c :: cs, turn + 1, left⟩, ?_, r0 _, r1 _, rfl, hl0⟩
      have b1 := decide_eq_false b1
      clear h0 h1 hm hl hc hl0 r0 r1 hlen
      simp only [q_def, q_seq, q_ite, q_ret, q_set, q_drop, q_asg, q_for, q_for0, q_fc, q_frd_nx, q_frd_rt, q_frd_ct, q_frd_bk, q_turn, q_mkLst, q_mkTup, Nat.reduceLeDiff, q_and_bl, q_or_bl, q_c0, q_c1, q_c2, q_c3, q_c4, q_c5, q_c6, q_c9, q_c13, decide_true, decide_false, Int.reduceEq, Int.reduceLT, Int.reduceLE, Int.reduceAdd, Int.reduceSub, Int.reduceMul, Int.reduceNeg, Int.reducePow, Int.reduceToNat, Int.reduceBNe, Int.reduceNe, Nat.zero_le, q_get, q_cst, q_lift, q_un, q_with, q_av0, q_avC, q_callN, q_callKW, q_andD, q_orD, q_notD, q_fAnd, q_fOr, q_fNot, q_fTru, q_fBoo, q_ifD, q_isN, q_fIsN, q_fNotN, startD, q_bind, q_toS, q_rt, q_nx, q_thn_nx, q_thn_rt, q_okO, q_nxO, q_pure, q_none0, q_none1, q_none2, q_none3, q_none4, q_tru_bl, q_tru_int, q_tru_lst, q_tru_tup, q_tru_non, q_boo, q_seqL, q_seqT, q_lenL, q_lenT, q_eqI, q_neI, q_lt, q_le, q_gt, q_ge, q_add, q_addL, q_sub, q_neg, q_abs, q_int, q_intB, q_max, q_gcd, q_tupL, q_gL, q_gT, q_g0, q_g1, q_g2, q_lc, q_par, q_parO, q_whS, q_slc, q_prt0, q_prt1, q_intR, q_slcL, q_slcT, q_zipL, q_zipT, q_allp, List.length_map, wipeE, List.map_cons, List.map_nil, List.length_cons, List.length_nil, List.replicate, List.cons_append, List.nil_append, List.getElem?_cons_zero, List.getElem?_cons_succ, List.set_cons_zero, List.set_cons_succ, Nat.reduceSub, Nat.reduceAdd, if_true, Bool.not_true, Bool.not_false, Bool.false_eq_true, if_false, reduceIte, setD, List.foldl_cons, List.foldl_nil, q_asgN, q_asgT, q_asgL, q_asgs0, q_asgsC, Option.bind_some, List.append_nil, q_put', q_putO1, q_neL1, *]
theorem sift_eq {b : Int} {s : Deck} (G : Good b s) (hb : b ≤ 1000000) {many : Int} (hm : 0 < many) (hl : many.natAbs.log2 < 9000) :
    ∃ r s', m_law_deal [.deck, .int many] s = .ok (.int r) s' ∧ 0 ≤ r ∧ r < many ∧ Good (b + 1) s' := by
  have t1 := G.t1
  by_cases h : 0 < s.left
  · exact ⟨_, _, sift_left many s hm hl h, Int.emod_nonneg _ (by omega), Int.emod_lt_of_pos _ hm, G.t0, by show s.turn ≤ b + 1; omega, Int.ediv_nonneg G.l0 (by omega)⟩
  · obtain ⟨r, s', e, h0, h1, ht, hl⟩ := sift_new many s hm hl h G.t0 (by omega) G.l0
    have t0 := G.t0
    exact ⟨r, s', e, h0, h1, by omega, by omega, hl⟩
end K00

namespace K00
open PySem PySem.Builtin PySem.Builtin.Str L2 FL
theorem pick_eq {b : Int} {s : Deck} (G : Good b s) (hb : b ≤ 1000000) (xs : List D) (h0 : 0 < xs.length) (hl : ((xs.length : Nat) : Int).natAbs.log2 < 9000) :
    ∃ x s', m_law_pick [.deck, .lst xs] s = .ok x s' ∧ x ∈ xs ∧ Good (b + 1) s' := by
  obtain ⟨r, s', e, r0, r1, G'⟩ := sift_eq G hb (many := (xs.length : Int)) (by omega) hl
  obtain ⟨x, hx, ex⟩ := atI_in r0 r1
  refine ⟨x, s', ?_, hx, G'⟩
  unfold m_law_pick g_law_pick
  clear hx r0 r1 G G' hb h0 hl
  simp only [q_def, q_seq, q_ite, q_ret, q_set, q_drop, q_asg, q_for, q_for0, q_fc, q_frd_nx, q_frd_rt, q_frd_ct, q_frd_bk, q_turn, q_mkLst, q_mkTup, Nat.reduceLeDiff, q_and_bl, q_or_bl, q_c0, q_c1, q_c2, q_c3, q_c4, q_c5, q_c6, q_c9, q_c13, decide_true, decide_false, Int.reduceEq, Int.reduceLT, Int.reduceLE, Int.reduceAdd, Int.reduceSub, Int.reduceMul, Int.reduceNeg, Int.reducePow, Int.reduceToNat, Int.reduceBNe, Int.reduceNe, Nat.zero_le, q_get, q_cst, q_lift, q_un, q_with, q_av0, q_avC, q_callN, q_callKW, q_andD, q_orD, q_notD, q_fAnd, q_fOr, q_fNot, q_fTru, q_fBoo, q_ifD, q_isN, q_fIsN, q_fNotN, startD, q_bind, q_toS, q_rt, q_nx, q_thn_nx, q_thn_rt, q_okO, q_nxO, q_pure, q_none0, q_none1, q_none2, q_none3, q_none4, q_tru_bl, q_tru_int, q_tru_lst, q_tru_tup, q_tru_non, q_boo, q_seqL, q_seqT, q_lenL, q_lenT, q_eqI, q_neI, q_lt, q_le, q_gt, q_ge, q_add, q_addL, q_sub, q_neg, q_abs, q_int, q_intB, q_max, q_gcd, q_tupL, q_gL, q_gT, q_g0, q_g1, q_g2, q_lc, q_par, q_parO, q_whS, q_slc, q_prt0, q_prt1, q_intR, q_slcL, q_slcT, q_zipL, q_zipT, q_allp, List.length_map, wipeE, List.map_cons, List.map_nil, List.length_cons, List.length_nil, List.replicate, List.cons_append, List.nil_append, List.getElem?_cons_zero, List.getElem?_cons_succ, List.set_cons_zero, List.set_cons_succ, Nat.reduceSub, Nat.reduceAdd, if_true, Bool.not_true, Bool.not_false, Bool.false_eq_true, if_false, reduceIte, setD, List.foldl_cons, List.foldl_nil, q_asgN, q_asgT, q_asgL, q_asgs0, q_asgsC, Option.bind_some, List.append_nil, *]
def valL : List D := [.non, .bl true, .int 5, .int (-7), .tup [.int 7, .int 2], .str "piece", .lst [.int 1, .lst [.int 2]], .dct [(.inr "a", .int 1)], .tup [], .str "", .int 1000000000000000000000000000000]
theorem ten30 (s : Deck) : powM (.int 10) (.int 30) s = .ok (.int 1000000000000000000000000000000) s := q_pow (by decide)
theorem q_dv0 {δ : DEnv} {s : Deck} : dv0 δ s = .ok [] s := rfl
theorem q_dvC {f g : FE} {h : FP} {δ : DEnv} {s : Deck} : dvC f g h δ s = (f δ s).bind fun x s => (g δ s).bind fun y s => (h δ s).bind fun r s => .ok ((x, y) :: r) s := rfl
theorem q_dct {s : Deck} : mkDct [(.str "a", .int 1)] s = .ok (.dct [(.inr "a", .int 1)]) s := rfl
theorem value_eq {b : Int} {s : Deck} (G : Good b s) (hb : b + 1 ≤ 1000000) : ∃ x s', m_law_value [.deck] s = .ok x s' ∧ x ∈ valL ∧ Good (b + 1) s' := by
  obtain ⟨x, s1, e1, hx, G1⟩ := pick_eq G (by omega) valL (by decide) (by decide)
  refine ⟨x, s1, ?_, hx, G1⟩
  unfold valL at e1
  unfold m_law_value g_law_value
  clear G G1 hb hx
  simp only [q_def, q_seq, q_ite, q_ret, q_set, q_drop, q_asg, q_for, q_for0, q_fc, q_frd_nx, q_frd_rt, q_frd_ct, q_frd_bk, q_turn, q_mkLst, q_mkTup, Nat.reduceLeDiff, q_and_bl, q_or_bl, q_c0, q_c1, q_c2, q_c3, q_c4, q_c5, q_c6, q_c9, q_c13, decide_true, decide_false, Int.reduceEq, Int.reduceLT, Int.reduceLE, Int.reduceAdd, Int.reduceSub, Int.reduceMul, Int.reduceNeg, Int.reducePow, Int.reduceToNat, Int.reduceBNe, Int.reduceNe, Nat.zero_le, q_get, q_cst, q_lift, q_un, q_with, q_av0, q_avC, q_callN, q_callKW, q_andD, q_orD, q_notD, q_fAnd, q_fOr, q_fNot, q_fTru, q_fBoo, q_ifD, q_isN, q_fIsN, q_fNotN, startD, q_bind, q_toS, q_rt, q_nx, q_thn_nx, q_thn_rt, q_okO, q_nxO, q_pure, q_none0, q_none1, q_none2, q_none3, q_none4, q_tru_bl, q_tru_int, q_tru_lst, q_tru_tup, q_tru_non, q_boo, q_seqL, q_seqT, q_lenL, q_lenT, q_eqI, q_neI, q_lt, q_le, q_gt, q_ge, q_add, q_addL, q_sub, q_neg, q_abs, q_int, q_intB, q_max, q_gcd, q_tupL, q_gL, q_gT, q_g0, q_g1, q_g2, q_lc, q_par, q_parO, q_whS, q_slc, q_prt0, q_prt1, q_intR, q_slcL, q_slcT, q_zipL, q_zipT, q_allp, List.length_map, wipeE, List.map_cons, List.map_nil, List.length_cons, List.length_nil, List.replicate, List.cons_append, List.nil_append, List.getElem?_cons_zero, List.getElem?_cons_succ, List.set_cons_zero, List.set_cons_succ, Nat.reduceSub, Nat.reduceAdd, if_true, Bool.not_true, Bool.not_false, Bool.false_eq_true, if_false, reduceIte, setD, List.foldl_cons, List.foldl_nil, q_asgN, q_asgT, q_asgL, q_asgs0, q_asgsC, Option.bind_some, List.append_nil, ten30, q_dv0, q_dvC, q_dct, *]
/-! ### what repr gives -/
def cp (z : Str) : List Nat := z.cps.toList
structure Lo (n : Nat) (x : Str) : Prop where
  low : ∀ c ∈ cp x, c < 128
  len : x.length ≤ n
theorem Lo.app {m n : Nat} {a b : Str} (h : Lo m a) (k : Lo n b) : Lo (m + n) (a ++ b) := by
  refine ⟨fun c hc => ?_, ?_⟩
  · rcases PyProof.Rows.mem_cps_append.mp hc with q | q
    · exact h.low c q
    · exact k.low c q
  · rw [PySem.Str.length_append]
    have := h.len
    have := k.len
    omega
theorem Lo.mono {m n : Nat} {a : Str} (h : Lo m a) (k : m ≤ n) : Lo n a := ⟨h.low, Nat.le_trans h.len k⟩
theorem lo_shaped {n : Nat} {x : Str} (h : Lo n x) : SeqAt.shaped (PyData.str x) = true := by
  have e : PyData.strOk x = true := by
    unfold PyData.strOk
    rw [← Array.all_toList, List.all_eq_true]
    intro c hc
    have := h.low c hc
    exact decide_eq_true (by omega)
  unfold SeqAt.shaped
  simp only [PyData.canLay0, e, Bool.true_and, PyData.depth]
  rfl
theorem lo_lit {x : Str} {n : Nat} (h : (x.cps.toList.all (· < 128) && decide (x.length ≤ n)) = true) : Lo n x := by
  simp only [Bool.and_eq_true, List.all_eq_true, decide_eq_true_eq] at h
  exact ⟨h.1, h.2⟩
theorem lo_list1 {a : Str} {n : Nat} (h : Lo n a) : Lo (n + 2) (listText [a]) := by
  show Lo _ ((("[" : Str) ++ (("" : String) : Str) ++ a) ++ ("]" : Str))
  exact ((((lo_lit (n := 1) (by decide +kernel)).app (lo_lit (n := 0) (by decide +kernel))).app h).app (lo_lit (n := 1) (by decide +kernel))).mono (by omega)
theorem lo_list2 {a b : Str} {m n : Nat} (h : Lo m a) (k : Lo n b) : Lo (m + n + 4) (listText [a, b]) := by
  show Lo _ (((("[" : Str) ++ (("" : String) : Str) ++ a) ++ ((", " : String) : Str) ++ b) ++ ("]" : Str))
  exact ((((((lo_lit (n := 1) (by decide +kernel)).app (lo_lit (n := 0) (by decide +kernel))).app h).app (lo_lit (n := 2) (by decide +kernel))).app k).app (lo_lit (n := 1) (by decide +kernel))).mono (by omega)
structure VOk (x : D) : Prop where
  ex : ∃ p, py x = some p ∧ itemOk x = true ∧ p.showable = true ∧ p.depth ≤ 5 ∧ Lo 60 p.shown
theorem val_ok : ∀ x ∈ valL, VOk x := by
  intro x hx
  simp only [valL, List.mem_cons, List.not_mem_nil, or_false] at hx
  rcases hx with rfl | rfl | rfl | rfl | rfl | rfl | rfl | rfl | rfl | rfl | rfl
  all_goals exact ⟨⟨_, rfl, by decide +kernel, by decide +kernel, by decide +kernel, lo_lit (by decide +kernel)⟩⟩
structure ShowsL (d : D) : Prop where
  ex : ∃ t : Str, (∀ s, reprLM [d] s = .ok (.str t) s) ∧ ∀ s, eqM (.str t) (.str t) s = .ok (.bl true) s
theorem eq_str {n : Nat} {x : Str} (h : Lo n x) (s : Deck) : eqM (.str x) (.str x) s = .ok (.bl true) s := by
  have k := lo_shaped h
  have hx : py (.str x) = some (.str x) := rfl
  unfold eqM eqO
  simp only [hx, k, if_true, Option.map_some, PyData.eqv, beq_self_eq_true]
  rfl
theorem shows1 {x : D} (h : VOk x) : ShowsL (.lst [x]) := by
  obtain ⟨p, h1, h2, h3, h4, h5⟩ := h
  have lo := lo_list1 h5
  have e : pys [x] = some [p] := by simp only [pys, h1, Option.bind_some, Option.map_some]
  have e2 : PyData.shownAll [p] = [p.shown] := by simp only [PyData.shownAll]
  refine ⟨listText [p.shown], fun s => ?_, fun s => eq_str lo s⟩
  unfold reprLM
  simp only [e]
  rw [if_pos (by simp only [List.all_cons, List.all_nil, h2, Bool.and_self]), if_pos (by simp only [PyData.showableAll, h3, Bool.and_self]), if_pos (by simp only [PyData.depthAll]; omega), e2, if_pos (by have := lo.len; omega)]
theorem shows2 {x y : D} (h : VOk x) (k : VOk y) : ShowsL (.lst [x, y]) := by
  obtain ⟨p, h1, h2, h3, h4, h5⟩ := h
  obtain ⟨q, k1, k2, k3, k4, k5⟩ := k
  have lo := lo_list2 h5 k5
  have e : pys [x, y] = some [p, q] := by simp only [pys, h1, k1, Option.bind_some, Option.map_some]
  have e2 : PyData.shownAll [p, q] = [p.shown, q.shown] := by simp only [PyData.shownAll]
  refine ⟨listText [p.shown, q.shown], fun s => ?_, fun s => eq_str lo s⟩
  unfold reprLM
  simp only [e]
  rw [if_pos (by simp only [List.all_cons, List.all_nil, h2, k2, Bool.and_self]), if_pos (by simp only [PyData.showableAll, h3, k3, Bool.and_self]), if_pos (by simp only [PyData.depthAll]; omega), e2, if_pos (by have := lo.len; omega)]
/-! ### errors -/
theorem q_rs {x : Str} {fl : List Str} {fs : FA} {δ : DEnv} {s : Deck} : raiseS x fl fs δ s = (fs δ s).toS δ fun ds s => if ds.length = fl.length then .raise ⟨x, (fl.zip ds).reverse⟩ δ s else .bad := rfl
theorem q_rks {x : Str} {fl : List Str} {nk : Nat} {perm : List Nat} {fs : FA} {δ : DEnv} {s : Deck} : raiseKS x fl nk perm fs δ s = (fs δ s).toS δ fun ds s => if ds.length = nk then (if perm.length = fl.length then .raise ⟨x, (fl.zip (permL .non perm ds)).reverse⟩ δ s else .bad) else .bad := rfl
theorem q_braise {α β : Type} {e : Ex} {s : Deck} {h : α → Deck → R β} : (R.raise e s).bind h = .raise e s := rfl
theorem q_thn_raise' {e : Ex} {δ : DEnv} {s : Deck} {gs : FS} : (RS.raise e δ s).thn gs = .raise e δ s := rfl
theorem q_perm1 {a : D} : permL .non [0] [a] = [a] := rfl
theorem q_perm2 {a b : D} : permL .non [1, 0] [a, b] = [b, a] := rfl
theorem q_zip1 {f : Str} {a : D} : ([f].zip [a]).reverse = [(f, a)] := rfl
theorem q_zip2 {f g : Str} {a b : D} : ([f, g].zip [a, b]).reverse = [(g, b), (f, a)] := rfl
theorem q_toRr {e : Ex} {δ : DEnv} {s : Deck} : toR (.raise e δ s) = .raise e s := rfl
def isxO (tbl : Str → Str → Option Bool) (y : Str) (x : D) : M D := fun s => match x with
  | .exc c _ => pureM ((tbl c y).map .bl) s
  | _ => .bad
theorem q_isx {tbl : Str → Str → Option Bool} {f : FE} {y : Str} {δ : DEnv} {s : Deck} : isxF tbl f y δ s = (f δ s).bind fun x s => isxO tbl y x s := by
  unfold isxF isxO
  congr 1
theorem q_isxO {tbl : Str → Str → Option Bool} {y c : Str} {fs : List (Str × D)} {b : Bool} {s : Deck} (h : tbl c y = some b) : isxO tbl y (.exc c fs) s = .ok (.bl b) s := by
  unfold isxO
  simp only [h, Option.map_some]
  rfl
def fldO (fT : Str → Str → Bool) (n : Str) (x : D) : M D := fun s => match x with
  | .exc c fs => if fT c n = true then pureM (fs.lookup n) s else .bad
  | _ => .bad
theorem q_fldF {fT : Str → Str → Bool} {f : FE} {n : Str} {δ : DEnv} {s : Deck} : fldF fT f n δ s = (f δ s).bind fun x s => fldO fT n x s := by
  unfold fldF fldO
  congr 1
theorem q_fldO {fT : Str → Str → Bool} {n c : Str} {fs : List (Str × D)} {d : D} {s : Deck} (h : fT c n = true) (l : fs.lookup n = some d) : fldO fT n (.exc c fs) s = .ok d s := by
  unfold fldO
  simp only [h, if_true, l]
  rfl
theorem q_keep {tb : Str → Str → Option Bool} {g : FS} {y : Str} {i j : Nat} {e : Ex} {δ δ' : DEnv} {s s' : Deck} (hg : g δ s = .raise e δ' s') (hl : i < δ'.length) (ht : tb e.cls y = some true) : keepS tb g y i j δ s = .nx (((δ'.set i none).set j (some (.exc e.cls e.flds))).set i none) s' := by
  unfold keepS
  rw [hg]
  simp only []
  rw [if_pos hl, ht]
def idxs : Nat → List Bool → List D
  | _, [] => []
  | i, b :: bs => if b = true then .int (i : Nat) :: idxs (i + 1) bs else idxs (i + 1) bs
theorem kinds_comp (x0 x1 : Option D) (s : Deck) : ∀ (bs : List Bool) (i : Nat), compD (elemD (.tp [(.nm 3), (.nm 4)]) [2, 3, 4] (fTru (getE 4)) (getE 3) [x0, x1, none, none, none]) (pairsI i (bs.map .bl)) s = .ok (idxs i bs) s
  | [], i => rfl
  | b :: bs, i => by
    have ih := kinds_comp x0 x1 s bs (i + 1)
    have e : elemD (.tp [(.nm 3), (.nm 4)]) [2, 3, 4] (fTru (getE 4)) (getE 3) [x0, x1, none, none, none] (.tup [.int (i : Nat), .bl b]) s = .ok (if b = true then some (.int (i : Nat)) else none) s := by
      unfold elemD
      rw [show asgP (.tp [(.nm 3), (.nm 4)]) (.tup [.int (i : Nat), .bl b]) = some [(3, .int (i : Nat)), (4, .bl b)] from rfl]
      simp only [show patIn [2, 3, 4] [(3, D.int (i : Nat)), (4, D.bl b)] = true from rfl, if_true]
      clear ih
      cases b <;> simp only [q_def, q_seq, q_ite, q_ret, q_set, q_drop, q_asg, q_for, q_for0, q_fc, q_frd_nx, q_frd_rt, q_frd_ct, q_frd_bk, q_turn, q_mkLst, q_mkTup, Nat.reduceLeDiff, q_and_bl, q_or_bl, q_c0, q_c1, q_c2, q_c3, q_c4, q_c5, q_c6, q_c9, q_c13, decide_true, decide_false, Int.reduceEq, Int.reduceLT, Int.reduceLE, Int.reduceAdd, Int.reduceSub, Int.reduceMul, Int.reduceNeg, Int.reducePow, Int.reduceToNat, Int.reduceBNe, Int.reduceNe, Nat.zero_le, q_get, q_cst, q_lift, q_un, q_with, q_av0, q_avC, q_callN, q_callKW, q_andD, q_orD, q_notD, q_fAnd, q_fOr, q_fNot, q_fTru, q_fBoo, q_ifD, q_isN, q_fIsN, q_fNotN, startD, q_bind, q_toS, q_rt, q_nx, q_thn_nx, q_thn_rt, q_okO, q_nxO, q_pure, q_none0, q_none1, q_none2, q_none3, q_none4, q_tru_bl, q_tru_int, q_tru_lst, q_tru_tup, q_tru_non, q_boo, q_seqL, q_seqT, q_lenL, q_lenT, q_eqI, q_neI, q_lt, q_le, q_gt, q_ge, q_add, q_addL, q_sub, q_neg, q_abs, q_int, q_intB, q_max, q_gcd, q_tupL, q_gL, q_gT, q_g0, q_g1, q_g2, q_lc, q_par, q_parO, q_whS, q_slc, q_prt0, q_prt1, q_intR, q_slcL, q_slcT, q_zipL, q_zipT, q_allp, List.length_map, wipeE, List.map_cons, List.map_nil, List.length_cons, List.length_nil, List.replicate, List.cons_append, List.nil_append, List.getElem?_cons_zero, List.getElem?_cons_succ, List.set_cons_zero, List.set_cons_succ, Nat.reduceSub, Nat.reduceAdd, if_true, Bool.not_true, Bool.not_false, Bool.false_eq_true, if_false, reduceIte, setD, List.foldl_cons, List.foldl_nil, q_asgN, q_asgT, q_asgL, q_asgs0, q_asgsC, Option.bind_some, List.append_nil, *]
    show compD _ (.tup [.int (i : Nat), .bl b] :: pairsI (i + 1) (bs.map .bl)) s = _
    unfold compD
    rw [e]
    simp only []
    rw [ih]
    cases b <;> rfl
def enumO (xs : List D) : M (List D) := fun s => .ok (pairsI 0 xs) s
theorem q_enum {xs : List D} {s : Deck} : enumM [.lst xs] s = .ok (pairsI 0 xs) s := rfl

theorem q_none_exc {c : Str} {fs : List (Str × D)} : isNone (.exc c fs) = false := rfl
def ex0 (one other : D) : Ex := ⟨"BadNumber", [("part", one)]⟩
theorem raises0 (one other : D) (k : Bool) (s : Deck) : m_law_raises [.int 0, one, other, .bl k] s = .raise (ex0 one other) s := by
  unfold m_law_raises g_law_raises m_law_named g_law_named m_law_first g_law_first ex0
  cases k <;> simp only [q_def, q_seq, q_ite, q_ret, q_set, q_drop, q_asg, q_for, q_for0, q_fc, q_frd_nx, q_frd_rt, q_frd_ct, q_frd_bk, q_turn, q_mkLst, q_mkTup, Nat.reduceLeDiff, q_and_bl, q_or_bl, q_c0, q_c1, q_c2, q_c3, q_c4, q_c5, q_c6, q_c9, q_c13, decide_true, decide_false, Int.reduceEq, Int.reduceLT, Int.reduceLE, Int.reduceAdd, Int.reduceSub, Int.reduceMul, Int.reduceNeg, Int.reducePow, Int.reduceToNat, Int.reduceBNe, Int.reduceNe, Nat.zero_le, q_get, q_cst, q_lift, q_un, q_with, q_av0, q_avC, q_callN, q_callKW, q_andD, q_orD, q_notD, q_fAnd, q_fOr, q_fNot, q_fTru, q_fBoo, q_ifD, q_isN, q_fIsN, q_fNotN, startD, q_bind, q_toS, q_rt, q_nx, q_thn_nx, q_thn_rt, q_okO, q_nxO, q_pure, q_none0, q_none1, q_none2, q_none3, q_none4, q_tru_bl, q_tru_int, q_tru_lst, q_tru_tup, q_tru_non, q_boo, q_seqL, q_seqT, q_lenL, q_lenT, q_eqI, q_neI, q_lt, q_le, q_gt, q_ge, q_add, q_addL, q_sub, q_neg, q_abs, q_int, q_intB, q_max, q_gcd, q_tupL, q_gL, q_gT, q_g0, q_g1, q_g2, q_lc, q_par, q_parO, q_whS, q_slc, q_prt0, q_prt1, q_intR, q_slcL, q_slcT, q_zipL, q_zipT, q_allp, List.length_map, wipeE, List.map_cons, List.map_nil, List.length_cons, List.length_nil, List.replicate, List.cons_append, List.nil_append, List.getElem?_cons_zero, List.getElem?_cons_succ, List.set_cons_zero, List.set_cons_succ, Nat.reduceSub, Nat.reduceAdd, if_true, Bool.not_true, Bool.not_false, Bool.false_eq_true, if_false, reduceIte, setD, List.foldl_cons, List.foldl_nil, q_asgN, q_asgT, q_asgL, q_asgs0, q_asgsC, Option.bind_some, List.append_nil, q_drop, q_rs, q_rks, q_perm1, q_perm2, q_zip1, q_zip2, q_braise, q_toS_raise, q_thn_raise', q_toRr, List.length_singleton, *]
theorem kinds0 (fs : List (Str × D)) (s : Deck) : m_law_kinds [.exc "BadNumber" fs] s = .ok (.lst [.int 0]) s := by
  have t0 := fun (fs : List (Str × D)) (s : Deck) => q_isxO (tbl := tbl) (fs := fs) (s := s) (show tbl "BadNumber" "BadNumber" = some true by decide +kernel)
  have t1 := fun (fs : List (Str × D)) (s : Deck) => q_isxO (tbl := tbl) (fs := fs) (s := s) (show tbl "BadNumber" "BadPiece" = some false by decide +kernel)
  have t2 := fun (fs : List (Str × D)) (s : Deck) => q_isxO (tbl := tbl) (fs := fs) (s := s) (show tbl "BadNumber" "BadFrame" = some false by decide +kernel)
  have t3 := fun (fs : List (Str × D)) (s : Deck) => q_isxO (tbl := tbl) (fs := fs) (s := s) (show tbl "BadNumber" "BadBook" = some false by decide +kernel)
  have t4 := fun (fs : List (Str × D)) (s : Deck) => q_isxO (tbl := tbl) (fs := fs) (s := s) (show tbl "BadNumber" "BadProgram" = some false by decide +kernel)
  have t5 := fun (fs : List (Str × D)) (s : Deck) => q_isxO (tbl := tbl) (fs := fs) (s := s) (show tbl "BadNumber" "BadPlayer" = some false by decide +kernel)
  have t6 := fun (fs : List (Str × D)) (s : Deck) => q_isxO (tbl := tbl) (fs := fs) (s := s) (show tbl "BadNumber" "BadPaper" = some false by decide +kernel)
  have t7 := fun (fs : List (Str × D)) (s : Deck) => q_isxO (tbl := tbl) (fs := fs) (s := s) (show tbl "BadNumber" "Misfit" = some false by decide +kernel)
  have t8 := fun (fs : List (Str × D)) (s : Deck) => q_isxO (tbl := tbl) (fs := fs) (s := s) (show tbl "BadNumber" "NoWay" = some false by decide +kernel)
  have t9 := fun (fs : List (Str × D)) (s : Deck) => q_isxO (tbl := tbl) (fs := fs) (s := s) (show tbl "BadNumber" "NoPart" = some false by decide +kernel)
  have t10 := fun (fs : List (Str × D)) (s : Deck) => q_isxO (tbl := tbl) (fs := fs) (s := s) (show tbl "BadNumber" "Impossible" = some false by decide +kernel)
  have t11 := fun (fs : List (Str × D)) (s : Deck) => q_isxO (tbl := tbl) (fs := fs) (s := s) (show tbl "BadNumber" "TooMany" = some false by decide +kernel)
  have t12 := fun (fs : List (Str × D)) (s : Deck) => q_isxO (tbl := tbl) (fs := fs) (s := s) (show tbl "BadNumber" "BadText" = some false by decide +kernel)
  have kc := fun (x0 x1 : Option D) (s : Deck) => kinds_comp x0 x1 s [true, false, false, false, false, false, false, false, false, false, false, false, false] 0
  simp only [List.map_cons, List.map_nil] at kc
  have ki : idxs 0 [true, false, false, false, false, false, false, false, false, false, false, false, false] = [.int 0] := rfl
  rw [ki] at kc
  clear ki
  unfold m_law_kinds g_law_kinds
  simp only [q_def, q_seq, q_ite, q_ret, q_set, q_drop, q_asg, q_for, q_for0, q_fc, q_frd_nx, q_frd_rt, q_frd_ct, q_frd_bk, q_turn, q_mkLst, q_mkTup, Nat.reduceLeDiff, q_and_bl, q_or_bl, q_c0, q_c1, q_c2, q_c3, q_c4, q_c5, q_c6, q_c9, q_c13, decide_true, decide_false, Int.reduceEq, Int.reduceLT, Int.reduceLE, Int.reduceAdd, Int.reduceSub, Int.reduceMul, Int.reduceNeg, Int.reducePow, Int.reduceToNat, Int.reduceBNe, Int.reduceNe, Nat.zero_le, q_get, q_cst, q_lift, q_un, q_with, q_av0, q_avC, q_callN, q_callKW, q_andD, q_orD, q_notD, q_fAnd, q_fOr, q_fNot, q_fTru, q_fBoo, q_ifD, q_isN, q_fIsN, q_fNotN, startD, q_bind, q_toS, q_rt, q_nx, q_thn_nx, q_thn_rt, q_okO, q_nxO, q_pure, q_none0, q_none1, q_none2, q_none3, q_none4, q_tru_bl, q_tru_int, q_tru_lst, q_tru_tup, q_tru_non, q_boo, q_seqL, q_seqT, q_lenL, q_lenT, q_eqI, q_neI, q_lt, q_le, q_gt, q_ge, q_add, q_addL, q_sub, q_neg, q_abs, q_int, q_intB, q_max, q_gcd, q_tupL, q_gL, q_gT, q_g0, q_g1, q_g2, q_lc, q_par, q_parO, q_whS, q_slc, q_prt0, q_prt1, q_intR, q_slcL, q_slcT, q_zipL, q_zipT, q_allp, List.length_map, wipeE, List.map_cons, List.map_nil, List.length_cons, List.length_nil, List.replicate, List.cons_append, List.nil_append, List.getElem?_cons_zero, List.getElem?_cons_succ, List.set_cons_zero, List.set_cons_succ, Nat.reduceSub, Nat.reduceAdd, if_true, Bool.not_true, Bool.not_false, Bool.false_eq_true, if_false, reduceIte, setD, List.foldl_cons, List.foldl_nil, q_asgN, q_asgT, q_asgL, q_asgs0, q_asgsC, Option.bind_some, List.append_nil, q_isx, q_enum, *]
theorem fields0 (one other : D) (s : Deck) : m_law_fields [.int 0, .exc "BadNumber" [("part", one)]] s = .ok (.lst [one]) s := by
  have f0 := fun (s : Deck) => q_fldO (fT := fT) (fs := [("part", one)]) (d := one) (s := s) (show fT "BadNumber" "part" = true by decide +kernel) (by first | rfl | (simp [List.lookup]; done))
  unfold m_law_fields g_law_fields
  simp only [q_def, q_seq, q_ite, q_ret, q_set, q_drop, q_asg, q_for, q_for0, q_fc, q_frd_nx, q_frd_rt, q_frd_ct, q_frd_bk, q_turn, q_mkLst, q_mkTup, Nat.reduceLeDiff, q_and_bl, q_or_bl, q_c0, q_c1, q_c2, q_c3, q_c4, q_c5, q_c6, q_c9, q_c13, decide_true, decide_false, Int.reduceEq, Int.reduceLT, Int.reduceLE, Int.reduceAdd, Int.reduceSub, Int.reduceMul, Int.reduceNeg, Int.reducePow, Int.reduceToNat, Int.reduceBNe, Int.reduceNe, Nat.zero_le, q_get, q_cst, q_lift, q_un, q_with, q_av0, q_avC, q_callN, q_callKW, q_andD, q_orD, q_notD, q_fAnd, q_fOr, q_fNot, q_fTru, q_fBoo, q_ifD, q_isN, q_fIsN, q_fNotN, startD, q_bind, q_toS, q_rt, q_nx, q_thn_nx, q_thn_rt, q_okO, q_nxO, q_pure, q_none0, q_none1, q_none2, q_none3, q_none4, q_tru_bl, q_tru_int, q_tru_lst, q_tru_tup, q_tru_non, q_boo, q_seqL, q_seqT, q_lenL, q_lenT, q_eqI, q_neI, q_lt, q_le, q_gt, q_ge, q_add, q_addL, q_sub, q_neg, q_abs, q_int, q_intB, q_max, q_gcd, q_tupL, q_gL, q_gT, q_g0, q_g1, q_g2, q_lc, q_par, q_parO, q_whS, q_slc, q_prt0, q_prt1, q_intR, q_slcL, q_slcT, q_zipL, q_zipT, q_allp, List.length_map, wipeE, List.map_cons, List.map_nil, List.length_cons, List.length_nil, List.replicate, List.cons_append, List.nil_append, List.getElem?_cons_zero, List.getElem?_cons_succ, List.set_cons_zero, List.set_cons_succ, Nat.reduceSub, Nat.reduceAdd, if_true, Bool.not_true, Bool.not_false, Bool.false_eq_true, if_false, reduceIte, setD, List.foldl_cons, List.foldl_nil, q_asgN, q_asgT, q_asgL, q_asgs0, q_asgsC, Option.bind_some, List.append_nil, q_fldF, *]
theorem right0 {one other : D} (h : VOk one) (h' : VOk other) (k : Bool) (s : Deck) : m_law_right [.int 0, one, other, .bl k] s = .ok (.bl true) s := by
  obtain ⟨t, t1, t2⟩ := shows1 h
  have rs := fun s => raises0 one other k s
  have kd := fun s => kinds0 [("part", one)] s
  have fd := fun s => fields0 one other s
  have v1 := fun (fs : List (Str × D)) (s : Deck) => q_isxO (tbl := tbx) (fs := fs) (s := s) (show tbx "BadNumber" "ValueError" = some true by decide +kernel)
  have v2 := fun (fs : List (Str × D)) (s : Deck) => q_isxO (tbl := tbx) (fs := fs) (s := s) (show tbx "BadNumber" "LookupError" = some false by decide +kernel)
  have v3 := fun (fs : List (Str × D)) (s : Deck) => q_isxO (tbl := tbx) (fs := fs) (s := s) (show tbx "BadNumber" "TypeError" = some false by decide +kernel)
  have v4 := fun (fs : List (Str × D)) (s : Deck) => q_isxO (tbl := tbx) (fs := fs) (s := s) (show tbx "BadNumber" "ArithmeticError" = some false by decide +kernel)
  have v5 := fun (fs : List (Str × D)) (s : Deck) => q_isxO (tbl := tbx) (fs := fs) (s := s) (show tbx "BadNumber" "RuntimeError" = some false by decide +kernel)
  have ne : ∀ s : Deck, neM (.lst [.int 0]) (.lst [.int 0]) s = .ok (.bl false) s := fun s => rfl
  have kp : keepS tbl (dropS (withA (avC (getE 0) (avC (getE 1) (avC (getE 2) (avC (getE 3) av0)))) (callN 4 m_law_raises))) "PlayError" 5 4 [some (.int 0), some one, some other, some (.bl k), some .non, none, none] s
      = .nx [some (.int 0), some one, some other, some (.bl k), some (.exc "BadNumber" [("part", one)]), none, none] s :=
    q_keep (e := ex0 one other) (δ' := [some (.int 0), some one, some other, some (.bl k), some .non, none, none]) (by
      clear v1 v2 v3 v4 v5 ne kd fd t1 t2
      simp only [q_def, q_seq, q_ite, q_ret, q_set, q_drop, q_asg, q_for, q_for0, q_fc, q_frd_nx, q_frd_rt, q_frd_ct, q_frd_bk, q_turn, q_mkLst, q_mkTup, Nat.reduceLeDiff, q_and_bl, q_or_bl, q_c0, q_c1, q_c2, q_c3, q_c4, q_c5, q_c6, q_c9, q_c13, decide_true, decide_false, Int.reduceEq, Int.reduceLT, Int.reduceLE, Int.reduceAdd, Int.reduceSub, Int.reduceMul, Int.reduceNeg, Int.reducePow, Int.reduceToNat, Int.reduceBNe, Int.reduceNe, Nat.zero_le, q_get, q_cst, q_lift, q_un, q_with, q_av0, q_avC, q_callN, q_callKW, q_andD, q_orD, q_notD, q_fAnd, q_fOr, q_fNot, q_fTru, q_fBoo, q_ifD, q_isN, q_fIsN, q_fNotN, startD, q_bind, q_toS, q_rt, q_nx, q_thn_nx, q_thn_rt, q_okO, q_nxO, q_pure, q_none0, q_none1, q_none2, q_none3, q_none4, q_tru_bl, q_tru_int, q_tru_lst, q_tru_tup, q_tru_non, q_boo, q_seqL, q_seqT, q_lenL, q_lenT, q_eqI, q_neI, q_lt, q_le, q_gt, q_ge, q_add, q_addL, q_sub, q_neg, q_abs, q_int, q_intB, q_max, q_gcd, q_tupL, q_gL, q_gT, q_g0, q_g1, q_g2, q_lc, q_par, q_parO, q_whS, q_slc, q_prt0, q_prt1, q_intR, q_slcL, q_slcT, q_zipL, q_zipT, q_allp, List.length_map, wipeE, List.map_cons, List.map_nil, List.length_cons, List.length_nil, List.replicate, List.cons_append, List.nil_append, List.getElem?_cons_zero, List.getElem?_cons_succ, List.set_cons_zero, List.set_cons_succ, Nat.reduceSub, Nat.reduceAdd, if_true, Bool.not_true, Bool.not_false, Bool.false_eq_true, if_false, reduceIte, setD, List.foldl_cons, List.foldl_nil, q_asgN, q_asgT, q_asgL, q_asgs0, q_asgsC, Option.bind_some, List.append_nil, q_drop, q_braise, q_toS_raise, *]) (by show 5 < 7; decide) (show tbl "BadNumber" "PlayError" = some true by decide +kernel)
  unfold m_law_right g_law_right
  clear h h' rs
  generalize keepS tbl _ "PlayError" 5 4 = kS at *
  simp only [q_def, q_seq, q_ite, q_ret, q_set, q_drop, q_asg, q_for, q_for0, q_fc, q_frd_nx, q_frd_rt, q_frd_ct, q_frd_bk, q_turn, q_mkLst, q_mkTup, Nat.reduceLeDiff, q_and_bl, q_or_bl, q_c0, q_c1, q_c2, q_c3, q_c4, q_c5, q_c6, q_c9, q_c13, decide_true, decide_false, Int.reduceEq, Int.reduceLT, Int.reduceLE, Int.reduceAdd, Int.reduceSub, Int.reduceMul, Int.reduceNeg, Int.reducePow, Int.reduceToNat, Int.reduceBNe, Int.reduceNe, Nat.zero_le, q_get, q_cst, q_lift, q_un, q_with, q_av0, q_avC, q_callN, q_callKW, q_andD, q_orD, q_notD, q_fAnd, q_fOr, q_fNot, q_fTru, q_fBoo, q_ifD, q_isN, q_fIsN, q_fNotN, startD, q_bind, q_toS, q_rt, q_nx, q_thn_nx, q_thn_rt, q_okO, q_nxO, q_pure, q_none0, q_none1, q_none2, q_none3, q_none4, q_tru_bl, q_tru_int, q_tru_lst, q_tru_tup, q_tru_non, q_boo, q_seqL, q_seqT, q_lenL, q_lenT, q_eqI, q_neI, q_lt, q_le, q_gt, q_ge, q_add, q_addL, q_sub, q_neg, q_abs, q_int, q_intB, q_max, q_gcd, q_tupL, q_gL, q_gT, q_g0, q_g1, q_g2, q_lc, q_par, q_parO, q_whS, q_slc, q_prt0, q_prt1, q_intR, q_slcL, q_slcT, q_zipL, q_zipT, q_allp, List.length_map, wipeE, List.map_cons, List.map_nil, List.length_cons, List.length_nil, List.replicate, List.cons_append, List.nil_append, List.getElem?_cons_zero, List.getElem?_cons_succ, List.set_cons_zero, List.set_cons_succ, Nat.reduceSub, Nat.reduceAdd, if_true, Bool.not_true, Bool.not_false, Bool.false_eq_true, if_false, reduceIte, setD, List.foldl_cons, List.foldl_nil, q_asgN, q_asgT, q_asgL, q_asgs0, q_asgsC, Option.bind_some, List.append_nil, q_isx, q_fIsN, q_none_exc, *]
def ex1 (one other : D) : Ex := ⟨"BadPiece", [("part", one)]⟩
theorem raises1 (one other : D) (k : Bool) (s : Deck) : m_law_raises [.int 1, one, other, .bl k] s = .raise (ex1 one other) s := by
  unfold m_law_raises g_law_raises m_law_named g_law_named m_law_first g_law_first ex1
  cases k <;> simp only [q_def, q_seq, q_ite, q_ret, q_set, q_drop, q_asg, q_for, q_for0, q_fc, q_frd_nx, q_frd_rt, q_frd_ct, q_frd_bk, q_turn, q_mkLst, q_mkTup, Nat.reduceLeDiff, q_and_bl, q_or_bl, q_c0, q_c1, q_c2, q_c3, q_c4, q_c5, q_c6, q_c9, q_c13, decide_true, decide_false, Int.reduceEq, Int.reduceLT, Int.reduceLE, Int.reduceAdd, Int.reduceSub, Int.reduceMul, Int.reduceNeg, Int.reducePow, Int.reduceToNat, Int.reduceBNe, Int.reduceNe, Nat.zero_le, q_get, q_cst, q_lift, q_un, q_with, q_av0, q_avC, q_callN, q_callKW, q_andD, q_orD, q_notD, q_fAnd, q_fOr, q_fNot, q_fTru, q_fBoo, q_ifD, q_isN, q_fIsN, q_fNotN, startD, q_bind, q_toS, q_rt, q_nx, q_thn_nx, q_thn_rt, q_okO, q_nxO, q_pure, q_none0, q_none1, q_none2, q_none3, q_none4, q_tru_bl, q_tru_int, q_tru_lst, q_tru_tup, q_tru_non, q_boo, q_seqL, q_seqT, q_lenL, q_lenT, q_eqI, q_neI, q_lt, q_le, q_gt, q_ge, q_add, q_addL, q_sub, q_neg, q_abs, q_int, q_intB, q_max, q_gcd, q_tupL, q_gL, q_gT, q_g0, q_g1, q_g2, q_lc, q_par, q_parO, q_whS, q_slc, q_prt0, q_prt1, q_intR, q_slcL, q_slcT, q_zipL, q_zipT, q_allp, List.length_map, wipeE, List.map_cons, List.map_nil, List.length_cons, List.length_nil, List.replicate, List.cons_append, List.nil_append, List.getElem?_cons_zero, List.getElem?_cons_succ, List.set_cons_zero, List.set_cons_succ, Nat.reduceSub, Nat.reduceAdd, if_true, Bool.not_true, Bool.not_false, Bool.false_eq_true, if_false, reduceIte, setD, List.foldl_cons, List.foldl_nil, q_asgN, q_asgT, q_asgL, q_asgs0, q_asgsC, Option.bind_some, List.append_nil, q_drop, q_rs, q_rks, q_perm1, q_perm2, q_zip1, q_zip2, q_braise, q_toS_raise, q_thn_raise', q_toRr, List.length_singleton, *]
theorem kinds1 (fs : List (Str × D)) (s : Deck) : m_law_kinds [.exc "BadPiece" fs] s = .ok (.lst [.int 1]) s := by
  have t0 := fun (fs : List (Str × D)) (s : Deck) => q_isxO (tbl := tbl) (fs := fs) (s := s) (show tbl "BadPiece" "BadNumber" = some false by decide +kernel)
  have t1 := fun (fs : List (Str × D)) (s : Deck) => q_isxO (tbl := tbl) (fs := fs) (s := s) (show tbl "BadPiece" "BadPiece" = some true by decide +kernel)
  have t2 := fun (fs : List (Str × D)) (s : Deck) => q_isxO (tbl := tbl) (fs := fs) (s := s) (show tbl "BadPiece" "BadFrame" = some false by decide +kernel)
  have t3 := fun (fs : List (Str × D)) (s : Deck) => q_isxO (tbl := tbl) (fs := fs) (s := s) (show tbl "BadPiece" "BadBook" = some false by decide +kernel)
  have t4 := fun (fs : List (Str × D)) (s : Deck) => q_isxO (tbl := tbl) (fs := fs) (s := s) (show tbl "BadPiece" "BadProgram" = some false by decide +kernel)
  have t5 := fun (fs : List (Str × D)) (s : Deck) => q_isxO (tbl := tbl) (fs := fs) (s := s) (show tbl "BadPiece" "BadPlayer" = some false by decide +kernel)
  have t6 := fun (fs : List (Str × D)) (s : Deck) => q_isxO (tbl := tbl) (fs := fs) (s := s) (show tbl "BadPiece" "BadPaper" = some false by decide +kernel)
  have t7 := fun (fs : List (Str × D)) (s : Deck) => q_isxO (tbl := tbl) (fs := fs) (s := s) (show tbl "BadPiece" "Misfit" = some false by decide +kernel)
  have t8 := fun (fs : List (Str × D)) (s : Deck) => q_isxO (tbl := tbl) (fs := fs) (s := s) (show tbl "BadPiece" "NoWay" = some false by decide +kernel)
  have t9 := fun (fs : List (Str × D)) (s : Deck) => q_isxO (tbl := tbl) (fs := fs) (s := s) (show tbl "BadPiece" "NoPart" = some false by decide +kernel)
  have t10 := fun (fs : List (Str × D)) (s : Deck) => q_isxO (tbl := tbl) (fs := fs) (s := s) (show tbl "BadPiece" "Impossible" = some false by decide +kernel)
  have t11 := fun (fs : List (Str × D)) (s : Deck) => q_isxO (tbl := tbl) (fs := fs) (s := s) (show tbl "BadPiece" "TooMany" = some false by decide +kernel)
  have t12 := fun (fs : List (Str × D)) (s : Deck) => q_isxO (tbl := tbl) (fs := fs) (s := s) (show tbl "BadPiece" "BadText" = some false by decide +kernel)
  have kc := fun (x0 x1 : Option D) (s : Deck) => kinds_comp x0 x1 s [false, true, false, false, false, false, false, false, false, false, false, false, false] 0
  simp only [List.map_cons, List.map_nil] at kc
  have ki : idxs 0 [false, true, false, false, false, false, false, false, false, false, false, false, false] = [.int 1] := rfl
  rw [ki] at kc
  clear ki
  unfold m_law_kinds g_law_kinds
  simp only [q_def, q_seq, q_ite, q_ret, q_set, q_drop, q_asg, q_for, q_for0, q_fc, q_frd_nx, q_frd_rt, q_frd_ct, q_frd_bk, q_turn, q_mkLst, q_mkTup, Nat.reduceLeDiff, q_and_bl, q_or_bl, q_c0, q_c1, q_c2, q_c3, q_c4, q_c5, q_c6, q_c9, q_c13, decide_true, decide_false, Int.reduceEq, Int.reduceLT, Int.reduceLE, Int.reduceAdd, Int.reduceSub, Int.reduceMul, Int.reduceNeg, Int.reducePow, Int.reduceToNat, Int.reduceBNe, Int.reduceNe, Nat.zero_le, q_get, q_cst, q_lift, q_un, q_with, q_av0, q_avC, q_callN, q_callKW, q_andD, q_orD, q_notD, q_fAnd, q_fOr, q_fNot, q_fTru, q_fBoo, q_ifD, q_isN, q_fIsN, q_fNotN, startD, q_bind, q_toS, q_rt, q_nx, q_thn_nx, q_thn_rt, q_okO, q_nxO, q_pure, q_none0, q_none1, q_none2, q_none3, q_none4, q_tru_bl, q_tru_int, q_tru_lst, q_tru_tup, q_tru_non, q_boo, q_seqL, q_seqT, q_lenL, q_lenT, q_eqI, q_neI, q_lt, q_le, q_gt, q_ge, q_add, q_addL, q_sub, q_neg, q_abs, q_int, q_intB, q_max, q_gcd, q_tupL, q_gL, q_gT, q_g0, q_g1, q_g2, q_lc, q_par, q_parO, q_whS, q_slc, q_prt0, q_prt1, q_intR, q_slcL, q_slcT, q_zipL, q_zipT, q_allp, List.length_map, wipeE, List.map_cons, List.map_nil, List.length_cons, List.length_nil, List.replicate, List.cons_append, List.nil_append, List.getElem?_cons_zero, List.getElem?_cons_succ, List.set_cons_zero, List.set_cons_succ, Nat.reduceSub, Nat.reduceAdd, if_true, Bool.not_true, Bool.not_false, Bool.false_eq_true, if_false, reduceIte, setD, List.foldl_cons, List.foldl_nil, q_asgN, q_asgT, q_asgL, q_asgs0, q_asgsC, Option.bind_some, List.append_nil, q_isx, q_enum, *]
theorem fields1 (one other : D) (s : Deck) : m_law_fields [.int 1, .exc "BadPiece" [("part", one)]] s = .ok (.lst [one]) s := by
  have f0 := fun (s : Deck) => q_fldO (fT := fT) (fs := [("part", one)]) (d := one) (s := s) (show fT "BadPiece" "part" = true by decide +kernel) (by first | rfl | (simp [List.lookup]; done))
  unfold m_law_fields g_law_fields
  simp only [q_def, q_seq, q_ite, q_ret, q_set, q_drop, q_asg, q_for, q_for0, q_fc, q_frd_nx, q_frd_rt, q_frd_ct, q_frd_bk, q_turn, q_mkLst, q_mkTup, Nat.reduceLeDiff, q_and_bl, q_or_bl, q_c0, q_c1, q_c2, q_c3, q_c4, q_c5, q_c6, q_c9, q_c13, decide_true, decide_false, Int.reduceEq, Int.reduceLT, Int.reduceLE, Int.reduceAdd, Int.reduceSub, Int.reduceMul, Int.reduceNeg, Int.reducePow, Int.reduceToNat, Int.reduceBNe, Int.reduceNe, Nat.zero_le, q_get, q_cst, q_lift, q_un, q_with, q_av0, q_avC, q_callN, q_callKW, q_andD, q_orD, q_notD, q_fAnd, q_fOr, q_fNot, q_fTru, q_fBoo, q_ifD, q_isN, q_fIsN, q_fNotN, startD, q_bind, q_toS, q_rt, q_nx, q_thn_nx, q_thn_rt, q_okO, q_nxO, q_pure, q_none0, q_none1, q_none2, q_none3, q_none4, q_tru_bl, q_tru_int, q_tru_lst, q_tru_tup, q_tru_non, q_boo, q_seqL, q_seqT, q_lenL, q_lenT, q_eqI, q_neI, q_lt, q_le, q_gt, q_ge, q_add, q_addL, q_sub, q_neg, q_abs, q_int, q_intB, q_max, q_gcd, q_tupL, q_gL, q_gT, q_g0, q_g1, q_g2, q_lc, q_par, q_parO, q_whS, q_slc, q_prt0, q_prt1, q_intR, q_slcL, q_slcT, q_zipL, q_zipT, q_allp, List.length_map, wipeE, List.map_cons, List.map_nil, List.length_cons, List.length_nil, List.replicate, List.cons_append, List.nil_append, List.getElem?_cons_zero, List.getElem?_cons_succ, List.set_cons_zero, List.set_cons_succ, Nat.reduceSub, Nat.reduceAdd, if_true, Bool.not_true, Bool.not_false, Bool.false_eq_true, if_false, reduceIte, setD, List.foldl_cons, List.foldl_nil, q_asgN, q_asgT, q_asgL, q_asgs0, q_asgsC, Option.bind_some, List.append_nil, q_fldF, *]
theorem right1 {one other : D} (h : VOk one) (h' : VOk other) (k : Bool) (s : Deck) : m_law_right [.int 1, one, other, .bl k] s = .ok (.bl true) s := by
  obtain ⟨t, t1, t2⟩ := shows1 h
  have rs := fun s => raises1 one other k s
  have kd := fun s => kinds1 [("part", one)] s
  have fd := fun s => fields1 one other s
  have v1 := fun (fs : List (Str × D)) (s : Deck) => q_isxO (tbl := tbx) (fs := fs) (s := s) (show tbx "BadPiece" "ValueError" = some true by decide +kernel)
  have v2 := fun (fs : List (Str × D)) (s : Deck) => q_isxO (tbl := tbx) (fs := fs) (s := s) (show tbx "BadPiece" "LookupError" = some false by decide +kernel)
  have v3 := fun (fs : List (Str × D)) (s : Deck) => q_isxO (tbl := tbx) (fs := fs) (s := s) (show tbx "BadPiece" "TypeError" = some false by decide +kernel)
  have v4 := fun (fs : List (Str × D)) (s : Deck) => q_isxO (tbl := tbx) (fs := fs) (s := s) (show tbx "BadPiece" "ArithmeticError" = some false by decide +kernel)
  have v5 := fun (fs : List (Str × D)) (s : Deck) => q_isxO (tbl := tbx) (fs := fs) (s := s) (show tbx "BadPiece" "RuntimeError" = some false by decide +kernel)
  have ne : ∀ s : Deck, neM (.lst [.int 1]) (.lst [.int 1]) s = .ok (.bl false) s := fun s => rfl
  have kp : keepS tbl (dropS (withA (avC (getE 0) (avC (getE 1) (avC (getE 2) (avC (getE 3) av0)))) (callN 4 m_law_raises))) "PlayError" 5 4 [some (.int 1), some one, some other, some (.bl k), some .non, none, none] s
      = .nx [some (.int 1), some one, some other, some (.bl k), some (.exc "BadPiece" [("part", one)]), none, none] s :=
    q_keep (e := ex1 one other) (δ' := [some (.int 1), some one, some other, some (.bl k), some .non, none, none]) (by
      clear v1 v2 v3 v4 v5 ne kd fd t1 t2
      simp only [q_def, q_seq, q_ite, q_ret, q_set, q_drop, q_asg, q_for, q_for0, q_fc, q_frd_nx, q_frd_rt, q_frd_ct, q_frd_bk, q_turn, q_mkLst, q_mkTup, Nat.reduceLeDiff, q_and_bl, q_or_bl, q_c0, q_c1, q_c2, q_c3, q_c4, q_c5, q_c6, q_c9, q_c13, decide_true, decide_false, Int.reduceEq, Int.reduceLT, Int.reduceLE, Int.reduceAdd, Int.reduceSub, Int.reduceMul, Int.reduceNeg, Int.reducePow, Int.reduceToNat, Int.reduceBNe, Int.reduceNe, Nat.zero_le, q_get, q_cst, q_lift, q_un, q_with, q_av0, q_avC, q_callN, q_callKW, q_andD, q_orD, q_notD, q_fAnd, q_fOr, q_fNot, q_fTru, q_fBoo, q_ifD, q_isN, q_fIsN, q_fNotN, startD, q_bind, q_toS, q_rt, q_nx, q_thn_nx, q_thn_rt, q_okO, q_nxO, q_pure, q_none0, q_none1, q_none2, q_none3, q_none4, q_tru_bl, q_tru_int, q_tru_lst, q_tru_tup, q_tru_non, q_boo, q_seqL, q_seqT, q_lenL, q_lenT, q_eqI, q_neI, q_lt, q_le, q_gt, q_ge, q_add, q_addL, q_sub, q_neg, q_abs, q_int, q_intB, q_max, q_gcd, q_tupL, q_gL, q_gT, q_g0, q_g1, q_g2, q_lc, q_par, q_parO, q_whS, q_slc, q_prt0, q_prt1, q_intR, q_slcL, q_slcT, q_zipL, q_zipT, q_allp, List.length_map, wipeE, List.map_cons, List.map_nil, List.length_cons, List.length_nil, List.replicate, List.cons_append, List.nil_append, List.getElem?_cons_zero, List.getElem?_cons_succ, List.set_cons_zero, List.set_cons_succ, Nat.reduceSub, Nat.reduceAdd, if_true, Bool.not_true, Bool.not_false, Bool.false_eq_true, if_false, reduceIte, setD, List.foldl_cons, List.foldl_nil, q_asgN, q_asgT, q_asgL, q_asgs0, q_asgsC, Option.bind_some, List.append_nil, q_drop, q_braise, q_toS_raise, *]) (by show 5 < 7; decide) (show tbl "BadPiece" "PlayError" = some true by decide +kernel)
  unfold m_law_right g_law_right
  clear h h' rs
  generalize keepS tbl _ "PlayError" 5 4 = kS at *
  simp only [q_def, q_seq, q_ite, q_ret, q_set, q_drop, q_asg, q_for, q_for0, q_fc, q_frd_nx, q_frd_rt, q_frd_ct, q_frd_bk, q_turn, q_mkLst, q_mkTup, Nat.reduceLeDiff, q_and_bl, q_or_bl, q_c0, q_c1, q_c2, q_c3, q_c4, q_c5, q_c6, q_c9, q_c13, decide_true, decide_false, Int.reduceEq, Int.reduceLT, Int.reduceLE, Int.reduceAdd, Int.reduceSub, Int.reduceMul, Int.reduceNeg, Int.reducePow, Int.reduceToNat, Int.reduceBNe, Int.reduceNe, Nat.zero_le, q_get, q_cst, q_lift, q_un, q_with, q_av0, q_avC, q_callN, q_callKW, q_andD, q_orD, q_notD, q_fAnd, q_fOr, q_fNot, q_fTru, q_fBoo, q_ifD, q_isN, q_fIsN, q_fNotN, startD, q_bind, q_toS, q_rt, q_nx, q_thn_nx, q_thn_rt, q_okO, q_nxO, q_pure, q_none0, q_none1, q_none2, q_none3, q_none4, q_tru_bl, q_tru_int, q_tru_lst, q_tru_tup, q_tru_non, q_boo, q_seqL, q_seqT, q_lenL, q_lenT, q_eqI, q_neI, q_lt, q_le, q_gt, q_ge, q_add, q_addL, q_sub, q_neg, q_abs, q_int, q_intB, q_max, q_gcd, q_tupL, q_gL, q_gT, q_g0, q_g1, q_g2, q_lc, q_par, q_parO, q_whS, q_slc, q_prt0, q_prt1, q_intR, q_slcL, q_slcT, q_zipL, q_zipT, q_allp, List.length_map, wipeE, List.map_cons, List.map_nil, List.length_cons, List.length_nil, List.replicate, List.cons_append, List.nil_append, List.getElem?_cons_zero, List.getElem?_cons_succ, List.set_cons_zero, List.set_cons_succ, Nat.reduceSub, Nat.reduceAdd, if_true, Bool.not_true, Bool.not_false, Bool.false_eq_true, if_false, reduceIte, setD, List.foldl_cons, List.foldl_nil, q_asgN, q_asgT, q_asgL, q_asgs0, q_asgsC, Option.bind_some, List.append_nil, q_isx, q_fIsN, q_none_exc, *]
def ex2 (one other : D) : Ex := ⟨"BadFrame", [("part", one)]⟩
theorem raises2 (one other : D) (k : Bool) (s : Deck) : m_law_raises [.int 2, one, other, .bl k] s = .raise (ex2 one other) s := by
  unfold m_law_raises g_law_raises m_law_named g_law_named m_law_first g_law_first ex2
  cases k <;> simp only [q_def, q_seq, q_ite, q_ret, q_set, q_drop, q_asg, q_for, q_for0, q_fc, q_frd_nx, q_frd_rt, q_frd_ct, q_frd_bk, q_turn, q_mkLst, q_mkTup, Nat.reduceLeDiff, q_and_bl, q_or_bl, q_c0, q_c1, q_c2, q_c3, q_c4, q_c5, q_c6, q_c9, q_c13, decide_true, decide_false, Int.reduceEq, Int.reduceLT, Int.reduceLE, Int.reduceAdd, Int.reduceSub, Int.reduceMul, Int.reduceNeg, Int.reducePow, Int.reduceToNat, Int.reduceBNe, Int.reduceNe, Nat.zero_le, q_get, q_cst, q_lift, q_un, q_with, q_av0, q_avC, q_callN, q_callKW, q_andD, q_orD, q_notD, q_fAnd, q_fOr, q_fNot, q_fTru, q_fBoo, q_ifD, q_isN, q_fIsN, q_fNotN, startD, q_bind, q_toS, q_rt, q_nx, q_thn_nx, q_thn_rt, q_okO, q_nxO, q_pure, q_none0, q_none1, q_none2, q_none3, q_none4, q_tru_bl, q_tru_int, q_tru_lst, q_tru_tup, q_tru_non, q_boo, q_seqL, q_seqT, q_lenL, q_lenT, q_eqI, q_neI, q_lt, q_le, q_gt, q_ge, q_add, q_addL, q_sub, q_neg, q_abs, q_int, q_intB, q_max, q_gcd, q_tupL, q_gL, q_gT, q_g0, q_g1, q_g2, q_lc, q_par, q_parO, q_whS, q_slc, q_prt0, q_prt1, q_intR, q_slcL, q_slcT, q_zipL, q_zipT, q_allp, List.length_map, wipeE, List.map_cons, List.map_nil, List.length_cons, List.length_nil, List.replicate, List.cons_append, List.nil_append, List.getElem?_cons_zero, List.getElem?_cons_succ, List.set_cons_zero, List.set_cons_succ, Nat.reduceSub, Nat.reduceAdd, if_true, Bool.not_true, Bool.not_false, Bool.false_eq_true, if_false, reduceIte, setD, List.foldl_cons, List.foldl_nil, q_asgN, q_asgT, q_asgL, q_asgs0, q_asgsC, Option.bind_some, List.append_nil, q_drop, q_rs, q_rks, q_perm1, q_perm2, q_zip1, q_zip2, q_braise, q_toS_raise, q_thn_raise', q_toRr, List.length_singleton, *]
theorem kinds2 (fs : List (Str × D)) (s : Deck) : m_law_kinds [.exc "BadFrame" fs] s = .ok (.lst [.int 2]) s := by
  have t0 := fun (fs : List (Str × D)) (s : Deck) => q_isxO (tbl := tbl) (fs := fs) (s := s) (show tbl "BadFrame" "BadNumber" = some false by decide +kernel)
  have t1 := fun (fs : List (Str × D)) (s : Deck) => q_isxO (tbl := tbl) (fs := fs) (s := s) (show tbl "BadFrame" "BadPiece" = some false by decide +kernel)
  have t2 := fun (fs : List (Str × D)) (s : Deck) => q_isxO (tbl := tbl) (fs := fs) (s := s) (show tbl "BadFrame" "BadFrame" = some true by decide +kernel)
  have t3 := fun (fs : List (Str × D)) (s : Deck) => q_isxO (tbl := tbl) (fs := fs) (s := s) (show tbl "BadFrame" "BadBook" = some false by decide +kernel)
  have t4 := fun (fs : List (Str × D)) (s : Deck) => q_isxO (tbl := tbl) (fs := fs) (s := s) (show tbl "BadFrame" "BadProgram" = some false by decide +kernel)
  have t5 := fun (fs : List (Str × D)) (s : Deck) => q_isxO (tbl := tbl) (fs := fs) (s := s) (show tbl "BadFrame" "BadPlayer" = some false by decide +kernel)
  have t6 := fun (fs : List (Str × D)) (s : Deck) => q_isxO (tbl := tbl) (fs := fs) (s := s) (show tbl "BadFrame" "BadPaper" = some false by decide +kernel)
  have t7 := fun (fs : List (Str × D)) (s : Deck) => q_isxO (tbl := tbl) (fs := fs) (s := s) (show tbl "BadFrame" "Misfit" = some false by decide +kernel)
  have t8 := fun (fs : List (Str × D)) (s : Deck) => q_isxO (tbl := tbl) (fs := fs) (s := s) (show tbl "BadFrame" "NoWay" = some false by decide +kernel)
  have t9 := fun (fs : List (Str × D)) (s : Deck) => q_isxO (tbl := tbl) (fs := fs) (s := s) (show tbl "BadFrame" "NoPart" = some false by decide +kernel)
  have t10 := fun (fs : List (Str × D)) (s : Deck) => q_isxO (tbl := tbl) (fs := fs) (s := s) (show tbl "BadFrame" "Impossible" = some false by decide +kernel)
  have t11 := fun (fs : List (Str × D)) (s : Deck) => q_isxO (tbl := tbl) (fs := fs) (s := s) (show tbl "BadFrame" "TooMany" = some false by decide +kernel)
  have t12 := fun (fs : List (Str × D)) (s : Deck) => q_isxO (tbl := tbl) (fs := fs) (s := s) (show tbl "BadFrame" "BadText" = some false by decide +kernel)
  have kc := fun (x0 x1 : Option D) (s : Deck) => kinds_comp x0 x1 s [false, false, true, false, false, false, false, false, false, false, false, false, false] 0
  simp only [List.map_cons, List.map_nil] at kc
  have ki : idxs 0 [false, false, true, false, false, false, false, false, false, false, false, false, false] = [.int 2] := rfl
  rw [ki] at kc
  clear ki
  unfold m_law_kinds g_law_kinds
  simp only [q_def, q_seq, q_ite, q_ret, q_set, q_drop, q_asg, q_for, q_for0, q_fc, q_frd_nx, q_frd_rt, q_frd_ct, q_frd_bk, q_turn, q_mkLst, q_mkTup, Nat.reduceLeDiff, q_and_bl, q_or_bl, q_c0, q_c1, q_c2, q_c3, q_c4, q_c5, q_c6, q_c9, q_c13, decide_true, decide_false, Int.reduceEq, Int.reduceLT, Int.reduceLE, Int.reduceAdd, Int.reduceSub, Int.reduceMul, Int.reduceNeg, Int.reducePow, Int.reduceToNat, Int.reduceBNe, Int.reduceNe, Nat.zero_le, q_get, q_cst, q_lift, q_un, q_with, q_av0, q_avC, q_callN, q_callKW, q_andD, q_orD, q_notD, q_fAnd, q_fOr, q_fNot, q_fTru, q_fBoo, q_ifD, q_isN, q_fIsN, q_fNotN, startD, q_bind, q_toS, q_rt, q_nx, q_thn_nx, q_thn_rt, q_okO, q_nxO, q_pure, q_none0, q_none1, q_none2, q_none3, q_none4, q_tru_bl, q_tru_int, q_tru_lst, q_tru_tup, q_tru_non, q_boo, q_seqL, q_seqT, q_lenL, q_lenT, q_eqI, q_neI, q_lt, q_le, q_gt, q_ge, q_add, q_addL, q_sub, q_neg, q_abs, q_int, q_intB, q_max, q_gcd, q_tupL, q_gL, q_gT, q_g0, q_g1, q_g2, q_lc, q_par, q_parO, q_whS, q_slc, q_prt0, q_prt1, q_intR, q_slcL, q_slcT, q_zipL, q_zipT, q_allp, List.length_map, wipeE, List.map_cons, List.map_nil, List.length_cons, List.length_nil, List.replicate, List.cons_append, List.nil_append, List.getElem?_cons_zero, List.getElem?_cons_succ, List.set_cons_zero, List.set_cons_succ, Nat.reduceSub, Nat.reduceAdd, if_true, Bool.not_true, Bool.not_false, Bool.false_eq_true, if_false, reduceIte, setD, List.foldl_cons, List.foldl_nil, q_asgN, q_asgT, q_asgL, q_asgs0, q_asgsC, Option.bind_some, List.append_nil, q_isx, q_enum, *]
theorem fields2 (one other : D) (s : Deck) : m_law_fields [.int 2, .exc "BadFrame" [("part", one)]] s = .ok (.lst [one]) s := by
  have f0 := fun (s : Deck) => q_fldO (fT := fT) (fs := [("part", one)]) (d := one) (s := s) (show fT "BadFrame" "part" = true by decide +kernel) (by first | rfl | (simp [List.lookup]; done))
  unfold m_law_fields g_law_fields
  simp only [q_def, q_seq, q_ite, q_ret, q_set, q_drop, q_asg, q_for, q_for0, q_fc, q_frd_nx, q_frd_rt, q_frd_ct, q_frd_bk, q_turn, q_mkLst, q_mkTup, Nat.reduceLeDiff, q_and_bl, q_or_bl, q_c0, q_c1, q_c2, q_c3, q_c4, q_c5, q_c6, q_c9, q_c13, decide_true, decide_false, Int.reduceEq, Int.reduceLT, Int.reduceLE, Int.reduceAdd, Int.reduceSub, Int.reduceMul, Int.reduceNeg, Int.reducePow, Int.reduceToNat, Int.reduceBNe, Int.reduceNe, Nat.zero_le, q_get, q_cst, q_lift, q_un, q_with, q_av0, q_avC, q_callN, q_callKW, q_andD, q_orD, q_notD, q_fAnd, q_fOr, q_fNot, q_fTru, q_fBoo, q_ifD, q_isN, q_fIsN, q_fNotN, startD, q_bind, q_toS, q_rt, q_nx, q_thn_nx, q_thn_rt, q_okO, q_nxO, q_pure, q_none0, q_none1, q_none2, q_none3, q_none4, q_tru_bl, q_tru_int, q_tru_lst, q_tru_tup, q_tru_non, q_boo, q_seqL, q_seqT, q_lenL, q_lenT, q_eqI, q_neI, q_lt, q_le, q_gt, q_ge, q_add, q_addL, q_sub, q_neg, q_abs, q_int, q_intB, q_max, q_gcd, q_tupL, q_gL, q_gT, q_g0, q_g1, q_g2, q_lc, q_par, q_parO, q_whS, q_slc, q_prt0, q_prt1, q_intR, q_slcL, q_slcT, q_zipL, q_zipT, q_allp, List.length_map, wipeE, List.map_cons, List.map_nil, List.length_cons, List.length_nil, List.replicate, List.cons_append, List.nil_append, List.getElem?_cons_zero, List.getElem?_cons_succ, List.set_cons_zero, List.set_cons_succ, Nat.reduceSub, Nat.reduceAdd, if_true, Bool.not_true, Bool.not_false, Bool.false_eq_true, if_false, reduceIte, setD, List.foldl_cons, List.foldl_nil, q_asgN, q_asgT, q_asgL, q_asgs0, q_asgsC, Option.bind_some, List.append_nil, q_fldF, *]
theorem right2 {one other : D} (h : VOk one) (h' : VOk other) (k : Bool) (s : Deck) : m_law_right [.int 2, one, other, .bl k] s = .ok (.bl true) s := by
  obtain ⟨t, t1, t2⟩ := shows1 h
  have rs := fun s => raises2 one other k s
  have kd := fun s => kinds2 [("part", one)] s
  have fd := fun s => fields2 one other s
  have v1 := fun (fs : List (Str × D)) (s : Deck) => q_isxO (tbl := tbx) (fs := fs) (s := s) (show tbx "BadFrame" "ValueError" = some true by decide +kernel)
  have v2 := fun (fs : List (Str × D)) (s : Deck) => q_isxO (tbl := tbx) (fs := fs) (s := s) (show tbx "BadFrame" "LookupError" = some false by decide +kernel)
  have v3 := fun (fs : List (Str × D)) (s : Deck) => q_isxO (tbl := tbx) (fs := fs) (s := s) (show tbx "BadFrame" "TypeError" = some false by decide +kernel)
  have v4 := fun (fs : List (Str × D)) (s : Deck) => q_isxO (tbl := tbx) (fs := fs) (s := s) (show tbx "BadFrame" "ArithmeticError" = some false by decide +kernel)
  have v5 := fun (fs : List (Str × D)) (s : Deck) => q_isxO (tbl := tbx) (fs := fs) (s := s) (show tbx "BadFrame" "RuntimeError" = some false by decide +kernel)
  have ne : ∀ s : Deck, neM (.lst [.int 2]) (.lst [.int 2]) s = .ok (.bl false) s := fun s => rfl
  have kp : keepS tbl (dropS (withA (avC (getE 0) (avC (getE 1) (avC (getE 2) (avC (getE 3) av0)))) (callN 4 m_law_raises))) "PlayError" 5 4 [some (.int 2), some one, some other, some (.bl k), some .non, none, none] s
      = .nx [some (.int 2), some one, some other, some (.bl k), some (.exc "BadFrame" [("part", one)]), none, none] s :=
    q_keep (e := ex2 one other) (δ' := [some (.int 2), some one, some other, some (.bl k), some .non, none, none]) (by
      clear v1 v2 v3 v4 v5 ne kd fd t1 t2
      simp only [q_def, q_seq, q_ite, q_ret, q_set, q_drop, q_asg, q_for, q_for0, q_fc, q_frd_nx, q_frd_rt, q_frd_ct, q_frd_bk, q_turn, q_mkLst, q_mkTup, Nat.reduceLeDiff, q_and_bl, q_or_bl, q_c0, q_c1, q_c2, q_c3, q_c4, q_c5, q_c6, q_c9, q_c13, decide_true, decide_false, Int.reduceEq, Int.reduceLT, Int.reduceLE, Int.reduceAdd, Int.reduceSub, Int.reduceMul, Int.reduceNeg, Int.reducePow, Int.reduceToNat, Int.reduceBNe, Int.reduceNe, Nat.zero_le, q_get, q_cst, q_lift, q_un, q_with, q_av0, q_avC, q_callN, q_callKW, q_andD, q_orD, q_notD, q_fAnd, q_fOr, q_fNot, q_fTru, q_fBoo, q_ifD, q_isN, q_fIsN, q_fNotN, startD, q_bind, q_toS, q_rt, q_nx, q_thn_nx, q_thn_rt, q_okO, q_nxO, q_pure, q_none0, q_none1, q_none2, q_none3, q_none4, q_tru_bl, q_tru_int, q_tru_lst, q_tru_tup, q_tru_non, q_boo, q_seqL, q_seqT, q_lenL, q_lenT, q_eqI, q_neI, q_lt, q_le, q_gt, q_ge, q_add, q_addL, q_sub, q_neg, q_abs, q_int, q_intB, q_max, q_gcd, q_tupL, q_gL, q_gT, q_g0, q_g1, q_g2, q_lc, q_par, q_parO, q_whS, q_slc, q_prt0, q_prt1, q_intR, q_slcL, q_slcT, q_zipL, q_zipT, q_allp, List.length_map, wipeE, List.map_cons, List.map_nil, List.length_cons, List.length_nil, List.replicate, List.cons_append, List.nil_append, List.getElem?_cons_zero, List.getElem?_cons_succ, List.set_cons_zero, List.set_cons_succ, Nat.reduceSub, Nat.reduceAdd, if_true, Bool.not_true, Bool.not_false, Bool.false_eq_true, if_false, reduceIte, setD, List.foldl_cons, List.foldl_nil, q_asgN, q_asgT, q_asgL, q_asgs0, q_asgsC, Option.bind_some, List.append_nil, q_drop, q_braise, q_toS_raise, *]) (by show 5 < 7; decide) (show tbl "BadFrame" "PlayError" = some true by decide +kernel)
  unfold m_law_right g_law_right
  clear h h' rs
  generalize keepS tbl _ "PlayError" 5 4 = kS at *
  simp only [q_def, q_seq, q_ite, q_ret, q_set, q_drop, q_asg, q_for, q_for0, q_fc, q_frd_nx, q_frd_rt, q_frd_ct, q_frd_bk, q_turn, q_mkLst, q_mkTup, Nat.reduceLeDiff, q_and_bl, q_or_bl, q_c0, q_c1, q_c2, q_c3, q_c4, q_c5, q_c6, q_c9, q_c13, decide_true, decide_false, Int.reduceEq, Int.reduceLT, Int.reduceLE, Int.reduceAdd, Int.reduceSub, Int.reduceMul, Int.reduceNeg, Int.reducePow, Int.reduceToNat, Int.reduceBNe, Int.reduceNe, Nat.zero_le, q_get, q_cst, q_lift, q_un, q_with, q_av0, q_avC, q_callN, q_callKW, q_andD, q_orD, q_notD, q_fAnd, q_fOr, q_fNot, q_fTru, q_fBoo, q_ifD, q_isN, q_fIsN, q_fNotN, startD, q_bind, q_toS, q_rt, q_nx, q_thn_nx, q_thn_rt, q_okO, q_nxO, q_pure, q_none0, q_none1, q_none2, q_none3, q_none4, q_tru_bl, q_tru_int, q_tru_lst, q_tru_tup, q_tru_non, q_boo, q_seqL, q_seqT, q_lenL, q_lenT, q_eqI, q_neI, q_lt, q_le, q_gt, q_ge, q_add, q_addL, q_sub, q_neg, q_abs, q_int, q_intB, q_max, q_gcd, q_tupL, q_gL, q_gT, q_g0, q_g1, q_g2, q_lc, q_par, q_parO, q_whS, q_slc, q_prt0, q_prt1, q_intR, q_slcL, q_slcT, q_zipL, q_zipT, q_allp, List.length_map, wipeE, List.map_cons, List.map_nil, List.length_cons, List.length_nil, List.replicate, List.cons_append, List.nil_append, List.getElem?_cons_zero, List.getElem?_cons_succ, List.set_cons_zero, List.set_cons_succ, Nat.reduceSub, Nat.reduceAdd, if_true, Bool.not_true, Bool.not_false, Bool.false_eq_true, if_false, reduceIte, setD, List.foldl_cons, List.foldl_nil, q_asgN, q_asgT, q_asgL, q_asgs0, q_asgsC, Option.bind_some, List.append_nil, q_isx, q_fIsN, q_none_exc, *]
def ex3 (one other : D) : Ex := ⟨"BadBook", [("part", one)]⟩
theorem raises3 (one other : D) (k : Bool) (s : Deck) : m_law_raises [.int 3, one, other, .bl k] s = .raise (ex3 one other) s := by
  unfold m_law_raises g_law_raises m_law_named g_law_named m_law_first g_law_first ex3
  cases k <;> simp only [q_def, q_seq, q_ite, q_ret, q_set, q_drop, q_asg, q_for, q_for0, q_fc, q_frd_nx, q_frd_rt, q_frd_ct, q_frd_bk, q_turn, q_mkLst, q_mkTup, Nat.reduceLeDiff, q_and_bl, q_or_bl, q_c0, q_c1, q_c2, q_c3, q_c4, q_c5, q_c6, q_c9, q_c13, decide_true, decide_false, Int.reduceEq, Int.reduceLT, Int.reduceLE, Int.reduceAdd, Int.reduceSub, Int.reduceMul, Int.reduceNeg, Int.reducePow, Int.reduceToNat, Int.reduceBNe, Int.reduceNe, Nat.zero_le, q_get, q_cst, q_lift, q_un, q_with, q_av0, q_avC, q_callN, q_callKW, q_andD, q_orD, q_notD, q_fAnd, q_fOr, q_fNot, q_fTru, q_fBoo, q_ifD, q_isN, q_fIsN, q_fNotN, startD, q_bind, q_toS, q_rt, q_nx, q_thn_nx, q_thn_rt, q_okO, q_nxO, q_pure, q_none0, q_none1, q_none2, q_none3, q_none4, q_tru_bl, q_tru_int, q_tru_lst, q_tru_tup, q_tru_non, q_boo, q_seqL, q_seqT, q_lenL, q_lenT, q_eqI, q_neI, q_lt, q_le, q_gt, q_ge, q_add, q_addL, q_sub, q_neg, q_abs, q_int, q_intB, q_max, q_gcd, q_tupL, q_gL, q_gT, q_g0, q_g1, q_g2, q_lc, q_par, q_parO, q_whS, q_slc, q_prt0, q_prt1, q_intR, q_slcL, q_slcT, q_zipL, q_zipT, q_allp, List.length_map, wipeE, List.map_cons, List.map_nil, List.length_cons, List.length_nil, List.replicate, List.cons_append, List.nil_append, List.getElem?_cons_zero, List.getElem?_cons_succ, List.set_cons_zero, List.set_cons_succ, Nat.reduceSub, Nat.reduceAdd, if_true, Bool.not_true, Bool.not_false, Bool.false_eq_true, if_false, reduceIte, setD, List.foldl_cons, List.foldl_nil, q_asgN, q_asgT, q_asgL, q_asgs0, q_asgsC, Option.bind_some, List.append_nil, q_drop, q_rs, q_rks, q_perm1, q_perm2, q_zip1, q_zip2, q_braise, q_toS_raise, q_thn_raise', q_toRr, List.length_singleton, *]
theorem kinds3 (fs : List (Str × D)) (s : Deck) : m_law_kinds [.exc "BadBook" fs] s = .ok (.lst [.int 3]) s := by
  have t0 := fun (fs : List (Str × D)) (s : Deck) => q_isxO (tbl := tbl) (fs := fs) (s := s) (show tbl "BadBook" "BadNumber" = some false by decide +kernel)
  have t1 := fun (fs : List (Str × D)) (s : Deck) => q_isxO (tbl := tbl) (fs := fs) (s := s) (show tbl "BadBook" "BadPiece" = some false by decide +kernel)
  have t2 := fun (fs : List (Str × D)) (s : Deck) => q_isxO (tbl := tbl) (fs := fs) (s := s) (show tbl "BadBook" "BadFrame" = some false by decide +kernel)
  have t3 := fun (fs : List (Str × D)) (s : Deck) => q_isxO (tbl := tbl) (fs := fs) (s := s) (show tbl "BadBook" "BadBook" = some true by decide +kernel)
  have t4 := fun (fs : List (Str × D)) (s : Deck) => q_isxO (tbl := tbl) (fs := fs) (s := s) (show tbl "BadBook" "BadProgram" = some false by decide +kernel)
  have t5 := fun (fs : List (Str × D)) (s : Deck) => q_isxO (tbl := tbl) (fs := fs) (s := s) (show tbl "BadBook" "BadPlayer" = some false by decide +kernel)
  have t6 := fun (fs : List (Str × D)) (s : Deck) => q_isxO (tbl := tbl) (fs := fs) (s := s) (show tbl "BadBook" "BadPaper" = some false by decide +kernel)
  have t7 := fun (fs : List (Str × D)) (s : Deck) => q_isxO (tbl := tbl) (fs := fs) (s := s) (show tbl "BadBook" "Misfit" = some false by decide +kernel)
  have t8 := fun (fs : List (Str × D)) (s : Deck) => q_isxO (tbl := tbl) (fs := fs) (s := s) (show tbl "BadBook" "NoWay" = some false by decide +kernel)
  have t9 := fun (fs : List (Str × D)) (s : Deck) => q_isxO (tbl := tbl) (fs := fs) (s := s) (show tbl "BadBook" "NoPart" = some false by decide +kernel)
  have t10 := fun (fs : List (Str × D)) (s : Deck) => q_isxO (tbl := tbl) (fs := fs) (s := s) (show tbl "BadBook" "Impossible" = some false by decide +kernel)
  have t11 := fun (fs : List (Str × D)) (s : Deck) => q_isxO (tbl := tbl) (fs := fs) (s := s) (show tbl "BadBook" "TooMany" = some false by decide +kernel)
  have t12 := fun (fs : List (Str × D)) (s : Deck) => q_isxO (tbl := tbl) (fs := fs) (s := s) (show tbl "BadBook" "BadText" = some false by decide +kernel)
  have kc := fun (x0 x1 : Option D) (s : Deck) => kinds_comp x0 x1 s [false, false, false, true, false, false, false, false, false, false, false, false, false] 0
  simp only [List.map_cons, List.map_nil] at kc
  have ki : idxs 0 [false, false, false, true, false, false, false, false, false, false, false, false, false] = [.int 3] := rfl
  rw [ki] at kc
  clear ki
  unfold m_law_kinds g_law_kinds
  simp only [q_def, q_seq, q_ite, q_ret, q_set, q_drop, q_asg, q_for, q_for0, q_fc, q_frd_nx, q_frd_rt, q_frd_ct, q_frd_bk, q_turn, q_mkLst, q_mkTup, Nat.reduceLeDiff, q_and_bl, q_or_bl, q_c0, q_c1, q_c2, q_c3, q_c4, q_c5, q_c6, q_c9, q_c13, decide_true, decide_false, Int.reduceEq, Int.reduceLT, Int.reduceLE, Int.reduceAdd, Int.reduceSub, Int.reduceMul, Int.reduceNeg, Int.reducePow, Int.reduceToNat, Int.reduceBNe, Int.reduceNe, Nat.zero_le, q_get, q_cst, q_lift, q_un, q_with, q_av0, q_avC, q_callN, q_callKW, q_andD, q_orD, q_notD, q_fAnd, q_fOr, q_fNot, q_fTru, q_fBoo, q_ifD, q_isN, q_fIsN, q_fNotN, startD, q_bind, q_toS, q_rt, q_nx, q_thn_nx, q_thn_rt, q_okO, q_nxO, q_pure, q_none0, q_none1, q_none2, q_none3, q_none4, q_tru_bl, q_tru_int, q_tru_lst, q_tru_tup, q_tru_non, q_boo, q_seqL, q_seqT, q_lenL, q_lenT, q_eqI, q_neI, q_lt, q_le, q_gt, q_ge, q_add, q_addL, q_sub, q_neg, q_abs, q_int, q_intB, q_max, q_gcd, q_tupL, q_gL, q_gT, q_g0, q_g1, q_g2, q_lc, q_par, q_parO, q_whS, q_slc, q_prt0, q_prt1, q_intR, q_slcL, q_slcT, q_zipL, q_zipT, q_allp, List.length_map, wipeE, List.map_cons, List.map_nil, List.length_cons, List.length_nil, List.replicate, List.cons_append, List.nil_append, List.getElem?_cons_zero, List.getElem?_cons_succ, List.set_cons_zero, List.set_cons_succ, Nat.reduceSub, Nat.reduceAdd, if_true, Bool.not_true, Bool.not_false, Bool.false_eq_true, if_false, reduceIte, setD, List.foldl_cons, List.foldl_nil, q_asgN, q_asgT, q_asgL, q_asgs0, q_asgsC, Option.bind_some, List.append_nil, q_isx, q_enum, *]
theorem fields3 (one other : D) (s : Deck) : m_law_fields [.int 3, .exc "BadBook" [("part", one)]] s = .ok (.lst [one]) s := by
  have f0 := fun (s : Deck) => q_fldO (fT := fT) (fs := [("part", one)]) (d := one) (s := s) (show fT "BadBook" "part" = true by decide +kernel) (by first | rfl | (simp [List.lookup]; done))
  unfold m_law_fields g_law_fields
  simp only [q_def, q_seq, q_ite, q_ret, q_set, q_drop, q_asg, q_for, q_for0, q_fc, q_frd_nx, q_frd_rt, q_frd_ct, q_frd_bk, q_turn, q_mkLst, q_mkTup, Nat.reduceLeDiff, q_and_bl, q_or_bl, q_c0, q_c1, q_c2, q_c3, q_c4, q_c5, q_c6, q_c9, q_c13, decide_true, decide_false, Int.reduceEq, Int.reduceLT, Int.reduceLE, Int.reduceAdd, Int.reduceSub, Int.reduceMul, Int.reduceNeg, Int.reducePow, Int.reduceToNat, Int.reduceBNe, Int.reduceNe, Nat.zero_le, q_get, q_cst, q_lift, q_un, q_with, q_av0, q_avC, q_callN, q_callKW, q_andD, q_orD, q_notD, q_fAnd, q_fOr, q_fNot, q_fTru, q_fBoo, q_ifD, q_isN, q_fIsN, q_fNotN, startD, q_bind, q_toS, q_rt, q_nx, q_thn_nx, q_thn_rt, q_okO, q_nxO, q_pure, q_none0, q_none1, q_none2, q_none3, q_none4, q_tru_bl, q_tru_int, q_tru_lst, q_tru_tup, q_tru_non, q_boo, q_seqL, q_seqT, q_lenL, q_lenT, q_eqI, q_neI, q_lt, q_le, q_gt, q_ge, q_add, q_addL, q_sub, q_neg, q_abs, q_int, q_intB, q_max, q_gcd, q_tupL, q_gL, q_gT, q_g0, q_g1, q_g2, q_lc, q_par, q_parO, q_whS, q_slc, q_prt0, q_prt1, q_intR, q_slcL, q_slcT, q_zipL, q_zipT, q_allp, List.length_map, wipeE, List.map_cons, List.map_nil, List.length_cons, List.length_nil, List.replicate, List.cons_append, List.nil_append, List.getElem?_cons_zero, List.getElem?_cons_succ, List.set_cons_zero, List.set_cons_succ, Nat.reduceSub, Nat.reduceAdd, if_true, Bool.not_true, Bool.not_false, Bool.false_eq_true, if_false, reduceIte, setD, List.foldl_cons, List.foldl_nil, q_asgN, q_asgT, q_asgL, q_asgs0, q_asgsC, Option.bind_some, List.append_nil, q_fldF, *]
theorem right3 {one other : D} (h : VOk one) (h' : VOk other) (k : Bool) (s : Deck) : m_law_right [.int 3, one, other, .bl k] s = .ok (.bl true) s := by
  obtain ⟨t, t1, t2⟩ := shows1 h
  have rs := fun s => raises3 one other k s
  have kd := fun s => kinds3 [("part", one)] s
  have fd := fun s => fields3 one other s
  have v1 := fun (fs : List (Str × D)) (s : Deck) => q_isxO (tbl := tbx) (fs := fs) (s := s) (show tbx "BadBook" "ValueError" = some true by decide +kernel)
  have v2 := fun (fs : List (Str × D)) (s : Deck) => q_isxO (tbl := tbx) (fs := fs) (s := s) (show tbx "BadBook" "LookupError" = some false by decide +kernel)
  have v3 := fun (fs : List (Str × D)) (s : Deck) => q_isxO (tbl := tbx) (fs := fs) (s := s) (show tbx "BadBook" "TypeError" = some false by decide +kernel)
  have v4 := fun (fs : List (Str × D)) (s : Deck) => q_isxO (tbl := tbx) (fs := fs) (s := s) (show tbx "BadBook" "ArithmeticError" = some false by decide +kernel)
  have v5 := fun (fs : List (Str × D)) (s : Deck) => q_isxO (tbl := tbx) (fs := fs) (s := s) (show tbx "BadBook" "RuntimeError" = some false by decide +kernel)
  have ne : ∀ s : Deck, neM (.lst [.int 3]) (.lst [.int 3]) s = .ok (.bl false) s := fun s => rfl
  have kp : keepS tbl (dropS (withA (avC (getE 0) (avC (getE 1) (avC (getE 2) (avC (getE 3) av0)))) (callN 4 m_law_raises))) "PlayError" 5 4 [some (.int 3), some one, some other, some (.bl k), some .non, none, none] s
      = .nx [some (.int 3), some one, some other, some (.bl k), some (.exc "BadBook" [("part", one)]), none, none] s :=
    q_keep (e := ex3 one other) (δ' := [some (.int 3), some one, some other, some (.bl k), some .non, none, none]) (by
      clear v1 v2 v3 v4 v5 ne kd fd t1 t2
      simp only [q_def, q_seq, q_ite, q_ret, q_set, q_drop, q_asg, q_for, q_for0, q_fc, q_frd_nx, q_frd_rt, q_frd_ct, q_frd_bk, q_turn, q_mkLst, q_mkTup, Nat.reduceLeDiff, q_and_bl, q_or_bl, q_c0, q_c1, q_c2, q_c3, q_c4, q_c5, q_c6, q_c9, q_c13, decide_true, decide_false, Int.reduceEq, Int.reduceLT, Int.reduceLE, Int.reduceAdd, Int.reduceSub, Int.reduceMul, Int.reduceNeg, Int.reducePow, Int.reduceToNat, Int.reduceBNe, Int.reduceNe, Nat.zero_le, q_get, q_cst, q_lift, q_un, q_with, q_av0, q_avC, q_callN, q_callKW, q_andD, q_orD, q_notD, q_fAnd, q_fOr, q_fNot, q_fTru, q_fBoo, q_ifD, q_isN, q_fIsN, q_fNotN, startD, q_bind, q_toS, q_rt, q_nx, q_thn_nx, q_thn_rt, q_okO, q_nxO, q_pure, q_none0, q_none1, q_none2, q_none3, q_none4, q_tru_bl, q_tru_int, q_tru_lst, q_tru_tup, q_tru_non, q_boo, q_seqL, q_seqT, q_lenL, q_lenT, q_eqI, q_neI, q_lt, q_le, q_gt, q_ge, q_add, q_addL, q_sub, q_neg, q_abs, q_int, q_intB, q_max, q_gcd, q_tupL, q_gL, q_gT, q_g0, q_g1, q_g2, q_lc, q_par, q_parO, q_whS, q_slc, q_prt0, q_prt1, q_intR, q_slcL, q_slcT, q_zipL, q_zipT, q_allp, List.length_map, wipeE, List.map_cons, List.map_nil, List.length_cons, List.length_nil, List.replicate, List.cons_append, List.nil_append, List.getElem?_cons_zero, List.getElem?_cons_succ, List.set_cons_zero, List.set_cons_succ, Nat.reduceSub, Nat.reduceAdd, if_true, Bool.not_true, Bool.not_false, Bool.false_eq_true, if_false, reduceIte, setD, List.foldl_cons, List.foldl_nil, q_asgN, q_asgT, q_asgL, q_asgs0, q_asgsC, Option.bind_some, List.append_nil, q_drop, q_braise, q_toS_raise, *]) (by show 5 < 7; decide) (show tbl "BadBook" "PlayError" = some true by decide +kernel)
  unfold m_law_right g_law_right
  clear h h' rs
  generalize keepS tbl _ "PlayError" 5 4 = kS at *
  simp only [q_def, q_seq, q_ite, q_ret, q_set, q_drop, q_asg, q_for, q_for0, q_fc, q_frd_nx, q_frd_rt, q_frd_ct, q_frd_bk, q_turn, q_mkLst, q_mkTup, Nat.reduceLeDiff, q_and_bl, q_or_bl, q_c0, q_c1, q_c2, q_c3, q_c4, q_c5, q_c6, q_c9, q_c13, decide_true, decide_false, Int.reduceEq, Int.reduceLT, Int.reduceLE, Int.reduceAdd, Int.reduceSub, Int.reduceMul, Int.reduceNeg, Int.reducePow, Int.reduceToNat, Int.reduceBNe, Int.reduceNe, Nat.zero_le, q_get, q_cst, q_lift, q_un, q_with, q_av0, q_avC, q_callN, q_callKW, q_andD, q_orD, q_notD, q_fAnd, q_fOr, q_fNot, q_fTru, q_fBoo, q_ifD, q_isN, q_fIsN, q_fNotN, startD, q_bind, q_toS, q_rt, q_nx, q_thn_nx, q_thn_rt, q_okO, q_nxO, q_pure, q_none0, q_none1, q_none2, q_none3, q_none4, q_tru_bl, q_tru_int, q_tru_lst, q_tru_tup, q_tru_non, q_boo, q_seqL, q_seqT, q_lenL, q_lenT, q_eqI, q_neI, q_lt, q_le, q_gt, q_ge, q_add, q_addL, q_sub, q_neg, q_abs, q_int, q_intB, q_max, q_gcd, q_tupL, q_gL, q_gT, q_g0, q_g1, q_g2, q_lc, q_par, q_parO, q_whS, q_slc, q_prt0, q_prt1, q_intR, q_slcL, q_slcT, q_zipL, q_zipT, q_allp, List.length_map, wipeE, List.map_cons, List.map_nil, List.length_cons, List.length_nil, List.replicate, List.cons_append, List.nil_append, List.getElem?_cons_zero, List.getElem?_cons_succ, List.set_cons_zero, List.set_cons_succ, Nat.reduceSub, Nat.reduceAdd, if_true, Bool.not_true, Bool.not_false, Bool.false_eq_true, if_false, reduceIte, setD, List.foldl_cons, List.foldl_nil, q_asgN, q_asgT, q_asgL, q_asgs0, q_asgsC, Option.bind_some, List.append_nil, q_isx, q_fIsN, q_none_exc, *]
def ex4 (one other : D) : Ex := ⟨"BadProgram", [("part", one)]⟩
theorem raises4 (one other : D) (k : Bool) (s : Deck) : m_law_raises [.int 4, one, other, .bl k] s = .raise (ex4 one other) s := by
  unfold m_law_raises g_law_raises m_law_named g_law_named m_law_first g_law_first ex4
  cases k <;> simp only [q_def, q_seq, q_ite, q_ret, q_set, q_drop, q_asg, q_for, q_for0, q_fc, q_frd_nx, q_frd_rt, q_frd_ct, q_frd_bk, q_turn, q_mkLst, q_mkTup, Nat.reduceLeDiff, q_and_bl, q_or_bl, q_c0, q_c1, q_c2, q_c3, q_c4, q_c5, q_c6, q_c9, q_c13, decide_true, decide_false, Int.reduceEq, Int.reduceLT, Int.reduceLE, Int.reduceAdd, Int.reduceSub, Int.reduceMul, Int.reduceNeg, Int.reducePow, Int.reduceToNat, Int.reduceBNe, Int.reduceNe, Nat.zero_le, q_get, q_cst, q_lift, q_un, q_with, q_av0, q_avC, q_callN, q_callKW, q_andD, q_orD, q_notD, q_fAnd, q_fOr, q_fNot, q_fTru, q_fBoo, q_ifD, q_isN, q_fIsN, q_fNotN, startD, q_bind, q_toS, q_rt, q_nx, q_thn_nx, q_thn_rt, q_okO, q_nxO, q_pure, q_none0, q_none1, q_none2, q_none3, q_none4, q_tru_bl, q_tru_int, q_tru_lst, q_tru_tup, q_tru_non, q_boo, q_seqL, q_seqT, q_lenL, q_lenT, q_eqI, q_neI, q_lt, q_le, q_gt, q_ge, q_add, q_addL, q_sub, q_neg, q_abs, q_int, q_intB, q_max, q_gcd, q_tupL, q_gL, q_gT, q_g0, q_g1, q_g2, q_lc, q_par, q_parO, q_whS, q_slc, q_prt0, q_prt1, q_intR, q_slcL, q_slcT, q_zipL, q_zipT, q_allp, List.length_map, wipeE, List.map_cons, List.map_nil, List.length_cons, List.length_nil, List.replicate, List.cons_append, List.nil_append, List.getElem?_cons_zero, List.getElem?_cons_succ, List.set_cons_zero, List.set_cons_succ, Nat.reduceSub, Nat.reduceAdd, if_true, Bool.not_true, Bool.not_false, Bool.false_eq_true, if_false, reduceIte, setD, List.foldl_cons, List.foldl_nil, q_asgN, q_asgT, q_asgL, q_asgs0, q_asgsC, Option.bind_some, List.append_nil, q_drop, q_rs, q_rks, q_perm1, q_perm2, q_zip1, q_zip2, q_braise, q_toS_raise, q_thn_raise', q_toRr, List.length_singleton, *]
theorem kinds4 (fs : List (Str × D)) (s : Deck) : m_law_kinds [.exc "BadProgram" fs] s = .ok (.lst [.int 4]) s := by
  have t0 := fun (fs : List (Str × D)) (s : Deck) => q_isxO (tbl := tbl) (fs := fs) (s := s) (show tbl "BadProgram" "BadNumber" = some false by decide +kernel)
  have t1 := fun (fs : List (Str × D)) (s : Deck) => q_isxO (tbl := tbl) (fs := fs) (s := s) (show tbl "BadProgram" "BadPiece" = some false by decide +kernel)
  have t2 := fun (fs : List (Str × D)) (s : Deck) => q_isxO (tbl := tbl) (fs := fs) (s := s) (show tbl "BadProgram" "BadFrame" = some false by decide +kernel)
  have t3 := fun (fs : List (Str × D)) (s : Deck) => q_isxO (tbl := tbl) (fs := fs) (s := s) (show tbl "BadProgram" "BadBook" = some false by decide +kernel)
  have t4 := fun (fs : List (Str × D)) (s : Deck) => q_isxO (tbl := tbl) (fs := fs) (s := s) (show tbl "BadProgram" "BadProgram" = some true by decide +kernel)
  have t5 := fun (fs : List (Str × D)) (s : Deck) => q_isxO (tbl := tbl) (fs := fs) (s := s) (show tbl "BadProgram" "BadPlayer" = some false by decide +kernel)
  have t6 := fun (fs : List (Str × D)) (s : Deck) => q_isxO (tbl := tbl) (fs := fs) (s := s) (show tbl "BadProgram" "BadPaper" = some false by decide +kernel)
  have t7 := fun (fs : List (Str × D)) (s : Deck) => q_isxO (tbl := tbl) (fs := fs) (s := s) (show tbl "BadProgram" "Misfit" = some false by decide +kernel)
  have t8 := fun (fs : List (Str × D)) (s : Deck) => q_isxO (tbl := tbl) (fs := fs) (s := s) (show tbl "BadProgram" "NoWay" = some false by decide +kernel)
  have t9 := fun (fs : List (Str × D)) (s : Deck) => q_isxO (tbl := tbl) (fs := fs) (s := s) (show tbl "BadProgram" "NoPart" = some false by decide +kernel)
  have t10 := fun (fs : List (Str × D)) (s : Deck) => q_isxO (tbl := tbl) (fs := fs) (s := s) (show tbl "BadProgram" "Impossible" = some false by decide +kernel)
  have t11 := fun (fs : List (Str × D)) (s : Deck) => q_isxO (tbl := tbl) (fs := fs) (s := s) (show tbl "BadProgram" "TooMany" = some false by decide +kernel)
  have t12 := fun (fs : List (Str × D)) (s : Deck) => q_isxO (tbl := tbl) (fs := fs) (s := s) (show tbl "BadProgram" "BadText" = some false by decide +kernel)
  have kc := fun (x0 x1 : Option D) (s : Deck) => kinds_comp x0 x1 s [false, false, false, false, true, false, false, false, false, false, false, false, false] 0
  simp only [List.map_cons, List.map_nil] at kc
  have ki : idxs 0 [false, false, false, false, true, false, false, false, false, false, false, false, false] = [.int 4] := rfl
  rw [ki] at kc
  clear ki
  unfold m_law_kinds g_law_kinds
  simp only [q_def, q_seq, q_ite, q_ret, q_set, q_drop, q_asg, q_for, q_for0, q_fc, q_frd_nx, q_frd_rt, q_frd_ct, q_frd_bk, q_turn, q_mkLst, q_mkTup, Nat.reduceLeDiff, q_and_bl, q_or_bl, q_c0, q_c1, q_c2, q_c3, q_c4, q_c5, q_c6, q_c9, q_c13, decide_true, decide_false, Int.reduceEq, Int.reduceLT, Int.reduceLE, Int.reduceAdd, Int.reduceSub, Int.reduceMul, Int.reduceNeg, Int.reducePow, Int.reduceToNat, Int.reduceBNe, Int.reduceNe, Nat.zero_le, q_get, q_cst, q_lift, q_un, q_with, q_av0, q_avC, q_callN, q_callKW, q_andD, q_orD, q_notD, q_fAnd, q_fOr, q_fNot, q_fTru, q_fBoo, q_ifD, q_isN, q_fIsN, q_fNotN, startD, q_bind, q_toS, q_rt, q_nx, q_thn_nx, q_thn_rt, q_okO, q_nxO, q_pure, q_none0, q_none1, q_none2, q_none3, q_none4, q_tru_bl, q_tru_int, q_tru_lst, q_tru_tup, q_tru_non, q_boo, q_seqL, q_seqT, q_lenL, q_lenT, q_eqI, q_neI, q_lt, q_le, q_gt, q_ge, q_add, q_addL, q_sub, q_neg, q_abs, q_int, q_intB, q_max, q_gcd, q_tupL, q_gL, q_gT, q_g0, q_g1, q_g2, q_lc, q_par, q_parO, q_whS, q_slc, q_prt0, q_prt1, q_intR, q_slcL, q_slcT, q_zipL, q_zipT, q_allp, List.length_map, wipeE, List.map_cons, List.map_nil, List.length_cons, List.length_nil, List.replicate, List.cons_append, List.nil_append, List.getElem?_cons_zero, List.getElem?_cons_succ, List.set_cons_zero, List.set_cons_succ, Nat.reduceSub, Nat.reduceAdd, if_true, Bool.not_true, Bool.not_false, Bool.false_eq_true, if_false, reduceIte, setD, List.foldl_cons, List.foldl_nil, q_asgN, q_asgT, q_asgL, q_asgs0, q_asgsC, Option.bind_some, List.append_nil, q_isx, q_enum, *]
theorem fields4 (one other : D) (s : Deck) : m_law_fields [.int 4, .exc "BadProgram" [("part", one)]] s = .ok (.lst [one]) s := by
  have f0 := fun (s : Deck) => q_fldO (fT := fT) (fs := [("part", one)]) (d := one) (s := s) (show fT "BadProgram" "part" = true by decide +kernel) (by first | rfl | (simp [List.lookup]; done))
  unfold m_law_fields g_law_fields
  simp only [q_def, q_seq, q_ite, q_ret, q_set, q_drop, q_asg, q_for, q_for0, q_fc, q_frd_nx, q_frd_rt, q_frd_ct, q_frd_bk, q_turn, q_mkLst, q_mkTup, Nat.reduceLeDiff, q_and_bl, q_or_bl, q_c0, q_c1, q_c2, q_c3, q_c4, q_c5, q_c6, q_c9, q_c13, decide_true, decide_false, Int.reduceEq, Int.reduceLT, Int.reduceLE, Int.reduceAdd, Int.reduceSub, Int.reduceMul, Int.reduceNeg, Int.reducePow, Int.reduceToNat, Int.reduceBNe, Int.reduceNe, Nat.zero_le, q_get, q_cst, q_lift, q_un, q_with, q_av0, q_avC, q_callN, q_callKW, q_andD, q_orD, q_notD, q_fAnd, q_fOr, q_fNot, q_fTru, q_fBoo, q_ifD, q_isN, q_fIsN, q_fNotN, startD, q_bind, q_toS, q_rt, q_nx, q_thn_nx, q_thn_rt, q_okO, q_nxO, q_pure, q_none0, q_none1, q_none2, q_none3, q_none4, q_tru_bl, q_tru_int, q_tru_lst, q_tru_tup, q_tru_non, q_boo, q_seqL, q_seqT, q_lenL, q_lenT, q_eqI, q_neI, q_lt, q_le, q_gt, q_ge, q_add, q_addL, q_sub, q_neg, q_abs, q_int, q_intB, q_max, q_gcd, q_tupL, q_gL, q_gT, q_g0, q_g1, q_g2, q_lc, q_par, q_parO, q_whS, q_slc, q_prt0, q_prt1, q_intR, q_slcL, q_slcT, q_zipL, q_zipT, q_allp, List.length_map, wipeE, List.map_cons, List.map_nil, List.length_cons, List.length_nil, List.replicate, List.cons_append, List.nil_append, List.getElem?_cons_zero, List.getElem?_cons_succ, List.set_cons_zero, List.set_cons_succ, Nat.reduceSub, Nat.reduceAdd, if_true, Bool.not_true, Bool.not_false, Bool.false_eq_true, if_false, reduceIte, setD, List.foldl_cons, List.foldl_nil, q_asgN, q_asgT, q_asgL, q_asgs0, q_asgsC, Option.bind_some, List.append_nil, q_fldF, *]
theorem right4 {one other : D} (h : VOk one) (h' : VOk other) (k : Bool) (s : Deck) : m_law_right [.int 4, one, other, .bl k] s = .ok (.bl true) s := by
  obtain ⟨t, t1, t2⟩ := shows1 h
  have rs := fun s => raises4 one other k s
  have kd := fun s => kinds4 [("part", one)] s
  have fd := fun s => fields4 one other s
  have v1 := fun (fs : List (Str × D)) (s : Deck) => q_isxO (tbl := tbx) (fs := fs) (s := s) (show tbx "BadProgram" "ValueError" = some true by decide +kernel)
  have v2 := fun (fs : List (Str × D)) (s : Deck) => q_isxO (tbl := tbx) (fs := fs) (s := s) (show tbx "BadProgram" "LookupError" = some false by decide +kernel)
  have v3 := fun (fs : List (Str × D)) (s : Deck) => q_isxO (tbl := tbx) (fs := fs) (s := s) (show tbx "BadProgram" "TypeError" = some false by decide +kernel)
  have v4 := fun (fs : List (Str × D)) (s : Deck) => q_isxO (tbl := tbx) (fs := fs) (s := s) (show tbx "BadProgram" "ArithmeticError" = some false by decide +kernel)
  have v5 := fun (fs : List (Str × D)) (s : Deck) => q_isxO (tbl := tbx) (fs := fs) (s := s) (show tbx "BadProgram" "RuntimeError" = some false by decide +kernel)
  have ne : ∀ s : Deck, neM (.lst [.int 4]) (.lst [.int 4]) s = .ok (.bl false) s := fun s => rfl
  have kp : keepS tbl (dropS (withA (avC (getE 0) (avC (getE 1) (avC (getE 2) (avC (getE 3) av0)))) (callN 4 m_law_raises))) "PlayError" 5 4 [some (.int 4), some one, some other, some (.bl k), some .non, none, none] s
      = .nx [some (.int 4), some one, some other, some (.bl k), some (.exc "BadProgram" [("part", one)]), none, none] s :=
    q_keep (e := ex4 one other) (δ' := [some (.int 4), some one, some other, some (.bl k), some .non, none, none]) (by
      clear v1 v2 v3 v4 v5 ne kd fd t1 t2
      simp only [q_def, q_seq, q_ite, q_ret, q_set, q_drop, q_asg, q_for, q_for0, q_fc, q_frd_nx, q_frd_rt, q_frd_ct, q_frd_bk, q_turn, q_mkLst, q_mkTup, Nat.reduceLeDiff, q_and_bl, q_or_bl, q_c0, q_c1, q_c2, q_c3, q_c4, q_c5, q_c6, q_c9, q_c13, decide_true, decide_false, Int.reduceEq, Int.reduceLT, Int.reduceLE, Int.reduceAdd, Int.reduceSub, Int.reduceMul, Int.reduceNeg, Int.reducePow, Int.reduceToNat, Int.reduceBNe, Int.reduceNe, Nat.zero_le, q_get, q_cst, q_lift, q_un, q_with, q_av0, q_avC, q_callN, q_callKW, q_andD, q_orD, q_notD, q_fAnd, q_fOr, q_fNot, q_fTru, q_fBoo, q_ifD, q_isN, q_fIsN, q_fNotN, startD, q_bind, q_toS, q_rt, q_nx, q_thn_nx, q_thn_rt, q_okO, q_nxO, q_pure, q_none0, q_none1, q_none2, q_none3, q_none4, q_tru_bl, q_tru_int, q_tru_lst, q_tru_tup, q_tru_non, q_boo, q_seqL, q_seqT, q_lenL, q_lenT, q_eqI, q_neI, q_lt, q_le, q_gt, q_ge, q_add, q_addL, q_sub, q_neg, q_abs, q_int, q_intB, q_max, q_gcd, q_tupL, q_gL, q_gT, q_g0, q_g1, q_g2, q_lc, q_par, q_parO, q_whS, q_slc, q_prt0, q_prt1, q_intR, q_slcL, q_slcT, q_zipL, q_zipT, q_allp, List.length_map, wipeE, List.map_cons, List.map_nil, List.length_cons, List.length_nil, List.replicate, List.cons_append, List.nil_append, List.getElem?_cons_zero, List.getElem?_cons_succ, List.set_cons_zero, List.set_cons_succ, Nat.reduceSub, Nat.reduceAdd, if_true, Bool.not_true, Bool.not_false, Bool.false_eq_true, if_false, reduceIte, setD, List.foldl_cons, List.foldl_nil, q_asgN, q_asgT, q_asgL, q_asgs0, q_asgsC, Option.bind_some, List.append_nil, q_drop, q_braise, q_toS_raise, *]) (by show 5 < 7; decide) (show tbl "BadProgram" "PlayError" = some true by decide +kernel)
  unfold m_law_right g_law_right
  clear h h' rs
  generalize keepS tbl _ "PlayError" 5 4 = kS at *
  simp only [q_def, q_seq, q_ite, q_ret, q_set, q_drop, q_asg, q_for, q_for0, q_fc, q_frd_nx, q_frd_rt, q_frd_ct, q_frd_bk, q_turn, q_mkLst, q_mkTup, Nat.reduceLeDiff, q_and_bl, q_or_bl, q_c0, q_c1, q_c2, q_c3, q_c4, q_c5, q_c6, q_c9, q_c13, decide_true, decide_false, Int.reduceEq, Int.reduceLT, Int.reduceLE, Int.reduceAdd, Int.reduceSub, Int.reduceMul, Int.reduceNeg, Int.reducePow, Int.reduceToNat, Int.reduceBNe, Int.reduceNe, Nat.zero_le, q_get, q_cst, q_lift, q_un, q_with, q_av0, q_avC, q_callN, q_callKW, q_andD, q_orD, q_notD, q_fAnd, q_fOr, q_fNot, q_fTru, q_fBoo, q_ifD, q_isN, q_fIsN, q_fNotN, startD, q_bind, q_toS, q_rt, q_nx, q_thn_nx, q_thn_rt, q_okO, q_nxO, q_pure, q_none0, q_none1, q_none2, q_none3, q_none4, q_tru_bl, q_tru_int, q_tru_lst, q_tru_tup, q_tru_non, q_boo, q_seqL, q_seqT, q_lenL, q_lenT, q_eqI, q_neI, q_lt, q_le, q_gt, q_ge, q_add, q_addL, q_sub, q_neg, q_abs, q_int, q_intB, q_max, q_gcd, q_tupL, q_gL, q_gT, q_g0, q_g1, q_g2, q_lc, q_par, q_parO, q_whS, q_slc, q_prt0, q_prt1, q_intR, q_slcL, q_slcT, q_zipL, q_zipT, q_allp, List.length_map, wipeE, List.map_cons, List.map_nil, List.length_cons, List.length_nil, List.replicate, List.cons_append, List.nil_append, List.getElem?_cons_zero, List.getElem?_cons_succ, List.set_cons_zero, List.set_cons_succ, Nat.reduceSub, Nat.reduceAdd, if_true, Bool.not_true, Bool.not_false, Bool.false_eq_true, if_false, reduceIte, setD, List.foldl_cons, List.foldl_nil, q_asgN, q_asgT, q_asgL, q_asgs0, q_asgsC, Option.bind_some, List.append_nil, q_isx, q_fIsN, q_none_exc, *]
def ex5 (one other : D) : Ex := ⟨"BadPlayer", [("part", one)]⟩
theorem raises5 (one other : D) (k : Bool) (s : Deck) : m_law_raises [.int 5, one, other, .bl k] s = .raise (ex5 one other) s := by
  unfold m_law_raises g_law_raises m_law_named g_law_named m_law_first g_law_first ex5
  cases k <;> simp only [q_def, q_seq, q_ite, q_ret, q_set, q_drop, q_asg, q_for, q_for0, q_fc, q_frd_nx, q_frd_rt, q_frd_ct, q_frd_bk, q_turn, q_mkLst, q_mkTup, Nat.reduceLeDiff, q_and_bl, q_or_bl, q_c0, q_c1, q_c2, q_c3, q_c4, q_c5, q_c6, q_c9, q_c13, decide_true, decide_false, Int.reduceEq, Int.reduceLT, Int.reduceLE, Int.reduceAdd, Int.reduceSub, Int.reduceMul, Int.reduceNeg, Int.reducePow, Int.reduceToNat, Int.reduceBNe, Int.reduceNe, Nat.zero_le, q_get, q_cst, q_lift, q_un, q_with, q_av0, q_avC, q_callN, q_callKW, q_andD, q_orD, q_notD, q_fAnd, q_fOr, q_fNot, q_fTru, q_fBoo, q_ifD, q_isN, q_fIsN, q_fNotN, startD, q_bind, q_toS, q_rt, q_nx, q_thn_nx, q_thn_rt, q_okO, q_nxO, q_pure, q_none0, q_none1, q_none2, q_none3, q_none4, q_tru_bl, q_tru_int, q_tru_lst, q_tru_tup, q_tru_non, q_boo, q_seqL, q_seqT, q_lenL, q_lenT, q_eqI, q_neI, q_lt, q_le, q_gt, q_ge, q_add, q_addL, q_sub, q_neg, q_abs, q_int, q_intB, q_max, q_gcd, q_tupL, q_gL, q_gT, q_g0, q_g1, q_g2, q_lc, q_par, q_parO, q_whS, q_slc, q_prt0, q_prt1, q_intR, q_slcL, q_slcT, q_zipL, q_zipT, q_allp, List.length_map, wipeE, List.map_cons, List.map_nil, List.length_cons, List.length_nil, List.replicate, List.cons_append, List.nil_append, List.getElem?_cons_zero, List.getElem?_cons_succ, List.set_cons_zero, List.set_cons_succ, Nat.reduceSub, Nat.reduceAdd, if_true, Bool.not_true, Bool.not_false, Bool.false_eq_true, if_false, reduceIte, setD, List.foldl_cons, List.foldl_nil, q_asgN, q_asgT, q_asgL, q_asgs0, q_asgsC, Option.bind_some, List.append_nil, q_drop, q_rs, q_rks, q_perm1, q_perm2, q_zip1, q_zip2, q_braise, q_toS_raise, q_thn_raise', q_toRr, List.length_singleton, *]
theorem kinds5 (fs : List (Str × D)) (s : Deck) : m_law_kinds [.exc "BadPlayer" fs] s = .ok (.lst [.int 5]) s := by
  have t0 := fun (fs : List (Str × D)) (s : Deck) => q_isxO (tbl := tbl) (fs := fs) (s := s) (show tbl "BadPlayer" "BadNumber" = some false by decide +kernel)
  have t1 := fun (fs : List (Str × D)) (s : Deck) => q_isxO (tbl := tbl) (fs := fs) (s := s) (show tbl "BadPlayer" "BadPiece" = some false by decide +kernel)
  have t2 := fun (fs : List (Str × D)) (s : Deck) => q_isxO (tbl := tbl) (fs := fs) (s := s) (show tbl "BadPlayer" "BadFrame" = some false by decide +kernel)
  have t3 := fun (fs : List (Str × D)) (s : Deck) => q_isxO (tbl := tbl) (fs := fs) (s := s) (show tbl "BadPlayer" "BadBook" = some false by decide +kernel)
  have t4 := fun (fs : List (Str × D)) (s : Deck) => q_isxO (tbl := tbl) (fs := fs) (s := s) (show tbl "BadPlayer" "BadProgram" = some false by decide +kernel)
  have t5 := fun (fs : List (Str × D)) (s : Deck) => q_isxO (tbl := tbl) (fs := fs) (s := s) (show tbl "BadPlayer" "BadPlayer" = some true by decide +kernel)
  have t6 := fun (fs : List (Str × D)) (s : Deck) => q_isxO (tbl := tbl) (fs := fs) (s := s) (show tbl "BadPlayer" "BadPaper" = some false by decide +kernel)
  have t7 := fun (fs : List (Str × D)) (s : Deck) => q_isxO (tbl := tbl) (fs := fs) (s := s) (show tbl "BadPlayer" "Misfit" = some false by decide +kernel)
  have t8 := fun (fs : List (Str × D)) (s : Deck) => q_isxO (tbl := tbl) (fs := fs) (s := s) (show tbl "BadPlayer" "NoWay" = some false by decide +kernel)
  have t9 := fun (fs : List (Str × D)) (s : Deck) => q_isxO (tbl := tbl) (fs := fs) (s := s) (show tbl "BadPlayer" "NoPart" = some false by decide +kernel)
  have t10 := fun (fs : List (Str × D)) (s : Deck) => q_isxO (tbl := tbl) (fs := fs) (s := s) (show tbl "BadPlayer" "Impossible" = some false by decide +kernel)
  have t11 := fun (fs : List (Str × D)) (s : Deck) => q_isxO (tbl := tbl) (fs := fs) (s := s) (show tbl "BadPlayer" "TooMany" = some false by decide +kernel)
  have t12 := fun (fs : List (Str × D)) (s : Deck) => q_isxO (tbl := tbl) (fs := fs) (s := s) (show tbl "BadPlayer" "BadText" = some false by decide +kernel)
  have kc := fun (x0 x1 : Option D) (s : Deck) => kinds_comp x0 x1 s [false, false, false, false, false, true, false, false, false, false, false, false, false] 0
  simp only [List.map_cons, List.map_nil] at kc
  have ki : idxs 0 [false, false, false, false, false, true, false, false, false, false, false, false, false] = [.int 5] := rfl
  rw [ki] at kc
  clear ki
  unfold m_law_kinds g_law_kinds
  simp only [q_def, q_seq, q_ite, q_ret, q_set, q_drop, q_asg, q_for, q_for0, q_fc, q_frd_nx, q_frd_rt, q_frd_ct, q_frd_bk, q_turn, q_mkLst, q_mkTup, Nat.reduceLeDiff, q_and_bl, q_or_bl, q_c0, q_c1, q_c2, q_c3, q_c4, q_c5, q_c6, q_c9, q_c13, decide_true, decide_false, Int.reduceEq, Int.reduceLT, Int.reduceLE, Int.reduceAdd, Int.reduceSub, Int.reduceMul, Int.reduceNeg, Int.reducePow, Int.reduceToNat, Int.reduceBNe, Int.reduceNe, Nat.zero_le, q_get, q_cst, q_lift, q_un, q_with, q_av0, q_avC, q_callN, q_callKW, q_andD, q_orD, q_notD, q_fAnd, q_fOr, q_fNot, q_fTru, q_fBoo, q_ifD, q_isN, q_fIsN, q_fNotN, startD, q_bind, q_toS, q_rt, q_nx, q_thn_nx, q_thn_rt, q_okO, q_nxO, q_pure, q_none0, q_none1, q_none2, q_none3, q_none4, q_tru_bl, q_tru_int, q_tru_lst, q_tru_tup, q_tru_non, q_boo, q_seqL, q_seqT, q_lenL, q_lenT, q_eqI, q_neI, q_lt, q_le, q_gt, q_ge, q_add, q_addL, q_sub, q_neg, q_abs, q_int, q_intB, q_max, q_gcd, q_tupL, q_gL, q_gT, q_g0, q_g1, q_g2, q_lc, q_par, q_parO, q_whS, q_slc, q_prt0, q_prt1, q_intR, q_slcL, q_slcT, q_zipL, q_zipT, q_allp, List.length_map, wipeE, List.map_cons, List.map_nil, List.length_cons, List.length_nil, List.replicate, List.cons_append, List.nil_append, List.getElem?_cons_zero, List.getElem?_cons_succ, List.set_cons_zero, List.set_cons_succ, Nat.reduceSub, Nat.reduceAdd, if_true, Bool.not_true, Bool.not_false, Bool.false_eq_true, if_false, reduceIte, setD, List.foldl_cons, List.foldl_nil, q_asgN, q_asgT, q_asgL, q_asgs0, q_asgsC, Option.bind_some, List.append_nil, q_isx, q_enum, *]
theorem fields5 (one other : D) (s : Deck) : m_law_fields [.int 5, .exc "BadPlayer" [("part", one)]] s = .ok (.lst [one]) s := by
  have f0 := fun (s : Deck) => q_fldO (fT := fT) (fs := [("part", one)]) (d := one) (s := s) (show fT "BadPlayer" "part" = true by decide +kernel) (by first | rfl | (simp [List.lookup]; done))
  unfold m_law_fields g_law_fields
  simp only [q_def, q_seq, q_ite, q_ret, q_set, q_drop, q_asg, q_for, q_for0, q_fc, q_frd_nx, q_frd_rt, q_frd_ct, q_frd_bk, q_turn, q_mkLst, q_mkTup, Nat.reduceLeDiff, q_and_bl, q_or_bl, q_c0, q_c1, q_c2, q_c3, q_c4, q_c5, q_c6, q_c9, q_c13, decide_true, decide_false, Int.reduceEq, Int.reduceLT, Int.reduceLE, Int.reduceAdd, Int.reduceSub, Int.reduceMul, Int.reduceNeg, Int.reducePow, Int.reduceToNat, Int.reduceBNe, Int.reduceNe, Nat.zero_le, q_get, q_cst, q_lift, q_un, q_with, q_av0, q_avC, q_callN, q_callKW, q_andD, q_orD, q_notD, q_fAnd, q_fOr, q_fNot, q_fTru, q_fBoo, q_ifD, q_isN, q_fIsN, q_fNotN, startD, q_bind, q_toS, q_rt, q_nx, q_thn_nx, q_thn_rt, q_okO, q_nxO, q_pure, q_none0, q_none1, q_none2, q_none3, q_none4, q_tru_bl, q_tru_int, q_tru_lst, q_tru_tup, q_tru_non, q_boo, q_seqL, q_seqT, q_lenL, q_lenT, q_eqI, q_neI, q_lt, q_le, q_gt, q_ge, q_add, q_addL, q_sub, q_neg, q_abs, q_int, q_intB, q_max, q_gcd, q_tupL, q_gL, q_gT, q_g0, q_g1, q_g2, q_lc, q_par, q_parO, q_whS, q_slc, q_prt0, q_prt1, q_intR, q_slcL, q_slcT, q_zipL, q_zipT, q_allp, List.length_map, wipeE, List.map_cons, List.map_nil, List.length_cons, List.length_nil, List.replicate, List.cons_append, List.nil_append, List.getElem?_cons_zero, List.getElem?_cons_succ, List.set_cons_zero, List.set_cons_succ, Nat.reduceSub, Nat.reduceAdd, if_true, Bool.not_true, Bool.not_false, Bool.false_eq_true, if_false, reduceIte, setD, List.foldl_cons, List.foldl_nil, q_asgN, q_asgT, q_asgL, q_asgs0, q_asgsC, Option.bind_some, List.append_nil, q_fldF, *]
theorem right5 {one other : D} (h : VOk one) (h' : VOk other) (k : Bool) (s : Deck) : m_law_right [.int 5, one, other, .bl k] s = .ok (.bl true) s := by
  obtain ⟨t, t1, t2⟩ := shows1 h
  have rs := fun s => raises5 one other k s
  have kd := fun s => kinds5 [("part", one)] s
  have fd := fun s => fields5 one other s
  have v1 := fun (fs : List (Str × D)) (s : Deck) => q_isxO (tbl := tbx) (fs := fs) (s := s) (show tbx "BadPlayer" "ValueError" = some true by decide +kernel)
  have v2 := fun (fs : List (Str × D)) (s : Deck) => q_isxO (tbl := tbx) (fs := fs) (s := s) (show tbx "BadPlayer" "LookupError" = some false by decide +kernel)
  have v3 := fun (fs : List (Str × D)) (s : Deck) => q_isxO (tbl := tbx) (fs := fs) (s := s) (show tbx "BadPlayer" "TypeError" = some false by decide +kernel)
  have v4 := fun (fs : List (Str × D)) (s : Deck) => q_isxO (tbl := tbx) (fs := fs) (s := s) (show tbx "BadPlayer" "ArithmeticError" = some false by decide +kernel)
  have v5 := fun (fs : List (Str × D)) (s : Deck) => q_isxO (tbl := tbx) (fs := fs) (s := s) (show tbx "BadPlayer" "RuntimeError" = some false by decide +kernel)
  have ne : ∀ s : Deck, neM (.lst [.int 5]) (.lst [.int 5]) s = .ok (.bl false) s := fun s => rfl
  have kp : keepS tbl (dropS (withA (avC (getE 0) (avC (getE 1) (avC (getE 2) (avC (getE 3) av0)))) (callN 4 m_law_raises))) "PlayError" 5 4 [some (.int 5), some one, some other, some (.bl k), some .non, none, none] s
      = .nx [some (.int 5), some one, some other, some (.bl k), some (.exc "BadPlayer" [("part", one)]), none, none] s :=
    q_keep (e := ex5 one other) (δ' := [some (.int 5), some one, some other, some (.bl k), some .non, none, none]) (by
      clear v1 v2 v3 v4 v5 ne kd fd t1 t2
      simp only [q_def, q_seq, q_ite, q_ret, q_set, q_drop, q_asg, q_for, q_for0, q_fc, q_frd_nx, q_frd_rt, q_frd_ct, q_frd_bk, q_turn, q_mkLst, q_mkTup, Nat.reduceLeDiff, q_and_bl, q_or_bl, q_c0, q_c1, q_c2, q_c3, q_c4, q_c5, q_c6, q_c9, q_c13, decide_true, decide_false, Int.reduceEq, Int.reduceLT, Int.reduceLE, Int.reduceAdd, Int.reduceSub, Int.reduceMul, Int.reduceNeg, Int.reducePow, Int.reduceToNat, Int.reduceBNe, Int.reduceNe, Nat.zero_le, q_get, q_cst, q_lift, q_un, q_with, q_av0, q_avC, q_callN, q_callKW, q_andD, q_orD, q_notD, q_fAnd, q_fOr, q_fNot, q_fTru, q_fBoo, q_ifD, q_isN, q_fIsN, q_fNotN, startD, q_bind, q_toS, q_rt, q_nx, q_thn_nx, q_thn_rt, q_okO, q_nxO, q_pure, q_none0, q_none1, q_none2, q_none3, q_none4, q_tru_bl, q_tru_int, q_tru_lst, q_tru_tup, q_tru_non, q_boo, q_seqL, q_seqT, q_lenL, q_lenT, q_eqI, q_neI, q_lt, q_le, q_gt, q_ge, q_add, q_addL, q_sub, q_neg, q_abs, q_int, q_intB, q_max, q_gcd, q_tupL, q_gL, q_gT, q_g0, q_g1, q_g2, q_lc, q_par, q_parO, q_whS, q_slc, q_prt0, q_prt1, q_intR, q_slcL, q_slcT, q_zipL, q_zipT, q_allp, List.length_map, wipeE, List.map_cons, List.map_nil, List.length_cons, List.length_nil, List.replicate, List.cons_append, List.nil_append, List.getElem?_cons_zero, List.getElem?_cons_succ, List.set_cons_zero, List.set_cons_succ, Nat.reduceSub, Nat.reduceAdd, if_true, Bool.not_true, Bool.not_false, Bool.false_eq_true, if_false, reduceIte, setD, List.foldl_cons, List.foldl_nil, q_asgN, q_asgT, q_asgL, q_asgs0, q_asgsC, Option.bind_some, List.append_nil, q_drop, q_braise, q_toS_raise, *]) (by show 5 < 7; decide) (show tbl "BadPlayer" "PlayError" = some true by decide +kernel)
  unfold m_law_right g_law_right
  clear h h' rs
  generalize keepS tbl _ "PlayError" 5 4 = kS at *
  simp only [q_def, q_seq, q_ite, q_ret, q_set, q_drop, q_asg, q_for, q_for0, q_fc, q_frd_nx, q_frd_rt, q_frd_ct, q_frd_bk, q_turn, q_mkLst, q_mkTup, Nat.reduceLeDiff, q_and_bl, q_or_bl, q_c0, q_c1, q_c2, q_c3, q_c4, q_c5, q_c6, q_c9, q_c13, decide_true, decide_false, Int.reduceEq, Int.reduceLT, Int.reduceLE, Int.reduceAdd, Int.reduceSub, Int.reduceMul, Int.reduceNeg, Int.reducePow, Int.reduceToNat, Int.reduceBNe, Int.reduceNe, Nat.zero_le, q_get, q_cst, q_lift, q_un, q_with, q_av0, q_avC, q_callN, q_callKW, q_andD, q_orD, q_notD, q_fAnd, q_fOr, q_fNot, q_fTru, q_fBoo, q_ifD, q_isN, q_fIsN, q_fNotN, startD, q_bind, q_toS, q_rt, q_nx, q_thn_nx, q_thn_rt, q_okO, q_nxO, q_pure, q_none0, q_none1, q_none2, q_none3, q_none4, q_tru_bl, q_tru_int, q_tru_lst, q_tru_tup, q_tru_non, q_boo, q_seqL, q_seqT, q_lenL, q_lenT, q_eqI, q_neI, q_lt, q_le, q_gt, q_ge, q_add, q_addL, q_sub, q_neg, q_abs, q_int, q_intB, q_max, q_gcd, q_tupL, q_gL, q_gT, q_g0, q_g1, q_g2, q_lc, q_par, q_parO, q_whS, q_slc, q_prt0, q_prt1, q_intR, q_slcL, q_slcT, q_zipL, q_zipT, q_allp, List.length_map, wipeE, List.map_cons, List.map_nil, List.length_cons, List.length_nil, List.replicate, List.cons_append, List.nil_append, List.getElem?_cons_zero, List.getElem?_cons_succ, List.set_cons_zero, List.set_cons_succ, Nat.reduceSub, Nat.reduceAdd, if_true, Bool.not_true, Bool.not_false, Bool.false_eq_true, if_false, reduceIte, setD, List.foldl_cons, List.foldl_nil, q_asgN, q_asgT, q_asgL, q_asgs0, q_asgsC, Option.bind_some, List.append_nil, q_isx, q_fIsN, q_none_exc, *]
def ex6 (one other : D) : Ex := ⟨"BadPaper", [("part", one)]⟩
theorem raises6 (one other : D) (k : Bool) (s : Deck) : m_law_raises [.int 6, one, other, .bl k] s = .raise (ex6 one other) s := by
  unfold m_law_raises g_law_raises m_law_named g_law_named m_law_first g_law_first ex6
  cases k <;> simp only [q_def, q_seq, q_ite, q_ret, q_set, q_drop, q_asg, q_for, q_for0, q_fc, q_frd_nx, q_frd_rt, q_frd_ct, q_frd_bk, q_turn, q_mkLst, q_mkTup, Nat.reduceLeDiff, q_and_bl, q_or_bl, q_c0, q_c1, q_c2, q_c3, q_c4, q_c5, q_c6, q_c9, q_c13, decide_true, decide_false, Int.reduceEq, Int.reduceLT, Int.reduceLE, Int.reduceAdd, Int.reduceSub, Int.reduceMul, Int.reduceNeg, Int.reducePow, Int.reduceToNat, Int.reduceBNe, Int.reduceNe, Nat.zero_le, q_get, q_cst, q_lift, q_un, q_with, q_av0, q_avC, q_callN, q_callKW, q_andD, q_orD, q_notD, q_fAnd, q_fOr, q_fNot, q_fTru, q_fBoo, q_ifD, q_isN, q_fIsN, q_fNotN, startD, q_bind, q_toS, q_rt, q_nx, q_thn_nx, q_thn_rt, q_okO, q_nxO, q_pure, q_none0, q_none1, q_none2, q_none3, q_none4, q_tru_bl, q_tru_int, q_tru_lst, q_tru_tup, q_tru_non, q_boo, q_seqL, q_seqT, q_lenL, q_lenT, q_eqI, q_neI, q_lt, q_le, q_gt, q_ge, q_add, q_addL, q_sub, q_neg, q_abs, q_int, q_intB, q_max, q_gcd, q_tupL, q_gL, q_gT, q_g0, q_g1, q_g2, q_lc, q_par, q_parO, q_whS, q_slc, q_prt0, q_prt1, q_intR, q_slcL, q_slcT, q_zipL, q_zipT, q_allp, List.length_map, wipeE, List.map_cons, List.map_nil, List.length_cons, List.length_nil, List.replicate, List.cons_append, List.nil_append, List.getElem?_cons_zero, List.getElem?_cons_succ, List.set_cons_zero, List.set_cons_succ, Nat.reduceSub, Nat.reduceAdd, if_true, Bool.not_true, Bool.not_false, Bool.false_eq_true, if_false, reduceIte, setD, List.foldl_cons, List.foldl_nil, q_asgN, q_asgT, q_asgL, q_asgs0, q_asgsC, Option.bind_some, List.append_nil, q_drop, q_rs, q_rks, q_perm1, q_perm2, q_zip1, q_zip2, q_braise, q_toS_raise, q_thn_raise', q_toRr, List.length_singleton, *]
theorem kinds6 (fs : List (Str × D)) (s : Deck) : m_law_kinds [.exc "BadPaper" fs] s = .ok (.lst [.int 6]) s := by
  have t0 := fun (fs : List (Str × D)) (s : Deck) => q_isxO (tbl := tbl) (fs := fs) (s := s) (show tbl "BadPaper" "BadNumber" = some false by decide +kernel)
  have t1 := fun (fs : List (Str × D)) (s : Deck) => q_isxO (tbl := tbl) (fs := fs) (s := s) (show tbl "BadPaper" "BadPiece" = some false by decide +kernel)
  have t2 := fun (fs : List (Str × D)) (s : Deck) => q_isxO (tbl := tbl) (fs := fs) (s := s) (show tbl "BadPaper" "BadFrame" = some false by decide +kernel)
  have t3 := fun (fs : List (Str × D)) (s : Deck) => q_isxO (tbl := tbl) (fs := fs) (s := s) (show tbl "BadPaper" "BadBook" = some false by decide +kernel)
  have t4 := fun (fs : List (Str × D)) (s : Deck) => q_isxO (tbl := tbl) (fs := fs) (s := s) (show tbl "BadPaper" "BadProgram" = some false by decide +kernel)
  have t5 := fun (fs : List (Str × D)) (s : Deck) => q_isxO (tbl := tbl) (fs := fs) (s := s) (show tbl "BadPaper" "BadPlayer" = some false by decide +kernel)
  have t6 := fun (fs : List (Str × D)) (s : Deck) => q_isxO (tbl := tbl) (fs := fs) (s := s) (show tbl "BadPaper" "BadPaper" = some true by decide +kernel)
  have t7 := fun (fs : List (Str × D)) (s : Deck) => q_isxO (tbl := tbl) (fs := fs) (s := s) (show tbl "BadPaper" "Misfit" = some false by decide +kernel)
  have t8 := fun (fs : List (Str × D)) (s : Deck) => q_isxO (tbl := tbl) (fs := fs) (s := s) (show tbl "BadPaper" "NoWay" = some false by decide +kernel)
  have t9 := fun (fs : List (Str × D)) (s : Deck) => q_isxO (tbl := tbl) (fs := fs) (s := s) (show tbl "BadPaper" "NoPart" = some false by decide +kernel)
  have t10 := fun (fs : List (Str × D)) (s : Deck) => q_isxO (tbl := tbl) (fs := fs) (s := s) (show tbl "BadPaper" "Impossible" = some false by decide +kernel)
  have t11 := fun (fs : List (Str × D)) (s : Deck) => q_isxO (tbl := tbl) (fs := fs) (s := s) (show tbl "BadPaper" "TooMany" = some false by decide +kernel)
  have t12 := fun (fs : List (Str × D)) (s : Deck) => q_isxO (tbl := tbl) (fs := fs) (s := s) (show tbl "BadPaper" "BadText" = some false by decide +kernel)
  have kc := fun (x0 x1 : Option D) (s : Deck) => kinds_comp x0 x1 s [false, false, false, false, false, false, true, false, false, false, false, false, false] 0
  simp only [List.map_cons, List.map_nil] at kc
  have ki : idxs 0 [false, false, false, false, false, false, true, false, false, false, false, false, false] = [.int 6] := rfl
  rw [ki] at kc
  clear ki
  unfold m_law_kinds g_law_kinds
  simp only [q_def, q_seq, q_ite, q_ret, q_set, q_drop, q_asg, q_for, q_for0, q_fc, q_frd_nx, q_frd_rt, q_frd_ct, q_frd_bk, q_turn, q_mkLst, q_mkTup, Nat.reduceLeDiff, q_and_bl, q_or_bl, q_c0, q_c1, q_c2, q_c3, q_c4, q_c5, q_c6, q_c9, q_c13, decide_true, decide_false, Int.reduceEq, Int.reduceLT, Int.reduceLE, Int.reduceAdd, Int.reduceSub, Int.reduceMul, Int.reduceNeg, Int.reducePow, Int.reduceToNat, Int.reduceBNe, Int.reduceNe, Nat.zero_le, q_get, q_cst, q_lift, q_un, q_with, q_av0, q_avC, q_callN, q_callKW, q_andD, q_orD, q_notD, q_fAnd, q_fOr, q_fNot, q_fTru, q_fBoo, q_ifD, q_isN, q_fIsN, q_fNotN, startD, q_bind, q_toS, q_rt, q_nx, q_thn_nx, q_thn_rt, q_okO, q_nxO, q_pure, q_none0, q_none1, q_none2, q_none3, q_none4, q_tru_bl, q_tru_int, q_tru_lst, q_tru_tup, q_tru_non, q_boo, q_seqL, q_seqT, q_lenL, q_lenT, q_eqI, q_neI, q_lt, q_le, q_gt, q_ge, q_add, q_addL, q_sub, q_neg, q_abs, q_int, q_intB, q_max, q_gcd, q_tupL, q_gL, q_gT, q_g0, q_g1, q_g2, q_lc, q_par, q_parO, q_whS, q_slc, q_prt0, q_prt1, q_intR, q_slcL, q_slcT, q_zipL, q_zipT, q_allp, List.length_map, wipeE, List.map_cons, List.map_nil, List.length_cons, List.length_nil, List.replicate, List.cons_append, List.nil_append, List.getElem?_cons_zero, List.getElem?_cons_succ, List.set_cons_zero, List.set_cons_succ, Nat.reduceSub, Nat.reduceAdd, if_true, Bool.not_true, Bool.not_false, Bool.false_eq_true, if_false, reduceIte, setD, List.foldl_cons, List.foldl_nil, q_asgN, q_asgT, q_asgL, q_asgs0, q_asgsC, Option.bind_some, List.append_nil, q_isx, q_enum, *]
theorem fields6 (one other : D) (s : Deck) : m_law_fields [.int 6, .exc "BadPaper" [("part", one)]] s = .ok (.lst [one]) s := by
  have f0 := fun (s : Deck) => q_fldO (fT := fT) (fs := [("part", one)]) (d := one) (s := s) (show fT "BadPaper" "part" = true by decide +kernel) (by first | rfl | (simp [List.lookup]; done))
  unfold m_law_fields g_law_fields
  simp only [q_def, q_seq, q_ite, q_ret, q_set, q_drop, q_asg, q_for, q_for0, q_fc, q_frd_nx, q_frd_rt, q_frd_ct, q_frd_bk, q_turn, q_mkLst, q_mkTup, Nat.reduceLeDiff, q_and_bl, q_or_bl, q_c0, q_c1, q_c2, q_c3, q_c4, q_c5, q_c6, q_c9, q_c13, decide_true, decide_false, Int.reduceEq, Int.reduceLT, Int.reduceLE, Int.reduceAdd, Int.reduceSub, Int.reduceMul, Int.reduceNeg, Int.reducePow, Int.reduceToNat, Int.reduceBNe, Int.reduceNe, Nat.zero_le, q_get, q_cst, q_lift, q_un, q_with, q_av0, q_avC, q_callN, q_callKW, q_andD, q_orD, q_notD, q_fAnd, q_fOr, q_fNot, q_fTru, q_fBoo, q_ifD, q_isN, q_fIsN, q_fNotN, startD, q_bind, q_toS, q_rt, q_nx, q_thn_nx, q_thn_rt, q_okO, q_nxO, q_pure, q_none0, q_none1, q_none2, q_none3, q_none4, q_tru_bl, q_tru_int, q_tru_lst, q_tru_tup, q_tru_non, q_boo, q_seqL, q_seqT, q_lenL, q_lenT, q_eqI, q_neI, q_lt, q_le, q_gt, q_ge, q_add, q_addL, q_sub, q_neg, q_abs, q_int, q_intB, q_max, q_gcd, q_tupL, q_gL, q_gT, q_g0, q_g1, q_g2, q_lc, q_par, q_parO, q_whS, q_slc, q_prt0, q_prt1, q_intR, q_slcL, q_slcT, q_zipL, q_zipT, q_allp, List.length_map, wipeE, List.map_cons, List.map_nil, List.length_cons, List.length_nil, List.replicate, List.cons_append, List.nil_append, List.getElem?_cons_zero, List.getElem?_cons_succ, List.set_cons_zero, List.set_cons_succ, Nat.reduceSub, Nat.reduceAdd, if_true, Bool.not_true, Bool.not_false, Bool.false_eq_true, if_false, reduceIte, setD, List.foldl_cons, List.foldl_nil, q_asgN, q_asgT, q_asgL, q_asgs0, q_asgsC, Option.bind_some, List.append_nil, q_fldF, *]
theorem right6 {one other : D} (h : VOk one) (h' : VOk other) (k : Bool) (s : Deck) : m_law_right [.int 6, one, other, .bl k] s = .ok (.bl true) s := by
  obtain ⟨t, t1, t2⟩ := shows1 h
  have rs := fun s => raises6 one other k s
  have kd := fun s => kinds6 [("part", one)] s
  have fd := fun s => fields6 one other s
  have v1 := fun (fs : List (Str × D)) (s : Deck) => q_isxO (tbl := tbx) (fs := fs) (s := s) (show tbx "BadPaper" "ValueError" = some true by decide +kernel)
  have v2 := fun (fs : List (Str × D)) (s : Deck) => q_isxO (tbl := tbx) (fs := fs) (s := s) (show tbx "BadPaper" "LookupError" = some false by decide +kernel)
  have v3 := fun (fs : List (Str × D)) (s : Deck) => q_isxO (tbl := tbx) (fs := fs) (s := s) (show tbx "BadPaper" "TypeError" = some false by decide +kernel)
  have v4 := fun (fs : List (Str × D)) (s : Deck) => q_isxO (tbl := tbx) (fs := fs) (s := s) (show tbx "BadPaper" "ArithmeticError" = some false by decide +kernel)
  have v5 := fun (fs : List (Str × D)) (s : Deck) => q_isxO (tbl := tbx) (fs := fs) (s := s) (show tbx "BadPaper" "RuntimeError" = some false by decide +kernel)
  have ne : ∀ s : Deck, neM (.lst [.int 6]) (.lst [.int 6]) s = .ok (.bl false) s := fun s => rfl
  have kp : keepS tbl (dropS (withA (avC (getE 0) (avC (getE 1) (avC (getE 2) (avC (getE 3) av0)))) (callN 4 m_law_raises))) "PlayError" 5 4 [some (.int 6), some one, some other, some (.bl k), some .non, none, none] s
      = .nx [some (.int 6), some one, some other, some (.bl k), some (.exc "BadPaper" [("part", one)]), none, none] s :=
    q_keep (e := ex6 one other) (δ' := [some (.int 6), some one, some other, some (.bl k), some .non, none, none]) (by
      clear v1 v2 v3 v4 v5 ne kd fd t1 t2
      simp only [q_def, q_seq, q_ite, q_ret, q_set, q_drop, q_asg, q_for, q_for0, q_fc, q_frd_nx, q_frd_rt, q_frd_ct, q_frd_bk, q_turn, q_mkLst, q_mkTup, Nat.reduceLeDiff, q_and_bl, q_or_bl, q_c0, q_c1, q_c2, q_c3, q_c4, q_c5, q_c6, q_c9, q_c13, decide_true, decide_false, Int.reduceEq, Int.reduceLT, Int.reduceLE, Int.reduceAdd, Int.reduceSub, Int.reduceMul, Int.reduceNeg, Int.reducePow, Int.reduceToNat, Int.reduceBNe, Int.reduceNe, Nat.zero_le, q_get, q_cst, q_lift, q_un, q_with, q_av0, q_avC, q_callN, q_callKW, q_andD, q_orD, q_notD, q_fAnd, q_fOr, q_fNot, q_fTru, q_fBoo, q_ifD, q_isN, q_fIsN, q_fNotN, startD, q_bind, q_toS, q_rt, q_nx, q_thn_nx, q_thn_rt, q_okO, q_nxO, q_pure, q_none0, q_none1, q_none2, q_none3, q_none4, q_tru_bl, q_tru_int, q_tru_lst, q_tru_tup, q_tru_non, q_boo, q_seqL, q_seqT, q_lenL, q_lenT, q_eqI, q_neI, q_lt, q_le, q_gt, q_ge, q_add, q_addL, q_sub, q_neg, q_abs, q_int, q_intB, q_max, q_gcd, q_tupL, q_gL, q_gT, q_g0, q_g1, q_g2, q_lc, q_par, q_parO, q_whS, q_slc, q_prt0, q_prt1, q_intR, q_slcL, q_slcT, q_zipL, q_zipT, q_allp, List.length_map, wipeE, List.map_cons, List.map_nil, List.length_cons, List.length_nil, List.replicate, List.cons_append, List.nil_append, List.getElem?_cons_zero, List.getElem?_cons_succ, List.set_cons_zero, List.set_cons_succ, Nat.reduceSub, Nat.reduceAdd, if_true, Bool.not_true, Bool.not_false, Bool.false_eq_true, if_false, reduceIte, setD, List.foldl_cons, List.foldl_nil, q_asgN, q_asgT, q_asgL, q_asgs0, q_asgsC, Option.bind_some, List.append_nil, q_drop, q_braise, q_toS_raise, *]) (by show 5 < 7; decide) (show tbl "BadPaper" "PlayError" = some true by decide +kernel)
  unfold m_law_right g_law_right
  clear h h' rs
  generalize keepS tbl _ "PlayError" 5 4 = kS at *
  simp only [q_def, q_seq, q_ite, q_ret, q_set, q_drop, q_asg, q_for, q_for0, q_fc, q_frd_nx, q_frd_rt, q_frd_ct, q_frd_bk, q_turn, q_mkLst, q_mkTup, Nat.reduceLeDiff, q_and_bl, q_or_bl, q_c0, q_c1, q_c2, q_c3, q_c4, q_c5, q_c6, q_c9, q_c13, decide_true, decide_false, Int.reduceEq, Int.reduceLT, Int.reduceLE, Int.reduceAdd, Int.reduceSub, Int.reduceMul, Int.reduceNeg, Int.reducePow, Int.reduceToNat, Int.reduceBNe, Int.reduceNe, Nat.zero_le, q_get, q_cst, q_lift, q_un, q_with, q_av0, q_avC, q_callN, q_callKW, q_andD, q_orD, q_notD, q_fAnd, q_fOr, q_fNot, q_fTru, q_fBoo, q_ifD, q_isN, q_fIsN, q_fNotN, startD, q_bind, q_toS, q_rt, q_nx, q_thn_nx, q_thn_rt, q_okO, q_nxO, q_pure, q_none0, q_none1, q_none2, q_none3, q_none4, q_tru_bl, q_tru_int, q_tru_lst, q_tru_tup, q_tru_non, q_boo, q_seqL, q_seqT, q_lenL, q_lenT, q_eqI, q_neI, q_lt, q_le, q_gt, q_ge, q_add, q_addL, q_sub, q_neg, q_abs, q_int, q_intB, q_max, q_gcd, q_tupL, q_gL, q_gT, q_g0, q_g1, q_g2, q_lc, q_par, q_parO, q_whS, q_slc, q_prt0, q_prt1, q_intR, q_slcL, q_slcT, q_zipL, q_zipT, q_allp, List.length_map, wipeE, List.map_cons, List.map_nil, List.length_cons, List.length_nil, List.replicate, List.cons_append, List.nil_append, List.getElem?_cons_zero, List.getElem?_cons_succ, List.set_cons_zero, List.set_cons_succ, Nat.reduceSub, Nat.reduceAdd, if_true, Bool.not_true, Bool.not_false, Bool.false_eq_true, if_false, reduceIte, setD, List.foldl_cons, List.foldl_nil, q_asgN, q_asgT, q_asgL, q_asgs0, q_asgsC, Option.bind_some, List.append_nil, q_isx, q_fIsN, q_none_exc, *]
def ex7 (one other : D) : Ex := ⟨"Misfit", [("part", one)]⟩
theorem raises7 (one other : D) (k : Bool) (s : Deck) : m_law_raises [.int 7, one, other, .bl k] s = .raise (ex7 one other) s := by
  unfold m_law_raises g_law_raises m_law_named g_law_named m_law_first g_law_first ex7
  cases k <;> simp only [q_def, q_seq, q_ite, q_ret, q_set, q_drop, q_asg, q_for, q_for0, q_fc, q_frd_nx, q_frd_rt, q_frd_ct, q_frd_bk, q_turn, q_mkLst, q_mkTup, Nat.reduceLeDiff, q_and_bl, q_or_bl, q_c0, q_c1, q_c2, q_c3, q_c4, q_c5, q_c6, q_c9, q_c13, decide_true, decide_false, Int.reduceEq, Int.reduceLT, Int.reduceLE, Int.reduceAdd, Int.reduceSub, Int.reduceMul, Int.reduceNeg, Int.reducePow, Int.reduceToNat, Int.reduceBNe, Int.reduceNe, Nat.zero_le, q_get, q_cst, q_lift, q_un, q_with, q_av0, q_avC, q_callN, q_callKW, q_andD, q_orD, q_notD, q_fAnd, q_fOr, q_fNot, q_fTru, q_fBoo, q_ifD, q_isN, q_fIsN, q_fNotN, startD, q_bind, q_toS, q_rt, q_nx, q_thn_nx, q_thn_rt, q_okO, q_nxO, q_pure, q_none0, q_none1, q_none2, q_none3, q_none4, q_tru_bl, q_tru_int, q_tru_lst, q_tru_tup, q_tru_non, q_boo, q_seqL, q_seqT, q_lenL, q_lenT, q_eqI, q_neI, q_lt, q_le, q_gt, q_ge, q_add, q_addL, q_sub, q_neg, q_abs, q_int, q_intB, q_max, q_gcd, q_tupL, q_gL, q_gT, q_g0, q_g1, q_g2, q_lc, q_par, q_parO, q_whS, q_slc, q_prt0, q_prt1, q_intR, q_slcL, q_slcT, q_zipL, q_zipT, q_allp, List.length_map, wipeE, List.map_cons, List.map_nil, List.length_cons, List.length_nil, List.replicate, List.cons_append, List.nil_append, List.getElem?_cons_zero, List.getElem?_cons_succ, List.set_cons_zero, List.set_cons_succ, Nat.reduceSub, Nat.reduceAdd, if_true, Bool.not_true, Bool.not_false, Bool.false_eq_true, if_false, reduceIte, setD, List.foldl_cons, List.foldl_nil, q_asgN, q_asgT, q_asgL, q_asgs0, q_asgsC, Option.bind_some, List.append_nil, q_drop, q_rs, q_rks, q_perm1, q_perm2, q_zip1, q_zip2, q_braise, q_toS_raise, q_thn_raise', q_toRr, List.length_singleton, *]
theorem kinds7 (fs : List (Str × D)) (s : Deck) : m_law_kinds [.exc "Misfit" fs] s = .ok (.lst [.int 7]) s := by
  have t0 := fun (fs : List (Str × D)) (s : Deck) => q_isxO (tbl := tbl) (fs := fs) (s := s) (show tbl "Misfit" "BadNumber" = some false by decide +kernel)
  have t1 := fun (fs : List (Str × D)) (s : Deck) => q_isxO (tbl := tbl) (fs := fs) (s := s) (show tbl "Misfit" "BadPiece" = some false by decide +kernel)
  have t2 := fun (fs : List (Str × D)) (s : Deck) => q_isxO (tbl := tbl) (fs := fs) (s := s) (show tbl "Misfit" "BadFrame" = some false by decide +kernel)
  have t3 := fun (fs : List (Str × D)) (s : Deck) => q_isxO (tbl := tbl) (fs := fs) (s := s) (show tbl "Misfit" "BadBook" = some false by decide +kernel)
  have t4 := fun (fs : List (Str × D)) (s : Deck) => q_isxO (tbl := tbl) (fs := fs) (s := s) (show tbl "Misfit" "BadProgram" = some false by decide +kernel)
  have t5 := fun (fs : List (Str × D)) (s : Deck) => q_isxO (tbl := tbl) (fs := fs) (s := s) (show tbl "Misfit" "BadPlayer" = some false by decide +kernel)
  have t6 := fun (fs : List (Str × D)) (s : Deck) => q_isxO (tbl := tbl) (fs := fs) (s := s) (show tbl "Misfit" "BadPaper" = some false by decide +kernel)
  have t7 := fun (fs : List (Str × D)) (s : Deck) => q_isxO (tbl := tbl) (fs := fs) (s := s) (show tbl "Misfit" "Misfit" = some true by decide +kernel)
  have t8 := fun (fs : List (Str × D)) (s : Deck) => q_isxO (tbl := tbl) (fs := fs) (s := s) (show tbl "Misfit" "NoWay" = some false by decide +kernel)
  have t9 := fun (fs : List (Str × D)) (s : Deck) => q_isxO (tbl := tbl) (fs := fs) (s := s) (show tbl "Misfit" "NoPart" = some false by decide +kernel)
  have t10 := fun (fs : List (Str × D)) (s : Deck) => q_isxO (tbl := tbl) (fs := fs) (s := s) (show tbl "Misfit" "Impossible" = some false by decide +kernel)
  have t11 := fun (fs : List (Str × D)) (s : Deck) => q_isxO (tbl := tbl) (fs := fs) (s := s) (show tbl "Misfit" "TooMany" = some false by decide +kernel)
  have t12 := fun (fs : List (Str × D)) (s : Deck) => q_isxO (tbl := tbl) (fs := fs) (s := s) (show tbl "Misfit" "BadText" = some false by decide +kernel)
  have kc := fun (x0 x1 : Option D) (s : Deck) => kinds_comp x0 x1 s [false, false, false, false, false, false, false, true, false, false, false, false, false] 0
  simp only [List.map_cons, List.map_nil] at kc
  have ki : idxs 0 [false, false, false, false, false, false, false, true, false, false, false, false, false] = [.int 7] := rfl
  rw [ki] at kc
  clear ki
  unfold m_law_kinds g_law_kinds
  simp only [q_def, q_seq, q_ite, q_ret, q_set, q_drop, q_asg, q_for, q_for0, q_fc, q_frd_nx, q_frd_rt, q_frd_ct, q_frd_bk, q_turn, q_mkLst, q_mkTup, Nat.reduceLeDiff, q_and_bl, q_or_bl, q_c0, q_c1, q_c2, q_c3, q_c4, q_c5, q_c6, q_c9, q_c13, decide_true, decide_false, Int.reduceEq, Int.reduceLT, Int.reduceLE, Int.reduceAdd, Int.reduceSub, Int.reduceMul, Int.reduceNeg, Int.reducePow, Int.reduceToNat, Int.reduceBNe, Int.reduceNe, Nat.zero_le, q_get, q_cst, q_lift, q_un, q_with, q_av0, q_avC, q_callN, q_callKW, q_andD, q_orD, q_notD, q_fAnd, q_fOr, q_fNot, q_fTru, q_fBoo, q_ifD, q_isN, q_fIsN, q_fNotN, startD, q_bind, q_toS, q_rt, q_nx, q_thn_nx, q_thn_rt, q_okO, q_nxO, q_pure, q_none0, q_none1, q_none2, q_none3, q_none4, q_tru_bl, q_tru_int, q_tru_lst, q_tru_tup, q_tru_non, q_boo, q_seqL, q_seqT, q_lenL, q_lenT, q_eqI, q_neI, q_lt, q_le, q_gt, q_ge, q_add, q_addL, q_sub, q_neg, q_abs, q_int, q_intB, q_max, q_gcd, q_tupL, q_gL, q_gT, q_g0, q_g1, q_g2, q_lc, q_par, q_parO, q_whS, q_slc, q_prt0, q_prt1, q_intR, q_slcL, q_slcT, q_zipL, q_zipT, q_allp, List.length_map, wipeE, List.map_cons, List.map_nil, List.length_cons, List.length_nil, List.replicate, List.cons_append, List.nil_append, List.getElem?_cons_zero, List.getElem?_cons_succ, List.set_cons_zero, List.set_cons_succ, Nat.reduceSub, Nat.reduceAdd, if_true, Bool.not_true, Bool.not_false, Bool.false_eq_true, if_false, reduceIte, setD, List.foldl_cons, List.foldl_nil, q_asgN, q_asgT, q_asgL, q_asgs0, q_asgsC, Option.bind_some, List.append_nil, q_isx, q_enum, *]
theorem fields7 (one other : D) (s : Deck) : m_law_fields [.int 7, .exc "Misfit" [("part", one)]] s = .ok (.lst [one]) s := by
  have f0 := fun (s : Deck) => q_fldO (fT := fT) (fs := [("part", one)]) (d := one) (s := s) (show fT "Misfit" "part" = true by decide +kernel) (by first | rfl | (simp [List.lookup]; done))
  unfold m_law_fields g_law_fields
  simp only [q_def, q_seq, q_ite, q_ret, q_set, q_drop, q_asg, q_for, q_for0, q_fc, q_frd_nx, q_frd_rt, q_frd_ct, q_frd_bk, q_turn, q_mkLst, q_mkTup, Nat.reduceLeDiff, q_and_bl, q_or_bl, q_c0, q_c1, q_c2, q_c3, q_c4, q_c5, q_c6, q_c9, q_c13, decide_true, decide_false, Int.reduceEq, Int.reduceLT, Int.reduceLE, Int.reduceAdd, Int.reduceSub, Int.reduceMul, Int.reduceNeg, Int.reducePow, Int.reduceToNat, Int.reduceBNe, Int.reduceNe, Nat.zero_le, q_get, q_cst, q_lift, q_un, q_with, q_av0, q_avC, q_callN, q_callKW, q_andD, q_orD, q_notD, q_fAnd, q_fOr, q_fNot, q_fTru, q_fBoo, q_ifD, q_isN, q_fIsN, q_fNotN, startD, q_bind, q_toS, q_rt, q_nx, q_thn_nx, q_thn_rt, q_okO, q_nxO, q_pure, q_none0, q_none1, q_none2, q_none3, q_none4, q_tru_bl, q_tru_int, q_tru_lst, q_tru_tup, q_tru_non, q_boo, q_seqL, q_seqT, q_lenL, q_lenT, q_eqI, q_neI, q_lt, q_le, q_gt, q_ge, q_add, q_addL, q_sub, q_neg, q_abs, q_int, q_intB, q_max, q_gcd, q_tupL, q_gL, q_gT, q_g0, q_g1, q_g2, q_lc, q_par, q_parO, q_whS, q_slc, q_prt0, q_prt1, q_intR, q_slcL, q_slcT, q_zipL, q_zipT, q_allp, List.length_map, wipeE, List.map_cons, List.map_nil, List.length_cons, List.length_nil, List.replicate, List.cons_append, List.nil_append, List.getElem?_cons_zero, List.getElem?_cons_succ, List.set_cons_zero, List.set_cons_succ, Nat.reduceSub, Nat.reduceAdd, if_true, Bool.not_true, Bool.not_false, Bool.false_eq_true, if_false, reduceIte, setD, List.foldl_cons, List.foldl_nil, q_asgN, q_asgT, q_asgL, q_asgs0, q_asgsC, Option.bind_some, List.append_nil, q_fldF, *]
theorem right7 {one other : D} (h : VOk one) (h' : VOk other) (k : Bool) (s : Deck) : m_law_right [.int 7, one, other, .bl k] s = .ok (.bl true) s := by
  obtain ⟨t, t1, t2⟩ := shows1 h
  have rs := fun s => raises7 one other k s
  have kd := fun s => kinds7 [("part", one)] s
  have fd := fun s => fields7 one other s
  have v1 := fun (fs : List (Str × D)) (s : Deck) => q_isxO (tbl := tbx) (fs := fs) (s := s) (show tbx "Misfit" "ValueError" = some true by decide +kernel)
  have v2 := fun (fs : List (Str × D)) (s : Deck) => q_isxO (tbl := tbx) (fs := fs) (s := s) (show tbx "Misfit" "LookupError" = some false by decide +kernel)
  have v3 := fun (fs : List (Str × D)) (s : Deck) => q_isxO (tbl := tbx) (fs := fs) (s := s) (show tbx "Misfit" "TypeError" = some false by decide +kernel)
  have v4 := fun (fs : List (Str × D)) (s : Deck) => q_isxO (tbl := tbx) (fs := fs) (s := s) (show tbx "Misfit" "ArithmeticError" = some false by decide +kernel)
  have v5 := fun (fs : List (Str × D)) (s : Deck) => q_isxO (tbl := tbx) (fs := fs) (s := s) (show tbx "Misfit" "RuntimeError" = some false by decide +kernel)
  have ne : ∀ s : Deck, neM (.lst [.int 7]) (.lst [.int 7]) s = .ok (.bl false) s := fun s => rfl
  have kp : keepS tbl (dropS (withA (avC (getE 0) (avC (getE 1) (avC (getE 2) (avC (getE 3) av0)))) (callN 4 m_law_raises))) "PlayError" 5 4 [some (.int 7), some one, some other, some (.bl k), some .non, none, none] s
      = .nx [some (.int 7), some one, some other, some (.bl k), some (.exc "Misfit" [("part", one)]), none, none] s :=
    q_keep (e := ex7 one other) (δ' := [some (.int 7), some one, some other, some (.bl k), some .non, none, none]) (by
      clear v1 v2 v3 v4 v5 ne kd fd t1 t2
      simp only [q_def, q_seq, q_ite, q_ret, q_set, q_drop, q_asg, q_for, q_for0, q_fc, q_frd_nx, q_frd_rt, q_frd_ct, q_frd_bk, q_turn, q_mkLst, q_mkTup, Nat.reduceLeDiff, q_and_bl, q_or_bl, q_c0, q_c1, q_c2, q_c3, q_c4, q_c5, q_c6, q_c9, q_c13, decide_true, decide_false, Int.reduceEq, Int.reduceLT, Int.reduceLE, Int.reduceAdd, Int.reduceSub, Int.reduceMul, Int.reduceNeg, Int.reducePow, Int.reduceToNat, Int.reduceBNe, Int.reduceNe, Nat.zero_le, q_get, q_cst, q_lift, q_un, q_with, q_av0, q_avC, q_callN, q_callKW, q_andD, q_orD, q_notD, q_fAnd, q_fOr, q_fNot, q_fTru, q_fBoo, q_ifD, q_isN, q_fIsN, q_fNotN, startD, q_bind, q_toS, q_rt, q_nx, q_thn_nx, q_thn_rt, q_okO, q_nxO, q_pure, q_none0, q_none1, q_none2, q_none3, q_none4, q_tru_bl, q_tru_int, q_tru_lst, q_tru_tup, q_tru_non, q_boo, q_seqL, q_seqT, q_lenL, q_lenT, q_eqI, q_neI, q_lt, q_le, q_gt, q_ge, q_add, q_addL, q_sub, q_neg, q_abs, q_int, q_intB, q_max, q_gcd, q_tupL, q_gL, q_gT, q_g0, q_g1, q_g2, q_lc, q_par, q_parO, q_whS, q_slc, q_prt0, q_prt1, q_intR, q_slcL, q_slcT, q_zipL, q_zipT, q_allp, List.length_map, wipeE, List.map_cons, List.map_nil, List.length_cons, List.length_nil, List.replicate, List.cons_append, List.nil_append, List.getElem?_cons_zero, List.getElem?_cons_succ, List.set_cons_zero, List.set_cons_succ, Nat.reduceSub, Nat.reduceAdd, if_true, Bool.not_true, Bool.not_false, Bool.false_eq_true, if_false, reduceIte, setD, List.foldl_cons, List.foldl_nil, q_asgN, q_asgT, q_asgL, q_asgs0, q_asgsC, Option.bind_some, List.append_nil, q_drop, q_braise, q_toS_raise, *]) (by show 5 < 7; decide) (show tbl "Misfit" "PlayError" = some true by decide +kernel)
  unfold m_law_right g_law_right
  clear h h' rs
  generalize keepS tbl _ "PlayError" 5 4 = kS at *
  simp only [q_def, q_seq, q_ite, q_ret, q_set, q_drop, q_asg, q_for, q_for0, q_fc, q_frd_nx, q_frd_rt, q_frd_ct, q_frd_bk, q_turn, q_mkLst, q_mkTup, Nat.reduceLeDiff, q_and_bl, q_or_bl, q_c0, q_c1, q_c2, q_c3, q_c4, q_c5, q_c6, q_c9, q_c13, decide_true, decide_false, Int.reduceEq, Int.reduceLT, Int.reduceLE, Int.reduceAdd, Int.reduceSub, Int.reduceMul, Int.reduceNeg, Int.reducePow, Int.reduceToNat, Int.reduceBNe, Int.reduceNe, Nat.zero_le, q_get, q_cst, q_lift, q_un, q_with, q_av0, q_avC, q_callN, q_callKW, q_andD, q_orD, q_notD, q_fAnd, q_fOr, q_fNot, q_fTru, q_fBoo, q_ifD, q_isN, q_fIsN, q_fNotN, startD, q_bind, q_toS, q_rt, q_nx, q_thn_nx, q_thn_rt, q_okO, q_nxO, q_pure, q_none0, q_none1, q_none2, q_none3, q_none4, q_tru_bl, q_tru_int, q_tru_lst, q_tru_tup, q_tru_non, q_boo, q_seqL, q_seqT, q_lenL, q_lenT, q_eqI, q_neI, q_lt, q_le, q_gt, q_ge, q_add, q_addL, q_sub, q_neg, q_abs, q_int, q_intB, q_max, q_gcd, q_tupL, q_gL, q_gT, q_g0, q_g1, q_g2, q_lc, q_par, q_parO, q_whS, q_slc, q_prt0, q_prt1, q_intR, q_slcL, q_slcT, q_zipL, q_zipT, q_allp, List.length_map, wipeE, List.map_cons, List.map_nil, List.length_cons, List.length_nil, List.replicate, List.cons_append, List.nil_append, List.getElem?_cons_zero, List.getElem?_cons_succ, List.set_cons_zero, List.set_cons_succ, Nat.reduceSub, Nat.reduceAdd, if_true, Bool.not_true, Bool.not_false, Bool.false_eq_true, if_false, reduceIte, setD, List.foldl_cons, List.foldl_nil, q_asgN, q_asgT, q_asgL, q_asgs0, q_asgsC, Option.bind_some, List.append_nil, q_isx, q_fIsN, q_none_exc, *]
def ex8 (one other : D) : Ex := ⟨"NoWay", [("value", one)]⟩
theorem raises8 (one other : D) (k : Bool) (s : Deck) : m_law_raises [.int 8, one, other, .bl k] s = .raise (ex8 one other) s := by
  unfold m_law_raises g_law_raises m_law_named g_law_named m_law_first g_law_first ex8
  cases k <;> simp only [q_def, q_seq, q_ite, q_ret, q_set, q_drop, q_asg, q_for, q_for0, q_fc, q_frd_nx, q_frd_rt, q_frd_ct, q_frd_bk, q_turn, q_mkLst, q_mkTup, Nat.reduceLeDiff, q_and_bl, q_or_bl, q_c0, q_c1, q_c2, q_c3, q_c4, q_c5, q_c6, q_c9, q_c13, decide_true, decide_false, Int.reduceEq, Int.reduceLT, Int.reduceLE, Int.reduceAdd, Int.reduceSub, Int.reduceMul, Int.reduceNeg, Int.reducePow, Int.reduceToNat, Int.reduceBNe, Int.reduceNe, Nat.zero_le, q_get, q_cst, q_lift, q_un, q_with, q_av0, q_avC, q_callN, q_callKW, q_andD, q_orD, q_notD, q_fAnd, q_fOr, q_fNot, q_fTru, q_fBoo, q_ifD, q_isN, q_fIsN, q_fNotN, startD, q_bind, q_toS, q_rt, q_nx, q_thn_nx, q_thn_rt, q_okO, q_nxO, q_pure, q_none0, q_none1, q_none2, q_none3, q_none4, q_tru_bl, q_tru_int, q_tru_lst, q_tru_tup, q_tru_non, q_boo, q_seqL, q_seqT, q_lenL, q_lenT, q_eqI, q_neI, q_lt, q_le, q_gt, q_ge, q_add, q_addL, q_sub, q_neg, q_abs, q_int, q_intB, q_max, q_gcd, q_tupL, q_gL, q_gT, q_g0, q_g1, q_g2, q_lc, q_par, q_parO, q_whS, q_slc, q_prt0, q_prt1, q_intR, q_slcL, q_slcT, q_zipL, q_zipT, q_allp, List.length_map, wipeE, List.map_cons, List.map_nil, List.length_cons, List.length_nil, List.replicate, List.cons_append, List.nil_append, List.getElem?_cons_zero, List.getElem?_cons_succ, List.set_cons_zero, List.set_cons_succ, Nat.reduceSub, Nat.reduceAdd, if_true, Bool.not_true, Bool.not_false, Bool.false_eq_true, if_false, reduceIte, setD, List.foldl_cons, List.foldl_nil, q_asgN, q_asgT, q_asgL, q_asgs0, q_asgsC, Option.bind_some, List.append_nil, q_drop, q_rs, q_rks, q_perm1, q_perm2, q_zip1, q_zip2, q_braise, q_toS_raise, q_thn_raise', q_toRr, List.length_singleton, *]
theorem kinds8 (fs : List (Str × D)) (s : Deck) : m_law_kinds [.exc "NoWay" fs] s = .ok (.lst [.int 8]) s := by
  have t0 := fun (fs : List (Str × D)) (s : Deck) => q_isxO (tbl := tbl) (fs := fs) (s := s) (show tbl "NoWay" "BadNumber" = some false by decide +kernel)
  have t1 := fun (fs : List (Str × D)) (s : Deck) => q_isxO (tbl := tbl) (fs := fs) (s := s) (show tbl "NoWay" "BadPiece" = some false by decide +kernel)
  have t2 := fun (fs : List (Str × D)) (s : Deck) => q_isxO (tbl := tbl) (fs := fs) (s := s) (show tbl "NoWay" "BadFrame" = some false by decide +kernel)
  have t3 := fun (fs : List (Str × D)) (s : Deck) => q_isxO (tbl := tbl) (fs := fs) (s := s) (show tbl "NoWay" "BadBook" = some false by decide +kernel)
  have t4 := fun (fs : List (Str × D)) (s : Deck) => q_isxO (tbl := tbl) (fs := fs) (s := s) (show tbl "NoWay" "BadProgram" = some false by decide +kernel)
  have t5 := fun (fs : List (Str × D)) (s : Deck) => q_isxO (tbl := tbl) (fs := fs) (s := s) (show tbl "NoWay" "BadPlayer" = some false by decide +kernel)
  have t6 := fun (fs : List (Str × D)) (s : Deck) => q_isxO (tbl := tbl) (fs := fs) (s := s) (show tbl "NoWay" "BadPaper" = some false by decide +kernel)
  have t7 := fun (fs : List (Str × D)) (s : Deck) => q_isxO (tbl := tbl) (fs := fs) (s := s) (show tbl "NoWay" "Misfit" = some false by decide +kernel)
  have t8 := fun (fs : List (Str × D)) (s : Deck) => q_isxO (tbl := tbl) (fs := fs) (s := s) (show tbl "NoWay" "NoWay" = some true by decide +kernel)
  have t9 := fun (fs : List (Str × D)) (s : Deck) => q_isxO (tbl := tbl) (fs := fs) (s := s) (show tbl "NoWay" "NoPart" = some false by decide +kernel)
  have t10 := fun (fs : List (Str × D)) (s : Deck) => q_isxO (tbl := tbl) (fs := fs) (s := s) (show tbl "NoWay" "Impossible" = some false by decide +kernel)
  have t11 := fun (fs : List (Str × D)) (s : Deck) => q_isxO (tbl := tbl) (fs := fs) (s := s) (show tbl "NoWay" "TooMany" = some false by decide +kernel)
  have t12 := fun (fs : List (Str × D)) (s : Deck) => q_isxO (tbl := tbl) (fs := fs) (s := s) (show tbl "NoWay" "BadText" = some false by decide +kernel)
  have kc := fun (x0 x1 : Option D) (s : Deck) => kinds_comp x0 x1 s [false, false, false, false, false, false, false, false, true, false, false, false, false] 0
  simp only [List.map_cons, List.map_nil] at kc
  have ki : idxs 0 [false, false, false, false, false, false, false, false, true, false, false, false, false] = [.int 8] := rfl
  rw [ki] at kc
  clear ki
  unfold m_law_kinds g_law_kinds
  simp only [q_def, q_seq, q_ite, q_ret, q_set, q_drop, q_asg, q_for, q_for0, q_fc, q_frd_nx, q_frd_rt, q_frd_ct, q_frd_bk, q_turn, q_mkLst, q_mkTup, Nat.reduceLeDiff, q_and_bl, q_or_bl, q_c0, q_c1, q_c2, q_c3, q_c4, q_c5, q_c6, q_c9, q_c13, decide_true, decide_false, Int.reduceEq, Int.reduceLT, Int.reduceLE, Int.reduceAdd, Int.reduceSub, Int.reduceMul, Int.reduceNeg, Int.reducePow, Int.reduceToNat, Int.reduceBNe, Int.reduceNe, Nat.zero_le, q_get, q_cst, q_lift, q_un, q_with, q_av0, q_avC, q_callN, q_callKW, q_andD, q_orD, q_notD, q_fAnd, q_fOr, q_fNot, q_fTru, q_fBoo, q_ifD, q_isN, q_fIsN, q_fNotN, startD, q_bind, q_toS, q_rt, q_nx, q_thn_nx, q_thn_rt, q_okO, q_nxO, q_pure, q_none0, q_none1, q_none2, q_none3, q_none4, q_tru_bl, q_tru_int, q_tru_lst, q_tru_tup, q_tru_non, q_boo, q_seqL, q_seqT, q_lenL, q_lenT, q_eqI, q_neI, q_lt, q_le, q_gt, q_ge, q_add, q_addL, q_sub, q_neg, q_abs, q_int, q_intB, q_max, q_gcd, q_tupL, q_gL, q_gT, q_g0, q_g1, q_g2, q_lc, q_par, q_parO, q_whS, q_slc, q_prt0, q_prt1, q_intR, q_slcL, q_slcT, q_zipL, q_zipT, q_allp, List.length_map, wipeE, List.map_cons, List.map_nil, List.length_cons, List.length_nil, List.replicate, List.cons_append, List.nil_append, List.getElem?_cons_zero, List.getElem?_cons_succ, List.set_cons_zero, List.set_cons_succ, Nat.reduceSub, Nat.reduceAdd, if_true, Bool.not_true, Bool.not_false, Bool.false_eq_true, if_false, reduceIte, setD, List.foldl_cons, List.foldl_nil, q_asgN, q_asgT, q_asgL, q_asgs0, q_asgsC, Option.bind_some, List.append_nil, q_isx, q_enum, *]
theorem fields8 (one other : D) (s : Deck) : m_law_fields [.int 8, .exc "NoWay" [("value", one)]] s = .ok (.lst [one]) s := by
  have f0 := fun (s : Deck) => q_fldO (fT := fT) (fs := [("value", one)]) (d := one) (s := s) (show fT "NoWay" "value" = true by decide +kernel) (by first | rfl | (simp [List.lookup]; done))
  unfold m_law_fields g_law_fields
  simp only [q_def, q_seq, q_ite, q_ret, q_set, q_drop, q_asg, q_for, q_for0, q_fc, q_frd_nx, q_frd_rt, q_frd_ct, q_frd_bk, q_turn, q_mkLst, q_mkTup, Nat.reduceLeDiff, q_and_bl, q_or_bl, q_c0, q_c1, q_c2, q_c3, q_c4, q_c5, q_c6, q_c9, q_c13, decide_true, decide_false, Int.reduceEq, Int.reduceLT, Int.reduceLE, Int.reduceAdd, Int.reduceSub, Int.reduceMul, Int.reduceNeg, Int.reducePow, Int.reduceToNat, Int.reduceBNe, Int.reduceNe, Nat.zero_le, q_get, q_cst, q_lift, q_un, q_with, q_av0, q_avC, q_callN, q_callKW, q_andD, q_orD, q_notD, q_fAnd, q_fOr, q_fNot, q_fTru, q_fBoo, q_ifD, q_isN, q_fIsN, q_fNotN, startD, q_bind, q_toS, q_rt, q_nx, q_thn_nx, q_thn_rt, q_okO, q_nxO, q_pure, q_none0, q_none1, q_none2, q_none3, q_none4, q_tru_bl, q_tru_int, q_tru_lst, q_tru_tup, q_tru_non, q_boo, q_seqL, q_seqT, q_lenL, q_lenT, q_eqI, q_neI, q_lt, q_le, q_gt, q_ge, q_add, q_addL, q_sub, q_neg, q_abs, q_int, q_intB, q_max, q_gcd, q_tupL, q_gL, q_gT, q_g0, q_g1, q_g2, q_lc, q_par, q_parO, q_whS, q_slc, q_prt0, q_prt1, q_intR, q_slcL, q_slcT, q_zipL, q_zipT, q_allp, List.length_map, wipeE, List.map_cons, List.map_nil, List.length_cons, List.length_nil, List.replicate, List.cons_append, List.nil_append, List.getElem?_cons_zero, List.getElem?_cons_succ, List.set_cons_zero, List.set_cons_succ, Nat.reduceSub, Nat.reduceAdd, if_true, Bool.not_true, Bool.not_false, Bool.false_eq_true, if_false, reduceIte, setD, List.foldl_cons, List.foldl_nil, q_asgN, q_asgT, q_asgL, q_asgs0, q_asgsC, Option.bind_some, List.append_nil, q_fldF, *]
theorem right8 {one other : D} (h : VOk one) (h' : VOk other) (k : Bool) (s : Deck) : m_law_right [.int 8, one, other, .bl k] s = .ok (.bl true) s := by
  obtain ⟨t, t1, t2⟩ := shows1 h
  have rs := fun s => raises8 one other k s
  have kd := fun s => kinds8 [("value", one)] s
  have fd := fun s => fields8 one other s
  have v1 := fun (fs : List (Str × D)) (s : Deck) => q_isxO (tbl := tbx) (fs := fs) (s := s) (show tbx "NoWay" "ValueError" = some true by decide +kernel)
  have v2 := fun (fs : List (Str × D)) (s : Deck) => q_isxO (tbl := tbx) (fs := fs) (s := s) (show tbx "NoWay" "LookupError" = some false by decide +kernel)
  have v3 := fun (fs : List (Str × D)) (s : Deck) => q_isxO (tbl := tbx) (fs := fs) (s := s) (show tbx "NoWay" "TypeError" = some false by decide +kernel)
  have v4 := fun (fs : List (Str × D)) (s : Deck) => q_isxO (tbl := tbx) (fs := fs) (s := s) (show tbx "NoWay" "ArithmeticError" = some false by decide +kernel)
  have v5 := fun (fs : List (Str × D)) (s : Deck) => q_isxO (tbl := tbx) (fs := fs) (s := s) (show tbx "NoWay" "RuntimeError" = some false by decide +kernel)
  have ne : ∀ s : Deck, neM (.lst [.int 8]) (.lst [.int 8]) s = .ok (.bl false) s := fun s => rfl
  have kp : keepS tbl (dropS (withA (avC (getE 0) (avC (getE 1) (avC (getE 2) (avC (getE 3) av0)))) (callN 4 m_law_raises))) "PlayError" 5 4 [some (.int 8), some one, some other, some (.bl k), some .non, none, none] s
      = .nx [some (.int 8), some one, some other, some (.bl k), some (.exc "NoWay" [("value", one)]), none, none] s :=
    q_keep (e := ex8 one other) (δ' := [some (.int 8), some one, some other, some (.bl k), some .non, none, none]) (by
      clear v1 v2 v3 v4 v5 ne kd fd t1 t2
      simp only [q_def, q_seq, q_ite, q_ret, q_set, q_drop, q_asg, q_for, q_for0, q_fc, q_frd_nx, q_frd_rt, q_frd_ct, q_frd_bk, q_turn, q_mkLst, q_mkTup, Nat.reduceLeDiff, q_and_bl, q_or_bl, q_c0, q_c1, q_c2, q_c3, q_c4, q_c5, q_c6, q_c9, q_c13, decide_true, decide_false, Int.reduceEq, Int.reduceLT, Int.reduceLE, Int.reduceAdd, Int.reduceSub, Int.reduceMul, Int.reduceNeg, Int.reducePow, Int.reduceToNat, Int.reduceBNe, Int.reduceNe, Nat.zero_le, q_get, q_cst, q_lift, q_un, q_with, q_av0, q_avC, q_callN, q_callKW, q_andD, q_orD, q_notD, q_fAnd, q_fOr, q_fNot, q_fTru, q_fBoo, q_ifD, q_isN, q_fIsN, q_fNotN, startD, q_bind, q_toS, q_rt, q_nx, q_thn_nx, q_thn_rt, q_okO, q_nxO, q_pure, q_none0, q_none1, q_none2, q_none3, q_none4, q_tru_bl, q_tru_int, q_tru_lst, q_tru_tup, q_tru_non, q_boo, q_seqL, q_seqT, q_lenL, q_lenT, q_eqI, q_neI, q_lt, q_le, q_gt, q_ge, q_add, q_addL, q_sub, q_neg, q_abs, q_int, q_intB, q_max, q_gcd, q_tupL, q_gL, q_gT, q_g0, q_g1, q_g2, q_lc, q_par, q_parO, q_whS, q_slc, q_prt0, q_prt1, q_intR, q_slcL, q_slcT, q_zipL, q_zipT, q_allp, List.length_map, wipeE, List.map_cons, List.map_nil, List.length_cons, List.length_nil, List.replicate, List.cons_append, List.nil_append, List.getElem?_cons_zero, List.getElem?_cons_succ, List.set_cons_zero, List.set_cons_succ, Nat.reduceSub, Nat.reduceAdd, if_true, Bool.not_true, Bool.not_false, Bool.false_eq_true, if_false, reduceIte, setD, List.foldl_cons, List.foldl_nil, q_asgN, q_asgT, q_asgL, q_asgs0, q_asgsC, Option.bind_some, List.append_nil, q_drop, q_braise, q_toS_raise, *]) (by show 5 < 7; decide) (show tbl "NoWay" "PlayError" = some true by decide +kernel)
  unfold m_law_right g_law_right
  clear h h' rs
  generalize keepS tbl _ "PlayError" 5 4 = kS at *
  simp only [q_def, q_seq, q_ite, q_ret, q_set, q_drop, q_asg, q_for, q_for0, q_fc, q_frd_nx, q_frd_rt, q_frd_ct, q_frd_bk, q_turn, q_mkLst, q_mkTup, Nat.reduceLeDiff, q_and_bl, q_or_bl, q_c0, q_c1, q_c2, q_c3, q_c4, q_c5, q_c6, q_c9, q_c13, decide_true, decide_false, Int.reduceEq, Int.reduceLT, Int.reduceLE, Int.reduceAdd, Int.reduceSub, Int.reduceMul, Int.reduceNeg, Int.reducePow, Int.reduceToNat, Int.reduceBNe, Int.reduceNe, Nat.zero_le, q_get, q_cst, q_lift, q_un, q_with, q_av0, q_avC, q_callN, q_callKW, q_andD, q_orD, q_notD, q_fAnd, q_fOr, q_fNot, q_fTru, q_fBoo, q_ifD, q_isN, q_fIsN, q_fNotN, startD, q_bind, q_toS, q_rt, q_nx, q_thn_nx, q_thn_rt, q_okO, q_nxO, q_pure, q_none0, q_none1, q_none2, q_none3, q_none4, q_tru_bl, q_tru_int, q_tru_lst, q_tru_tup, q_tru_non, q_boo, q_seqL, q_seqT, q_lenL, q_lenT, q_eqI, q_neI, q_lt, q_le, q_gt, q_ge, q_add, q_addL, q_sub, q_neg, q_abs, q_int, q_intB, q_max, q_gcd, q_tupL, q_gL, q_gT, q_g0, q_g1, q_g2, q_lc, q_par, q_parO, q_whS, q_slc, q_prt0, q_prt1, q_intR, q_slcL, q_slcT, q_zipL, q_zipT, q_allp, List.length_map, wipeE, List.map_cons, List.map_nil, List.length_cons, List.length_nil, List.replicate, List.cons_append, List.nil_append, List.getElem?_cons_zero, List.getElem?_cons_succ, List.set_cons_zero, List.set_cons_succ, Nat.reduceSub, Nat.reduceAdd, if_true, Bool.not_true, Bool.not_false, Bool.false_eq_true, if_false, reduceIte, setD, List.foldl_cons, List.foldl_nil, q_asgN, q_asgT, q_asgL, q_asgs0, q_asgsC, Option.bind_some, List.append_nil, q_isx, q_fIsN, q_none_exc, *]
def ex9 (one other : D) : Ex := ⟨"NoPart", [("value", one)]⟩
theorem raises9 (one other : D) (k : Bool) (s : Deck) : m_law_raises [.int 9, one, other, .bl k] s = .raise (ex9 one other) s := by
  unfold m_law_raises g_law_raises m_law_named g_law_named m_law_first g_law_first ex9
  cases k <;> simp only [q_def, q_seq, q_ite, q_ret, q_set, q_drop, q_asg, q_for, q_for0, q_fc, q_frd_nx, q_frd_rt, q_frd_ct, q_frd_bk, q_turn, q_mkLst, q_mkTup, Nat.reduceLeDiff, q_and_bl, q_or_bl, q_c0, q_c1, q_c2, q_c3, q_c4, q_c5, q_c6, q_c9, q_c13, decide_true, decide_false, Int.reduceEq, Int.reduceLT, Int.reduceLE, Int.reduceAdd, Int.reduceSub, Int.reduceMul, Int.reduceNeg, Int.reducePow, Int.reduceToNat, Int.reduceBNe, Int.reduceNe, Nat.zero_le, q_get, q_cst, q_lift, q_un, q_with, q_av0, q_avC, q_callN, q_callKW, q_andD, q_orD, q_notD, q_fAnd, q_fOr, q_fNot, q_fTru, q_fBoo, q_ifD, q_isN, q_fIsN, q_fNotN, startD, q_bind, q_toS, q_rt, q_nx, q_thn_nx, q_thn_rt, q_okO, q_nxO, q_pure, q_none0, q_none1, q_none2, q_none3, q_none4, q_tru_bl, q_tru_int, q_tru_lst, q_tru_tup, q_tru_non, q_boo, q_seqL, q_seqT, q_lenL, q_lenT, q_eqI, q_neI, q_lt, q_le, q_gt, q_ge, q_add, q_addL, q_sub, q_neg, q_abs, q_int, q_intB, q_max, q_gcd, q_tupL, q_gL, q_gT, q_g0, q_g1, q_g2, q_lc, q_par, q_parO, q_whS, q_slc, q_prt0, q_prt1, q_intR, q_slcL, q_slcT, q_zipL, q_zipT, q_allp, List.length_map, wipeE, List.map_cons, List.map_nil, List.length_cons, List.length_nil, List.replicate, List.cons_append, List.nil_append, List.getElem?_cons_zero, List.getElem?_cons_succ, List.set_cons_zero, List.set_cons_succ, Nat.reduceSub, Nat.reduceAdd, if_true, Bool.not_true, Bool.not_false, Bool.false_eq_true, if_false, reduceIte, setD, List.foldl_cons, List.foldl_nil, q_asgN, q_asgT, q_asgL, q_asgs0, q_asgsC, Option.bind_some, List.append_nil, q_drop, q_rs, q_rks, q_perm1, q_perm2, q_zip1, q_zip2, q_braise, q_toS_raise, q_thn_raise', q_toRr, List.length_singleton, *]
theorem kinds9 (fs : List (Str × D)) (s : Deck) : m_law_kinds [.exc "NoPart" fs] s = .ok (.lst [.int 9]) s := by
  have t0 := fun (fs : List (Str × D)) (s : Deck) => q_isxO (tbl := tbl) (fs := fs) (s := s) (show tbl "NoPart" "BadNumber" = some false by decide +kernel)
  have t1 := fun (fs : List (Str × D)) (s : Deck) => q_isxO (tbl := tbl) (fs := fs) (s := s) (show tbl "NoPart" "BadPiece" = some false by decide +kernel)
  have t2 := fun (fs : List (Str × D)) (s : Deck) => q_isxO (tbl := tbl) (fs := fs) (s := s) (show tbl "NoPart" "BadFrame" = some false by decide +kernel)
  have t3 := fun (fs : List (Str × D)) (s : Deck) => q_isxO (tbl := tbl) (fs := fs) (s := s) (show tbl "NoPart" "BadBook" = some false by decide +kernel)
  have t4 := fun (fs : List (Str × D)) (s : Deck) => q_isxO (tbl := tbl) (fs := fs) (s := s) (show tbl "NoPart" "BadProgram" = some false by decide +kernel)
  have t5 := fun (fs : List (Str × D)) (s : Deck) => q_isxO (tbl := tbl) (fs := fs) (s := s) (show tbl "NoPart" "BadPlayer" = some false by decide +kernel)
  have t6 := fun (fs : List (Str × D)) (s : Deck) => q_isxO (tbl := tbl) (fs := fs) (s := s) (show tbl "NoPart" "BadPaper" = some false by decide +kernel)
  have t7 := fun (fs : List (Str × D)) (s : Deck) => q_isxO (tbl := tbl) (fs := fs) (s := s) (show tbl "NoPart" "Misfit" = some false by decide +kernel)
  have t8 := fun (fs : List (Str × D)) (s : Deck) => q_isxO (tbl := tbl) (fs := fs) (s := s) (show tbl "NoPart" "NoWay" = some false by decide +kernel)
  have t9 := fun (fs : List (Str × D)) (s : Deck) => q_isxO (tbl := tbl) (fs := fs) (s := s) (show tbl "NoPart" "NoPart" = some true by decide +kernel)
  have t10 := fun (fs : List (Str × D)) (s : Deck) => q_isxO (tbl := tbl) (fs := fs) (s := s) (show tbl "NoPart" "Impossible" = some false by decide +kernel)
  have t11 := fun (fs : List (Str × D)) (s : Deck) => q_isxO (tbl := tbl) (fs := fs) (s := s) (show tbl "NoPart" "TooMany" = some false by decide +kernel)
  have t12 := fun (fs : List (Str × D)) (s : Deck) => q_isxO (tbl := tbl) (fs := fs) (s := s) (show tbl "NoPart" "BadText" = some false by decide +kernel)
  have kc := fun (x0 x1 : Option D) (s : Deck) => kinds_comp x0 x1 s [false, false, false, false, false, false, false, false, false, true, false, false, false] 0
  simp only [List.map_cons, List.map_nil] at kc
  have ki : idxs 0 [false, false, false, false, false, false, false, false, false, true, false, false, false] = [.int 9] := rfl
  rw [ki] at kc
  clear ki
  unfold m_law_kinds g_law_kinds
  simp only [q_def, q_seq, q_ite, q_ret, q_set, q_drop, q_asg, q_for, q_for0, q_fc, q_frd_nx, q_frd_rt, q_frd_ct, q_frd_bk, q_turn, q_mkLst, q_mkTup, Nat.reduceLeDiff, q_and_bl, q_or_bl, q_c0, q_c1, q_c2, q_c3, q_c4, q_c5, q_c6, q_c9, q_c13, decide_true, decide_false, Int.reduceEq, Int.reduceLT, Int.reduceLE, Int.reduceAdd, Int.reduceSub, Int.reduceMul, Int.reduceNeg, Int.reducePow, Int.reduceToNat, Int.reduceBNe, Int.reduceNe, Nat.zero_le, q_get, q_cst, q_lift, q_un, q_with, q_av0, q_avC, q_callN, q_callKW, q_andD, q_orD, q_notD, q_fAnd, q_fOr, q_fNot, q_fTru, q_fBoo, q_ifD, q_isN, q_fIsN, q_fNotN, startD, q_bind, q_toS, q_rt, q_nx, q_thn_nx, q_thn_rt, q_okO, q_nxO, q_pure, q_none0, q_none1, q_none2, q_none3, q_none4, q_tru_bl, q_tru_int, q_tru_lst, q_tru_tup, q_tru_non, q_boo, q_seqL, q_seqT, q_lenL, q_lenT, q_eqI, q_neI, q_lt, q_le, q_gt, q_ge, q_add, q_addL, q_sub, q_neg, q_abs, q_int, q_intB, q_max, q_gcd, q_tupL, q_gL, q_gT, q_g0, q_g1, q_g2, q_lc, q_par, q_parO, q_whS, q_slc, q_prt0, q_prt1, q_intR, q_slcL, q_slcT, q_zipL, q_zipT, q_allp, List.length_map, wipeE, List.map_cons, List.map_nil, List.length_cons, List.length_nil, List.replicate, List.cons_append, List.nil_append, List.getElem?_cons_zero, List.getElem?_cons_succ, List.set_cons_zero, List.set_cons_succ, Nat.reduceSub, Nat.reduceAdd, if_true, Bool.not_true, Bool.not_false, Bool.false_eq_true, if_false, reduceIte, setD, List.foldl_cons, List.foldl_nil, q_asgN, q_asgT, q_asgL, q_asgs0, q_asgsC, Option.bind_some, List.append_nil, q_isx, q_enum, *]
theorem fields9 (one other : D) (s : Deck) : m_law_fields [.int 9, .exc "NoPart" [("value", one)]] s = .ok (.lst [one]) s := by
  have f0 := fun (s : Deck) => q_fldO (fT := fT) (fs := [("value", one)]) (d := one) (s := s) (show fT "NoPart" "value" = true by decide +kernel) (by first | rfl | (simp [List.lookup]; done))
  unfold m_law_fields g_law_fields
  simp only [q_def, q_seq, q_ite, q_ret, q_set, q_drop, q_asg, q_for, q_for0, q_fc, q_frd_nx, q_frd_rt, q_frd_ct, q_frd_bk, q_turn, q_mkLst, q_mkTup, Nat.reduceLeDiff, q_and_bl, q_or_bl, q_c0, q_c1, q_c2, q_c3, q_c4, q_c5, q_c6, q_c9, q_c13, decide_true, decide_false, Int.reduceEq, Int.reduceLT, Int.reduceLE, Int.reduceAdd, Int.reduceSub, Int.reduceMul, Int.reduceNeg, Int.reducePow, Int.reduceToNat, Int.reduceBNe, Int.reduceNe, Nat.zero_le, q_get, q_cst, q_lift, q_un, q_with, q_av0, q_avC, q_callN, q_callKW, q_andD, q_orD, q_notD, q_fAnd, q_fOr, q_fNot, q_fTru, q_fBoo, q_ifD, q_isN, q_fIsN, q_fNotN, startD, q_bind, q_toS, q_rt, q_nx, q_thn_nx, q_thn_rt, q_okO, q_nxO, q_pure, q_none0, q_none1, q_none2, q_none3, q_none4, q_tru_bl, q_tru_int, q_tru_lst, q_tru_tup, q_tru_non, q_boo, q_seqL, q_seqT, q_lenL, q_lenT, q_eqI, q_neI, q_lt, q_le, q_gt, q_ge, q_add, q_addL, q_sub, q_neg, q_abs, q_int, q_intB, q_max, q_gcd, q_tupL, q_gL, q_gT, q_g0, q_g1, q_g2, q_lc, q_par, q_parO, q_whS, q_slc, q_prt0, q_prt1, q_intR, q_slcL, q_slcT, q_zipL, q_zipT, q_allp, List.length_map, wipeE, List.map_cons, List.map_nil, List.length_cons, List.length_nil, List.replicate, List.cons_append, List.nil_append, List.getElem?_cons_zero, List.getElem?_cons_succ, List.set_cons_zero, List.set_cons_succ, Nat.reduceSub, Nat.reduceAdd, if_true, Bool.not_true, Bool.not_false, Bool.false_eq_true, if_false, reduceIte, setD, List.foldl_cons, List.foldl_nil, q_asgN, q_asgT, q_asgL, q_asgs0, q_asgsC, Option.bind_some, List.append_nil, q_fldF, *]
theorem right9 {one other : D} (h : VOk one) (h' : VOk other) (k : Bool) (s : Deck) : m_law_right [.int 9, one, other, .bl k] s = .ok (.bl true) s := by
  obtain ⟨t, t1, t2⟩ := shows1 h
  have rs := fun s => raises9 one other k s
  have kd := fun s => kinds9 [("value", one)] s
  have fd := fun s => fields9 one other s
  have v1 := fun (fs : List (Str × D)) (s : Deck) => q_isxO (tbl := tbx) (fs := fs) (s := s) (show tbx "NoPart" "ValueError" = some true by decide +kernel)
  have v2 := fun (fs : List (Str × D)) (s : Deck) => q_isxO (tbl := tbx) (fs := fs) (s := s) (show tbx "NoPart" "LookupError" = some false by decide +kernel)
  have v3 := fun (fs : List (Str × D)) (s : Deck) => q_isxO (tbl := tbx) (fs := fs) (s := s) (show tbx "NoPart" "TypeError" = some false by decide +kernel)
  have v4 := fun (fs : List (Str × D)) (s : Deck) => q_isxO (tbl := tbx) (fs := fs) (s := s) (show tbx "NoPart" "ArithmeticError" = some false by decide +kernel)
  have v5 := fun (fs : List (Str × D)) (s : Deck) => q_isxO (tbl := tbx) (fs := fs) (s := s) (show tbx "NoPart" "RuntimeError" = some false by decide +kernel)
  have ne : ∀ s : Deck, neM (.lst [.int 9]) (.lst [.int 9]) s = .ok (.bl false) s := fun s => rfl
  have kp : keepS tbl (dropS (withA (avC (getE 0) (avC (getE 1) (avC (getE 2) (avC (getE 3) av0)))) (callN 4 m_law_raises))) "PlayError" 5 4 [some (.int 9), some one, some other, some (.bl k), some .non, none, none] s
      = .nx [some (.int 9), some one, some other, some (.bl k), some (.exc "NoPart" [("value", one)]), none, none] s :=
    q_keep (e := ex9 one other) (δ' := [some (.int 9), some one, some other, some (.bl k), some .non, none, none]) (by
      clear v1 v2 v3 v4 v5 ne kd fd t1 t2
      simp only [q_def, q_seq, q_ite, q_ret, q_set, q_drop, q_asg, q_for, q_for0, q_fc, q_frd_nx, q_frd_rt, q_frd_ct, q_frd_bk, q_turn, q_mkLst, q_mkTup, Nat.reduceLeDiff, q_and_bl, q_or_bl, q_c0, q_c1, q_c2, q_c3, q_c4, q_c5, q_c6, q_c9, q_c13, decide_true, decide_false, Int.reduceEq, Int.reduceLT, Int.reduceLE, Int.reduceAdd, Int.reduceSub, Int.reduceMul, Int.reduceNeg, Int.reducePow, Int.reduceToNat, Int.reduceBNe, Int.reduceNe, Nat.zero_le, q_get, q_cst, q_lift, q_un, q_with, q_av0, q_avC, q_callN, q_callKW, q_andD, q_orD, q_notD, q_fAnd, q_fOr, q_fNot, q_fTru, q_fBoo, q_ifD, q_isN, q_fIsN, q_fNotN, startD, q_bind, q_toS, q_rt, q_nx, q_thn_nx, q_thn_rt, q_okO, q_nxO, q_pure, q_none0, q_none1, q_none2, q_none3, q_none4, q_tru_bl, q_tru_int, q_tru_lst, q_tru_tup, q_tru_non, q_boo, q_seqL, q_seqT, q_lenL, q_lenT, q_eqI, q_neI, q_lt, q_le, q_gt, q_ge, q_add, q_addL, q_sub, q_neg, q_abs, q_int, q_intB, q_max, q_gcd, q_tupL, q_gL, q_gT, q_g0, q_g1, q_g2, q_lc, q_par, q_parO, q_whS, q_slc, q_prt0, q_prt1, q_intR, q_slcL, q_slcT, q_zipL, q_zipT, q_allp, List.length_map, wipeE, List.map_cons, List.map_nil, List.length_cons, List.length_nil, List.replicate, List.cons_append, List.nil_append, List.getElem?_cons_zero, List.getElem?_cons_succ, List.set_cons_zero, List.set_cons_succ, Nat.reduceSub, Nat.reduceAdd, if_true, Bool.not_true, Bool.not_false, Bool.false_eq_true, if_false, reduceIte, setD, List.foldl_cons, List.foldl_nil, q_asgN, q_asgT, q_asgL, q_asgs0, q_asgsC, Option.bind_some, List.append_nil, q_drop, q_braise, q_toS_raise, *]) (by show 5 < 7; decide) (show tbl "NoPart" "PlayError" = some true by decide +kernel)
  unfold m_law_right g_law_right
  clear h h' rs
  generalize keepS tbl _ "PlayError" 5 4 = kS at *
  simp only [q_def, q_seq, q_ite, q_ret, q_set, q_drop, q_asg, q_for, q_for0, q_fc, q_frd_nx, q_frd_rt, q_frd_ct, q_frd_bk, q_turn, q_mkLst, q_mkTup, Nat.reduceLeDiff, q_and_bl, q_or_bl, q_c0, q_c1, q_c2, q_c3, q_c4, q_c5, q_c6, q_c9, q_c13, decide_true, decide_false, Int.reduceEq, Int.reduceLT, Int.reduceLE, Int.reduceAdd, Int.reduceSub, Int.reduceMul, Int.reduceNeg, Int.reducePow, Int.reduceToNat, Int.reduceBNe, Int.reduceNe, Nat.zero_le, q_get, q_cst, q_lift, q_un, q_with, q_av0, q_avC, q_callN, q_callKW, q_andD, q_orD, q_notD, q_fAnd, q_fOr, q_fNot, q_fTru, q_fBoo, q_ifD, q_isN, q_fIsN, q_fNotN, startD, q_bind, q_toS, q_rt, q_nx, q_thn_nx, q_thn_rt, q_okO, q_nxO, q_pure, q_none0, q_none1, q_none2, q_none3, q_none4, q_tru_bl, q_tru_int, q_tru_lst, q_tru_tup, q_tru_non, q_boo, q_seqL, q_seqT, q_lenL, q_lenT, q_eqI, q_neI, q_lt, q_le, q_gt, q_ge, q_add, q_addL, q_sub, q_neg, q_abs, q_int, q_intB, q_max, q_gcd, q_tupL, q_gL, q_gT, q_g0, q_g1, q_g2, q_lc, q_par, q_parO, q_whS, q_slc, q_prt0, q_prt1, q_intR, q_slcL, q_slcT, q_zipL, q_zipT, q_allp, List.length_map, wipeE, List.map_cons, List.map_nil, List.length_cons, List.length_nil, List.replicate, List.cons_append, List.nil_append, List.getElem?_cons_zero, List.getElem?_cons_succ, List.set_cons_zero, List.set_cons_succ, Nat.reduceSub, Nat.reduceAdd, if_true, Bool.not_true, Bool.not_false, Bool.false_eq_true, if_false, reduceIte, setD, List.foldl_cons, List.foldl_nil, q_asgN, q_asgT, q_asgL, q_asgs0, q_asgsC, Option.bind_some, List.append_nil, q_isx, q_fIsN, q_none_exc, *]
def ex10 (one other : D) : Ex := ⟨"Impossible", [("paper", one)]⟩
theorem raises10 (one other : D) (k : Bool) (s : Deck) : m_law_raises [.int 10, one, other, .bl k] s = .raise (ex10 one other) s := by
  unfold m_law_raises g_law_raises m_law_named g_law_named m_law_first g_law_first ex10
  cases k <;> simp only [q_def, q_seq, q_ite, q_ret, q_set, q_drop, q_asg, q_for, q_for0, q_fc, q_frd_nx, q_frd_rt, q_frd_ct, q_frd_bk, q_turn, q_mkLst, q_mkTup, Nat.reduceLeDiff, q_and_bl, q_or_bl, q_c0, q_c1, q_c2, q_c3, q_c4, q_c5, q_c6, q_c9, q_c13, decide_true, decide_false, Int.reduceEq, Int.reduceLT, Int.reduceLE, Int.reduceAdd, Int.reduceSub, Int.reduceMul, Int.reduceNeg, Int.reducePow, Int.reduceToNat, Int.reduceBNe, Int.reduceNe, Nat.zero_le, q_get, q_cst, q_lift, q_un, q_with, q_av0, q_avC, q_callN, q_callKW, q_andD, q_orD, q_notD, q_fAnd, q_fOr, q_fNot, q_fTru, q_fBoo, q_ifD, q_isN, q_fIsN, q_fNotN, startD, q_bind, q_toS, q_rt, q_nx, q_thn_nx, q_thn_rt, q_okO, q_nxO, q_pure, q_none0, q_none1, q_none2, q_none3, q_none4, q_tru_bl, q_tru_int, q_tru_lst, q_tru_tup, q_tru_non, q_boo, q_seqL, q_seqT, q_lenL, q_lenT, q_eqI, q_neI, q_lt, q_le, q_gt, q_ge, q_add, q_addL, q_sub, q_neg, q_abs, q_int, q_intB, q_max, q_gcd, q_tupL, q_gL, q_gT, q_g0, q_g1, q_g2, q_lc, q_par, q_parO, q_whS, q_slc, q_prt0, q_prt1, q_intR, q_slcL, q_slcT, q_zipL, q_zipT, q_allp, List.length_map, wipeE, List.map_cons, List.map_nil, List.length_cons, List.length_nil, List.replicate, List.cons_append, List.nil_append, List.getElem?_cons_zero, List.getElem?_cons_succ, List.set_cons_zero, List.set_cons_succ, Nat.reduceSub, Nat.reduceAdd, if_true, Bool.not_true, Bool.not_false, Bool.false_eq_true, if_false, reduceIte, setD, List.foldl_cons, List.foldl_nil, q_asgN, q_asgT, q_asgL, q_asgs0, q_asgsC, Option.bind_some, List.append_nil, q_drop, q_rs, q_rks, q_perm1, q_perm2, q_zip1, q_zip2, q_braise, q_toS_raise, q_thn_raise', q_toRr, List.length_singleton, *]
theorem kinds10 (fs : List (Str × D)) (s : Deck) : m_law_kinds [.exc "Impossible" fs] s = .ok (.lst [.int 10]) s := by
  have t0 := fun (fs : List (Str × D)) (s : Deck) => q_isxO (tbl := tbl) (fs := fs) (s := s) (show tbl "Impossible" "BadNumber" = some false by decide +kernel)
  have t1 := fun (fs : List (Str × D)) (s : Deck) => q_isxO (tbl := tbl) (fs := fs) (s := s) (show tbl "Impossible" "BadPiece" = some false by decide +kernel)
  have t2 := fun (fs : List (Str × D)) (s : Deck) => q_isxO (tbl := tbl) (fs := fs) (s := s) (show tbl "Impossible" "BadFrame" = some false by decide +kernel)
  have t3 := fun (fs : List (Str × D)) (s : Deck) => q_isxO (tbl := tbl) (fs := fs) (s := s) (show tbl "Impossible" "BadBook" = some false by decide +kernel)
  have t4 := fun (fs : List (Str × D)) (s : Deck) => q_isxO (tbl := tbl) (fs := fs) (s := s) (show tbl "Impossible" "BadProgram" = some false by decide +kernel)
  have t5 := fun (fs : List (Str × D)) (s : Deck) => q_isxO (tbl := tbl) (fs := fs) (s := s) (show tbl "Impossible" "BadPlayer" = some false by decide +kernel)
  have t6 := fun (fs : List (Str × D)) (s : Deck) => q_isxO (tbl := tbl) (fs := fs) (s := s) (show tbl "Impossible" "BadPaper" = some false by decide +kernel)
  have t7 := fun (fs : List (Str × D)) (s : Deck) => q_isxO (tbl := tbl) (fs := fs) (s := s) (show tbl "Impossible" "Misfit" = some false by decide +kernel)
  have t8 := fun (fs : List (Str × D)) (s : Deck) => q_isxO (tbl := tbl) (fs := fs) (s := s) (show tbl "Impossible" "NoWay" = some false by decide +kernel)
  have t9 := fun (fs : List (Str × D)) (s : Deck) => q_isxO (tbl := tbl) (fs := fs) (s := s) (show tbl "Impossible" "NoPart" = some false by decide +kernel)
  have t10 := fun (fs : List (Str × D)) (s : Deck) => q_isxO (tbl := tbl) (fs := fs) (s := s) (show tbl "Impossible" "Impossible" = some true by decide +kernel)
  have t11 := fun (fs : List (Str × D)) (s : Deck) => q_isxO (tbl := tbl) (fs := fs) (s := s) (show tbl "Impossible" "TooMany" = some false by decide +kernel)
  have t12 := fun (fs : List (Str × D)) (s : Deck) => q_isxO (tbl := tbl) (fs := fs) (s := s) (show tbl "Impossible" "BadText" = some false by decide +kernel)
  have kc := fun (x0 x1 : Option D) (s : Deck) => kinds_comp x0 x1 s [false, false, false, false, false, false, false, false, false, false, true, false, false] 0
  simp only [List.map_cons, List.map_nil] at kc
  have ki : idxs 0 [false, false, false, false, false, false, false, false, false, false, true, false, false] = [.int 10] := rfl
  rw [ki] at kc
  clear ki
  unfold m_law_kinds g_law_kinds
  simp only [q_def, q_seq, q_ite, q_ret, q_set, q_drop, q_asg, q_for, q_for0, q_fc, q_frd_nx, q_frd_rt, q_frd_ct, q_frd_bk, q_turn, q_mkLst, q_mkTup, Nat.reduceLeDiff, q_and_bl, q_or_bl, q_c0, q_c1, q_c2, q_c3, q_c4, q_c5, q_c6, q_c9, q_c13, decide_true, decide_false, Int.reduceEq, Int.reduceLT, Int.reduceLE, Int.reduceAdd, Int.reduceSub, Int.reduceMul, Int.reduceNeg, Int.reducePow, Int.reduceToNat, Int.reduceBNe, Int.reduceNe, Nat.zero_le, q_get, q_cst, q_lift, q_un, q_with, q_av0, q_avC, q_callN, q_callKW, q_andD, q_orD, q_notD, q_fAnd, q_fOr, q_fNot, q_fTru, q_fBoo, q_ifD, q_isN, q_fIsN, q_fNotN, startD, q_bind, q_toS, q_rt, q_nx, q_thn_nx, q_thn_rt, q_okO, q_nxO, q_pure, q_none0, q_none1, q_none2, q_none3, q_none4, q_tru_bl, q_tru_int, q_tru_lst, q_tru_tup, q_tru_non, q_boo, q_seqL, q_seqT, q_lenL, q_lenT, q_eqI, q_neI, q_lt, q_le, q_gt, q_ge, q_add, q_addL, q_sub, q_neg, q_abs, q_int, q_intB, q_max, q_gcd, q_tupL, q_gL, q_gT, q_g0, q_g1, q_g2, q_lc, q_par, q_parO, q_whS, q_slc, q_prt0, q_prt1, q_intR, q_slcL, q_slcT, q_zipL, q_zipT, q_allp, List.length_map, wipeE, List.map_cons, List.map_nil, List.length_cons, List.length_nil, List.replicate, List.cons_append, List.nil_append, List.getElem?_cons_zero, List.getElem?_cons_succ, List.set_cons_zero, List.set_cons_succ, Nat.reduceSub, Nat.reduceAdd, if_true, Bool.not_true, Bool.not_false, Bool.false_eq_true, if_false, reduceIte, setD, List.foldl_cons, List.foldl_nil, q_asgN, q_asgT, q_asgL, q_asgs0, q_asgsC, Option.bind_some, List.append_nil, q_isx, q_enum, *]
theorem fields10 (one other : D) (s : Deck) : m_law_fields [.int 10, .exc "Impossible" [("paper", one)]] s = .ok (.lst [one]) s := by
  have f0 := fun (s : Deck) => q_fldO (fT := fT) (fs := [("paper", one)]) (d := one) (s := s) (show fT "Impossible" "paper" = true by decide +kernel) (by first | rfl | (simp [List.lookup]; done))
  unfold m_law_fields g_law_fields
  simp only [q_def, q_seq, q_ite, q_ret, q_set, q_drop, q_asg, q_for, q_for0, q_fc, q_frd_nx, q_frd_rt, q_frd_ct, q_frd_bk, q_turn, q_mkLst, q_mkTup, Nat.reduceLeDiff, q_and_bl, q_or_bl, q_c0, q_c1, q_c2, q_c3, q_c4, q_c5, q_c6, q_c9, q_c13, decide_true, decide_false, Int.reduceEq, Int.reduceLT, Int.reduceLE, Int.reduceAdd, Int.reduceSub, Int.reduceMul, Int.reduceNeg, Int.reducePow, Int.reduceToNat, Int.reduceBNe, Int.reduceNe, Nat.zero_le, q_get, q_cst, q_lift, q_un, q_with, q_av0, q_avC, q_callN, q_callKW, q_andD, q_orD, q_notD, q_fAnd, q_fOr, q_fNot, q_fTru, q_fBoo, q_ifD, q_isN, q_fIsN, q_fNotN, startD, q_bind, q_toS, q_rt, q_nx, q_thn_nx, q_thn_rt, q_okO, q_nxO, q_pure, q_none0, q_none1, q_none2, q_none3, q_none4, q_tru_bl, q_tru_int, q_tru_lst, q_tru_tup, q_tru_non, q_boo, q_seqL, q_seqT, q_lenL, q_lenT, q_eqI, q_neI, q_lt, q_le, q_gt, q_ge, q_add, q_addL, q_sub, q_neg, q_abs, q_int, q_intB, q_max, q_gcd, q_tupL, q_gL, q_gT, q_g0, q_g1, q_g2, q_lc, q_par, q_parO, q_whS, q_slc, q_prt0, q_prt1, q_intR, q_slcL, q_slcT, q_zipL, q_zipT, q_allp, List.length_map, wipeE, List.map_cons, List.map_nil, List.length_cons, List.length_nil, List.replicate, List.cons_append, List.nil_append, List.getElem?_cons_zero, List.getElem?_cons_succ, List.set_cons_zero, List.set_cons_succ, Nat.reduceSub, Nat.reduceAdd, if_true, Bool.not_true, Bool.not_false, Bool.false_eq_true, if_false, reduceIte, setD, List.foldl_cons, List.foldl_nil, q_asgN, q_asgT, q_asgL, q_asgs0, q_asgsC, Option.bind_some, List.append_nil, q_fldF, *]
theorem right10 {one other : D} (h : VOk one) (h' : VOk other) (k : Bool) (s : Deck) : m_law_right [.int 10, one, other, .bl k] s = .ok (.bl true) s := by
  obtain ⟨t, t1, t2⟩ := shows1 h
  have rs := fun s => raises10 one other k s
  have kd := fun s => kinds10 [("paper", one)] s
  have fd := fun s => fields10 one other s
  have v1 := fun (fs : List (Str × D)) (s : Deck) => q_isxO (tbl := tbx) (fs := fs) (s := s) (show tbx "Impossible" "ValueError" = some true by decide +kernel)
  have v2 := fun (fs : List (Str × D)) (s : Deck) => q_isxO (tbl := tbx) (fs := fs) (s := s) (show tbx "Impossible" "LookupError" = some false by decide +kernel)
  have v3 := fun (fs : List (Str × D)) (s : Deck) => q_isxO (tbl := tbx) (fs := fs) (s := s) (show tbx "Impossible" "TypeError" = some false by decide +kernel)
  have v4 := fun (fs : List (Str × D)) (s : Deck) => q_isxO (tbl := tbx) (fs := fs) (s := s) (show tbx "Impossible" "ArithmeticError" = some false by decide +kernel)
  have v5 := fun (fs : List (Str × D)) (s : Deck) => q_isxO (tbl := tbx) (fs := fs) (s := s) (show tbx "Impossible" "RuntimeError" = some false by decide +kernel)
  have ne : ∀ s : Deck, neM (.lst [.int 10]) (.lst [.int 10]) s = .ok (.bl false) s := fun s => rfl
  have kp : keepS tbl (dropS (withA (avC (getE 0) (avC (getE 1) (avC (getE 2) (avC (getE 3) av0)))) (callN 4 m_law_raises))) "PlayError" 5 4 [some (.int 10), some one, some other, some (.bl k), some .non, none, none] s
      = .nx [some (.int 10), some one, some other, some (.bl k), some (.exc "Impossible" [("paper", one)]), none, none] s :=
    q_keep (e := ex10 one other) (δ' := [some (.int 10), some one, some other, some (.bl k), some .non, none, none]) (by
      clear v1 v2 v3 v4 v5 ne kd fd t1 t2
      simp only [q_def, q_seq, q_ite, q_ret, q_set, q_drop, q_asg, q_for, q_for0, q_fc, q_frd_nx, q_frd_rt, q_frd_ct, q_frd_bk, q_turn, q_mkLst, q_mkTup, Nat.reduceLeDiff, q_and_bl, q_or_bl, q_c0, q_c1, q_c2, q_c3, q_c4, q_c5, q_c6, q_c9, q_c13, decide_true, decide_false, Int.reduceEq, Int.reduceLT, Int.reduceLE, Int.reduceAdd, Int.reduceSub, Int.reduceMul, Int.reduceNeg, Int.reducePow, Int.reduceToNat, Int.reduceBNe, Int.reduceNe, Nat.zero_le, q_get, q_cst, q_lift, q_un, q_with, q_av0, q_avC, q_callN, q_callKW, q_andD, q_orD, q_notD, q_fAnd, q_fOr, q_fNot, q_fTru, q_fBoo, q_ifD, q_isN, q_fIsN, q_fNotN, startD, q_bind, q_toS, q_rt, q_nx, q_thn_nx, q_thn_rt, q_okO, q_nxO, q_pure, q_none0, q_none1, q_none2, q_none3, q_none4, q_tru_bl, q_tru_int, q_tru_lst, q_tru_tup, q_tru_non, q_boo, q_seqL, q_seqT, q_lenL, q_lenT, q_eqI, q_neI, q_lt, q_le, q_gt, q_ge, q_add, q_addL, q_sub, q_neg, q_abs, q_int, q_intB, q_max, q_gcd, q_tupL, q_gL, q_gT, q_g0, q_g1, q_g2, q_lc, q_par, q_parO, q_whS, q_slc, q_prt0, q_prt1, q_intR, q_slcL, q_slcT, q_zipL, q_zipT, q_allp, List.length_map, wipeE, List.map_cons, List.map_nil, List.length_cons, List.length_nil, List.replicate, List.cons_append, List.nil_append, List.getElem?_cons_zero, List.getElem?_cons_succ, List.set_cons_zero, List.set_cons_succ, Nat.reduceSub, Nat.reduceAdd, if_true, Bool.not_true, Bool.not_false, Bool.false_eq_true, if_false, reduceIte, setD, List.foldl_cons, List.foldl_nil, q_asgN, q_asgT, q_asgL, q_asgs0, q_asgsC, Option.bind_some, List.append_nil, q_drop, q_braise, q_toS_raise, *]) (by show 5 < 7; decide) (show tbl "Impossible" "PlayError" = some true by decide +kernel)
  unfold m_law_right g_law_right
  clear h h' rs
  generalize keepS tbl _ "PlayError" 5 4 = kS at *
  simp only [q_def, q_seq, q_ite, q_ret, q_set, q_drop, q_asg, q_for, q_for0, q_fc, q_frd_nx, q_frd_rt, q_frd_ct, q_frd_bk, q_turn, q_mkLst, q_mkTup, Nat.reduceLeDiff, q_and_bl, q_or_bl, q_c0, q_c1, q_c2, q_c3, q_c4, q_c5, q_c6, q_c9, q_c13, decide_true, decide_false, Int.reduceEq, Int.reduceLT, Int.reduceLE, Int.reduceAdd, Int.reduceSub, Int.reduceMul, Int.reduceNeg, Int.reducePow, Int.reduceToNat, Int.reduceBNe, Int.reduceNe, Nat.zero_le, q_get, q_cst, q_lift, q_un, q_with, q_av0, q_avC, q_callN, q_callKW, q_andD, q_orD, q_notD, q_fAnd, q_fOr, q_fNot, q_fTru, q_fBoo, q_ifD, q_isN, q_fIsN, q_fNotN, startD, q_bind, q_toS, q_rt, q_nx, q_thn_nx, q_thn_rt, q_okO, q_nxO, q_pure, q_none0, q_none1, q_none2, q_none3, q_none4, q_tru_bl, q_tru_int, q_tru_lst, q_tru_tup, q_tru_non, q_boo, q_seqL, q_seqT, q_lenL, q_lenT, q_eqI, q_neI, q_lt, q_le, q_gt, q_ge, q_add, q_addL, q_sub, q_neg, q_abs, q_int, q_intB, q_max, q_gcd, q_tupL, q_gL, q_gT, q_g0, q_g1, q_g2, q_lc, q_par, q_parO, q_whS, q_slc, q_prt0, q_prt1, q_intR, q_slcL, q_slcT, q_zipL, q_zipT, q_allp, List.length_map, wipeE, List.map_cons, List.map_nil, List.length_cons, List.length_nil, List.replicate, List.cons_append, List.nil_append, List.getElem?_cons_zero, List.getElem?_cons_succ, List.set_cons_zero, List.set_cons_succ, Nat.reduceSub, Nat.reduceAdd, if_true, Bool.not_true, Bool.not_false, Bool.false_eq_true, if_false, reduceIte, setD, List.foldl_cons, List.foldl_nil, q_asgN, q_asgT, q_asgL, q_asgs0, q_asgsC, Option.bind_some, List.append_nil, q_isx, q_fIsN, q_none_exc, *]
def ex11 (one other : D) : Ex := ⟨"TooMany", [("most", other), ("what", one)]⟩
theorem raises11 (one other : D) (k : Bool) (s : Deck) : m_law_raises [.int 11, one, other, .bl k] s = .raise (ex11 one other) s := by
  unfold m_law_raises g_law_raises m_law_last g_law_last ex11
  cases k <;> simp only [q_def, q_seq, q_ite, q_ret, q_set, q_drop, q_asg, q_for, q_for0, q_fc, q_frd_nx, q_frd_rt, q_frd_ct, q_frd_bk, q_turn, q_mkLst, q_mkTup, Nat.reduceLeDiff, q_and_bl, q_or_bl, q_c0, q_c1, q_c2, q_c3, q_c4, q_c5, q_c6, q_c9, q_c13, decide_true, decide_false, Int.reduceEq, Int.reduceLT, Int.reduceLE, Int.reduceAdd, Int.reduceSub, Int.reduceMul, Int.reduceNeg, Int.reducePow, Int.reduceToNat, Int.reduceBNe, Int.reduceNe, Nat.zero_le, q_get, q_cst, q_lift, q_un, q_with, q_av0, q_avC, q_callN, q_callKW, q_andD, q_orD, q_notD, q_fAnd, q_fOr, q_fNot, q_fTru, q_fBoo, q_ifD, q_isN, q_fIsN, q_fNotN, startD, q_bind, q_toS, q_rt, q_nx, q_thn_nx, q_thn_rt, q_okO, q_nxO, q_pure, q_none0, q_none1, q_none2, q_none3, q_none4, q_tru_bl, q_tru_int, q_tru_lst, q_tru_tup, q_tru_non, q_boo, q_seqL, q_seqT, q_lenL, q_lenT, q_eqI, q_neI, q_lt, q_le, q_gt, q_ge, q_add, q_addL, q_sub, q_neg, q_abs, q_int, q_intB, q_max, q_gcd, q_tupL, q_gL, q_gT, q_g0, q_g1, q_g2, q_lc, q_par, q_parO, q_whS, q_slc, q_prt0, q_prt1, q_intR, q_slcL, q_slcT, q_zipL, q_zipT, q_allp, List.length_map, wipeE, List.map_cons, List.map_nil, List.length_cons, List.length_nil, List.replicate, List.cons_append, List.nil_append, List.getElem?_cons_zero, List.getElem?_cons_succ, List.set_cons_zero, List.set_cons_succ, Nat.reduceSub, Nat.reduceAdd, if_true, Bool.not_true, Bool.not_false, Bool.false_eq_true, if_false, reduceIte, setD, List.foldl_cons, List.foldl_nil, q_asgN, q_asgT, q_asgL, q_asgs0, q_asgsC, Option.bind_some, List.append_nil, q_drop, q_rs, q_rks, q_perm1, q_perm2, q_zip1, q_zip2, q_braise, q_toS_raise, q_thn_raise', q_toRr, List.length_singleton, *]
theorem kinds11 (fs : List (Str × D)) (s : Deck) : m_law_kinds [.exc "TooMany" fs] s = .ok (.lst [.int 11]) s := by
  have t0 := fun (fs : List (Str × D)) (s : Deck) => q_isxO (tbl := tbl) (fs := fs) (s := s) (show tbl "TooMany" "BadNumber" = some false by decide +kernel)
  have t1 := fun (fs : List (Str × D)) (s : Deck) => q_isxO (tbl := tbl) (fs := fs) (s := s) (show tbl "TooMany" "BadPiece" = some false by decide +kernel)
  have t2 := fun (fs : List (Str × D)) (s : Deck) => q_isxO (tbl := tbl) (fs := fs) (s := s) (show tbl "TooMany" "BadFrame" = some false by decide +kernel)
  have t3 := fun (fs : List (Str × D)) (s : Deck) => q_isxO (tbl := tbl) (fs := fs) (s := s) (show tbl "TooMany" "BadBook" = some false by decide +kernel)
  have t4 := fun (fs : List (Str × D)) (s : Deck) => q_isxO (tbl := tbl) (fs := fs) (s := s) (show tbl "TooMany" "BadProgram" = some false by decide +kernel)
  have t5 := fun (fs : List (Str × D)) (s : Deck) => q_isxO (tbl := tbl) (fs := fs) (s := s) (show tbl "TooMany" "BadPlayer" = some false by decide +kernel)
  have t6 := fun (fs : List (Str × D)) (s : Deck) => q_isxO (tbl := tbl) (fs := fs) (s := s) (show tbl "TooMany" "BadPaper" = some false by decide +kernel)
  have t7 := fun (fs : List (Str × D)) (s : Deck) => q_isxO (tbl := tbl) (fs := fs) (s := s) (show tbl "TooMany" "Misfit" = some false by decide +kernel)
  have t8 := fun (fs : List (Str × D)) (s : Deck) => q_isxO (tbl := tbl) (fs := fs) (s := s) (show tbl "TooMany" "NoWay" = some false by decide +kernel)
  have t9 := fun (fs : List (Str × D)) (s : Deck) => q_isxO (tbl := tbl) (fs := fs) (s := s) (show tbl "TooMany" "NoPart" = some false by decide +kernel)
  have t10 := fun (fs : List (Str × D)) (s : Deck) => q_isxO (tbl := tbl) (fs := fs) (s := s) (show tbl "TooMany" "Impossible" = some false by decide +kernel)
  have t11 := fun (fs : List (Str × D)) (s : Deck) => q_isxO (tbl := tbl) (fs := fs) (s := s) (show tbl "TooMany" "TooMany" = some true by decide +kernel)
  have t12 := fun (fs : List (Str × D)) (s : Deck) => q_isxO (tbl := tbl) (fs := fs) (s := s) (show tbl "TooMany" "BadText" = some false by decide +kernel)
  have kc := fun (x0 x1 : Option D) (s : Deck) => kinds_comp x0 x1 s [false, false, false, false, false, false, false, false, false, false, false, true, false] 0
  simp only [List.map_cons, List.map_nil] at kc
  have ki : idxs 0 [false, false, false, false, false, false, false, false, false, false, false, true, false] = [.int 11] := rfl
  rw [ki] at kc
  clear ki
  unfold m_law_kinds g_law_kinds
  simp only [q_def, q_seq, q_ite, q_ret, q_set, q_drop, q_asg, q_for, q_for0, q_fc, q_frd_nx, q_frd_rt, q_frd_ct, q_frd_bk, q_turn, q_mkLst, q_mkTup, Nat.reduceLeDiff, q_and_bl, q_or_bl, q_c0, q_c1, q_c2, q_c3, q_c4, q_c5, q_c6, q_c9, q_c13, decide_true, decide_false, Int.reduceEq, Int.reduceLT, Int.reduceLE, Int.reduceAdd, Int.reduceSub, Int.reduceMul, Int.reduceNeg, Int.reducePow, Int.reduceToNat, Int.reduceBNe, Int.reduceNe, Nat.zero_le, q_get, q_cst, q_lift, q_un, q_with, q_av0, q_avC, q_callN, q_callKW, q_andD, q_orD, q_notD, q_fAnd, q_fOr, q_fNot, q_fTru, q_fBoo, q_ifD, q_isN, q_fIsN, q_fNotN, startD, q_bind, q_toS, q_rt, q_nx, q_thn_nx, q_thn_rt, q_okO, q_nxO, q_pure, q_none0, q_none1, q_none2, q_none3, q_none4, q_tru_bl, q_tru_int, q_tru_lst, q_tru_tup, q_tru_non, q_boo, q_seqL, q_seqT, q_lenL, q_lenT, q_eqI, q_neI, q_lt, q_le, q_gt, q_ge, q_add, q_addL, q_sub, q_neg, q_abs, q_int, q_intB, q_max, q_gcd, q_tupL, q_gL, q_gT, q_g0, q_g1, q_g2, q_lc, q_par, q_parO, q_whS, q_slc, q_prt0, q_prt1, q_intR, q_slcL, q_slcT, q_zipL, q_zipT, q_allp, List.length_map, wipeE, List.map_cons, List.map_nil, List.length_cons, List.length_nil, List.replicate, List.cons_append, List.nil_append, List.getElem?_cons_zero, List.getElem?_cons_succ, List.set_cons_zero, List.set_cons_succ, Nat.reduceSub, Nat.reduceAdd, if_true, Bool.not_true, Bool.not_false, Bool.false_eq_true, if_false, reduceIte, setD, List.foldl_cons, List.foldl_nil, q_asgN, q_asgT, q_asgL, q_asgs0, q_asgsC, Option.bind_some, List.append_nil, q_isx, q_enum, *]
theorem fields11 (one other : D) (s : Deck) : m_law_fields [.int 11, .exc "TooMany" [("most", other), ("what", one)]] s = .ok (.lst [one, other]) s := by
  have f0 := fun (s : Deck) => q_fldO (fT := fT) (fs := [("most", other), ("what", one)]) (d := one) (s := s) (show fT "TooMany" "what" = true by decide +kernel) (by first | rfl | (simp [List.lookup]; done))
  have f1 := fun (s : Deck) => q_fldO (fT := fT) (fs := [("most", other), ("what", one)]) (d := other) (s := s) (show fT "TooMany" "most" = true by decide +kernel) (by first | rfl | (simp [List.lookup]; done))
  unfold m_law_fields g_law_fields
  simp only [q_def, q_seq, q_ite, q_ret, q_set, q_drop, q_asg, q_for, q_for0, q_fc, q_frd_nx, q_frd_rt, q_frd_ct, q_frd_bk, q_turn, q_mkLst, q_mkTup, Nat.reduceLeDiff, q_and_bl, q_or_bl, q_c0, q_c1, q_c2, q_c3, q_c4, q_c5, q_c6, q_c9, q_c13, decide_true, decide_false, Int.reduceEq, Int.reduceLT, Int.reduceLE, Int.reduceAdd, Int.reduceSub, Int.reduceMul, Int.reduceNeg, Int.reducePow, Int.reduceToNat, Int.reduceBNe, Int.reduceNe, Nat.zero_le, q_get, q_cst, q_lift, q_un, q_with, q_av0, q_avC, q_callN, q_callKW, q_andD, q_orD, q_notD, q_fAnd, q_fOr, q_fNot, q_fTru, q_fBoo, q_ifD, q_isN, q_fIsN, q_fNotN, startD, q_bind, q_toS, q_rt, q_nx, q_thn_nx, q_thn_rt, q_okO, q_nxO, q_pure, q_none0, q_none1, q_none2, q_none3, q_none4, q_tru_bl, q_tru_int, q_tru_lst, q_tru_tup, q_tru_non, q_boo, q_seqL, q_seqT, q_lenL, q_lenT, q_eqI, q_neI, q_lt, q_le, q_gt, q_ge, q_add, q_addL, q_sub, q_neg, q_abs, q_int, q_intB, q_max, q_gcd, q_tupL, q_gL, q_gT, q_g0, q_g1, q_g2, q_lc, q_par, q_parO, q_whS, q_slc, q_prt0, q_prt1, q_intR, q_slcL, q_slcT, q_zipL, q_zipT, q_allp, List.length_map, wipeE, List.map_cons, List.map_nil, List.length_cons, List.length_nil, List.replicate, List.cons_append, List.nil_append, List.getElem?_cons_zero, List.getElem?_cons_succ, List.set_cons_zero, List.set_cons_succ, Nat.reduceSub, Nat.reduceAdd, if_true, Bool.not_true, Bool.not_false, Bool.false_eq_true, if_false, reduceIte, setD, List.foldl_cons, List.foldl_nil, q_asgN, q_asgT, q_asgL, q_asgs0, q_asgsC, Option.bind_some, List.append_nil, q_fldF, *]
theorem right11 {one other : D} (h : VOk one) (h' : VOk other) (k : Bool) (s : Deck) : m_law_right [.int 11, one, other, .bl k] s = .ok (.bl true) s := by
  obtain ⟨t, t1, t2⟩ := shows2 h h'
  have rs := fun s => raises11 one other k s
  have kd := fun s => kinds11 [("most", other), ("what", one)] s
  have fd := fun s => fields11 one other s
  have v1 := fun (fs : List (Str × D)) (s : Deck) => q_isxO (tbl := tbx) (fs := fs) (s := s) (show tbx "TooMany" "ValueError" = some true by decide +kernel)
  have v2 := fun (fs : List (Str × D)) (s : Deck) => q_isxO (tbl := tbx) (fs := fs) (s := s) (show tbx "TooMany" "LookupError" = some false by decide +kernel)
  have v3 := fun (fs : List (Str × D)) (s : Deck) => q_isxO (tbl := tbx) (fs := fs) (s := s) (show tbx "TooMany" "TypeError" = some false by decide +kernel)
  have v4 := fun (fs : List (Str × D)) (s : Deck) => q_isxO (tbl := tbx) (fs := fs) (s := s) (show tbx "TooMany" "ArithmeticError" = some false by decide +kernel)
  have v5 := fun (fs : List (Str × D)) (s : Deck) => q_isxO (tbl := tbx) (fs := fs) (s := s) (show tbx "TooMany" "RuntimeError" = some false by decide +kernel)
  have ne : ∀ s : Deck, neM (.lst [.int 11]) (.lst [.int 11]) s = .ok (.bl false) s := fun s => rfl
  have kp : keepS tbl (dropS (withA (avC (getE 0) (avC (getE 1) (avC (getE 2) (avC (getE 3) av0)))) (callN 4 m_law_raises))) "PlayError" 5 4 [some (.int 11), some one, some other, some (.bl k), some .non, none, none] s
      = .nx [some (.int 11), some one, some other, some (.bl k), some (.exc "TooMany" [("most", other), ("what", one)]), none, none] s :=
    q_keep (e := ex11 one other) (δ' := [some (.int 11), some one, some other, some (.bl k), some .non, none, none]) (by
      clear v1 v2 v3 v4 v5 ne kd fd t1 t2
      simp only [q_def, q_seq, q_ite, q_ret, q_set, q_drop, q_asg, q_for, q_for0, q_fc, q_frd_nx, q_frd_rt, q_frd_ct, q_frd_bk, q_turn, q_mkLst, q_mkTup, Nat.reduceLeDiff, q_and_bl, q_or_bl, q_c0, q_c1, q_c2, q_c3, q_c4, q_c5, q_c6, q_c9, q_c13, decide_true, decide_false, Int.reduceEq, Int.reduceLT, Int.reduceLE, Int.reduceAdd, Int.reduceSub, Int.reduceMul, Int.reduceNeg, Int.reducePow, Int.reduceToNat, Int.reduceBNe, Int.reduceNe, Nat.zero_le, q_get, q_cst, q_lift, q_un, q_with, q_av0, q_avC, q_callN, q_callKW, q_andD, q_orD, q_notD, q_fAnd, q_fOr, q_fNot, q_fTru, q_fBoo, q_ifD, q_isN, q_fIsN, q_fNotN, startD, q_bind, q_toS, q_rt, q_nx, q_thn_nx, q_thn_rt, q_okO, q_nxO, q_pure, q_none0, q_none1, q_none2, q_none3, q_none4, q_tru_bl, q_tru_int, q_tru_lst, q_tru_tup, q_tru_non, q_boo, q_seqL, q_seqT, q_lenL, q_lenT, q_eqI, q_neI, q_lt, q_le, q_gt, q_ge, q_add, q_addL, q_sub, q_neg, q_abs, q_int, q_intB, q_max, q_gcd, q_tupL, q_gL, q_gT, q_g0, q_g1, q_g2, q_lc, q_par, q_parO, q_whS, q_slc, q_prt0, q_prt1, q_intR, q_slcL, q_slcT, q_zipL, q_zipT, q_allp, List.length_map, wipeE, List.map_cons, List.map_nil, List.length_cons, List.length_nil, List.replicate, List.cons_append, List.nil_append, List.getElem?_cons_zero, List.getElem?_cons_succ, List.set_cons_zero, List.set_cons_succ, Nat.reduceSub, Nat.reduceAdd, if_true, Bool.not_true, Bool.not_false, Bool.false_eq_true, if_false, reduceIte, setD, List.foldl_cons, List.foldl_nil, q_asgN, q_asgT, q_asgL, q_asgs0, q_asgsC, Option.bind_some, List.append_nil, q_drop, q_braise, q_toS_raise, *]) (by show 5 < 7; decide) (show tbl "TooMany" "PlayError" = some true by decide +kernel)
  unfold m_law_right g_law_right
  clear h h' rs
  generalize keepS tbl _ "PlayError" 5 4 = kS at *
  simp only [q_def, q_seq, q_ite, q_ret, q_set, q_drop, q_asg, q_for, q_for0, q_fc, q_frd_nx, q_frd_rt, q_frd_ct, q_frd_bk, q_turn, q_mkLst, q_mkTup, Nat.reduceLeDiff, q_and_bl, q_or_bl, q_c0, q_c1, q_c2, q_c3, q_c4, q_c5, q_c6, q_c9, q_c13, decide_true, decide_false, Int.reduceEq, Int.reduceLT, Int.reduceLE, Int.reduceAdd, Int.reduceSub, Int.reduceMul, Int.reduceNeg, Int.reducePow, Int.reduceToNat, Int.reduceBNe, Int.reduceNe, Nat.zero_le, q_get, q_cst, q_lift, q_un, q_with, q_av0, q_avC, q_callN, q_callKW, q_andD, q_orD, q_notD, q_fAnd, q_fOr, q_fNot, q_fTru, q_fBoo, q_ifD, q_isN, q_fIsN, q_fNotN, startD, q_bind, q_toS, q_rt, q_nx, q_thn_nx, q_thn_rt, q_okO, q_nxO, q_pure, q_none0, q_none1, q_none2, q_none3, q_none4, q_tru_bl, q_tru_int, q_tru_lst, q_tru_tup, q_tru_non, q_boo, q_seqL, q_seqT, q_lenL, q_lenT, q_eqI, q_neI, q_lt, q_le, q_gt, q_ge, q_add, q_addL, q_sub, q_neg, q_abs, q_int, q_intB, q_max, q_gcd, q_tupL, q_gL, q_gT, q_g0, q_g1, q_g2, q_lc, q_par, q_parO, q_whS, q_slc, q_prt0, q_prt1, q_intR, q_slcL, q_slcT, q_zipL, q_zipT, q_allp, List.length_map, wipeE, List.map_cons, List.map_nil, List.length_cons, List.length_nil, List.replicate, List.cons_append, List.nil_append, List.getElem?_cons_zero, List.getElem?_cons_succ, List.set_cons_zero, List.set_cons_succ, Nat.reduceSub, Nat.reduceAdd, if_true, Bool.not_true, Bool.not_false, Bool.false_eq_true, if_false, reduceIte, setD, List.foldl_cons, List.foldl_nil, q_asgN, q_asgT, q_asgL, q_asgs0, q_asgsC, Option.bind_some, List.append_nil, q_isx, q_fIsN, q_none_exc, *]
def ex12 (one other : D) : Ex := ⟨"BadText", [("item", other), ("line", one)]⟩
theorem raises12 (one other : D) (k : Bool) (s : Deck) : m_law_raises [.int 12, one, other, .bl k] s = .raise (ex12 one other) s := by
  unfold m_law_raises g_law_raises m_law_last g_law_last ex12
  cases k <;> simp only [q_def, q_seq, q_ite, q_ret, q_set, q_drop, q_asg, q_for, q_for0, q_fc, q_frd_nx, q_frd_rt, q_frd_ct, q_frd_bk, q_turn, q_mkLst, q_mkTup, Nat.reduceLeDiff, q_and_bl, q_or_bl, q_c0, q_c1, q_c2, q_c3, q_c4, q_c5, q_c6, q_c9, q_c13, decide_true, decide_false, Int.reduceEq, Int.reduceLT, Int.reduceLE, Int.reduceAdd, Int.reduceSub, Int.reduceMul, Int.reduceNeg, Int.reducePow, Int.reduceToNat, Int.reduceBNe, Int.reduceNe, Nat.zero_le, q_get, q_cst, q_lift, q_un, q_with, q_av0, q_avC, q_callN, q_callKW, q_andD, q_orD, q_notD, q_fAnd, q_fOr, q_fNot, q_fTru, q_fBoo, q_ifD, q_isN, q_fIsN, q_fNotN, startD, q_bind, q_toS, q_rt, q_nx, q_thn_nx, q_thn_rt, q_okO, q_nxO, q_pure, q_none0, q_none1, q_none2, q_none3, q_none4, q_tru_bl, q_tru_int, q_tru_lst, q_tru_tup, q_tru_non, q_boo, q_seqL, q_seqT, q_lenL, q_lenT, q_eqI, q_neI, q_lt, q_le, q_gt, q_ge, q_add, q_addL, q_sub, q_neg, q_abs, q_int, q_intB, q_max, q_gcd, q_tupL, q_gL, q_gT, q_g0, q_g1, q_g2, q_lc, q_par, q_parO, q_whS, q_slc, q_prt0, q_prt1, q_intR, q_slcL, q_slcT, q_zipL, q_zipT, q_allp, List.length_map, wipeE, List.map_cons, List.map_nil, List.length_cons, List.length_nil, List.replicate, List.cons_append, List.nil_append, List.getElem?_cons_zero, List.getElem?_cons_succ, List.set_cons_zero, List.set_cons_succ, Nat.reduceSub, Nat.reduceAdd, if_true, Bool.not_true, Bool.not_false, Bool.false_eq_true, if_false, reduceIte, setD, List.foldl_cons, List.foldl_nil, q_asgN, q_asgT, q_asgL, q_asgs0, q_asgsC, Option.bind_some, List.append_nil, q_drop, q_rs, q_rks, q_perm1, q_perm2, q_zip1, q_zip2, q_braise, q_toS_raise, q_thn_raise', q_toRr, List.length_singleton, *]
theorem kinds12 (fs : List (Str × D)) (s : Deck) : m_law_kinds [.exc "BadText" fs] s = .ok (.lst [.int 12]) s := by
  have t0 := fun (fs : List (Str × D)) (s : Deck) => q_isxO (tbl := tbl) (fs := fs) (s := s) (show tbl "BadText" "BadNumber" = some false by decide +kernel)
  have t1 := fun (fs : List (Str × D)) (s : Deck) => q_isxO (tbl := tbl) (fs := fs) (s := s) (show tbl "BadText" "BadPiece" = some false by decide +kernel)
  have t2 := fun (fs : List (Str × D)) (s : Deck) => q_isxO (tbl := tbl) (fs := fs) (s := s) (show tbl "BadText" "BadFrame" = some false by decide +kernel)
  have t3 := fun (fs : List (Str × D)) (s : Deck) => q_isxO (tbl := tbl) (fs := fs) (s := s) (show tbl "BadText" "BadBook" = some false by decide +kernel)
  have t4 := fun (fs : List (Str × D)) (s : Deck) => q_isxO (tbl := tbl) (fs := fs) (s := s) (show tbl "BadText" "BadProgram" = some false by decide +kernel)
  have t5 := fun (fs : List (Str × D)) (s : Deck) => q_isxO (tbl := tbl) (fs := fs) (s := s) (show tbl "BadText" "BadPlayer" = some false by decide +kernel)
  have t6 := fun (fs : List (Str × D)) (s : Deck) => q_isxO (tbl := tbl) (fs := fs) (s := s) (show tbl "BadText" "BadPaper" = some false by decide +kernel)
  have t7 := fun (fs : List (Str × D)) (s : Deck) => q_isxO (tbl := tbl) (fs := fs) (s := s) (show tbl "BadText" "Misfit" = some false by decide +kernel)
  have t8 := fun (fs : List (Str × D)) (s : Deck) => q_isxO (tbl := tbl) (fs := fs) (s := s) (show tbl "BadText" "NoWay" = some false by decide +kernel)
  have t9 := fun (fs : List (Str × D)) (s : Deck) => q_isxO (tbl := tbl) (fs := fs) (s := s) (show tbl "BadText" "NoPart" = some false by decide +kernel)
  have t10 := fun (fs : List (Str × D)) (s : Deck) => q_isxO (tbl := tbl) (fs := fs) (s := s) (show tbl "BadText" "Impossible" = some false by decide +kernel)
  have t11 := fun (fs : List (Str × D)) (s : Deck) => q_isxO (tbl := tbl) (fs := fs) (s := s) (show tbl "BadText" "TooMany" = some false by decide +kernel)
  have t12 := fun (fs : List (Str × D)) (s : Deck) => q_isxO (tbl := tbl) (fs := fs) (s := s) (show tbl "BadText" "BadText" = some true by decide +kernel)
  have kc := fun (x0 x1 : Option D) (s : Deck) => kinds_comp x0 x1 s [false, false, false, false, false, false, false, false, false, false, false, false, true] 0
  simp only [List.map_cons, List.map_nil] at kc
  have ki : idxs 0 [false, false, false, false, false, false, false, false, false, false, false, false, true] = [.int 12] := rfl
  rw [ki] at kc
  clear ki
  unfold m_law_kinds g_law_kinds
  simp only [q_def, q_seq, q_ite, q_ret, q_set, q_drop, q_asg, q_for, q_for0, q_fc, q_frd_nx, q_frd_rt, q_frd_ct, q_frd_bk, q_turn, q_mkLst, q_mkTup, Nat.reduceLeDiff, q_and_bl, q_or_bl, q_c0, q_c1, q_c2, q_c3, q_c4, q_c5, q_c6, q_c9, q_c13, decide_true, decide_false, Int.reduceEq, Int.reduceLT, Int.reduceLE, Int.reduceAdd, Int.reduceSub, Int.reduceMul, Int.reduceNeg, Int.reducePow, Int.reduceToNat, Int.reduceBNe, Int.reduceNe, Nat.zero_le, q_get, q_cst, q_lift, q_un, q_with, q_av0, q_avC, q_callN, q_callKW, q_andD, q_orD, q_notD, q_fAnd, q_fOr, q_fNot, q_fTru, q_fBoo, q_ifD, q_isN, q_fIsN, q_fNotN, startD, q_bind, q_toS, q_rt, q_nx, q_thn_nx, q_thn_rt, q_okO, q_nxO, q_pure, q_none0, q_none1, q_none2, q_none3, q_none4, q_tru_bl, q_tru_int, q_tru_lst, q_tru_tup, q_tru_non, q_boo, q_seqL, q_seqT, q_lenL, q_lenT, q_eqI, q_neI, q_lt, q_le, q_gt, q_ge, q_add, q_addL, q_sub, q_neg, q_abs, q_int, q_intB, q_max, q_gcd, q_tupL, q_gL, q_gT, q_g0, q_g1, q_g2, q_lc, q_par, q_parO, q_whS, q_slc, q_prt0, q_prt1, q_intR, q_slcL, q_slcT, q_zipL, q_zipT, q_allp, List.length_map, wipeE, List.map_cons, List.map_nil, List.length_cons, List.length_nil, List.replicate, List.cons_append, List.nil_append, List.getElem?_cons_zero, List.getElem?_cons_succ, List.set_cons_zero, List.set_cons_succ, Nat.reduceSub, Nat.reduceAdd, if_true, Bool.not_true, Bool.not_false, Bool.false_eq_true, if_false, reduceIte, setD, List.foldl_cons, List.foldl_nil, q_asgN, q_asgT, q_asgL, q_asgs0, q_asgsC, Option.bind_some, List.append_nil, q_isx, q_enum, *]
theorem fields12 (one other : D) (s : Deck) : m_law_fields [.int 12, .exc "BadText" [("item", other), ("line", one)]] s = .ok (.lst [one, other]) s := by
  have f0 := fun (s : Deck) => q_fldO (fT := fT) (fs := [("item", other), ("line", one)]) (d := one) (s := s) (show fT "BadText" "line" = true by decide +kernel) (by first | rfl | (simp [List.lookup]; done))
  have f1 := fun (s : Deck) => q_fldO (fT := fT) (fs := [("item", other), ("line", one)]) (d := other) (s := s) (show fT "BadText" "item" = true by decide +kernel) (by first | rfl | (simp [List.lookup]; done))
  unfold m_law_fields g_law_fields
  simp only [q_def, q_seq, q_ite, q_ret, q_set, q_drop, q_asg, q_for, q_for0, q_fc, q_frd_nx, q_frd_rt, q_frd_ct, q_frd_bk, q_turn, q_mkLst, q_mkTup, Nat.reduceLeDiff, q_and_bl, q_or_bl, q_c0, q_c1, q_c2, q_c3, q_c4, q_c5, q_c6, q_c9, q_c13, decide_true, decide_false, Int.reduceEq, Int.reduceLT, Int.reduceLE, Int.reduceAdd, Int.reduceSub, Int.reduceMul, Int.reduceNeg, Int.reducePow, Int.reduceToNat, Int.reduceBNe, Int.reduceNe, Nat.zero_le, q_get, q_cst, q_lift, q_un, q_with, q_av0, q_avC, q_callN, q_callKW, q_andD, q_orD, q_notD, q_fAnd, q_fOr, q_fNot, q_fTru, q_fBoo, q_ifD, q_isN, q_fIsN, q_fNotN, startD, q_bind, q_toS, q_rt, q_nx, q_thn_nx, q_thn_rt, q_okO, q_nxO, q_pure, q_none0, q_none1, q_none2, q_none3, q_none4, q_tru_bl, q_tru_int, q_tru_lst, q_tru_tup, q_tru_non, q_boo, q_seqL, q_seqT, q_lenL, q_lenT, q_eqI, q_neI, q_lt, q_le, q_gt, q_ge, q_add, q_addL, q_sub, q_neg, q_abs, q_int, q_intB, q_max, q_gcd, q_tupL, q_gL, q_gT, q_g0, q_g1, q_g2, q_lc, q_par, q_parO, q_whS, q_slc, q_prt0, q_prt1, q_intR, q_slcL, q_slcT, q_zipL, q_zipT, q_allp, List.length_map, wipeE, List.map_cons, List.map_nil, List.length_cons, List.length_nil, List.replicate, List.cons_append, List.nil_append, List.getElem?_cons_zero, List.getElem?_cons_succ, List.set_cons_zero, List.set_cons_succ, Nat.reduceSub, Nat.reduceAdd, if_true, Bool.not_true, Bool.not_false, Bool.false_eq_true, if_false, reduceIte, setD, List.foldl_cons, List.foldl_nil, q_asgN, q_asgT, q_asgL, q_asgs0, q_asgsC, Option.bind_some, List.append_nil, q_fldF, *]
theorem right12 {one other : D} (h : VOk one) (h' : VOk other) (k : Bool) (s : Deck) : m_law_right [.int 12, one, other, .bl k] s = .ok (.bl true) s := by
  obtain ⟨t, t1, t2⟩ := shows2 h h'
  have rs := fun s => raises12 one other k s
  have kd := fun s => kinds12 [("item", other), ("line", one)] s
  have fd := fun s => fields12 one other s
  have v1 := fun (fs : List (Str × D)) (s : Deck) => q_isxO (tbl := tbx) (fs := fs) (s := s) (show tbx "BadText" "ValueError" = some true by decide +kernel)
  have v2 := fun (fs : List (Str × D)) (s : Deck) => q_isxO (tbl := tbx) (fs := fs) (s := s) (show tbx "BadText" "LookupError" = some false by decide +kernel)
  have v3 := fun (fs : List (Str × D)) (s : Deck) => q_isxO (tbl := tbx) (fs := fs) (s := s) (show tbx "BadText" "TypeError" = some false by decide +kernel)
  have v4 := fun (fs : List (Str × D)) (s : Deck) => q_isxO (tbl := tbx) (fs := fs) (s := s) (show tbx "BadText" "ArithmeticError" = some false by decide +kernel)
  have v5 := fun (fs : List (Str × D)) (s : Deck) => q_isxO (tbl := tbx) (fs := fs) (s := s) (show tbx "BadText" "RuntimeError" = some false by decide +kernel)
  have ne : ∀ s : Deck, neM (.lst [.int 12]) (.lst [.int 12]) s = .ok (.bl false) s := fun s => rfl
  have kp : keepS tbl (dropS (withA (avC (getE 0) (avC (getE 1) (avC (getE 2) (avC (getE 3) av0)))) (callN 4 m_law_raises))) "PlayError" 5 4 [some (.int 12), some one, some other, some (.bl k), some .non, none, none] s
      = .nx [some (.int 12), some one, some other, some (.bl k), some (.exc "BadText" [("item", other), ("line", one)]), none, none] s :=
    q_keep (e := ex12 one other) (δ' := [some (.int 12), some one, some other, some (.bl k), some .non, none, none]) (by
      clear v1 v2 v3 v4 v5 ne kd fd t1 t2
      simp only [q_def, q_seq, q_ite, q_ret, q_set, q_drop, q_asg, q_for, q_for0, q_fc, q_frd_nx, q_frd_rt, q_frd_ct, q_frd_bk, q_turn, q_mkLst, q_mkTup, Nat.reduceLeDiff, q_and_bl, q_or_bl, q_c0, q_c1, q_c2, q_c3, q_c4, q_c5, q_c6, q_c9, q_c13, decide_true, decide_false, Int.reduceEq, Int.reduceLT, Int.reduceLE, Int.reduceAdd, Int.reduceSub, Int.reduceMul, Int.reduceNeg, Int.reducePow, Int.reduceToNat, Int.reduceBNe, Int.reduceNe, Nat.zero_le, q_get, q_cst, q_lift, q_un, q_with, q_av0, q_avC, q_callN, q_callKW, q_andD, q_orD, q_notD, q_fAnd, q_fOr, q_fNot, q_fTru, q_fBoo, q_ifD, q_isN, q_fIsN, q_fNotN, startD, q_bind, q_toS, q_rt, q_nx, q_thn_nx, q_thn_rt, q_okO, q_nxO, q_pure, q_none0, q_none1, q_none2, q_none3, q_none4, q_tru_bl, q_tru_int, q_tru_lst, q_tru_tup, q_tru_non, q_boo, q_seqL, q_seqT, q_lenL, q_lenT, q_eqI, q_neI, q_lt, q_le, q_gt, q_ge, q_add, q_addL, q_sub, q_neg, q_abs, q_int, q_intB, q_max, q_gcd, q_tupL, q_gL, q_gT, q_g0, q_g1, q_g2, q_lc, q_par, q_parO, q_whS, q_slc, q_prt0, q_prt1, q_intR, q_slcL, q_slcT, q_zipL, q_zipT, q_allp, List.length_map, wipeE, List.map_cons, List.map_nil, List.length_cons, List.length_nil, List.replicate, List.cons_append, List.nil_append, List.getElem?_cons_zero, List.getElem?_cons_succ, List.set_cons_zero, List.set_cons_succ, Nat.reduceSub, Nat.reduceAdd, if_true, Bool.not_true, Bool.not_false, Bool.false_eq_true, if_false, reduceIte, setD, List.foldl_cons, List.foldl_nil, q_asgN, q_asgT, q_asgL, q_asgs0, q_asgsC, Option.bind_some, List.append_nil, q_drop, q_braise, q_toS_raise, *]) (by show 5 < 7; decide) (show tbl "BadText" "PlayError" = some true by decide +kernel)
  unfold m_law_right g_law_right
  clear h h' rs
  generalize keepS tbl _ "PlayError" 5 4 = kS at *
  simp only [q_def, q_seq, q_ite, q_ret, q_set, q_drop, q_asg, q_for, q_for0, q_fc, q_frd_nx, q_frd_rt, q_frd_ct, q_frd_bk, q_turn, q_mkLst, q_mkTup, Nat.reduceLeDiff, q_and_bl, q_or_bl, q_c0, q_c1, q_c2, q_c3, q_c4, q_c5, q_c6, q_c9, q_c13, decide_true, decide_false, Int.reduceEq, Int.reduceLT, Int.reduceLE, Int.reduceAdd, Int.reduceSub, Int.reduceMul, Int.reduceNeg, Int.reducePow, Int.reduceToNat, Int.reduceBNe, Int.reduceNe, Nat.zero_le, q_get, q_cst, q_lift, q_un, q_with, q_av0, q_avC, q_callN, q_callKW, q_andD, q_orD, q_notD, q_fAnd, q_fOr, q_fNot, q_fTru, q_fBoo, q_ifD, q_isN, q_fIsN, q_fNotN, startD, q_bind, q_toS, q_rt, q_nx, q_thn_nx, q_thn_rt, q_okO, q_nxO, q_pure, q_none0, q_none1, q_none2, q_none3, q_none4, q_tru_bl, q_tru_int, q_tru_lst, q_tru_tup, q_tru_non, q_boo, q_seqL, q_seqT, q_lenL, q_lenT, q_eqI, q_neI, q_lt, q_le, q_gt, q_ge, q_add, q_addL, q_sub, q_neg, q_abs, q_int, q_intB, q_max, q_gcd, q_tupL, q_gL, q_gT, q_g0, q_g1, q_g2, q_lc, q_par, q_parO, q_whS, q_slc, q_prt0, q_prt1, q_intR, q_slcL, q_slcT, q_zipL, q_zipT, q_allp, List.length_map, wipeE, List.map_cons, List.map_nil, List.length_cons, List.length_nil, List.replicate, List.cons_append, List.nil_append, List.getElem?_cons_zero, List.getElem?_cons_succ, List.set_cons_zero, List.set_cons_succ, Nat.reduceSub, Nat.reduceAdd, if_true, Bool.not_true, Bool.not_false, Bool.false_eq_true, if_false, reduceIte, setD, List.foldl_cons, List.foldl_nil, q_asgN, q_asgT, q_asgL, q_asgs0, q_asgsC, Option.bind_some, List.append_nil, q_isx, q_fIsN, q_none_exc, *]
theorem right_eq {one other : D} (h : VOk one) (h' : VOk other) (k : Bool) (i : Int) (i0 : 0 ≤ i) (i1 : i < 13) (s : Deck) : m_law_right [.int i, one, other, .bl k] s = .ok (.bl true) s := by
  have c : i = 0 ∨ i = 1 ∨ i = 2 ∨ i = 3 ∨ i = 4 ∨ i = 5 ∨ i = 6 ∨ i = 7 ∨ i = 8 ∨ i = 9 ∨ i = 10 ∨ i = 11 ∨ i = 12 := by omega
  rcases c with rfl | rfl | rfl | rfl | rfl | rfl | rfl | rfl | rfl | rfl | rfl | rfl | rfl
  · exact right0 h h' k s
  · exact right1 h h' k s
  · exact right2 h h' k s
  · exact right3 h h' k s
  · exact right4 h h' k s
  · exact right5 h h' k s
  · exact right6 h h' k s
  · exact right7 h h' k s
  · exact right8 h h' k s
  · exact right9 h h' k s
  · exact right10 h h' k s
  · exact right11 h h' k s
  · exact right12 h h' k s
def turnB : FS := (seqS (parS 3 4 (avC (withA (avC (getE 1) av0) (callN 1 m_law_value)) (avC (withA (avC (getE 1) av0) (callN 1 m_law_value)) av0)))
    (iteS (fOr (fNot (fTru (withA (avC (getE 2) (avC (getE 3) (avC (getE 4) (avC (cst (.bl false)) av0)))) (callN 4 m_law_right)))) (fNot (fTru (withA (avC (getE 2) (avC (getE 3) (avC (getE 4) (avC (cst (.bl true)) av0)))) (callN 4 m_law_right))))) (retS (cst (.bl false))) (fun δ s => .nx δ s)))
theorem law_fold : g_law = (seqS (forS (fun δ s => ((avC (cst (.int 13)) av0) δ s).bind rng1M) (.nm 2) turnB) (retS (cst (.bl true)))) := rfl
theorem loop_eq (y0 : Option D) : ∀ (ws : List Int) (k : Int) (s : Deck) (y2 y3 y4 : Option D), (∀ i ∈ ws, 0 ≤ i ∧ i < 13) → Good k s → k + 2 * ws.length ≤ 1000000 →
    ∃ z2 z3 z4 s', forD (turnS (.nm 2) turnB) (ws.map .int) [y0, some .deck, y2, y3, y4] s = .nx [y0, some .deck, z2, z3, z4] s' ∧ Good (k + 2 * ws.length) s'
  | [], k, s, y2, y3, y4, _, G, _ => ⟨y2, y3, y4, s, rfl, by simpa using G⟩
  | i :: ws, k, s, y2, y3, y4, hw, G, hk => by
    rw [List.length_cons] at hk ⊢
    obtain ⟨i0, i1⟩ := hw i (List.mem_cons_self ..)
    obtain ⟨x, s1, e1, hx, G1⟩ := value_eq G (by omega)
    obtain ⟨y, s2, e2, hy, G2⟩ := value_eq G1 (by omega)
    have r1 := fun s => right_eq (val_ok x hx) (val_ok y hy) false i i0 i1 s
    have r2 := fun s => right_eq (val_ok x hx) (val_ok y hy) true i i0 i1 s
    obtain ⟨z2, z3, z4, s', ih, G'⟩ := loop_eq y0 ws (k + 1 + 1) s2 (some (.int i)) (some x) (some y) (fun j hj => hw j (List.mem_cons_of_mem _ hj)) G2 (by omega)
    refine ⟨z2, z3, z4, s', ?_, G'.mono (by omega)⟩
    have st : turnS (.nm 2) turnB (.int i) [y0, some .deck, y2, y3, y4] s = .nx [y0, some .deck, some (.int i), some x, some y] s2 := by
      unfold turnB
      clear ih G' G G1 G2 hx hy hw hk i0 i1
      simp only [q_def, q_seq, q_ite, q_ret, q_set, q_drop, q_asg, q_for, q_for0, q_fc, q_frd_nx, q_frd_rt, q_frd_ct, q_frd_bk, q_turn, q_mkLst, q_mkTup, Nat.reduceLeDiff, q_and_bl, q_or_bl, q_c0, q_c1, q_c2, q_c3, q_c4, q_c5, q_c6, q_c9, q_c13, decide_true, decide_false, Int.reduceEq, Int.reduceLT, Int.reduceLE, Int.reduceAdd, Int.reduceSub, Int.reduceMul, Int.reduceNeg, Int.reducePow, Int.reduceToNat, Int.reduceBNe, Int.reduceNe, Nat.zero_le, q_get, q_cst, q_lift, q_un, q_with, q_av0, q_avC, q_callN, q_callKW, q_andD, q_orD, q_notD, q_fAnd, q_fOr, q_fNot, q_fTru, q_fBoo, q_ifD, q_isN, q_fIsN, q_fNotN, startD, q_bind, q_toS, q_rt, q_nx, q_thn_nx, q_thn_rt, q_okO, q_nxO, q_pure, q_none0, q_none1, q_none2, q_none3, q_none4, q_tru_bl, q_tru_int, q_tru_lst, q_tru_tup, q_tru_non, q_boo, q_seqL, q_seqT, q_lenL, q_lenT, q_eqI, q_neI, q_lt, q_le, q_gt, q_ge, q_add, q_addL, q_sub, q_neg, q_abs, q_int, q_intB, q_max, q_gcd, q_tupL, q_gL, q_gT, q_g0, q_g1, q_g2, q_lc, q_par, q_parO, q_whS, q_slc, q_prt0, q_prt1, q_intR, q_slcL, q_slcT, q_zipL, q_zipT, q_allp, List.length_map, wipeE, List.map_cons, List.map_nil, List.length_cons, List.length_nil, List.replicate, List.cons_append, List.nil_append, List.getElem?_cons_zero, List.getElem?_cons_succ, List.set_cons_zero, List.set_cons_succ, Nat.reduceSub, Nat.reduceAdd, if_true, Bool.not_true, Bool.not_false, Bool.false_eq_true, if_false, reduceIte, setD, List.foldl_cons, List.foldl_nil, q_asgN, q_asgT, q_asgL, q_asgs0, q_asgsC, Option.bind_some, List.append_nil, *]
    rw [List.map_cons, q_fc, st, q_frd_nx]
    exact ih
theorem law_true (cells : List Int) : ∃ s', g_law (deck0 N_law.length) ⟨cells, 0, 0⟩ = .rt (.bl true) s' := by
  have G : Good 0 (⟨cells, 0, 0⟩ : Deck) := ⟨Int.le_refl 0, Int.le_refl 0, Int.le_refl 0⟩
  obtain ⟨z2, z3, z4, s', lp, G'⟩ := loop_eq none [0, 1, 2, 3, 4, 5, 6, 7, 8, 9, 10, 11, 12] 0 ⟨cells, 0, 0⟩ none none none (by decide) G (by decide)
  refine ⟨s', ?_⟩
  show g_law [none, some .deck, none, none, none] ⟨cells, 0, 0⟩ = _
  rw [law_fold]
  have rn : ∀ s : Deck, rng1M [.int 13] s = .ok ([0, 1, 2, 3, 4, 5, 6, 7, 8, 9, 10, 11, 12].map D.int) s := fun s => rfl
  rw [q_seq, q_for]
  simp only [q_with, q_avC, q_av0, q_cst, q_bind, rn, q_toS]
  rw [lp]
  rfl
end K00

namespace K00
open PySem L2 FL
abbrev i_BadNumber : Stmt := inClass (top 2) 0
theorem sci_BadNumber : FnScope ["self", "part"] ["self", "part"] (defScope i_BadNumber) := ⟨rfl, rfl, rfl, by decide +kernel, rfl, by decide +kernel, by decide +kernel⟩
theorem e_BadNumber {P : Program} {w : World} {K : PySem.W.Frag} {mg : Str → Option Value} {base h : Heap} {C : Addr} (X : K.In h) (G : h.Ns mainGlobals mg) (A : XAt K "BadNumber" "BadNumber.__init__" ["part"] i_BadNumber C) : ExcW P w K mg base "BadNumber" ["part"] kp_BadNumber := by
  obtain ⟨aC, T, xf, nf, fI, fd, iC, tI, Fn⟩ := A
  exact ⟨⟨C, fI, fd, ["self", "part"], PySem.W.mg_of X G aC, aC, T, iC, tI, init1 Fn sci_BadNumber T (nf "part" (by decide)) (fun cdv A outer s H E => (pss_one (ps_ost (pv 0) (pv 1)))), Fn.binds (fun _ _ _ _ _ _ us hl => match us, hl with | [_, _], _ => rfl), xf, nf, fun e he => by
    obtain rfl : e = ((["part"] : List Str), ([0] : List Nat)) := by simpa using he
    exact kbX Fn (fun _ _ _ _ _ _ u ws hl => match ws, hl with | [_], _ => rfl)⟩, by decide⟩
abbrev i_BadPiece : Stmt := inClass (top 3) 0
theorem sci_BadPiece : FnScope ["self", "part"] ["self", "part"] (defScope i_BadPiece) := ⟨rfl, rfl, rfl, by decide +kernel, rfl, by decide +kernel, by decide +kernel⟩
theorem e_BadPiece {P : Program} {w : World} {K : PySem.W.Frag} {mg : Str → Option Value} {base h : Heap} {C : Addr} (X : K.In h) (G : h.Ns mainGlobals mg) (A : XAt K "BadPiece" "BadPiece.__init__" ["part"] i_BadPiece C) : ExcW P w K mg base "BadPiece" ["part"] kp_BadPiece := by
  obtain ⟨aC, T, xf, nf, fI, fd, iC, tI, Fn⟩ := A
  exact ⟨⟨C, fI, fd, ["self", "part"], PySem.W.mg_of X G aC, aC, T, iC, tI, init1 Fn sci_BadPiece T (nf "part" (by decide)) (fun cdv A outer s H E => (pss_one (ps_ost (pv 0) (pv 1)))), Fn.binds (fun _ _ _ _ _ _ us hl => match us, hl with | [_, _], _ => rfl), xf, nf, fun e he => by
    obtain rfl : e = ((["part"] : List Str), ([0] : List Nat)) := by simpa using he
    exact kbX Fn (fun _ _ _ _ _ _ u ws hl => match ws, hl with | [_], _ => rfl)⟩, by decide⟩
abbrev i_BadFrame : Stmt := inClass (top 4) 0
theorem sci_BadFrame : FnScope ["self", "part"] ["self", "part"] (defScope i_BadFrame) := ⟨rfl, rfl, rfl, by decide +kernel, rfl, by decide +kernel, by decide +kernel⟩
theorem e_BadFrame {P : Program} {w : World} {K : PySem.W.Frag} {mg : Str → Option Value} {base h : Heap} {C : Addr} (X : K.In h) (G : h.Ns mainGlobals mg) (A : XAt K "BadFrame" "BadFrame.__init__" ["part"] i_BadFrame C) : ExcW P w K mg base "BadFrame" ["part"] kp_BadFrame := by
  obtain ⟨aC, T, xf, nf, fI, fd, iC, tI, Fn⟩ := A
  exact ⟨⟨C, fI, fd, ["self", "part"], PySem.W.mg_of X G aC, aC, T, iC, tI, init1 Fn sci_BadFrame T (nf "part" (by decide)) (fun cdv A outer s H E => (pss_one (ps_ost (pv 0) (pv 1)))), Fn.binds (fun _ _ _ _ _ _ us hl => match us, hl with | [_, _], _ => rfl), xf, nf, fun e he => by
    obtain rfl : e = ((["part"] : List Str), ([0] : List Nat)) := by simpa using he
    exact kbX Fn (fun _ _ _ _ _ _ u ws hl => match ws, hl with | [_], _ => rfl)⟩, by decide⟩
abbrev i_BadBook : Stmt := inClass (top 5) 0
theorem sci_BadBook : FnScope ["self", "part"] ["self", "part"] (defScope i_BadBook) := ⟨rfl, rfl, rfl, by decide +kernel, rfl, by decide +kernel, by decide +kernel⟩
theorem e_BadBook {P : Program} {w : World} {K : PySem.W.Frag} {mg : Str → Option Value} {base h : Heap} {C : Addr} (X : K.In h) (G : h.Ns mainGlobals mg) (A : XAt K "BadBook" "BadBook.__init__" ["part"] i_BadBook C) : ExcW P w K mg base "BadBook" ["part"] kp_BadBook := by
  obtain ⟨aC, T, xf, nf, fI, fd, iC, tI, Fn⟩ := A
  exact ⟨⟨C, fI, fd, ["self", "part"], PySem.W.mg_of X G aC, aC, T, iC, tI, init1 Fn sci_BadBook T (nf "part" (by decide)) (fun cdv A outer s H E => (pss_one (ps_ost (pv 0) (pv 1)))), Fn.binds (fun _ _ _ _ _ _ us hl => match us, hl with | [_, _], _ => rfl), xf, nf, fun e he => by
    obtain rfl : e = ((["part"] : List Str), ([0] : List Nat)) := by simpa using he
    exact kbX Fn (fun _ _ _ _ _ _ u ws hl => match ws, hl with | [_], _ => rfl)⟩, by decide⟩
abbrev i_BadProgram : Stmt := inClass (top 6) 0
theorem sci_BadProgram : FnScope ["self", "part"] ["self", "part"] (defScope i_BadProgram) := ⟨rfl, rfl, rfl, by decide +kernel, rfl, by decide +kernel, by decide +kernel⟩
theorem e_BadProgram {P : Program} {w : World} {K : PySem.W.Frag} {mg : Str → Option Value} {base h : Heap} {C : Addr} (X : K.In h) (G : h.Ns mainGlobals mg) (A : XAt K "BadProgram" "BadProgram.__init__" ["part"] i_BadProgram C) : ExcW P w K mg base "BadProgram" ["part"] kp_BadProgram := by
  obtain ⟨aC, T, xf, nf, fI, fd, iC, tI, Fn⟩ := A
  exact ⟨⟨C, fI, fd, ["self", "part"], PySem.W.mg_of X G aC, aC, T, iC, tI, init1 Fn sci_BadProgram T (nf "part" (by decide)) (fun cdv A outer s H E => (pss_one (ps_ost (pv 0) (pv 1)))), Fn.binds (fun _ _ _ _ _ _ us hl => match us, hl with | [_, _], _ => rfl), xf, nf, fun e he => by
    obtain rfl : e = ((["part"] : List Str), ([0] : List Nat)) := by simpa using he
    exact kbX Fn (fun _ _ _ _ _ _ u ws hl => match ws, hl with | [_], _ => rfl)⟩, by decide⟩
abbrev i_BadPlayer : Stmt := inClass (top 7) 0
theorem sci_BadPlayer : FnScope ["self", "part"] ["self", "part"] (defScope i_BadPlayer) := ⟨rfl, rfl, rfl, by decide +kernel, rfl, by decide +kernel, by decide +kernel⟩
theorem e_BadPlayer {P : Program} {w : World} {K : PySem.W.Frag} {mg : Str → Option Value} {base h : Heap} {C : Addr} (X : K.In h) (G : h.Ns mainGlobals mg) (A : XAt K "BadPlayer" "BadPlayer.__init__" ["part"] i_BadPlayer C) : ExcW P w K mg base "BadPlayer" ["part"] kp_BadPlayer := by
  obtain ⟨aC, T, xf, nf, fI, fd, iC, tI, Fn⟩ := A
  exact ⟨⟨C, fI, fd, ["self", "part"], PySem.W.mg_of X G aC, aC, T, iC, tI, init1 Fn sci_BadPlayer T (nf "part" (by decide)) (fun cdv A outer s H E => (pss_one (ps_ost (pv 0) (pv 1)))), Fn.binds (fun _ _ _ _ _ _ us hl => match us, hl with | [_, _], _ => rfl), xf, nf, fun e he => by
    obtain rfl : e = ((["part"] : List Str), ([0] : List Nat)) := by simpa using he
    exact kbX Fn (fun _ _ _ _ _ _ u ws hl => match ws, hl with | [_], _ => rfl)⟩, by decide⟩
abbrev i_BadPaper : Stmt := inClass (top 8) 0
theorem sci_BadPaper : FnScope ["self", "part"] ["self", "part"] (defScope i_BadPaper) := ⟨rfl, rfl, rfl, by decide +kernel, rfl, by decide +kernel, by decide +kernel⟩
theorem e_BadPaper {P : Program} {w : World} {K : PySem.W.Frag} {mg : Str → Option Value} {base h : Heap} {C : Addr} (X : K.In h) (G : h.Ns mainGlobals mg) (A : XAt K "BadPaper" "BadPaper.__init__" ["part"] i_BadPaper C) : ExcW P w K mg base "BadPaper" ["part"] kp_BadPaper := by
  obtain ⟨aC, T, xf, nf, fI, fd, iC, tI, Fn⟩ := A
  exact ⟨⟨C, fI, fd, ["self", "part"], PySem.W.mg_of X G aC, aC, T, iC, tI, init1 Fn sci_BadPaper T (nf "part" (by decide)) (fun cdv A outer s H E => (pss_one (ps_ost (pv 0) (pv 1)))), Fn.binds (fun _ _ _ _ _ _ us hl => match us, hl with | [_, _], _ => rfl), xf, nf, fun e he => by
    obtain rfl : e = ((["part"] : List Str), ([0] : List Nat)) := by simpa using he
    exact kbX Fn (fun _ _ _ _ _ _ u ws hl => match ws, hl with | [_], _ => rfl)⟩, by decide⟩
abbrev i_Misfit : Stmt := inClass (top 9) 0
theorem sci_Misfit : FnScope ["self", "part"] ["self", "part"] (defScope i_Misfit) := ⟨rfl, rfl, rfl, by decide +kernel, rfl, by decide +kernel, by decide +kernel⟩
theorem e_Misfit {P : Program} {w : World} {K : PySem.W.Frag} {mg : Str → Option Value} {base h : Heap} {C : Addr} (X : K.In h) (G : h.Ns mainGlobals mg) (A : XAt K "Misfit" "Misfit.__init__" ["part"] i_Misfit C) : ExcW P w K mg base "Misfit" ["part"] kp_Misfit := by
  obtain ⟨aC, T, xf, nf, fI, fd, iC, tI, Fn⟩ := A
  exact ⟨⟨C, fI, fd, ["self", "part"], PySem.W.mg_of X G aC, aC, T, iC, tI, init1 Fn sci_Misfit T (nf "part" (by decide)) (fun cdv A outer s H E => (pss_one (ps_ost (pv 0) (pv 1)))), Fn.binds (fun _ _ _ _ _ _ us hl => match us, hl with | [_, _], _ => rfl), xf, nf, fun e he => by
    obtain rfl : e = ((["part"] : List Str), ([0] : List Nat)) := by simpa using he
    exact kbX Fn (fun _ _ _ _ _ _ u ws hl => match ws, hl with | [_], _ => rfl)⟩, by decide⟩
abbrev i_NoWay : Stmt := inClass (top 10) 0
theorem sci_NoWay : FnScope ["self", "value"] ["self", "value"] (defScope i_NoWay) := ⟨rfl, rfl, rfl, by decide +kernel, rfl, by decide +kernel, by decide +kernel⟩
theorem e_NoWay {P : Program} {w : World} {K : PySem.W.Frag} {mg : Str → Option Value} {base h : Heap} {C : Addr} (X : K.In h) (G : h.Ns mainGlobals mg) (A : XAt K "NoWay" "NoWay.__init__" ["value"] i_NoWay C) : ExcW P w K mg base "NoWay" ["value"] kp_NoWay := by
  obtain ⟨aC, T, xf, nf, fI, fd, iC, tI, Fn⟩ := A
  exact ⟨⟨C, fI, fd, ["self", "value"], PySem.W.mg_of X G aC, aC, T, iC, tI, init1 Fn sci_NoWay T (nf "value" (by decide)) (fun cdv A outer s H E => (pss_one (ps_ost (pv 0) (pv 1)))), Fn.binds (fun _ _ _ _ _ _ us hl => match us, hl with | [_, _], _ => rfl), xf, nf, fun e he => by
    obtain rfl : e = ((["value"] : List Str), ([0] : List Nat)) := by simpa using he
    exact kbX Fn (fun _ _ _ _ _ _ u ws hl => match ws, hl with | [_], _ => rfl)⟩, by decide⟩
abbrev i_NoPart : Stmt := inClass (top 11) 0
theorem sci_NoPart : FnScope ["self", "value"] ["self", "value"] (defScope i_NoPart) := ⟨rfl, rfl, rfl, by decide +kernel, rfl, by decide +kernel, by decide +kernel⟩
theorem e_NoPart {P : Program} {w : World} {K : PySem.W.Frag} {mg : Str → Option Value} {base h : Heap} {C : Addr} (X : K.In h) (G : h.Ns mainGlobals mg) (A : XAt K "NoPart" "NoPart.__init__" ["value"] i_NoPart C) : ExcW P w K mg base "NoPart" ["value"] kp_NoPart := by
  obtain ⟨aC, T, xf, nf, fI, fd, iC, tI, Fn⟩ := A
  exact ⟨⟨C, fI, fd, ["self", "value"], PySem.W.mg_of X G aC, aC, T, iC, tI, init1 Fn sci_NoPart T (nf "value" (by decide)) (fun cdv A outer s H E => (pss_one (ps_ost (pv 0) (pv 1)))), Fn.binds (fun _ _ _ _ _ _ us hl => match us, hl with | [_, _], _ => rfl), xf, nf, fun e he => by
    obtain rfl : e = ((["value"] : List Str), ([0] : List Nat)) := by simpa using he
    exact kbX Fn (fun _ _ _ _ _ _ u ws hl => match ws, hl with | [_], _ => rfl)⟩, by decide⟩
abbrev i_TooMany : Stmt := inClass (top 12) 0
theorem sci_TooMany : FnScope ["self", "what", "most"] ["self", "what", "most"] (defScope i_TooMany) := ⟨rfl, rfl, rfl, by decide +kernel, rfl, by decide +kernel, by decide +kernel⟩
theorem e_TooMany {P : Program} {w : World} {K : PySem.W.Frag} {mg : Str → Option Value} {base h : Heap} {C : Addr} (X : K.In h) (G : h.Ns mainGlobals mg) (A : XAt K "TooMany" "TooMany.__init__" ["what", "most"] i_TooMany C) : ExcW P w K mg base "TooMany" ["what", "most"] kp_TooMany := by
  obtain ⟨aC, T, xf, nf, fI, fd, iC, tI, Fn⟩ := A
  exact ⟨⟨C, fI, fd, ["self", "what", "most"], PySem.W.mg_of X G aC, aC, T, iC, tI, init2 Fn sci_TooMany T (nf "what" (by decide)) (nf "most" (by decide)) (fun cdv A outer s H E => (pss_cons (ps_ost (pv 0) (pv 1)) (pss_one (ps_ost (pv 0) (pv 2))))), Fn.binds (fun _ _ _ _ _ _ us hl => match us, hl with | [_, _, _], _ => rfl), xf, nf, fun e he => by
    obtain rfl : e = ((["most", "what"] : List Str), ([1, 0] : List Nat)) := by simpa using he
    exact kbX Fn (fun _ _ _ _ _ _ u ws hl => match ws, hl with | [_, _], _ => rfl)⟩, by decide⟩
abbrev i_Impossible : Stmt := inClass (top 13) 0
theorem sci_Impossible : FnScope ["self", "paper"] ["self", "paper"] (defScope i_Impossible) := ⟨rfl, rfl, rfl, by decide +kernel, rfl, by decide +kernel, by decide +kernel⟩
theorem e_Impossible {P : Program} {w : World} {K : PySem.W.Frag} {mg : Str → Option Value} {base h : Heap} {C : Addr} (X : K.In h) (G : h.Ns mainGlobals mg) (A : XAt K "Impossible" "Impossible.__init__" ["paper"] i_Impossible C) : ExcW P w K mg base "Impossible" ["paper"] kp_Impossible := by
  obtain ⟨aC, T, xf, nf, fI, fd, iC, tI, Fn⟩ := A
  exact ⟨⟨C, fI, fd, ["self", "paper"], PySem.W.mg_of X G aC, aC, T, iC, tI, init1 Fn sci_Impossible T (nf "paper" (by decide)) (fun cdv A outer s H E => (pss_one (ps_ost (pv 0) (pv 1)))), Fn.binds (fun _ _ _ _ _ _ us hl => match us, hl with | [_, _], _ => rfl), xf, nf, fun e he => by
    obtain rfl : e = ((["paper"] : List Str), ([0] : List Nat)) := by simpa using he
    exact kbX Fn (fun _ _ _ _ _ _ u ws hl => match ws, hl with | [_], _ => rfl)⟩, by decide⟩
abbrev i_BadText : Stmt := inClass (top 14) 0
theorem sci_BadText : FnScope ["self", "line", "item"] ["self", "line", "item"] (defScope i_BadText) := ⟨rfl, rfl, rfl, by decide +kernel, rfl, by decide +kernel, by decide +kernel⟩
theorem e_BadText {P : Program} {w : World} {K : PySem.W.Frag} {mg : Str → Option Value} {base h : Heap} {C : Addr} (X : K.In h) (G : h.Ns mainGlobals mg) (A : XAt K "BadText" "BadText.__init__" ["line", "item"] i_BadText C) : ExcW P w K mg base "BadText" ["line", "item"] kp_BadText := by
  obtain ⟨aC, T, xf, nf, fI, fd, iC, tI, Fn⟩ := A
  exact ⟨⟨C, fI, fd, ["self", "line", "item"], PySem.W.mg_of X G aC, aC, T, iC, tI, init2 Fn sci_BadText T (nf "line" (by decide)) (nf "item" (by decide)) (fun cdv A outer s H E => (pss_cons (ps_ost (pv 0) (pv 1)) (pss_one (ps_ost (pv 0) (pv 2))))), Fn.binds (fun _ _ _ _ _ _ us hl => match us, hl with | [_, _, _], _ => rfl), xf, nf, fun e he => by
    obtain rfl : e = ((["item", "line"] : List Str), ([1, 0] : List Nat)) := by simpa using he
    exact kbX Fn (fun _ _ _ _ _ _ u ws hl => match ws, hl with | [_, _], _ => rfl)⟩, by decide⟩
theorem low_of {x y : Str} {b : Bool} (h : tbl x y = some b) : x ∈ lowN ∧ (y = "PlayError" ∨ y ∈ lowN) := by
  unfold tbl at h
  split at h
  · rename_i z
    refine ⟨by simpa using z, ?_⟩
    split at h
    · rename_i z2
      exact .inl z2
    · split at h
      · rename_i z3
        exact .inr (by simpa using z3)
      · cases h
  · cases h
theorem sa_mk {K : PySem.W.Frag} {C_PlayError C_BadNumber C_BadPiece C_BadFrame C_BadBook C_BadProgram C_BadPlayer C_BadPaper C_Misfit C_NoWay C_NoPart C_TooMany C_Impossible C_BadText : Addr}
    (N_PlayError : CNm K "PlayError" C_PlayError)
    (N_BadNumber : CNm K "BadNumber" C_BadNumber)
    (N_BadPiece : CNm K "BadPiece" C_BadPiece)
    (N_BadFrame : CNm K "BadFrame" C_BadFrame)
    (N_BadBook : CNm K "BadBook" C_BadBook)
    (N_BadProgram : CNm K "BadProgram" C_BadProgram)
    (N_BadPlayer : CNm K "BadPlayer" C_BadPlayer)
    (N_BadPaper : CNm K "BadPaper" C_BadPaper)
    (N_Misfit : CNm K "Misfit" C_Misfit)
    (N_NoWay : CNm K "NoWay" C_NoWay)
    (N_NoPart : CNm K "NoPart" C_NoPart)
    (N_TooMany : CNm K "TooMany" C_TooMany)
    (N_Impossible : CNm K "Impossible" C_Impossible)
    (N_BadText : CNm K "BadText" C_BadText)
    (S_BadNumber_PlayError : PySem.W.subIn K (.ref C_BadNumber) (.ref C_PlayError) = some true)
    (S_BadNumber_BadNumber : PySem.W.subIn K (.ref C_BadNumber) (.ref C_BadNumber) = some true)
    (S_BadNumber_BadPiece : PySem.W.subIn K (.ref C_BadNumber) (.ref C_BadPiece) = some false)
    (S_BadNumber_BadFrame : PySem.W.subIn K (.ref C_BadNumber) (.ref C_BadFrame) = some false)
    (S_BadNumber_BadBook : PySem.W.subIn K (.ref C_BadNumber) (.ref C_BadBook) = some false)
    (S_BadNumber_BadProgram : PySem.W.subIn K (.ref C_BadNumber) (.ref C_BadProgram) = some false)
    (S_BadNumber_BadPlayer : PySem.W.subIn K (.ref C_BadNumber) (.ref C_BadPlayer) = some false)
    (S_BadNumber_BadPaper : PySem.W.subIn K (.ref C_BadNumber) (.ref C_BadPaper) = some false)
    (S_BadNumber_Misfit : PySem.W.subIn K (.ref C_BadNumber) (.ref C_Misfit) = some false)
    (S_BadNumber_NoWay : PySem.W.subIn K (.ref C_BadNumber) (.ref C_NoWay) = some false)
    (S_BadNumber_NoPart : PySem.W.subIn K (.ref C_BadNumber) (.ref C_NoPart) = some false)
    (S_BadNumber_TooMany : PySem.W.subIn K (.ref C_BadNumber) (.ref C_TooMany) = some false)
    (S_BadNumber_Impossible : PySem.W.subIn K (.ref C_BadNumber) (.ref C_Impossible) = some false)
    (S_BadNumber_BadText : PySem.W.subIn K (.ref C_BadNumber) (.ref C_BadText) = some false)
    (S_BadPiece_PlayError : PySem.W.subIn K (.ref C_BadPiece) (.ref C_PlayError) = some true)
    (S_BadPiece_BadNumber : PySem.W.subIn K (.ref C_BadPiece) (.ref C_BadNumber) = some false)
    (S_BadPiece_BadPiece : PySem.W.subIn K (.ref C_BadPiece) (.ref C_BadPiece) = some true)
    (S_BadPiece_BadFrame : PySem.W.subIn K (.ref C_BadPiece) (.ref C_BadFrame) = some false)
    (S_BadPiece_BadBook : PySem.W.subIn K (.ref C_BadPiece) (.ref C_BadBook) = some false)
    (S_BadPiece_BadProgram : PySem.W.subIn K (.ref C_BadPiece) (.ref C_BadProgram) = some false)
    (S_BadPiece_BadPlayer : PySem.W.subIn K (.ref C_BadPiece) (.ref C_BadPlayer) = some false)
    (S_BadPiece_BadPaper : PySem.W.subIn K (.ref C_BadPiece) (.ref C_BadPaper) = some false)
    (S_BadPiece_Misfit : PySem.W.subIn K (.ref C_BadPiece) (.ref C_Misfit) = some false)
    (S_BadPiece_NoWay : PySem.W.subIn K (.ref C_BadPiece) (.ref C_NoWay) = some false)
    (S_BadPiece_NoPart : PySem.W.subIn K (.ref C_BadPiece) (.ref C_NoPart) = some false)
    (S_BadPiece_TooMany : PySem.W.subIn K (.ref C_BadPiece) (.ref C_TooMany) = some false)
    (S_BadPiece_Impossible : PySem.W.subIn K (.ref C_BadPiece) (.ref C_Impossible) = some false)
    (S_BadPiece_BadText : PySem.W.subIn K (.ref C_BadPiece) (.ref C_BadText) = some false)
    (S_BadFrame_PlayError : PySem.W.subIn K (.ref C_BadFrame) (.ref C_PlayError) = some true)
    (S_BadFrame_BadNumber : PySem.W.subIn K (.ref C_BadFrame) (.ref C_BadNumber) = some false)
    (S_BadFrame_BadPiece : PySem.W.subIn K (.ref C_BadFrame) (.ref C_BadPiece) = some false)
    (S_BadFrame_BadFrame : PySem.W.subIn K (.ref C_BadFrame) (.ref C_BadFrame) = some true)
    (S_BadFrame_BadBook : PySem.W.subIn K (.ref C_BadFrame) (.ref C_BadBook) = some false)
    (S_BadFrame_BadProgram : PySem.W.subIn K (.ref C_BadFrame) (.ref C_BadProgram) = some false)
    (S_BadFrame_BadPlayer : PySem.W.subIn K (.ref C_BadFrame) (.ref C_BadPlayer) = some false)
    (S_BadFrame_BadPaper : PySem.W.subIn K (.ref C_BadFrame) (.ref C_BadPaper) = some false)
    (S_BadFrame_Misfit : PySem.W.subIn K (.ref C_BadFrame) (.ref C_Misfit) = some false)
    (S_BadFrame_NoWay : PySem.W.subIn K (.ref C_BadFrame) (.ref C_NoWay) = some false)
    (S_BadFrame_NoPart : PySem.W.subIn K (.ref C_BadFrame) (.ref C_NoPart) = some false)
    (S_BadFrame_TooMany : PySem.W.subIn K (.ref C_BadFrame) (.ref C_TooMany) = some false)
    (S_BadFrame_Impossible : PySem.W.subIn K (.ref C_BadFrame) (.ref C_Impossible) = some false)
    (S_BadFrame_BadText : PySem.W.subIn K (.ref C_BadFrame) (.ref C_BadText) = some false)
    (S_BadBook_PlayError : PySem.W.subIn K (.ref C_BadBook) (.ref C_PlayError) = some true)
    (S_BadBook_BadNumber : PySem.W.subIn K (.ref C_BadBook) (.ref C_BadNumber) = some false)
    (S_BadBook_BadPiece : PySem.W.subIn K (.ref C_BadBook) (.ref C_BadPiece) = some false)
    (S_BadBook_BadFrame : PySem.W.subIn K (.ref C_BadBook) (.ref C_BadFrame) = some false)
    (S_BadBook_BadBook : PySem.W.subIn K (.ref C_BadBook) (.ref C_BadBook) = some true)
    (S_BadBook_BadProgram : PySem.W.subIn K (.ref C_BadBook) (.ref C_BadProgram) = some false)
    (S_BadBook_BadPlayer : PySem.W.subIn K (.ref C_BadBook) (.ref C_BadPlayer) = some false)
    (S_BadBook_BadPaper : PySem.W.subIn K (.ref C_BadBook) (.ref C_BadPaper) = some false)
    (S_BadBook_Misfit : PySem.W.subIn K (.ref C_BadBook) (.ref C_Misfit) = some false)
    (S_BadBook_NoWay : PySem.W.subIn K (.ref C_BadBook) (.ref C_NoWay) = some false)
    (S_BadBook_NoPart : PySem.W.subIn K (.ref C_BadBook) (.ref C_NoPart) = some false)
    (S_BadBook_TooMany : PySem.W.subIn K (.ref C_BadBook) (.ref C_TooMany) = some false)
    (S_BadBook_Impossible : PySem.W.subIn K (.ref C_BadBook) (.ref C_Impossible) = some false)
    (S_BadBook_BadText : PySem.W.subIn K (.ref C_BadBook) (.ref C_BadText) = some false)
    (S_BadProgram_PlayError : PySem.W.subIn K (.ref C_BadProgram) (.ref C_PlayError) = some true)
    (S_BadProgram_BadNumber : PySem.W.subIn K (.ref C_BadProgram) (.ref C_BadNumber) = some false)
    (S_BadProgram_BadPiece : PySem.W.subIn K (.ref C_BadProgram) (.ref C_BadPiece) = some false)
    (S_BadProgram_BadFrame : PySem.W.subIn K (.ref C_BadProgram) (.ref C_BadFrame) = some false)
    (S_BadProgram_BadBook : PySem.W.subIn K (.ref C_BadProgram) (.ref C_BadBook) = some false)
    (S_BadProgram_BadProgram : PySem.W.subIn K (.ref C_BadProgram) (.ref C_BadProgram) = some true)
    (S_BadProgram_BadPlayer : PySem.W.subIn K (.ref C_BadProgram) (.ref C_BadPlayer) = some false)
    (S_BadProgram_BadPaper : PySem.W.subIn K (.ref C_BadProgram) (.ref C_BadPaper) = some false)
    (S_BadProgram_Misfit : PySem.W.subIn K (.ref C_BadProgram) (.ref C_Misfit) = some false)
    (S_BadProgram_NoWay : PySem.W.subIn K (.ref C_BadProgram) (.ref C_NoWay) = some false)
    (S_BadProgram_NoPart : PySem.W.subIn K (.ref C_BadProgram) (.ref C_NoPart) = some false)
    (S_BadProgram_TooMany : PySem.W.subIn K (.ref C_BadProgram) (.ref C_TooMany) = some false)
    (S_BadProgram_Impossible : PySem.W.subIn K (.ref C_BadProgram) (.ref C_Impossible) = some false)
    (S_BadProgram_BadText : PySem.W.subIn K (.ref C_BadProgram) (.ref C_BadText) = some false)
    (S_BadPlayer_PlayError : PySem.W.subIn K (.ref C_BadPlayer) (.ref C_PlayError) = some true)
    (S_BadPlayer_BadNumber : PySem.W.subIn K (.ref C_BadPlayer) (.ref C_BadNumber) = some false)
    (S_BadPlayer_BadPiece : PySem.W.subIn K (.ref C_BadPlayer) (.ref C_BadPiece) = some false)
    (S_BadPlayer_BadFrame : PySem.W.subIn K (.ref C_BadPlayer) (.ref C_BadFrame) = some false)
    (S_BadPlayer_BadBook : PySem.W.subIn K (.ref C_BadPlayer) (.ref C_BadBook) = some false)
    (S_BadPlayer_BadProgram : PySem.W.subIn K (.ref C_BadPlayer) (.ref C_BadProgram) = some false)
    (S_BadPlayer_BadPlayer : PySem.W.subIn K (.ref C_BadPlayer) (.ref C_BadPlayer) = some true)
    (S_BadPlayer_BadPaper : PySem.W.subIn K (.ref C_BadPlayer) (.ref C_BadPaper) = some false)
    (S_BadPlayer_Misfit : PySem.W.subIn K (.ref C_BadPlayer) (.ref C_Misfit) = some false)
    (S_BadPlayer_NoWay : PySem.W.subIn K (.ref C_BadPlayer) (.ref C_NoWay) = some false)
    (S_BadPlayer_NoPart : PySem.W.subIn K (.ref C_BadPlayer) (.ref C_NoPart) = some false)
    (S_BadPlayer_TooMany : PySem.W.subIn K (.ref C_BadPlayer) (.ref C_TooMany) = some false)
    (S_BadPlayer_Impossible : PySem.W.subIn K (.ref C_BadPlayer) (.ref C_Impossible) = some false)
    (S_BadPlayer_BadText : PySem.W.subIn K (.ref C_BadPlayer) (.ref C_BadText) = some false)
    (S_BadPaper_PlayError : PySem.W.subIn K (.ref C_BadPaper) (.ref C_PlayError) = some true)
    (S_BadPaper_BadNumber : PySem.W.subIn K (.ref C_BadPaper) (.ref C_BadNumber) = some false)
    (S_BadPaper_BadPiece : PySem.W.subIn K (.ref C_BadPaper) (.ref C_BadPiece) = some false)
    (S_BadPaper_BadFrame : PySem.W.subIn K (.ref C_BadPaper) (.ref C_BadFrame) = some false)
    (S_BadPaper_BadBook : PySem.W.subIn K (.ref C_BadPaper) (.ref C_BadBook) = some false)
    (S_BadPaper_BadProgram : PySem.W.subIn K (.ref C_BadPaper) (.ref C_BadProgram) = some false)
    (S_BadPaper_BadPlayer : PySem.W.subIn K (.ref C_BadPaper) (.ref C_BadPlayer) = some false)
    (S_BadPaper_BadPaper : PySem.W.subIn K (.ref C_BadPaper) (.ref C_BadPaper) = some true)
    (S_BadPaper_Misfit : PySem.W.subIn K (.ref C_BadPaper) (.ref C_Misfit) = some false)
    (S_BadPaper_NoWay : PySem.W.subIn K (.ref C_BadPaper) (.ref C_NoWay) = some false)
    (S_BadPaper_NoPart : PySem.W.subIn K (.ref C_BadPaper) (.ref C_NoPart) = some false)
    (S_BadPaper_TooMany : PySem.W.subIn K (.ref C_BadPaper) (.ref C_TooMany) = some false)
    (S_BadPaper_Impossible : PySem.W.subIn K (.ref C_BadPaper) (.ref C_Impossible) = some false)
    (S_BadPaper_BadText : PySem.W.subIn K (.ref C_BadPaper) (.ref C_BadText) = some false)
    (S_Misfit_PlayError : PySem.W.subIn K (.ref C_Misfit) (.ref C_PlayError) = some true)
    (S_Misfit_BadNumber : PySem.W.subIn K (.ref C_Misfit) (.ref C_BadNumber) = some false)
    (S_Misfit_BadPiece : PySem.W.subIn K (.ref C_Misfit) (.ref C_BadPiece) = some false)
    (S_Misfit_BadFrame : PySem.W.subIn K (.ref C_Misfit) (.ref C_BadFrame) = some false)
    (S_Misfit_BadBook : PySem.W.subIn K (.ref C_Misfit) (.ref C_BadBook) = some false)
    (S_Misfit_BadProgram : PySem.W.subIn K (.ref C_Misfit) (.ref C_BadProgram) = some false)
    (S_Misfit_BadPlayer : PySem.W.subIn K (.ref C_Misfit) (.ref C_BadPlayer) = some false)
    (S_Misfit_BadPaper : PySem.W.subIn K (.ref C_Misfit) (.ref C_BadPaper) = some false)
    (S_Misfit_Misfit : PySem.W.subIn K (.ref C_Misfit) (.ref C_Misfit) = some true)
    (S_Misfit_NoWay : PySem.W.subIn K (.ref C_Misfit) (.ref C_NoWay) = some false)
    (S_Misfit_NoPart : PySem.W.subIn K (.ref C_Misfit) (.ref C_NoPart) = some false)
    (S_Misfit_TooMany : PySem.W.subIn K (.ref C_Misfit) (.ref C_TooMany) = some false)
    (S_Misfit_Impossible : PySem.W.subIn K (.ref C_Misfit) (.ref C_Impossible) = some false)
    (S_Misfit_BadText : PySem.W.subIn K (.ref C_Misfit) (.ref C_BadText) = some false)
    (S_NoWay_PlayError : PySem.W.subIn K (.ref C_NoWay) (.ref C_PlayError) = some true)
    (S_NoWay_BadNumber : PySem.W.subIn K (.ref C_NoWay) (.ref C_BadNumber) = some false)
    (S_NoWay_BadPiece : PySem.W.subIn K (.ref C_NoWay) (.ref C_BadPiece) = some false)
    (S_NoWay_BadFrame : PySem.W.subIn K (.ref C_NoWay) (.ref C_BadFrame) = some false)
    (S_NoWay_BadBook : PySem.W.subIn K (.ref C_NoWay) (.ref C_BadBook) = some false)
    (S_NoWay_BadProgram : PySem.W.subIn K (.ref C_NoWay) (.ref C_BadProgram) = some false)
    (S_NoWay_BadPlayer : PySem.W.subIn K (.ref C_NoWay) (.ref C_BadPlayer) = some false)
    (S_NoWay_BadPaper : PySem.W.subIn K (.ref C_NoWay) (.ref C_BadPaper) = some false)
    (S_NoWay_Misfit : PySem.W.subIn K (.ref C_NoWay) (.ref C_Misfit) = some false)
    (S_NoWay_NoWay : PySem.W.subIn K (.ref C_NoWay) (.ref C_NoWay) = some true)
    (S_NoWay_NoPart : PySem.W.subIn K (.ref C_NoWay) (.ref C_NoPart) = some false)
    (S_NoWay_TooMany : PySem.W.subIn K (.ref C_NoWay) (.ref C_TooMany) = some false)
    (S_NoWay_Impossible : PySem.W.subIn K (.ref C_NoWay) (.ref C_Impossible) = some false)
    (S_NoWay_BadText : PySem.W.subIn K (.ref C_NoWay) (.ref C_BadText) = some false)
    (S_NoPart_PlayError : PySem.W.subIn K (.ref C_NoPart) (.ref C_PlayError) = some true)
    (S_NoPart_BadNumber : PySem.W.subIn K (.ref C_NoPart) (.ref C_BadNumber) = some false)
    (S_NoPart_BadPiece : PySem.W.subIn K (.ref C_NoPart) (.ref C_BadPiece) = some false)
    (S_NoPart_BadFrame : PySem.W.subIn K (.ref C_NoPart) (.ref C_BadFrame) = some false)
    (S_NoPart_BadBook : PySem.W.subIn K (.ref C_NoPart) (.ref C_BadBook) = some false)
    (S_NoPart_BadProgram : PySem.W.subIn K (.ref C_NoPart) (.ref C_BadProgram) = some false)
    (S_NoPart_BadPlayer : PySem.W.subIn K (.ref C_NoPart) (.ref C_BadPlayer) = some false)
    (S_NoPart_BadPaper : PySem.W.subIn K (.ref C_NoPart) (.ref C_BadPaper) = some false)
    (S_NoPart_Misfit : PySem.W.subIn K (.ref C_NoPart) (.ref C_Misfit) = some false)
    (S_NoPart_NoWay : PySem.W.subIn K (.ref C_NoPart) (.ref C_NoWay) = some false)
    (S_NoPart_NoPart : PySem.W.subIn K (.ref C_NoPart) (.ref C_NoPart) = some true)
    (S_NoPart_TooMany : PySem.W.subIn K (.ref C_NoPart) (.ref C_TooMany) = some false)
    (S_NoPart_Impossible : PySem.W.subIn K (.ref C_NoPart) (.ref C_Impossible) = some false)
    (S_NoPart_BadText : PySem.W.subIn K (.ref C_NoPart) (.ref C_BadText) = some false)
    (S_TooMany_PlayError : PySem.W.subIn K (.ref C_TooMany) (.ref C_PlayError) = some true)
    (S_TooMany_BadNumber : PySem.W.subIn K (.ref C_TooMany) (.ref C_BadNumber) = some false)
    (S_TooMany_BadPiece : PySem.W.subIn K (.ref C_TooMany) (.ref C_BadPiece) = some false)
    (S_TooMany_BadFrame : PySem.W.subIn K (.ref C_TooMany) (.ref C_BadFrame) = some false)
    (S_TooMany_BadBook : PySem.W.subIn K (.ref C_TooMany) (.ref C_BadBook) = some false)
    (S_TooMany_BadProgram : PySem.W.subIn K (.ref C_TooMany) (.ref C_BadProgram) = some false)
    (S_TooMany_BadPlayer : PySem.W.subIn K (.ref C_TooMany) (.ref C_BadPlayer) = some false)
    (S_TooMany_BadPaper : PySem.W.subIn K (.ref C_TooMany) (.ref C_BadPaper) = some false)
    (S_TooMany_Misfit : PySem.W.subIn K (.ref C_TooMany) (.ref C_Misfit) = some false)
    (S_TooMany_NoWay : PySem.W.subIn K (.ref C_TooMany) (.ref C_NoWay) = some false)
    (S_TooMany_NoPart : PySem.W.subIn K (.ref C_TooMany) (.ref C_NoPart) = some false)
    (S_TooMany_TooMany : PySem.W.subIn K (.ref C_TooMany) (.ref C_TooMany) = some true)
    (S_TooMany_Impossible : PySem.W.subIn K (.ref C_TooMany) (.ref C_Impossible) = some false)
    (S_TooMany_BadText : PySem.W.subIn K (.ref C_TooMany) (.ref C_BadText) = some false)
    (S_Impossible_PlayError : PySem.W.subIn K (.ref C_Impossible) (.ref C_PlayError) = some true)
    (S_Impossible_BadNumber : PySem.W.subIn K (.ref C_Impossible) (.ref C_BadNumber) = some false)
    (S_Impossible_BadPiece : PySem.W.subIn K (.ref C_Impossible) (.ref C_BadPiece) = some false)
    (S_Impossible_BadFrame : PySem.W.subIn K (.ref C_Impossible) (.ref C_BadFrame) = some false)
    (S_Impossible_BadBook : PySem.W.subIn K (.ref C_Impossible) (.ref C_BadBook) = some false)
    (S_Impossible_BadProgram : PySem.W.subIn K (.ref C_Impossible) (.ref C_BadProgram) = some false)
    (S_Impossible_BadPlayer : PySem.W.subIn K (.ref C_Impossible) (.ref C_BadPlayer) = some false)
    (S_Impossible_BadPaper : PySem.W.subIn K (.ref C_Impossible) (.ref C_BadPaper) = some false)
    (S_Impossible_Misfit : PySem.W.subIn K (.ref C_Impossible) (.ref C_Misfit) = some false)
    (S_Impossible_NoWay : PySem.W.subIn K (.ref C_Impossible) (.ref C_NoWay) = some false)
    (S_Impossible_NoPart : PySem.W.subIn K (.ref C_Impossible) (.ref C_NoPart) = some false)
    (S_Impossible_TooMany : PySem.W.subIn K (.ref C_Impossible) (.ref C_TooMany) = some false)
    (S_Impossible_Impossible : PySem.W.subIn K (.ref C_Impossible) (.ref C_Impossible) = some true)
    (S_Impossible_BadText : PySem.W.subIn K (.ref C_Impossible) (.ref C_BadText) = some false)
    (S_BadText_PlayError : PySem.W.subIn K (.ref C_BadText) (.ref C_PlayError) = some true)
    (S_BadText_BadNumber : PySem.W.subIn K (.ref C_BadText) (.ref C_BadNumber) = some false)
    (S_BadText_BadPiece : PySem.W.subIn K (.ref C_BadText) (.ref C_BadPiece) = some false)
    (S_BadText_BadFrame : PySem.W.subIn K (.ref C_BadText) (.ref C_BadFrame) = some false)
    (S_BadText_BadBook : PySem.W.subIn K (.ref C_BadText) (.ref C_BadBook) = some false)
    (S_BadText_BadProgram : PySem.W.subIn K (.ref C_BadText) (.ref C_BadProgram) = some false)
    (S_BadText_BadPlayer : PySem.W.subIn K (.ref C_BadText) (.ref C_BadPlayer) = some false)
    (S_BadText_BadPaper : PySem.W.subIn K (.ref C_BadText) (.ref C_BadPaper) = some false)
    (S_BadText_Misfit : PySem.W.subIn K (.ref C_BadText) (.ref C_Misfit) = some false)
    (S_BadText_NoWay : PySem.W.subIn K (.ref C_BadText) (.ref C_NoWay) = some false)
    (S_BadText_NoPart : PySem.W.subIn K (.ref C_BadText) (.ref C_NoPart) = some false)
    (S_BadText_TooMany : PySem.W.subIn K (.ref C_BadText) (.ref C_TooMany) = some false)
    (S_BadText_Impossible : PySem.W.subIn K (.ref C_BadText) (.ref C_Impossible) = some false)
    (S_BadText_BadText : PySem.W.subIn K (.ref C_BadText) (.ref C_BadText) = some true)
    (S_PlayError_PlayError : PySem.W.subIn K (.ref C_PlayError) (.ref C_PlayError) = some true)
    (ec_PlayError : PySem.W.subIn K (.ref C_PlayError) (.type "BaseException") = some true) (ic_PlayError : PySem.W.isClsIn K C_PlayError = true) (tc_PlayError : PySem.W.typeIn K (.ref C_PlayError) = some (.type "type"))
    (ec_BadNumber : PySem.W.subIn K (.ref C_BadNumber) (.type "BaseException") = some true) (ic_BadNumber : PySem.W.isClsIn K C_BadNumber = true) (tc_BadNumber : PySem.W.typeIn K (.ref C_BadNumber) = some (.type "type"))
    (ec_BadPiece : PySem.W.subIn K (.ref C_BadPiece) (.type "BaseException") = some true) (ic_BadPiece : PySem.W.isClsIn K C_BadPiece = true) (tc_BadPiece : PySem.W.typeIn K (.ref C_BadPiece) = some (.type "type"))
    (ec_BadFrame : PySem.W.subIn K (.ref C_BadFrame) (.type "BaseException") = some true) (ic_BadFrame : PySem.W.isClsIn K C_BadFrame = true) (tc_BadFrame : PySem.W.typeIn K (.ref C_BadFrame) = some (.type "type"))
    (ec_BadBook : PySem.W.subIn K (.ref C_BadBook) (.type "BaseException") = some true) (ic_BadBook : PySem.W.isClsIn K C_BadBook = true) (tc_BadBook : PySem.W.typeIn K (.ref C_BadBook) = some (.type "type"))
    (ec_BadProgram : PySem.W.subIn K (.ref C_BadProgram) (.type "BaseException") = some true) (ic_BadProgram : PySem.W.isClsIn K C_BadProgram = true) (tc_BadProgram : PySem.W.typeIn K (.ref C_BadProgram) = some (.type "type"))
    (ec_BadPlayer : PySem.W.subIn K (.ref C_BadPlayer) (.type "BaseException") = some true) (ic_BadPlayer : PySem.W.isClsIn K C_BadPlayer = true) (tc_BadPlayer : PySem.W.typeIn K (.ref C_BadPlayer) = some (.type "type"))
    (ec_BadPaper : PySem.W.subIn K (.ref C_BadPaper) (.type "BaseException") = some true) (ic_BadPaper : PySem.W.isClsIn K C_BadPaper = true) (tc_BadPaper : PySem.W.typeIn K (.ref C_BadPaper) = some (.type "type"))
    (ec_Misfit : PySem.W.subIn K (.ref C_Misfit) (.type "BaseException") = some true) (ic_Misfit : PySem.W.isClsIn K C_Misfit = true) (tc_Misfit : PySem.W.typeIn K (.ref C_Misfit) = some (.type "type"))
    (ec_NoWay : PySem.W.subIn K (.ref C_NoWay) (.type "BaseException") = some true) (ic_NoWay : PySem.W.isClsIn K C_NoWay = true) (tc_NoWay : PySem.W.typeIn K (.ref C_NoWay) = some (.type "type"))
    (ec_NoPart : PySem.W.subIn K (.ref C_NoPart) (.type "BaseException") = some true) (ic_NoPart : PySem.W.isClsIn K C_NoPart = true) (tc_NoPart : PySem.W.typeIn K (.ref C_NoPart) = some (.type "type"))
    (ec_TooMany : PySem.W.subIn K (.ref C_TooMany) (.type "BaseException") = some true) (ic_TooMany : PySem.W.isClsIn K C_TooMany = true) (tc_TooMany : PySem.W.typeIn K (.ref C_TooMany) = some (.type "type"))
    (ec_Impossible : PySem.W.subIn K (.ref C_Impossible) (.type "BaseException") = some true) (ic_Impossible : PySem.W.isClsIn K C_Impossible = true) (tc_Impossible : PySem.W.typeIn K (.ref C_Impossible) = some (.type "type"))
    (ec_BadText : PySem.W.subIn K (.ref C_BadText) (.type "BaseException") = some true) (ic_BadText : PySem.W.isClsIn K C_BadText = true) (tc_BadText : PySem.W.typeIn K (.ref C_BadText) = some (.type "type"))
    : ∀ x y b C D, tbl x y = some b → CNm K x C → CNm K y D → Rel2 K C D b := by
  intro x y b C D h hx hy
  obtain ⟨h1, h2⟩ := low_of h
  simp only [lowN, List.mem_cons, List.not_mem_nil, or_false] at h1 h2
  rcases h1 with rfl | rfl | rfl | rfl | rfl | rfl | rfl | rfl | rfl | rfl | rfl | rfl | rfl
  · rcases h2 with rfl | rfl | rfl | rfl | rfl | rfl | rfl | rfl | rfl | rfl | rfl | rfl | rfl | rfl
    · exact rel2_mk N_BadNumber N_PlayError S_BadNumber_PlayError S_PlayError_PlayError ic_PlayError tc_PlayError ec_PlayError (by decide +kernel) h hx hy
    · exact rel2_mk N_BadNumber N_BadNumber S_BadNumber_BadNumber S_BadNumber_BadNumber ic_BadNumber tc_BadNumber ec_BadNumber (by decide +kernel) h hx hy
    · exact rel2_mk N_BadNumber N_BadPiece S_BadNumber_BadPiece S_BadPiece_BadPiece ic_BadPiece tc_BadPiece ec_BadPiece (by decide +kernel) h hx hy
    · exact rel2_mk N_BadNumber N_BadFrame S_BadNumber_BadFrame S_BadFrame_BadFrame ic_BadFrame tc_BadFrame ec_BadFrame (by decide +kernel) h hx hy
    · exact rel2_mk N_BadNumber N_BadBook S_BadNumber_BadBook S_BadBook_BadBook ic_BadBook tc_BadBook ec_BadBook (by decide +kernel) h hx hy
    · exact rel2_mk N_BadNumber N_BadProgram S_BadNumber_BadProgram S_BadProgram_BadProgram ic_BadProgram tc_BadProgram ec_BadProgram (by decide +kernel) h hx hy
    · exact rel2_mk N_BadNumber N_BadPlayer S_BadNumber_BadPlayer S_BadPlayer_BadPlayer ic_BadPlayer tc_BadPlayer ec_BadPlayer (by decide +kernel) h hx hy
    · exact rel2_mk N_BadNumber N_BadPaper S_BadNumber_BadPaper S_BadPaper_BadPaper ic_BadPaper tc_BadPaper ec_BadPaper (by decide +kernel) h hx hy
    · exact rel2_mk N_BadNumber N_Misfit S_BadNumber_Misfit S_Misfit_Misfit ic_Misfit tc_Misfit ec_Misfit (by decide +kernel) h hx hy
    · exact rel2_mk N_BadNumber N_NoWay S_BadNumber_NoWay S_NoWay_NoWay ic_NoWay tc_NoWay ec_NoWay (by decide +kernel) h hx hy
    · exact rel2_mk N_BadNumber N_NoPart S_BadNumber_NoPart S_NoPart_NoPart ic_NoPart tc_NoPart ec_NoPart (by decide +kernel) h hx hy
    · exact rel2_mk N_BadNumber N_TooMany S_BadNumber_TooMany S_TooMany_TooMany ic_TooMany tc_TooMany ec_TooMany (by decide +kernel) h hx hy
    · exact rel2_mk N_BadNumber N_Impossible S_BadNumber_Impossible S_Impossible_Impossible ic_Impossible tc_Impossible ec_Impossible (by decide +kernel) h hx hy
    · exact rel2_mk N_BadNumber N_BadText S_BadNumber_BadText S_BadText_BadText ic_BadText tc_BadText ec_BadText (by decide +kernel) h hx hy
  · rcases h2 with rfl | rfl | rfl | rfl | rfl | rfl | rfl | rfl | rfl | rfl | rfl | rfl | rfl | rfl
    · exact rel2_mk N_BadPiece N_PlayError S_BadPiece_PlayError S_PlayError_PlayError ic_PlayError tc_PlayError ec_PlayError (by decide +kernel) h hx hy
    · exact rel2_mk N_BadPiece N_BadNumber S_BadPiece_BadNumber S_BadNumber_BadNumber ic_BadNumber tc_BadNumber ec_BadNumber (by decide +kernel) h hx hy
    · exact rel2_mk N_BadPiece N_BadPiece S_BadPiece_BadPiece S_BadPiece_BadPiece ic_BadPiece tc_BadPiece ec_BadPiece (by decide +kernel) h hx hy
    · exact rel2_mk N_BadPiece N_BadFrame S_BadPiece_BadFrame S_BadFrame_BadFrame ic_BadFrame tc_BadFrame ec_BadFrame (by decide +kernel) h hx hy
    · exact rel2_mk N_BadPiece N_BadBook S_BadPiece_BadBook S_BadBook_BadBook ic_BadBook tc_BadBook ec_BadBook (by decide +kernel) h hx hy
    · exact rel2_mk N_BadPiece N_BadProgram S_BadPiece_BadProgram S_BadProgram_BadProgram ic_BadProgram tc_BadProgram ec_BadProgram (by decide +kernel) h hx hy
    · exact rel2_mk N_BadPiece N_BadPlayer S_BadPiece_BadPlayer S_BadPlayer_BadPlayer ic_BadPlayer tc_BadPlayer ec_BadPlayer (by decide +kernel) h hx hy
    · exact rel2_mk N_BadPiece N_BadPaper S_BadPiece_BadPaper S_BadPaper_BadPaper ic_BadPaper tc_BadPaper ec_BadPaper (by decide +kernel) h hx hy
    · exact rel2_mk N_BadPiece N_Misfit S_BadPiece_Misfit S_Misfit_Misfit ic_Misfit tc_Misfit ec_Misfit (by decide +kernel) h hx hy
    · exact rel2_mk N_BadPiece N_NoWay S_BadPiece_NoWay S_NoWay_NoWay ic_NoWay tc_NoWay ec_NoWay (by decide +kernel) h hx hy
    · exact rel2_mk N_BadPiece N_NoPart S_BadPiece_NoPart S_NoPart_NoPart ic_NoPart tc_NoPart ec_NoPart (by decide +kernel) h hx hy
    · exact rel2_mk N_BadPiece N_TooMany S_BadPiece_TooMany S_TooMany_TooMany ic_TooMany tc_TooMany ec_TooMany (by decide +kernel) h hx hy
    · exact rel2_mk N_BadPiece N_Impossible S_BadPiece_Impossible S_Impossible_Impossible ic_Impossible tc_Impossible ec_Impossible (by decide +kernel) h hx hy
    · exact rel2_mk N_BadPiece N_BadText S_BadPiece_BadText S_BadText_BadText ic_BadText tc_BadText ec_BadText (by decide +kernel) h hx hy
  · rcases h2 with rfl | rfl | rfl | rfl | rfl | rfl | rfl | rfl | rfl | rfl | rfl | rfl | rfl | rfl
    · exact rel2_mk N_BadFrame N_PlayError S_BadFrame_PlayError S_PlayError_PlayError ic_PlayError tc_PlayError ec_PlayError (by decide +kernel) h hx hy
    · exact rel2_mk N_BadFrame N_BadNumber S_BadFrame_BadNumber S_BadNumber_BadNumber ic_BadNumber tc_BadNumber ec_BadNumber (by decide +kernel) h hx hy
    · exact rel2_mk N_BadFrame N_BadPiece S_BadFrame_BadPiece S_BadPiece_BadPiece ic_BadPiece tc_BadPiece ec_BadPiece (by decide +kernel) h hx hy
    · exact rel2_mk N_BadFrame N_BadFrame S_BadFrame_BadFrame S_BadFrame_BadFrame ic_BadFrame tc_BadFrame ec_BadFrame (by decide +kernel) h hx hy
    · exact rel2_mk N_BadFrame N_BadBook S_BadFrame_BadBook S_BadBook_BadBook ic_BadBook tc_BadBook ec_BadBook (by decide +kernel) h hx hy
    · exact rel2_mk N_BadFrame N_BadProgram S_BadFrame_BadProgram S_BadProgram_BadProgram ic_BadProgram tc_BadProgram ec_BadProgram (by decide +kernel) h hx hy
    · exact rel2_mk N_BadFrame N_BadPlayer S_BadFrame_BadPlayer S_BadPlayer_BadPlayer ic_BadPlayer tc_BadPlayer ec_BadPlayer (by decide +kernel) h hx hy
    · exact rel2_mk N_BadFrame N_BadPaper S_BadFrame_BadPaper S_BadPaper_BadPaper ic_BadPaper tc_BadPaper ec_BadPaper (by decide +kernel) h hx hy
    · exact rel2_mk N_BadFrame N_Misfit S_BadFrame_Misfit S_Misfit_Misfit ic_Misfit tc_Misfit ec_Misfit (by decide +kernel) h hx hy
    · exact rel2_mk N_BadFrame N_NoWay S_BadFrame_NoWay S_NoWay_NoWay ic_NoWay tc_NoWay ec_NoWay (by decide +kernel) h hx hy
    · exact rel2_mk N_BadFrame N_NoPart S_BadFrame_NoPart S_NoPart_NoPart ic_NoPart tc_NoPart ec_NoPart (by decide +kernel) h hx hy
    · exact rel2_mk N_BadFrame N_TooMany S_BadFrame_TooMany S_TooMany_TooMany ic_TooMany tc_TooMany ec_TooMany (by decide +kernel) h hx hy
    · exact rel2_mk N_BadFrame N_Impossible S_BadFrame_Impossible S_Impossible_Impossible ic_Impossible tc_Impossible ec_Impossible (by decide +kernel) h hx hy
    · exact rel2_mk N_BadFrame N_BadText S_BadFrame_BadText S_BadText_BadText ic_BadText tc_BadText ec_BadText (by decide +kernel) h hx hy
  · rcases h2 with rfl | rfl | rfl | rfl | rfl | rfl | rfl | rfl | rfl | rfl | rfl | rfl | rfl | rfl
    · exact rel2_mk N_BadBook N_PlayError S_BadBook_PlayError S_PlayError_PlayError ic_PlayError tc_PlayError ec_PlayError (by decide +kernel) h hx hy
    · exact rel2_mk N_BadBook N_BadNumber S_BadBook_BadNumber S_BadNumber_BadNumber ic_BadNumber tc_BadNumber ec_BadNumber (by decide +kernel) h hx hy
    · exact rel2_mk N_BadBook N_BadPiece S_BadBook_BadPiece S_BadPiece_BadPiece ic_BadPiece tc_BadPiece ec_BadPiece (by decide +kernel) h hx hy
    · exact rel2_mk N_BadBook N_BadFrame S_BadBook_BadFrame S_BadFrame_BadFrame ic_BadFrame tc_BadFrame ec_BadFrame (by decide +kernel) h hx hy
    · exact rel2_mk N_BadBook N_BadBook S_BadBook_BadBook S_BadBook_BadBook ic_BadBook tc_BadBook ec_BadBook (by decide +kernel) h hx hy
    · exact rel2_mk N_BadBook N_BadProgram S_BadBook_BadProgram S_BadProgram_BadProgram ic_BadProgram tc_BadProgram ec_BadProgram (by decide +kernel) h hx hy
    · exact rel2_mk N_BadBook N_BadPlayer S_BadBook_BadPlayer S_BadPlayer_BadPlayer ic_BadPlayer tc_BadPlayer ec_BadPlayer (by decide +kernel) h hx hy
    · exact rel2_mk N_BadBook N_BadPaper S_BadBook_BadPaper S_BadPaper_BadPaper ic_BadPaper tc_BadPaper ec_BadPaper (by decide +kernel) h hx hy
    · exact rel2_mk N_BadBook N_Misfit S_BadBook_Misfit S_Misfit_Misfit ic_Misfit tc_Misfit ec_Misfit (by decide +kernel) h hx hy
    · exact rel2_mk N_BadBook N_NoWay S_BadBook_NoWay S_NoWay_NoWay ic_NoWay tc_NoWay ec_NoWay (by decide +kernel) h hx hy
    · exact rel2_mk N_BadBook N_NoPart S_BadBook_NoPart S_NoPart_NoPart ic_NoPart tc_NoPart ec_NoPart (by decide +kernel) h hx hy
    · exact rel2_mk N_BadBook N_TooMany S_BadBook_TooMany S_TooMany_TooMany ic_TooMany tc_TooMany ec_TooMany (by decide +kernel) h hx hy
    · exact rel2_mk N_BadBook N_Impossible S_BadBook_Impossible S_Impossible_Impossible ic_Impossible tc_Impossible ec_Impossible (by decide +kernel) h hx hy
    · exact rel2_mk N_BadBook N_BadText S_BadBook_BadText S_BadText_BadText ic_BadText tc_BadText ec_BadText (by decide +kernel) h hx hy
  · rcases h2 with rfl | rfl | rfl | rfl | rfl | rfl | rfl | rfl | rfl | rfl | rfl | rfl | rfl | rfl
    · exact rel2_mk N_BadProgram N_PlayError S_BadProgram_PlayError S_PlayError_PlayError ic_PlayError tc_PlayError ec_PlayError (by decide +kernel) h hx hy
    · exact rel2_mk N_BadProgram N_BadNumber S_BadProgram_BadNumber S_BadNumber_BadNumber ic_BadNumber tc_BadNumber ec_BadNumber (by decide +kernel) h hx hy
    · exact rel2_mk N_BadProgram N_BadPiece S_BadProgram_BadPiece S_BadPiece_BadPiece ic_BadPiece tc_BadPiece ec_BadPiece (by decide +kernel) h hx hy
    · exact rel2_mk N_BadProgram N_BadFrame S_BadProgram_BadFrame S_BadFrame_BadFrame ic_BadFrame tc_BadFrame ec_BadFrame (by decide +kernel) h hx hy
    · exact rel2_mk N_BadProgram N_BadBook S_BadProgram_BadBook S_BadBook_BadBook ic_BadBook tc_BadBook ec_BadBook (by decide +kernel) h hx hy
    · exact rel2_mk N_BadProgram N_BadProgram S_BadProgram_BadProgram S_BadProgram_BadProgram ic_BadProgram tc_BadProgram ec_BadProgram (by decide +kernel) h hx hy
    · exact rel2_mk N_BadProgram N_BadPlayer S_BadProgram_BadPlayer S_BadPlayer_BadPlayer ic_BadPlayer tc_BadPlayer ec_BadPlayer (by decide +kernel) h hx hy
    · exact rel2_mk N_BadProgram N_BadPaper S_BadProgram_BadPaper S_BadPaper_BadPaper ic_BadPaper tc_BadPaper ec_BadPaper (by decide +kernel) h hx hy
    · exact rel2_mk N_BadProgram N_Misfit S_BadProgram_Misfit S_Misfit_Misfit ic_Misfit tc_Misfit ec_Misfit (by decide +kernel) h hx hy
    · exact rel2_mk N_BadProgram N_NoWay S_BadProgram_NoWay S_NoWay_NoWay ic_NoWay tc_NoWay ec_NoWay (by decide +kernel) h hx hy
    · exact rel2_mk N_BadProgram N_NoPart S_BadProgram_NoPart S_NoPart_NoPart ic_NoPart tc_NoPart ec_NoPart (by decide +kernel) h hx hy
    · exact rel2_mk N_BadProgram N_TooMany S_BadProgram_TooMany S_TooMany_TooMany ic_TooMany tc_TooMany ec_TooMany (by decide +kernel) h hx hy
    · exact rel2_mk N_BadProgram N_Impossible S_BadProgram_Impossible S_Impossible_Impossible ic_Impossible tc_Impossible ec_Impossible (by decide +kernel) h hx hy
    · exact rel2_mk N_BadProgram N_BadText S_BadProgram_BadText S_BadText_BadText ic_BadText tc_BadText ec_BadText (by decide +kernel) h hx hy
  · rcases h2 with rfl | rfl | rfl | rfl | rfl | rfl | rfl | rfl | rfl | rfl | rfl | rfl | rfl | rfl
    · exact rel2_mk N_BadPlayer N_PlayError S_BadPlayer_PlayError S_PlayError_PlayError ic_PlayError tc_PlayError ec_PlayError (by decide +kernel) h hx hy
    · exact rel2_mk N_BadPlayer N_BadNumber S_BadPlayer_BadNumber S_BadNumber_BadNumber ic_BadNumber tc_BadNumber ec_BadNumber (by decide +kernel) h hx hy
    · exact rel2_mk N_BadPlayer N_BadPiece S_BadPlayer_BadPiece S_BadPiece_BadPiece ic_BadPiece tc_BadPiece ec_BadPiece (by decide +kernel) h hx hy
    · exact rel2_mk N_BadPlayer N_BadFrame S_BadPlayer_BadFrame S_BadFrame_BadFrame ic_BadFrame tc_BadFrame ec_BadFrame (by decide +kernel) h hx hy
    · exact rel2_mk N_BadPlayer N_BadBook S_BadPlayer_BadBook S_BadBook_BadBook ic_BadBook tc_BadBook ec_BadBook (by decide +kernel) h hx hy
    · exact rel2_mk N_BadPlayer N_BadProgram S_BadPlayer_BadProgram S_BadProgram_BadProgram ic_BadProgram tc_BadProgram ec_BadProgram (by decide +kernel) h hx hy
    · exact rel2_mk N_BadPlayer N_BadPlayer S_BadPlayer_BadPlayer S_BadPlayer_BadPlayer ic_BadPlayer tc_BadPlayer ec_BadPlayer (by decide +kernel) h hx hy
    · exact rel2_mk N_BadPlayer N_BadPaper S_BadPlayer_BadPaper S_BadPaper_BadPaper ic_BadPaper tc_BadPaper ec_BadPaper (by decide +kernel) h hx hy
    · exact rel2_mk N_BadPlayer N_Misfit S_BadPlayer_Misfit S_Misfit_Misfit ic_Misfit tc_Misfit ec_Misfit (by decide +kernel) h hx hy
    · exact rel2_mk N_BadPlayer N_NoWay S_BadPlayer_NoWay S_NoWay_NoWay ic_NoWay tc_NoWay ec_NoWay (by decide +kernel) h hx hy
    · exact rel2_mk N_BadPlayer N_NoPart S_BadPlayer_NoPart S_NoPart_NoPart ic_NoPart tc_NoPart ec_NoPart (by decide +kernel) h hx hy
    · exact rel2_mk N_BadPlayer N_TooMany S_BadPlayer_TooMany S_TooMany_TooMany ic_TooMany tc_TooMany ec_TooMany (by decide +kernel) h hx hy
    · exact rel2_mk N_BadPlayer N_Impossible S_BadPlayer_Impossible S_Impossible_Impossible ic_Impossible tc_Impossible ec_Impossible (by decide +kernel) h hx hy
    · exact rel2_mk N_BadPlayer N_BadText S_BadPlayer_BadText S_BadText_BadText ic_BadText tc_BadText ec_BadText (by decide +kernel) h hx hy
  · rcases h2 with rfl | rfl | rfl | rfl | rfl | rfl | rfl | rfl | rfl | rfl | rfl | rfl | rfl | rfl
    · exact rel2_mk N_BadPaper N_PlayError S_BadPaper_PlayError S_PlayError_PlayError ic_PlayError tc_PlayError ec_PlayError (by decide +kernel) h hx hy
    · exact rel2_mk N_BadPaper N_BadNumber S_BadPaper_BadNumber S_BadNumber_BadNumber ic_BadNumber tc_BadNumber ec_BadNumber (by decide +kernel) h hx hy
    · exact rel2_mk N_BadPaper N_BadPiece S_BadPaper_BadPiece S_BadPiece_BadPiece ic_BadPiece tc_BadPiece ec_BadPiece (by decide +kernel) h hx hy
    · exact rel2_mk N_BadPaper N_BadFrame S_BadPaper_BadFrame S_BadFrame_BadFrame ic_BadFrame tc_BadFrame ec_BadFrame (by decide +kernel) h hx hy
    · exact rel2_mk N_BadPaper N_BadBook S_BadPaper_BadBook S_BadBook_BadBook ic_BadBook tc_BadBook ec_BadBook (by decide +kernel) h hx hy
    · exact rel2_mk N_BadPaper N_BadProgram S_BadPaper_BadProgram S_BadProgram_BadProgram ic_BadProgram tc_BadProgram ec_BadProgram (by decide +kernel) h hx hy
    · exact rel2_mk N_BadPaper N_BadPlayer S_BadPaper_BadPlayer S_BadPlayer_BadPlayer ic_BadPlayer tc_BadPlayer ec_BadPlayer (by decide +kernel) h hx hy
    · exact rel2_mk N_BadPaper N_BadPaper S_BadPaper_BadPaper S_BadPaper_BadPaper ic_BadPaper tc_BadPaper ec_BadPaper (by decide +kernel) h hx hy
    · exact rel2_mk N_BadPaper N_Misfit S_BadPaper_Misfit S_Misfit_Misfit ic_Misfit tc_Misfit ec_Misfit (by decide +kernel) h hx hy
    · exact rel2_mk N_BadPaper N_NoWay S_BadPaper_NoWay S_NoWay_NoWay ic_NoWay tc_NoWay ec_NoWay (by decide +kernel) h hx hy
    · exact rel2_mk N_BadPaper N_NoPart S_BadPaper_NoPart S_NoPart_NoPart ic_NoPart tc_NoPart ec_NoPart (by decide +kernel) h hx hy
    · exact rel2_mk N_BadPaper N_TooMany S_BadPaper_TooMany S_TooMany_TooMany ic_TooMany tc_TooMany ec_TooMany (by decide +kernel) h hx hy
    · exact rel2_mk N_BadPaper N_Impossible S_BadPaper_Impossible S_Impossible_Impossible ic_Impossible tc_Impossible ec_Impossible (by decide +kernel) h hx hy
    · exact rel2_mk N_BadPaper N_BadText S_BadPaper_BadText S_BadText_BadText ic_BadText tc_BadText ec_BadText (by decide +kernel) h hx hy
  · rcases h2 with rfl | rfl | rfl | rfl | rfl | rfl | rfl | rfl | rfl | rfl | rfl | rfl | rfl | rfl
    · exact rel2_mk N_Misfit N_PlayError S_Misfit_PlayError S_PlayError_PlayError ic_PlayError tc_PlayError ec_PlayError (by decide +kernel) h hx hy
    · exact rel2_mk N_Misfit N_BadNumber S_Misfit_BadNumber S_BadNumber_BadNumber ic_BadNumber tc_BadNumber ec_BadNumber (by decide +kernel) h hx hy
    · exact rel2_mk N_Misfit N_BadPiece S_Misfit_BadPiece S_BadPiece_BadPiece ic_BadPiece tc_BadPiece ec_BadPiece (by decide +kernel) h hx hy
    · exact rel2_mk N_Misfit N_BadFrame S_Misfit_BadFrame S_BadFrame_BadFrame ic_BadFrame tc_BadFrame ec_BadFrame (by decide +kernel) h hx hy
    · exact rel2_mk N_Misfit N_BadBook S_Misfit_BadBook S_BadBook_BadBook ic_BadBook tc_BadBook ec_BadBook (by decide +kernel) h hx hy
    · exact rel2_mk N_Misfit N_BadProgram S_Misfit_BadProgram S_BadProgram_BadProgram ic_BadProgram tc_BadProgram ec_BadProgram (by decide +kernel) h hx hy
    · exact rel2_mk N_Misfit N_BadPlayer S_Misfit_BadPlayer S_BadPlayer_BadPlayer ic_BadPlayer tc_BadPlayer ec_BadPlayer (by decide +kernel) h hx hy
    · exact rel2_mk N_Misfit N_BadPaper S_Misfit_BadPaper S_BadPaper_BadPaper ic_BadPaper tc_BadPaper ec_BadPaper (by decide +kernel) h hx hy
    · exact rel2_mk N_Misfit N_Misfit S_Misfit_Misfit S_Misfit_Misfit ic_Misfit tc_Misfit ec_Misfit (by decide +kernel) h hx hy
    · exact rel2_mk N_Misfit N_NoWay S_Misfit_NoWay S_NoWay_NoWay ic_NoWay tc_NoWay ec_NoWay (by decide +kernel) h hx hy
    · exact rel2_mk N_Misfit N_NoPart S_Misfit_NoPart S_NoPart_NoPart ic_NoPart tc_NoPart ec_NoPart (by decide +kernel) h hx hy
    · exact rel2_mk N_Misfit N_TooMany S_Misfit_TooMany S_TooMany_TooMany ic_TooMany tc_TooMany ec_TooMany (by decide +kernel) h hx hy
    · exact rel2_mk N_Misfit N_Impossible S_Misfit_Impossible S_Impossible_Impossible ic_Impossible tc_Impossible ec_Impossible (by decide +kernel) h hx hy
    · exact rel2_mk N_Misfit N_BadText S_Misfit_BadText S_BadText_BadText ic_BadText tc_BadText ec_BadText (by decide +kernel) h hx hy
  · rcases h2 with rfl | rfl | rfl | rfl | rfl | rfl | rfl | rfl | rfl | rfl | rfl | rfl | rfl | rfl
    · exact rel2_mk N_NoWay N_PlayError S_NoWay_PlayError S_PlayError_PlayError ic_PlayError tc_PlayError ec_PlayError (by decide +kernel) h hx hy
    · exact rel2_mk N_NoWay N_BadNumber S_NoWay_BadNumber S_BadNumber_BadNumber ic_BadNumber tc_BadNumber ec_BadNumber (by decide +kernel) h hx hy
    · exact rel2_mk N_NoWay N_BadPiece S_NoWay_BadPiece S_BadPiece_BadPiece ic_BadPiece tc_BadPiece ec_BadPiece (by decide +kernel) h hx hy
    · exact rel2_mk N_NoWay N_BadFrame S_NoWay_BadFrame S_BadFrame_BadFrame ic_BadFrame tc_BadFrame ec_BadFrame (by decide +kernel) h hx hy
    · exact rel2_mk N_NoWay N_BadBook S_NoWay_BadBook S_BadBook_BadBook ic_BadBook tc_BadBook ec_BadBook (by decide +kernel) h hx hy
    · exact rel2_mk N_NoWay N_BadProgram S_NoWay_BadProgram S_BadProgram_BadProgram ic_BadProgram tc_BadProgram ec_BadProgram (by decide +kernel) h hx hy
    · exact rel2_mk N_NoWay N_BadPlayer S_NoWay_BadPlayer S_BadPlayer_BadPlayer ic_BadPlayer tc_BadPlayer ec_BadPlayer (by decide +kernel) h hx hy
    · exact rel2_mk N_NoWay N_BadPaper S_NoWay_BadPaper S_BadPaper_BadPaper ic_BadPaper tc_BadPaper ec_BadPaper (by decide +kernel) h hx hy
    · exact rel2_mk N_NoWay N_Misfit S_NoWay_Misfit S_Misfit_Misfit ic_Misfit tc_Misfit ec_Misfit (by decide +kernel) h hx hy
    · exact rel2_mk N_NoWay N_NoWay S_NoWay_NoWay S_NoWay_NoWay ic_NoWay tc_NoWay ec_NoWay (by decide +kernel) h hx hy
    · exact rel2_mk N_NoWay N_NoPart S_NoWay_NoPart S_NoPart_NoPart ic_NoPart tc_NoPart ec_NoPart (by decide +kernel) h hx hy
    · exact rel2_mk N_NoWay N_TooMany S_NoWay_TooMany S_TooMany_TooMany ic_TooMany tc_TooMany ec_TooMany (by decide +kernel) h hx hy
    · exact rel2_mk N_NoWay N_Impossible S_NoWay_Impossible S_Impossible_Impossible ic_Impossible tc_Impossible ec_Impossible (by decide +kernel) h hx hy
    · exact rel2_mk N_NoWay N_BadText S_NoWay_BadText S_BadText_BadText ic_BadText tc_BadText ec_BadText (by decide +kernel) h hx hy
  · rcases h2 with rfl | rfl | rfl | rfl | rfl | rfl | rfl | rfl | rfl | rfl | rfl | rfl | rfl | rfl
    · exact rel2_mk N_NoPart N_PlayError S_NoPart_PlayError S_PlayError_PlayError ic_PlayError tc_PlayError ec_PlayError (by decide +kernel) h hx hy
    · exact rel2_mk N_NoPart N_BadNumber S_NoPart_BadNumber S_BadNumber_BadNumber ic_BadNumber tc_BadNumber ec_BadNumber (by decide +kernel) h hx hy
    · exact rel2_mk N_NoPart N_BadPiece S_NoPart_BadPiece S_BadPiece_BadPiece ic_BadPiece tc_BadPiece ec_BadPiece (by decide +kernel) h hx hy
    · exact rel2_mk N_NoPart N_BadFrame S_NoPart_BadFrame S_BadFrame_BadFrame ic_BadFrame tc_BadFrame ec_BadFrame (by decide +kernel) h hx hy
    · exact rel2_mk N_NoPart N_BadBook S_NoPart_BadBook S_BadBook_BadBook ic_BadBook tc_BadBook ec_BadBook (by decide +kernel) h hx hy
    · exact rel2_mk N_NoPart N_BadProgram S_NoPart_BadProgram S_BadProgram_BadProgram ic_BadProgram tc_BadProgram ec_BadProgram (by decide +kernel) h hx hy
    · exact rel2_mk N_NoPart N_BadPlayer S_NoPart_BadPlayer S_BadPlayer_BadPlayer ic_BadPlayer tc_BadPlayer ec_BadPlayer (by decide +kernel) h hx hy
    · exact rel2_mk N_NoPart N_BadPaper S_NoPart_BadPaper S_BadPaper_BadPaper ic_BadPaper tc_BadPaper ec_BadPaper (by decide +kernel) h hx hy
    · exact rel2_mk N_NoPart N_Misfit S_NoPart_Misfit S_Misfit_Misfit ic_Misfit tc_Misfit ec_Misfit (by decide +kernel) h hx hy
    · exact rel2_mk N_NoPart N_NoWay S_NoPart_NoWay S_NoWay_NoWay ic_NoWay tc_NoWay ec_NoWay (by decide +kernel) h hx hy
    · exact rel2_mk N_NoPart N_NoPart S_NoPart_NoPart S_NoPart_NoPart ic_NoPart tc_NoPart ec_NoPart (by decide +kernel) h hx hy
    · exact rel2_mk N_NoPart N_TooMany S_NoPart_TooMany S_TooMany_TooMany ic_TooMany tc_TooMany ec_TooMany (by decide +kernel) h hx hy
    · exact rel2_mk N_NoPart N_Impossible S_NoPart_Impossible S_Impossible_Impossible ic_Impossible tc_Impossible ec_Impossible (by decide +kernel) h hx hy
    · exact rel2_mk N_NoPart N_BadText S_NoPart_BadText S_BadText_BadText ic_BadText tc_BadText ec_BadText (by decide +kernel) h hx hy
  · rcases h2 with rfl | rfl | rfl | rfl | rfl | rfl | rfl | rfl | rfl | rfl | rfl | rfl | rfl | rfl
    · exact rel2_mk N_TooMany N_PlayError S_TooMany_PlayError S_PlayError_PlayError ic_PlayError tc_PlayError ec_PlayError (by decide +kernel) h hx hy
    · exact rel2_mk N_TooMany N_BadNumber S_TooMany_BadNumber S_BadNumber_BadNumber ic_BadNumber tc_BadNumber ec_BadNumber (by decide +kernel) h hx hy
    · exact rel2_mk N_TooMany N_BadPiece S_TooMany_BadPiece S_BadPiece_BadPiece ic_BadPiece tc_BadPiece ec_BadPiece (by decide +kernel) h hx hy
    · exact rel2_mk N_TooMany N_BadFrame S_TooMany_BadFrame S_BadFrame_BadFrame ic_BadFrame tc_BadFrame ec_BadFrame (by decide +kernel) h hx hy
    · exact rel2_mk N_TooMany N_BadBook S_TooMany_BadBook S_BadBook_BadBook ic_BadBook tc_BadBook ec_BadBook (by decide +kernel) h hx hy
    · exact rel2_mk N_TooMany N_BadProgram S_TooMany_BadProgram S_BadProgram_BadProgram ic_BadProgram tc_BadProgram ec_BadProgram (by decide +kernel) h hx hy
    · exact rel2_mk N_TooMany N_BadPlayer S_TooMany_BadPlayer S_BadPlayer_BadPlayer ic_BadPlayer tc_BadPlayer ec_BadPlayer (by decide +kernel) h hx hy
    · exact rel2_mk N_TooMany N_BadPaper S_TooMany_BadPaper S_BadPaper_BadPaper ic_BadPaper tc_BadPaper ec_BadPaper (by decide +kernel) h hx hy
    · exact rel2_mk N_TooMany N_Misfit S_TooMany_Misfit S_Misfit_Misfit ic_Misfit tc_Misfit ec_Misfit (by decide +kernel) h hx hy
    · exact rel2_mk N_TooMany N_NoWay S_TooMany_NoWay S_NoWay_NoWay ic_NoWay tc_NoWay ec_NoWay (by decide +kernel) h hx hy
    · exact rel2_mk N_TooMany N_NoPart S_TooMany_NoPart S_NoPart_NoPart ic_NoPart tc_NoPart ec_NoPart (by decide +kernel) h hx hy
    · exact rel2_mk N_TooMany N_TooMany S_TooMany_TooMany S_TooMany_TooMany ic_TooMany tc_TooMany ec_TooMany (by decide +kernel) h hx hy
    · exact rel2_mk N_TooMany N_Impossible S_TooMany_Impossible S_Impossible_Impossible ic_Impossible tc_Impossible ec_Impossible (by decide +kernel) h hx hy
    · exact rel2_mk N_TooMany N_BadText S_TooMany_BadText S_BadText_BadText ic_BadText tc_BadText ec_BadText (by decide +kernel) h hx hy
  · rcases h2 with rfl | rfl | rfl | rfl | rfl | rfl | rfl | rfl | rfl | rfl | rfl | rfl | rfl | rfl
    · exact rel2_mk N_Impossible N_PlayError S_Impossible_PlayError S_PlayError_PlayError ic_PlayError tc_PlayError ec_PlayError (by decide +kernel) h hx hy
    · exact rel2_mk N_Impossible N_BadNumber S_Impossible_BadNumber S_BadNumber_BadNumber ic_BadNumber tc_BadNumber ec_BadNumber (by decide +kernel) h hx hy
    · exact rel2_mk N_Impossible N_BadPiece S_Impossible_BadPiece S_BadPiece_BadPiece ic_BadPiece tc_BadPiece ec_BadPiece (by decide +kernel) h hx hy
    · exact rel2_mk N_Impossible N_BadFrame S_Impossible_BadFrame S_BadFrame_BadFrame ic_BadFrame tc_BadFrame ec_BadFrame (by decide +kernel) h hx hy
    · exact rel2_mk N_Impossible N_BadBook S_Impossible_BadBook S_BadBook_BadBook ic_BadBook tc_BadBook ec_BadBook (by decide +kernel) h hx hy
    · exact rel2_mk N_Impossible N_BadProgram S_Impossible_BadProgram S_BadProgram_BadProgram ic_BadProgram tc_BadProgram ec_BadProgram (by decide +kernel) h hx hy
    · exact rel2_mk N_Impossible N_BadPlayer S_Impossible_BadPlayer S_BadPlayer_BadPlayer ic_BadPlayer tc_BadPlayer ec_BadPlayer (by decide +kernel) h hx hy
    · exact rel2_mk N_Impossible N_BadPaper S_Impossible_BadPaper S_BadPaper_BadPaper ic_BadPaper tc_BadPaper ec_BadPaper (by decide +kernel) h hx hy
    · exact rel2_mk N_Impossible N_Misfit S_Impossible_Misfit S_Misfit_Misfit ic_Misfit tc_Misfit ec_Misfit (by decide +kernel) h hx hy
    · exact rel2_mk N_Impossible N_NoWay S_Impossible_NoWay S_NoWay_NoWay ic_NoWay tc_NoWay ec_NoWay (by decide +kernel) h hx hy
    · exact rel2_mk N_Impossible N_NoPart S_Impossible_NoPart S_NoPart_NoPart ic_NoPart tc_NoPart ec_NoPart (by decide +kernel) h hx hy
    · exact rel2_mk N_Impossible N_TooMany S_Impossible_TooMany S_TooMany_TooMany ic_TooMany tc_TooMany ec_TooMany (by decide +kernel) h hx hy
    · exact rel2_mk N_Impossible N_Impossible S_Impossible_Impossible S_Impossible_Impossible ic_Impossible tc_Impossible ec_Impossible (by decide +kernel) h hx hy
    · exact rel2_mk N_Impossible N_BadText S_Impossible_BadText S_BadText_BadText ic_BadText tc_BadText ec_BadText (by decide +kernel) h hx hy
  · rcases h2 with rfl | rfl | rfl | rfl | rfl | rfl | rfl | rfl | rfl | rfl | rfl | rfl | rfl | rfl
    · exact rel2_mk N_BadText N_PlayError S_BadText_PlayError S_PlayError_PlayError ic_PlayError tc_PlayError ec_PlayError (by decide +kernel) h hx hy
    · exact rel2_mk N_BadText N_BadNumber S_BadText_BadNumber S_BadNumber_BadNumber ic_BadNumber tc_BadNumber ec_BadNumber (by decide +kernel) h hx hy
    · exact rel2_mk N_BadText N_BadPiece S_BadText_BadPiece S_BadPiece_BadPiece ic_BadPiece tc_BadPiece ec_BadPiece (by decide +kernel) h hx hy
    · exact rel2_mk N_BadText N_BadFrame S_BadText_BadFrame S_BadFrame_BadFrame ic_BadFrame tc_BadFrame ec_BadFrame (by decide +kernel) h hx hy
    · exact rel2_mk N_BadText N_BadBook S_BadText_BadBook S_BadBook_BadBook ic_BadBook tc_BadBook ec_BadBook (by decide +kernel) h hx hy
    · exact rel2_mk N_BadText N_BadProgram S_BadText_BadProgram S_BadProgram_BadProgram ic_BadProgram tc_BadProgram ec_BadProgram (by decide +kernel) h hx hy
    · exact rel2_mk N_BadText N_BadPlayer S_BadText_BadPlayer S_BadPlayer_BadPlayer ic_BadPlayer tc_BadPlayer ec_BadPlayer (by decide +kernel) h hx hy
    · exact rel2_mk N_BadText N_BadPaper S_BadText_BadPaper S_BadPaper_BadPaper ic_BadPaper tc_BadPaper ec_BadPaper (by decide +kernel) h hx hy
    · exact rel2_mk N_BadText N_Misfit S_BadText_Misfit S_Misfit_Misfit ic_Misfit tc_Misfit ec_Misfit (by decide +kernel) h hx hy
    · exact rel2_mk N_BadText N_NoWay S_BadText_NoWay S_NoWay_NoWay ic_NoWay tc_NoWay ec_NoWay (by decide +kernel) h hx hy
    · exact rel2_mk N_BadText N_NoPart S_BadText_NoPart S_NoPart_NoPart ic_NoPart tc_NoPart ec_NoPart (by decide +kernel) h hx hy
    · exact rel2_mk N_BadText N_TooMany S_BadText_TooMany S_TooMany_TooMany ic_TooMany tc_TooMany ec_TooMany (by decide +kernel) h hx hy
    · exact rel2_mk N_BadText N_Impossible S_BadText_Impossible S_Impossible_Impossible ic_Impossible tc_Impossible ec_Impossible (by decide +kernel) h hx hy
    · exact rel2_mk N_BadText N_BadText S_BadText_BadText S_BadText_BadText ic_BadText tc_BadText ec_BadText (by decide +kernel) h hx hy
theorem all_mk {l : PySem.W.OpenLaw} {w : World} {K : PySem.W.Frag} {h : Heap} {mg : Str → Option Value} {fa : Addr} {C_PlayError C_BadNumber C_BadPiece C_BadFrame C_BadBook C_BadProgram C_BadPlayer C_BadPaper C_Misfit C_NoWay C_NoPart C_TooMany C_Impossible C_BadText : Addr}  (X : K.In h) (G : h.Ns mainGlobals mg) (hfa : mg "law" = some (.ref fa))
    (A_law_deck : At K "_law_deck" s_law_deck)
    (A_law_deal : At K "_law_deal" s_law_deal)
    (A_law_pick : At K "_law_pick" s_law_pick)
    (A_law_value : At K "_law_value" s_law_value)
    (A_law_first : At K "_law_first" s_law_first)
    (A_law_named : At K "_law_named" s_law_named)
    (A_law_last : At K "_law_last" s_law_last)
    (A_law_kinds : At K "_law_kinds" s_law_kinds)
    (A_law_fields : At K "_law_fields" s_law_fields)
    (A_law_raises : At K "_law_raises" s_law_raises)
    (A_law_right : At K "_law_right" s_law_right)
    (A_law : At K "law" s_law)
    (X_PlayError : PySem.W.nsIn K mainGlobals "PlayError" = some (some (.ref C_PlayError)))
    (X_BadNumber : XAt K "BadNumber" "BadNumber.__init__" ["part"] i_BadNumber C_BadNumber)
    (X_BadPiece : XAt K "BadPiece" "BadPiece.__init__" ["part"] i_BadPiece C_BadPiece)
    (X_BadFrame : XAt K "BadFrame" "BadFrame.__init__" ["part"] i_BadFrame C_BadFrame)
    (X_BadBook : XAt K "BadBook" "BadBook.__init__" ["part"] i_BadBook C_BadBook)
    (X_BadProgram : XAt K "BadProgram" "BadProgram.__init__" ["part"] i_BadProgram C_BadProgram)
    (X_BadPlayer : XAt K "BadPlayer" "BadPlayer.__init__" ["part"] i_BadPlayer C_BadPlayer)
    (X_BadPaper : XAt K "BadPaper" "BadPaper.__init__" ["part"] i_BadPaper C_BadPaper)
    (X_Misfit : XAt K "Misfit" "Misfit.__init__" ["part"] i_Misfit C_Misfit)
    (X_NoWay : XAt K "NoWay" "NoWay.__init__" ["value"] i_NoWay C_NoWay)
    (X_NoPart : XAt K "NoPart" "NoPart.__init__" ["value"] i_NoPart C_NoPart)
    (X_TooMany : XAt K "TooMany" "TooMany.__init__" ["what", "most"] i_TooMany C_TooMany)
    (X_Impossible : XAt K "Impossible" "Impossible.__init__" ["paper"] i_Impossible C_Impossible)
    (X_BadText : XAt K "BadText" "BadText.__init__" ["line", "item"] i_BadText C_BadText)
    (ec_PlayError : PySem.W.subIn K (.ref C_PlayError) (.type "BaseException") = some true) (ic_PlayError : PySem.W.isClsIn K C_PlayError = true) (tc_PlayError : PySem.W.typeIn K (.ref C_PlayError) = some (.type "type"))
    (ec_BadNumber : PySem.W.subIn K (.ref C_BadNumber) (.type "BaseException") = some true) (ic_BadNumber : PySem.W.isClsIn K C_BadNumber = true) (tc_BadNumber : PySem.W.typeIn K (.ref C_BadNumber) = some (.type "type"))
    (ec_BadPiece : PySem.W.subIn K (.ref C_BadPiece) (.type "BaseException") = some true) (ic_BadPiece : PySem.W.isClsIn K C_BadPiece = true) (tc_BadPiece : PySem.W.typeIn K (.ref C_BadPiece) = some (.type "type"))
    (ec_BadFrame : PySem.W.subIn K (.ref C_BadFrame) (.type "BaseException") = some true) (ic_BadFrame : PySem.W.isClsIn K C_BadFrame = true) (tc_BadFrame : PySem.W.typeIn K (.ref C_BadFrame) = some (.type "type"))
    (ec_BadBook : PySem.W.subIn K (.ref C_BadBook) (.type "BaseException") = some true) (ic_BadBook : PySem.W.isClsIn K C_BadBook = true) (tc_BadBook : PySem.W.typeIn K (.ref C_BadBook) = some (.type "type"))
    (ec_BadProgram : PySem.W.subIn K (.ref C_BadProgram) (.type "BaseException") = some true) (ic_BadProgram : PySem.W.isClsIn K C_BadProgram = true) (tc_BadProgram : PySem.W.typeIn K (.ref C_BadProgram) = some (.type "type"))
    (ec_BadPlayer : PySem.W.subIn K (.ref C_BadPlayer) (.type "BaseException") = some true) (ic_BadPlayer : PySem.W.isClsIn K C_BadPlayer = true) (tc_BadPlayer : PySem.W.typeIn K (.ref C_BadPlayer) = some (.type "type"))
    (ec_BadPaper : PySem.W.subIn K (.ref C_BadPaper) (.type "BaseException") = some true) (ic_BadPaper : PySem.W.isClsIn K C_BadPaper = true) (tc_BadPaper : PySem.W.typeIn K (.ref C_BadPaper) = some (.type "type"))
    (ec_Misfit : PySem.W.subIn K (.ref C_Misfit) (.type "BaseException") = some true) (ic_Misfit : PySem.W.isClsIn K C_Misfit = true) (tc_Misfit : PySem.W.typeIn K (.ref C_Misfit) = some (.type "type"))
    (ec_NoWay : PySem.W.subIn K (.ref C_NoWay) (.type "BaseException") = some true) (ic_NoWay : PySem.W.isClsIn K C_NoWay = true) (tc_NoWay : PySem.W.typeIn K (.ref C_NoWay) = some (.type "type"))
    (ec_NoPart : PySem.W.subIn K (.ref C_NoPart) (.type "BaseException") = some true) (ic_NoPart : PySem.W.isClsIn K C_NoPart = true) (tc_NoPart : PySem.W.typeIn K (.ref C_NoPart) = some (.type "type"))
    (ec_TooMany : PySem.W.subIn K (.ref C_TooMany) (.type "BaseException") = some true) (ic_TooMany : PySem.W.isClsIn K C_TooMany = true) (tc_TooMany : PySem.W.typeIn K (.ref C_TooMany) = some (.type "type"))
    (ec_Impossible : PySem.W.subIn K (.ref C_Impossible) (.type "BaseException") = some true) (ic_Impossible : PySem.W.isClsIn K C_Impossible = true) (tc_Impossible : PySem.W.typeIn K (.ref C_Impossible) = some (.type "type"))
    (ec_BadText : PySem.W.subIn K (.ref C_BadText) (.type "BaseException") = some true) (ic_BadText : PySem.W.isClsIn K C_BadText = true) (tc_BadText : PySem.W.typeIn K (.ref C_BadText) = some (.type "type"))
    (S_BadNumber_PlayError : PySem.W.subIn K (.ref C_BadNumber) (.ref C_PlayError) = some true)
    (S_BadNumber_BadNumber : PySem.W.subIn K (.ref C_BadNumber) (.ref C_BadNumber) = some true)
    (S_BadNumber_BadPiece : PySem.W.subIn K (.ref C_BadNumber) (.ref C_BadPiece) = some false)
    (S_BadNumber_BadFrame : PySem.W.subIn K (.ref C_BadNumber) (.ref C_BadFrame) = some false)
    (S_BadNumber_BadBook : PySem.W.subIn K (.ref C_BadNumber) (.ref C_BadBook) = some false)
    (S_BadNumber_BadProgram : PySem.W.subIn K (.ref C_BadNumber) (.ref C_BadProgram) = some false)
    (S_BadNumber_BadPlayer : PySem.W.subIn K (.ref C_BadNumber) (.ref C_BadPlayer) = some false)
    (S_BadNumber_BadPaper : PySem.W.subIn K (.ref C_BadNumber) (.ref C_BadPaper) = some false)
    (S_BadNumber_Misfit : PySem.W.subIn K (.ref C_BadNumber) (.ref C_Misfit) = some false)
    (S_BadNumber_NoWay : PySem.W.subIn K (.ref C_BadNumber) (.ref C_NoWay) = some false)
    (S_BadNumber_NoPart : PySem.W.subIn K (.ref C_BadNumber) (.ref C_NoPart) = some false)
    (S_BadNumber_TooMany : PySem.W.subIn K (.ref C_BadNumber) (.ref C_TooMany) = some false)
    (S_BadNumber_Impossible : PySem.W.subIn K (.ref C_BadNumber) (.ref C_Impossible) = some false)
    (S_BadNumber_BadText : PySem.W.subIn K (.ref C_BadNumber) (.ref C_BadText) = some false)
    (S_BadPiece_PlayError : PySem.W.subIn K (.ref C_BadPiece) (.ref C_PlayError) = some true)
    (S_BadPiece_BadNumber : PySem.W.subIn K (.ref C_BadPiece) (.ref C_BadNumber) = some false)
    (S_BadPiece_BadPiece : PySem.W.subIn K (.ref C_BadPiece) (.ref C_BadPiece) = some true)
    (S_BadPiece_BadFrame : PySem.W.subIn K (.ref C_BadPiece) (.ref C_BadFrame) = some false)
    (S_BadPiece_BadBook : PySem.W.subIn K (.ref C_BadPiece) (.ref C_BadBook) = some false)
    (S_BadPiece_BadProgram : PySem.W.subIn K (.ref C_BadPiece) (.ref C_BadProgram) = some false)
    (S_BadPiece_BadPlayer : PySem.W.subIn K (.ref C_BadPiece) (.ref C_BadPlayer) = some false)
    (S_BadPiece_BadPaper : PySem.W.subIn K (.ref C_BadPiece) (.ref C_BadPaper) = some false)
    (S_BadPiece_Misfit : PySem.W.subIn K (.ref C_BadPiece) (.ref C_Misfit) = some false)
    (S_BadPiece_NoWay : PySem.W.subIn K (.ref C_BadPiece) (.ref C_NoWay) = some false)
    (S_BadPiece_NoPart : PySem.W.subIn K (.ref C_BadPiece) (.ref C_NoPart) = some false)
    (S_BadPiece_TooMany : PySem.W.subIn K (.ref C_BadPiece) (.ref C_TooMany) = some false)
    (S_BadPiece_Impossible : PySem.W.subIn K (.ref C_BadPiece) (.ref C_Impossible) = some false)
    (S_BadPiece_BadText : PySem.W.subIn K (.ref C_BadPiece) (.ref C_BadText) = some false)
    (S_BadFrame_PlayError : PySem.W.subIn K (.ref C_BadFrame) (.ref C_PlayError) = some true)
    (S_BadFrame_BadNumber : PySem.W.subIn K (.ref C_BadFrame) (.ref C_BadNumber) = some false)
    (S_BadFrame_BadPiece : PySem.W.subIn K (.ref C_BadFrame) (.ref C_BadPiece) = some false)
    (S_BadFrame_BadFrame : PySem.W.subIn K (.ref C_BadFrame) (.ref C_BadFrame) = some true)
    (S_BadFrame_BadBook : PySem.W.subIn K (.ref C_BadFrame) (.ref C_BadBook) = some false)
    (S_BadFrame_BadProgram : PySem.W.subIn K (.ref C_BadFrame) (.ref C_BadProgram) = some false)
    (S_BadFrame_BadPlayer : PySem.W.subIn K (.ref C_BadFrame) (.ref C_BadPlayer) = some false)
    (S_BadFrame_BadPaper : PySem.W.subIn K (.ref C_BadFrame) (.ref C_BadPaper) = some false)
    (S_BadFrame_Misfit : PySem.W.subIn K (.ref C_BadFrame) (.ref C_Misfit) = some false)
    (S_BadFrame_NoWay : PySem.W.subIn K (.ref C_BadFrame) (.ref C_NoWay) = some false)
    (S_BadFrame_NoPart : PySem.W.subIn K (.ref C_BadFrame) (.ref C_NoPart) = some false)
    (S_BadFrame_TooMany : PySem.W.subIn K (.ref C_BadFrame) (.ref C_TooMany) = some false)
    (S_BadFrame_Impossible : PySem.W.subIn K (.ref C_BadFrame) (.ref C_Impossible) = some false)
    (S_BadFrame_BadText : PySem.W.subIn K (.ref C_BadFrame) (.ref C_BadText) = some false)
    (S_BadBook_PlayError : PySem.W.subIn K (.ref C_BadBook) (.ref C_PlayError) = some true)
    (S_BadBook_BadNumber : PySem.W.subIn K (.ref C_BadBook) (.ref C_BadNumber) = some false)
    (S_BadBook_BadPiece : PySem.W.subIn K (.ref C_BadBook) (.ref C_BadPiece) = some false)
    (S_BadBook_BadFrame : PySem.W.subIn K (.ref C_BadBook) (.ref C_BadFrame) = some false)
    (S_BadBook_BadBook : PySem.W.subIn K (.ref C_BadBook) (.ref C_BadBook) = some true)
    (S_BadBook_BadProgram : PySem.W.subIn K (.ref C_BadBook) (.ref C_BadProgram) = some false)
    (S_BadBook_BadPlayer : PySem.W.subIn K (.ref C_BadBook) (.ref C_BadPlayer) = some false)
    (S_BadBook_BadPaper : PySem.W.subIn K (.ref C_BadBook) (.ref C_BadPaper) = some false)
    (S_BadBook_Misfit : PySem.W.subIn K (.ref C_BadBook) (.ref C_Misfit) = some false)
    (S_BadBook_NoWay : PySem.W.subIn K (.ref C_BadBook) (.ref C_NoWay) = some false)
    (S_BadBook_NoPart : PySem.W.subIn K (.ref C_BadBook) (.ref C_NoPart) = some false)
    (S_BadBook_TooMany : PySem.W.subIn K (.ref C_BadBook) (.ref C_TooMany) = some false)
    (S_BadBook_Impossible : PySem.W.subIn K (.ref C_BadBook) (.ref C_Impossible) = some false)
    (S_BadBook_BadText : PySem.W.subIn K (.ref C_BadBook) (.ref C_BadText) = some false)
    (S_BadProgram_PlayError : PySem.W.subIn K (.ref C_BadProgram) (.ref C_PlayError) = some true)
    (S_BadProgram_BadNumber : PySem.W.subIn K (.ref C_BadProgram) (.ref C_BadNumber) = some false)
    (S_BadProgram_BadPiece : PySem.W.subIn K (.ref C_BadProgram) (.ref C_BadPiece) = some false)
    (S_BadProgram_BadFrame : PySem.W.subIn K (.ref C_BadProgram) (.ref C_BadFrame) = some false)
    (S_BadProgram_BadBook : PySem.W.subIn K (.ref C_BadProgram) (.ref C_BadBook) = some false)
    (S_BadProgram_BadProgram : PySem.W.subIn K (.ref C_BadProgram) (.ref C_BadProgram) = some true)
    (S_BadProgram_BadPlayer : PySem.W.subIn K (.ref C_BadProgram) (.ref C_BadPlayer) = some false)
    (S_BadProgram_BadPaper : PySem.W.subIn K (.ref C_BadProgram) (.ref C_BadPaper) = some false)
    (S_BadProgram_Misfit : PySem.W.subIn K (.ref C_BadProgram) (.ref C_Misfit) = some false)
    (S_BadProgram_NoWay : PySem.W.subIn K (.ref C_BadProgram) (.ref C_NoWay) = some false)
    (S_BadProgram_NoPart : PySem.W.subIn K (.ref C_BadProgram) (.ref C_NoPart) = some false)
    (S_BadProgram_TooMany : PySem.W.subIn K (.ref C_BadProgram) (.ref C_TooMany) = some false)
    (S_BadProgram_Impossible : PySem.W.subIn K (.ref C_BadProgram) (.ref C_Impossible) = some false)
    (S_BadProgram_BadText : PySem.W.subIn K (.ref C_BadProgram) (.ref C_BadText) = some false)
    (S_BadPlayer_PlayError : PySem.W.subIn K (.ref C_BadPlayer) (.ref C_PlayError) = some true)
    (S_BadPlayer_BadNumber : PySem.W.subIn K (.ref C_BadPlayer) (.ref C_BadNumber) = some false)
    (S_BadPlayer_BadPiece : PySem.W.subIn K (.ref C_BadPlayer) (.ref C_BadPiece) = some false)
    (S_BadPlayer_BadFrame : PySem.W.subIn K (.ref C_BadPlayer) (.ref C_BadFrame) = some false)
    (S_BadPlayer_BadBook : PySem.W.subIn K (.ref C_BadPlayer) (.ref C_BadBook) = some false)
    (S_BadPlayer_BadProgram : PySem.W.subIn K (.ref C_BadPlayer) (.ref C_BadProgram) = some false)
    (S_BadPlayer_BadPlayer : PySem.W.subIn K (.ref C_BadPlayer) (.ref C_BadPlayer) = some true)
    (S_BadPlayer_BadPaper : PySem.W.subIn K (.ref C_BadPlayer) (.ref C_BadPaper) = some false)
    (S_BadPlayer_Misfit : PySem.W.subIn K (.ref C_BadPlayer) (.ref C_Misfit) = some false)
    (S_BadPlayer_NoWay : PySem.W.subIn K (.ref C_BadPlayer) (.ref C_NoWay) = some false)
    (S_BadPlayer_NoPart : PySem.W.subIn K (.ref C_BadPlayer) (.ref C_NoPart) = some false)
    (S_BadPlayer_TooMany : PySem.W.subIn K (.ref C_BadPlayer) (.ref C_TooMany) = some false)
    (S_BadPlayer_Impossible : PySem.W.subIn K (.ref C_BadPlayer) (.ref C_Impossible) = some false)
    (S_BadPlayer_BadText : PySem.W.subIn K (.ref C_BadPlayer) (.ref C_BadText) = some false)
    (S_BadPaper_PlayError : PySem.W.subIn K (.ref C_BadPaper) (.ref C_PlayError) = some true)
    (S_BadPaper_BadNumber : PySem.W.subIn K (.ref C_BadPaper) (.ref C_BadNumber) = some false)
    (S_BadPaper_BadPiece : PySem.W.subIn K (.ref C_BadPaper) (.ref C_BadPiece) = some false)
    (S_BadPaper_BadFrame : PySem.W.subIn K (.ref C_BadPaper) (.ref C_BadFrame) = some false)
    (S_BadPaper_BadBook : PySem.W.subIn K (.ref C_BadPaper) (.ref C_BadBook) = some false)
    (S_BadPaper_BadProgram : PySem.W.subIn K (.ref C_BadPaper) (.ref C_BadProgram) = some false)
    (S_BadPaper_BadPlayer : PySem.W.subIn K (.ref C_BadPaper) (.ref C_BadPlayer) = some false)
    (S_BadPaper_BadPaper : PySem.W.subIn K (.ref C_BadPaper) (.ref C_BadPaper) = some true)
    (S_BadPaper_Misfit : PySem.W.subIn K (.ref C_BadPaper) (.ref C_Misfit) = some false)
    (S_BadPaper_NoWay : PySem.W.subIn K (.ref C_BadPaper) (.ref C_NoWay) = some false)
    (S_BadPaper_NoPart : PySem.W.subIn K (.ref C_BadPaper) (.ref C_NoPart) = some false)
    (S_BadPaper_TooMany : PySem.W.subIn K (.ref C_BadPaper) (.ref C_TooMany) = some false)
    (S_BadPaper_Impossible : PySem.W.subIn K (.ref C_BadPaper) (.ref C_Impossible) = some false)
    (S_BadPaper_BadText : PySem.W.subIn K (.ref C_BadPaper) (.ref C_BadText) = some false)
    (S_Misfit_PlayError : PySem.W.subIn K (.ref C_Misfit) (.ref C_PlayError) = some true)
    (S_Misfit_BadNumber : PySem.W.subIn K (.ref C_Misfit) (.ref C_BadNumber) = some false)
    (S_Misfit_BadPiece : PySem.W.subIn K (.ref C_Misfit) (.ref C_BadPiece) = some false)
    (S_Misfit_BadFrame : PySem.W.subIn K (.ref C_Misfit) (.ref C_BadFrame) = some false)
    (S_Misfit_BadBook : PySem.W.subIn K (.ref C_Misfit) (.ref C_BadBook) = some false)
    (S_Misfit_BadProgram : PySem.W.subIn K (.ref C_Misfit) (.ref C_BadProgram) = some false)
    (S_Misfit_BadPlayer : PySem.W.subIn K (.ref C_Misfit) (.ref C_BadPlayer) = some false)
    (S_Misfit_BadPaper : PySem.W.subIn K (.ref C_Misfit) (.ref C_BadPaper) = some false)
    (S_Misfit_Misfit : PySem.W.subIn K (.ref C_Misfit) (.ref C_Misfit) = some true)
    (S_Misfit_NoWay : PySem.W.subIn K (.ref C_Misfit) (.ref C_NoWay) = some false)
    (S_Misfit_NoPart : PySem.W.subIn K (.ref C_Misfit) (.ref C_NoPart) = some false)
    (S_Misfit_TooMany : PySem.W.subIn K (.ref C_Misfit) (.ref C_TooMany) = some false)
    (S_Misfit_Impossible : PySem.W.subIn K (.ref C_Misfit) (.ref C_Impossible) = some false)
    (S_Misfit_BadText : PySem.W.subIn K (.ref C_Misfit) (.ref C_BadText) = some false)
    (S_NoWay_PlayError : PySem.W.subIn K (.ref C_NoWay) (.ref C_PlayError) = some true)
    (S_NoWay_BadNumber : PySem.W.subIn K (.ref C_NoWay) (.ref C_BadNumber) = some false)
    (S_NoWay_BadPiece : PySem.W.subIn K (.ref C_NoWay) (.ref C_BadPiece) = some false)
    (S_NoWay_BadFrame : PySem.W.subIn K (.ref C_NoWay) (.ref C_BadFrame) = some false)
    (S_NoWay_BadBook : PySem.W.subIn K (.ref C_NoWay) (.ref C_BadBook) = some false)
    (S_NoWay_BadProgram : PySem.W.subIn K (.ref C_NoWay) (.ref C_BadProgram) = some false)
    (S_NoWay_BadPlayer : PySem.W.subIn K (.ref C_NoWay) (.ref C_BadPlayer) = some false)
    (S_NoWay_BadPaper : PySem.W.subIn K (.ref C_NoWay) (.ref C_BadPaper) = some false)
    (S_NoWay_Misfit : PySem.W.subIn K (.ref C_NoWay) (.ref C_Misfit) = some false)
    (S_NoWay_NoWay : PySem.W.subIn K (.ref C_NoWay) (.ref C_NoWay) = some true)
    (S_NoWay_NoPart : PySem.W.subIn K (.ref C_NoWay) (.ref C_NoPart) = some false)
    (S_NoWay_TooMany : PySem.W.subIn K (.ref C_NoWay) (.ref C_TooMany) = some false)
    (S_NoWay_Impossible : PySem.W.subIn K (.ref C_NoWay) (.ref C_Impossible) = some false)
    (S_NoWay_BadText : PySem.W.subIn K (.ref C_NoWay) (.ref C_BadText) = some false)
    (S_NoPart_PlayError : PySem.W.subIn K (.ref C_NoPart) (.ref C_PlayError) = some true)
    (S_NoPart_BadNumber : PySem.W.subIn K (.ref C_NoPart) (.ref C_BadNumber) = some false)
    (S_NoPart_BadPiece : PySem.W.subIn K (.ref C_NoPart) (.ref C_BadPiece) = some false)
    (S_NoPart_BadFrame : PySem.W.subIn K (.ref C_NoPart) (.ref C_BadFrame) = some false)
    (S_NoPart_BadBook : PySem.W.subIn K (.ref C_NoPart) (.ref C_BadBook) = some false)
    (S_NoPart_BadProgram : PySem.W.subIn K (.ref C_NoPart) (.ref C_BadProgram) = some false)
    (S_NoPart_BadPlayer : PySem.W.subIn K (.ref C_NoPart) (.ref C_BadPlayer) = some false)
    (S_NoPart_BadPaper : PySem.W.subIn K (.ref C_NoPart) (.ref C_BadPaper) = some false)
    (S_NoPart_Misfit : PySem.W.subIn K (.ref C_NoPart) (.ref C_Misfit) = some false)
    (S_NoPart_NoWay : PySem.W.subIn K (.ref C_NoPart) (.ref C_NoWay) = some false)
    (S_NoPart_NoPart : PySem.W.subIn K (.ref C_NoPart) (.ref C_NoPart) = some true)
    (S_NoPart_TooMany : PySem.W.subIn K (.ref C_NoPart) (.ref C_TooMany) = some false)
    (S_NoPart_Impossible : PySem.W.subIn K (.ref C_NoPart) (.ref C_Impossible) = some false)
    (S_NoPart_BadText : PySem.W.subIn K (.ref C_NoPart) (.ref C_BadText) = some false)
    (S_TooMany_PlayError : PySem.W.subIn K (.ref C_TooMany) (.ref C_PlayError) = some true)
    (S_TooMany_BadNumber : PySem.W.subIn K (.ref C_TooMany) (.ref C_BadNumber) = some false)
    (S_TooMany_BadPiece : PySem.W.subIn K (.ref C_TooMany) (.ref C_BadPiece) = some false)
    (S_TooMany_BadFrame : PySem.W.subIn K (.ref C_TooMany) (.ref C_BadFrame) = some false)
    (S_TooMany_BadBook : PySem.W.subIn K (.ref C_TooMany) (.ref C_BadBook) = some false)
    (S_TooMany_BadProgram : PySem.W.subIn K (.ref C_TooMany) (.ref C_BadProgram) = some false)
    (S_TooMany_BadPlayer : PySem.W.subIn K (.ref C_TooMany) (.ref C_BadPlayer) = some false)
    (S_TooMany_BadPaper : PySem.W.subIn K (.ref C_TooMany) (.ref C_BadPaper) = some false)
    (S_TooMany_Misfit : PySem.W.subIn K (.ref C_TooMany) (.ref C_Misfit) = some false)
    (S_TooMany_NoWay : PySem.W.subIn K (.ref C_TooMany) (.ref C_NoWay) = some false)
    (S_TooMany_NoPart : PySem.W.subIn K (.ref C_TooMany) (.ref C_NoPart) = some false)
    (S_TooMany_TooMany : PySem.W.subIn K (.ref C_TooMany) (.ref C_TooMany) = some true)
    (S_TooMany_Impossible : PySem.W.subIn K (.ref C_TooMany) (.ref C_Impossible) = some false)
    (S_TooMany_BadText : PySem.W.subIn K (.ref C_TooMany) (.ref C_BadText) = some false)
    (S_Impossible_PlayError : PySem.W.subIn K (.ref C_Impossible) (.ref C_PlayError) = some true)
    (S_Impossible_BadNumber : PySem.W.subIn K (.ref C_Impossible) (.ref C_BadNumber) = some false)
    (S_Impossible_BadPiece : PySem.W.subIn K (.ref C_Impossible) (.ref C_BadPiece) = some false)
    (S_Impossible_BadFrame : PySem.W.subIn K (.ref C_Impossible) (.ref C_BadFrame) = some false)
    (S_Impossible_BadBook : PySem.W.subIn K (.ref C_Impossible) (.ref C_BadBook) = some false)
    (S_Impossible_BadProgram : PySem.W.subIn K (.ref C_Impossible) (.ref C_BadProgram) = some false)
    (S_Impossible_BadPlayer : PySem.W.subIn K (.ref C_Impossible) (.ref C_BadPlayer) = some false)
    (S_Impossible_BadPaper : PySem.W.subIn K (.ref C_Impossible) (.ref C_BadPaper) = some false)
    (S_Impossible_Misfit : PySem.W.subIn K (.ref C_Impossible) (.ref C_Misfit) = some false)
    (S_Impossible_NoWay : PySem.W.subIn K (.ref C_Impossible) (.ref C_NoWay) = some false)
    (S_Impossible_NoPart : PySem.W.subIn K (.ref C_Impossible) (.ref C_NoPart) = some false)
    (S_Impossible_TooMany : PySem.W.subIn K (.ref C_Impossible) (.ref C_TooMany) = some false)
    (S_Impossible_Impossible : PySem.W.subIn K (.ref C_Impossible) (.ref C_Impossible) = some true)
    (S_Impossible_BadText : PySem.W.subIn K (.ref C_Impossible) (.ref C_BadText) = some false)
    (S_BadText_PlayError : PySem.W.subIn K (.ref C_BadText) (.ref C_PlayError) = some true)
    (S_BadText_BadNumber : PySem.W.subIn K (.ref C_BadText) (.ref C_BadNumber) = some false)
    (S_BadText_BadPiece : PySem.W.subIn K (.ref C_BadText) (.ref C_BadPiece) = some false)
    (S_BadText_BadFrame : PySem.W.subIn K (.ref C_BadText) (.ref C_BadFrame) = some false)
    (S_BadText_BadBook : PySem.W.subIn K (.ref C_BadText) (.ref C_BadBook) = some false)
    (S_BadText_BadProgram : PySem.W.subIn K (.ref C_BadText) (.ref C_BadProgram) = some false)
    (S_BadText_BadPlayer : PySem.W.subIn K (.ref C_BadText) (.ref C_BadPlayer) = some false)
    (S_BadText_BadPaper : PySem.W.subIn K (.ref C_BadText) (.ref C_BadPaper) = some false)
    (S_BadText_Misfit : PySem.W.subIn K (.ref C_BadText) (.ref C_Misfit) = some false)
    (S_BadText_NoWay : PySem.W.subIn K (.ref C_BadText) (.ref C_NoWay) = some false)
    (S_BadText_NoPart : PySem.W.subIn K (.ref C_BadText) (.ref C_NoPart) = some false)
    (S_BadText_TooMany : PySem.W.subIn K (.ref C_BadText) (.ref C_TooMany) = some false)
    (S_BadText_Impossible : PySem.W.subIn K (.ref C_BadText) (.ref C_Impossible) = some false)
    (S_BadText_BadText : PySem.W.subIn K (.ref C_BadText) (.ref C_BadText) = some true)
    (S_PlayError_PlayError : PySem.W.subIn K (.ref C_PlayError) (.ref C_PlayError) = some true)
    (ca_BadNumber : PySem.W.findIn K (.ref C_BadNumber) "__class__" = some (some (.builtin "object.__class__"))) (cm_BadNumber : PySem.W.mroIn K C_BadNumber (.type "object") = some true)
    (ca_BadPiece : PySem.W.findIn K (.ref C_BadPiece) "__class__" = some (some (.builtin "object.__class__"))) (cm_BadPiece : PySem.W.mroIn K C_BadPiece (.type "object") = some true)
    (ca_BadFrame : PySem.W.findIn K (.ref C_BadFrame) "__class__" = some (some (.builtin "object.__class__"))) (cm_BadFrame : PySem.W.mroIn K C_BadFrame (.type "object") = some true)
    (ca_BadBook : PySem.W.findIn K (.ref C_BadBook) "__class__" = some (some (.builtin "object.__class__"))) (cm_BadBook : PySem.W.mroIn K C_BadBook (.type "object") = some true)
    (ca_BadProgram : PySem.W.findIn K (.ref C_BadProgram) "__class__" = some (some (.builtin "object.__class__"))) (cm_BadProgram : PySem.W.mroIn K C_BadProgram (.type "object") = some true)
    (ca_BadPlayer : PySem.W.findIn K (.ref C_BadPlayer) "__class__" = some (some (.builtin "object.__class__"))) (cm_BadPlayer : PySem.W.mroIn K C_BadPlayer (.type "object") = some true)
    (ca_BadPaper : PySem.W.findIn K (.ref C_BadPaper) "__class__" = some (some (.builtin "object.__class__"))) (cm_BadPaper : PySem.W.mroIn K C_BadPaper (.type "object") = some true)
    (ca_Misfit : PySem.W.findIn K (.ref C_Misfit) "__class__" = some (some (.builtin "object.__class__"))) (cm_Misfit : PySem.W.mroIn K C_Misfit (.type "object") = some true)
    (ca_NoWay : PySem.W.findIn K (.ref C_NoWay) "__class__" = some (some (.builtin "object.__class__"))) (cm_NoWay : PySem.W.mroIn K C_NoWay (.type "object") = some true)
    (ca_NoPart : PySem.W.findIn K (.ref C_NoPart) "__class__" = some (some (.builtin "object.__class__"))) (cm_NoPart : PySem.W.mroIn K C_NoPart (.type "object") = some true)
    (ca_TooMany : PySem.W.findIn K (.ref C_TooMany) "__class__" = some (some (.builtin "object.__class__"))) (cm_TooMany : PySem.W.mroIn K C_TooMany (.type "object") = some true)
    (ca_Impossible : PySem.W.findIn K (.ref C_Impossible) "__class__" = some (some (.builtin "object.__class__"))) (cm_Impossible : PySem.W.mroIn K C_Impossible (.type "object") = some true)
    (ca_BadText : PySem.W.findIn K (.ref C_BadText) "__class__" = some (some (.builtin "object.__class__"))) (cm_BadText : PySem.W.mroIn K C_BadText (.type "object") = some true)
    (gN : PySem.W.specialIn K (.builtin "object.__class__") "__get__" = some (some (.builtin "getset_descriptor.__get__"))) (gT : PySem.W.takesIn K (.builtin "object.__class__") = some true)
    (T_BadNumber_ArithmeticError : PySem.W.subIn K (.ref C_BadNumber) (.type "ArithmeticError") = some false)
    (T_BadNumber_LookupError : PySem.W.subIn K (.ref C_BadNumber) (.type "LookupError") = some false)
    (T_BadNumber_RuntimeError : PySem.W.subIn K (.ref C_BadNumber) (.type "RuntimeError") = some false)
    (T_BadNumber_TypeError : PySem.W.subIn K (.ref C_BadNumber) (.type "TypeError") = some false)
    (T_BadNumber_ValueError : PySem.W.subIn K (.ref C_BadNumber) (.type "ValueError") = some true)
    (T_BadPiece_ArithmeticError : PySem.W.subIn K (.ref C_BadPiece) (.type "ArithmeticError") = some false)
    (T_BadPiece_LookupError : PySem.W.subIn K (.ref C_BadPiece) (.type "LookupError") = some false)
    (T_BadPiece_RuntimeError : PySem.W.subIn K (.ref C_BadPiece) (.type "RuntimeError") = some false)
    (T_BadPiece_TypeError : PySem.W.subIn K (.ref C_BadPiece) (.type "TypeError") = some false)
    (T_BadPiece_ValueError : PySem.W.subIn K (.ref C_BadPiece) (.type "ValueError") = some true)
    (T_BadFrame_ArithmeticError : PySem.W.subIn K (.ref C_BadFrame) (.type "ArithmeticError") = some false)
    (T_BadFrame_LookupError : PySem.W.subIn K (.ref C_BadFrame) (.type "LookupError") = some false)
    (T_BadFrame_RuntimeError : PySem.W.subIn K (.ref C_BadFrame) (.type "RuntimeError") = some false)
    (T_BadFrame_TypeError : PySem.W.subIn K (.ref C_BadFrame) (.type "TypeError") = some false)
    (T_BadFrame_ValueError : PySem.W.subIn K (.ref C_BadFrame) (.type "ValueError") = some true)
    (T_BadBook_ArithmeticError : PySem.W.subIn K (.ref C_BadBook) (.type "ArithmeticError") = some false)
    (T_BadBook_LookupError : PySem.W.subIn K (.ref C_BadBook) (.type "LookupError") = some false)
    (T_BadBook_RuntimeError : PySem.W.subIn K (.ref C_BadBook) (.type "RuntimeError") = some false)
    (T_BadBook_TypeError : PySem.W.subIn K (.ref C_BadBook) (.type "TypeError") = some false)
    (T_BadBook_ValueError : PySem.W.subIn K (.ref C_BadBook) (.type "ValueError") = some true)
    (T_BadProgram_ArithmeticError : PySem.W.subIn K (.ref C_BadProgram) (.type "ArithmeticError") = some false)
    (T_BadProgram_LookupError : PySem.W.subIn K (.ref C_BadProgram) (.type "LookupError") = some false)
    (T_BadProgram_RuntimeError : PySem.W.subIn K (.ref C_BadProgram) (.type "RuntimeError") = some false)
    (T_BadProgram_TypeError : PySem.W.subIn K (.ref C_BadProgram) (.type "TypeError") = some false)
    (T_BadProgram_ValueError : PySem.W.subIn K (.ref C_BadProgram) (.type "ValueError") = some true)
    (T_BadPlayer_ArithmeticError : PySem.W.subIn K (.ref C_BadPlayer) (.type "ArithmeticError") = some false)
    (T_BadPlayer_LookupError : PySem.W.subIn K (.ref C_BadPlayer) (.type "LookupError") = some false)
    (T_BadPlayer_RuntimeError : PySem.W.subIn K (.ref C_BadPlayer) (.type "RuntimeError") = some false)
    (T_BadPlayer_TypeError : PySem.W.subIn K (.ref C_BadPlayer) (.type "TypeError") = some false)
    (T_BadPlayer_ValueError : PySem.W.subIn K (.ref C_BadPlayer) (.type "ValueError") = some true)
    (T_BadPaper_ArithmeticError : PySem.W.subIn K (.ref C_BadPaper) (.type "ArithmeticError") = some false)
    (T_BadPaper_LookupError : PySem.W.subIn K (.ref C_BadPaper) (.type "LookupError") = some false)
    (T_BadPaper_RuntimeError : PySem.W.subIn K (.ref C_BadPaper) (.type "RuntimeError") = some false)
    (T_BadPaper_TypeError : PySem.W.subIn K (.ref C_BadPaper) (.type "TypeError") = some false)
    (T_BadPaper_ValueError : PySem.W.subIn K (.ref C_BadPaper) (.type "ValueError") = some true)
    (T_Misfit_ArithmeticError : PySem.W.subIn K (.ref C_Misfit) (.type "ArithmeticError") = some false)
    (T_Misfit_LookupError : PySem.W.subIn K (.ref C_Misfit) (.type "LookupError") = some false)
    (T_Misfit_RuntimeError : PySem.W.subIn K (.ref C_Misfit) (.type "RuntimeError") = some false)
    (T_Misfit_TypeError : PySem.W.subIn K (.ref C_Misfit) (.type "TypeError") = some false)
    (T_Misfit_ValueError : PySem.W.subIn K (.ref C_Misfit) (.type "ValueError") = some true)
    (T_NoWay_ArithmeticError : PySem.W.subIn K (.ref C_NoWay) (.type "ArithmeticError") = some false)
    (T_NoWay_LookupError : PySem.W.subIn K (.ref C_NoWay) (.type "LookupError") = some false)
    (T_NoWay_RuntimeError : PySem.W.subIn K (.ref C_NoWay) (.type "RuntimeError") = some false)
    (T_NoWay_TypeError : PySem.W.subIn K (.ref C_NoWay) (.type "TypeError") = some false)
    (T_NoWay_ValueError : PySem.W.subIn K (.ref C_NoWay) (.type "ValueError") = some true)
    (T_NoPart_ArithmeticError : PySem.W.subIn K (.ref C_NoPart) (.type "ArithmeticError") = some false)
    (T_NoPart_LookupError : PySem.W.subIn K (.ref C_NoPart) (.type "LookupError") = some false)
    (T_NoPart_RuntimeError : PySem.W.subIn K (.ref C_NoPart) (.type "RuntimeError") = some false)
    (T_NoPart_TypeError : PySem.W.subIn K (.ref C_NoPart) (.type "TypeError") = some false)
    (T_NoPart_ValueError : PySem.W.subIn K (.ref C_NoPart) (.type "ValueError") = some true)
    (T_TooMany_ArithmeticError : PySem.W.subIn K (.ref C_TooMany) (.type "ArithmeticError") = some false)
    (T_TooMany_LookupError : PySem.W.subIn K (.ref C_TooMany) (.type "LookupError") = some false)
    (T_TooMany_RuntimeError : PySem.W.subIn K (.ref C_TooMany) (.type "RuntimeError") = some false)
    (T_TooMany_TypeError : PySem.W.subIn K (.ref C_TooMany) (.type "TypeError") = some false)
    (T_TooMany_ValueError : PySem.W.subIn K (.ref C_TooMany) (.type "ValueError") = some true)
    (T_Impossible_ArithmeticError : PySem.W.subIn K (.ref C_Impossible) (.type "ArithmeticError") = some false)
    (T_Impossible_LookupError : PySem.W.subIn K (.ref C_Impossible) (.type "LookupError") = some false)
    (T_Impossible_RuntimeError : PySem.W.subIn K (.ref C_Impossible) (.type "RuntimeError") = some false)
    (T_Impossible_TypeError : PySem.W.subIn K (.ref C_Impossible) (.type "TypeError") = some false)
    (T_Impossible_ValueError : PySem.W.subIn K (.ref C_Impossible) (.type "ValueError") = some true)
    (T_BadText_ArithmeticError : PySem.W.subIn K (.ref C_BadText) (.type "ArithmeticError") = some false)
    (T_BadText_LookupError : PySem.W.subIn K (.ref C_BadText) (.type "LookupError") = some false)
    (T_BadText_RuntimeError : PySem.W.subIn K (.ref C_BadText) (.type "RuntimeError") = some false)
    (T_BadText_TypeError : PySem.W.subIn K (.ref C_BadText) (.type "TypeError") = some false)
    (T_BadText_ValueError : PySem.W.subIn K (.ref C_BadText) (.type "ValueError") = some true)
    (Z_ArithmeticError : PySem.W.nsIn K mainGlobals "ArithmeticError" = some none)
    (Z_LookupError : PySem.W.nsIn K mainGlobals "LookupError" = some none)
    (Z_RuntimeError : PySem.W.nsIn K mainGlobals "RuntimeError" = some none)
    (Z_TypeError : PySem.W.nsIn K mainGlobals "TypeError" = some none)
    (Z_ValueError : PySem.W.nsIn K mainGlobals "ValueError" = some none)
    (Z_abs : PySem.W.nsIn K mainGlobals "abs" = some none)
    (Z_enumerate : PySem.W.nsIn K mainGlobals "enumerate" = some none)
    (Z_int : PySem.W.nsIn K mainGlobals "int" = some none)
    (Z_isinstance : PySem.W.nsIn K mainGlobals "isinstance" = some none)
    (Z_len : PySem.W.nsIn K mainGlobals "len" = some none)
    (Z_range : PySem.W.nsIn K mainGlobals "range" = some none)
    (Z_repr : PySem.W.nsIn K mainGlobals "repr" = some none) :
    ∃ fd : FuncData, (∀ (s : Shared) (u : Value), BindsTo s fd ⟨[u], []⟩ [("script", u)]) ∧ ∀ base : Heap, K.In base → base.Ns mainGlobals mg → FnG l.prog w K mg base 6 fa fd ["script"] (spLawG K) := by
  have B : Blt mg := ⟨PySem.W.mg_none_of X G Z_ArithmeticError, PySem.W.mg_none_of X G Z_LookupError, PySem.W.mg_none_of X G Z_RuntimeError, PySem.W.mg_none_of X G Z_TypeError, PySem.W.mg_none_of X G Z_ValueError, PySem.W.mg_none_of X G Z_abs, PySem.W.mg_none_of X G Z_enumerate, PySem.W.mg_none_of X G Z_int, PySem.W.mg_none_of X G Z_isinstance, PySem.W.mg_none_of X G Z_len, PySem.W.mg_none_of X G Z_range, PySem.W.mg_none_of X G Z_repr⟩
  have H_law_deck := A_law_deck.here X G
  have H_law_deal := A_law_deal.here X G
  have H_law_pick := A_law_pick.here X G
  have H_law_value := A_law_value.here X G
  have H_law_first := A_law_first.here X G
  have H_law_named := A_law_named.here X G
  have H_law_last := A_law_last.here X G
  have H_law_kinds := A_law_kinds.here X G
  have H_law_fields := A_law_fields.here X G
  have H_law_raises := A_law_raises.here X G
  have H_law_right := A_law_right.here X G
  have H_law := A_law.here X G
  have N_PlayError : CNm K "PlayError" C_PlayError := X_PlayError
  have N_BadNumber : CNm K "BadNumber" C_BadNumber := X_BadNumber.1
  have N_BadPiece : CNm K "BadPiece" C_BadPiece := X_BadPiece.1
  have N_BadFrame : CNm K "BadFrame" C_BadFrame := X_BadFrame.1
  have N_BadBook : CNm K "BadBook" C_BadBook := X_BadBook.1
  have N_BadProgram : CNm K "BadProgram" C_BadProgram := X_BadProgram.1
  have N_BadPlayer : CNm K "BadPlayer" C_BadPlayer := X_BadPlayer.1
  have N_BadPaper : CNm K "BadPaper" C_BadPaper := X_BadPaper.1
  have N_Misfit : CNm K "Misfit" C_Misfit := X_Misfit.1
  have N_NoWay : CNm K "NoWay" C_NoWay := X_NoWay.1
  have N_NoPart : CNm K "NoPart" C_NoPart := X_NoPart.1
  have N_TooMany : CNm K "TooMany" C_TooMany := X_TooMany.1
  have N_Impossible : CNm K "Impossible" C_Impossible := X_Impossible.1
  have N_BadText : CNm K "BadText" C_BadText := X_BadText.1
  have M_PlayError : ∃ C, mg "PlayError" = some (.ref C) ∧ CNm K "PlayError" C := ⟨_, PySem.W.mg_of X G N_PlayError, N_PlayError⟩
  have M_BadNumber : ∃ C, mg "BadNumber" = some (.ref C) ∧ CNm K "BadNumber" C := ⟨_, PySem.W.mg_of X G N_BadNumber, N_BadNumber⟩
  have M_BadPiece : ∃ C, mg "BadPiece" = some (.ref C) ∧ CNm K "BadPiece" C := ⟨_, PySem.W.mg_of X G N_BadPiece, N_BadPiece⟩
  have M_BadFrame : ∃ C, mg "BadFrame" = some (.ref C) ∧ CNm K "BadFrame" C := ⟨_, PySem.W.mg_of X G N_BadFrame, N_BadFrame⟩
  have M_BadBook : ∃ C, mg "BadBook" = some (.ref C) ∧ CNm K "BadBook" C := ⟨_, PySem.W.mg_of X G N_BadBook, N_BadBook⟩
  have M_BadProgram : ∃ C, mg "BadProgram" = some (.ref C) ∧ CNm K "BadProgram" C := ⟨_, PySem.W.mg_of X G N_BadProgram, N_BadProgram⟩
  have M_BadPlayer : ∃ C, mg "BadPlayer" = some (.ref C) ∧ CNm K "BadPlayer" C := ⟨_, PySem.W.mg_of X G N_BadPlayer, N_BadPlayer⟩
  have M_BadPaper : ∃ C, mg "BadPaper" = some (.ref C) ∧ CNm K "BadPaper" C := ⟨_, PySem.W.mg_of X G N_BadPaper, N_BadPaper⟩
  have M_Misfit : ∃ C, mg "Misfit" = some (.ref C) ∧ CNm K "Misfit" C := ⟨_, PySem.W.mg_of X G N_Misfit, N_Misfit⟩
  have M_NoWay : ∃ C, mg "NoWay" = some (.ref C) ∧ CNm K "NoWay" C := ⟨_, PySem.W.mg_of X G N_NoWay, N_NoWay⟩
  have M_NoPart : ∃ C, mg "NoPart" = some (.ref C) ∧ CNm K "NoPart" C := ⟨_, PySem.W.mg_of X G N_NoPart, N_NoPart⟩
  have M_TooMany : ∃ C, mg "TooMany" = some (.ref C) ∧ CNm K "TooMany" C := ⟨_, PySem.W.mg_of X G N_TooMany, N_TooMany⟩
  have M_Impossible : ∃ C, mg "Impossible" = some (.ref C) ∧ CNm K "Impossible" C := ⟨_, PySem.W.mg_of X G N_Impossible, N_Impossible⟩
  have M_BadText : ∃ C, mg "BadText" = some (.ref C) ∧ CNm K "BadText" C := ⟨_, PySem.W.mg_of X G N_BadText, N_BadText⟩
  have SA := sa_mk N_PlayError N_BadNumber N_BadPiece N_BadFrame N_BadBook N_BadProgram N_BadPlayer N_BadPaper N_Misfit N_NoWay N_NoPart N_TooMany N_Impossible N_BadText S_BadNumber_PlayError S_BadNumber_BadNumber S_BadNumber_BadPiece S_BadNumber_BadFrame S_BadNumber_BadBook S_BadNumber_BadProgram S_BadNumber_BadPlayer S_BadNumber_BadPaper S_BadNumber_Misfit S_BadNumber_NoWay S_BadNumber_NoPart S_BadNumber_TooMany S_BadNumber_Impossible S_BadNumber_BadText S_BadPiece_PlayError S_BadPiece_BadNumber S_BadPiece_BadPiece S_BadPiece_BadFrame S_BadPiece_BadBook S_BadPiece_BadProgram S_BadPiece_BadPlayer S_BadPiece_BadPaper S_BadPiece_Misfit S_BadPiece_NoWay S_BadPiece_NoPart S_BadPiece_TooMany S_BadPiece_Impossible S_BadPiece_BadText S_BadFrame_PlayError S_BadFrame_BadNumber S_BadFrame_BadPiece S_BadFrame_BadFrame S_BadFrame_BadBook S_BadFrame_BadProgram S_BadFrame_BadPlayer S_BadFrame_BadPaper S_BadFrame_Misfit S_BadFrame_NoWay S_BadFrame_NoPart S_BadFrame_TooMany S_BadFrame_Impossible S_BadFrame_BadText S_BadBook_PlayError S_BadBook_BadNumber S_BadBook_BadPiece S_BadBook_BadFrame S_BadBook_BadBook S_BadBook_BadProgram S_BadBook_BadPlayer S_BadBook_BadPaper S_BadBook_Misfit S_BadBook_NoWay S_BadBook_NoPart S_BadBook_TooMany S_BadBook_Impossible S_BadBook_BadText S_BadProgram_PlayError S_BadProgram_BadNumber S_BadProgram_BadPiece S_BadProgram_BadFrame S_BadProgram_BadBook S_BadProgram_BadProgram S_BadProgram_BadPlayer S_BadProgram_BadPaper S_BadProgram_Misfit S_BadProgram_NoWay S_BadProgram_NoPart S_BadProgram_TooMany S_BadProgram_Impossible S_BadProgram_BadText S_BadPlayer_PlayError S_BadPlayer_BadNumber S_BadPlayer_BadPiece S_BadPlayer_BadFrame S_BadPlayer_BadBook S_BadPlayer_BadProgram S_BadPlayer_BadPlayer S_BadPlayer_BadPaper S_BadPlayer_Misfit S_BadPlayer_NoWay S_BadPlayer_NoPart S_BadPlayer_TooMany S_BadPlayer_Impossible S_BadPlayer_BadText S_BadPaper_PlayError S_BadPaper_BadNumber S_BadPaper_BadPiece S_BadPaper_BadFrame S_BadPaper_BadBook S_BadPaper_BadProgram S_BadPaper_BadPlayer S_BadPaper_BadPaper S_BadPaper_Misfit S_BadPaper_NoWay S_BadPaper_NoPart S_BadPaper_TooMany S_BadPaper_Impossible S_BadPaper_BadText S_Misfit_PlayError S_Misfit_BadNumber S_Misfit_BadPiece S_Misfit_BadFrame S_Misfit_BadBook S_Misfit_BadProgram S_Misfit_BadPlayer S_Misfit_BadPaper S_Misfit_Misfit S_Misfit_NoWay S_Misfit_NoPart S_Misfit_TooMany S_Misfit_Impossible S_Misfit_BadText S_NoWay_PlayError S_NoWay_BadNumber S_NoWay_BadPiece S_NoWay_BadFrame S_NoWay_BadBook S_NoWay_BadProgram S_NoWay_BadPlayer S_NoWay_BadPaper S_NoWay_Misfit S_NoWay_NoWay S_NoWay_NoPart S_NoWay_TooMany S_NoWay_Impossible S_NoWay_BadText S_NoPart_PlayError S_NoPart_BadNumber S_NoPart_BadPiece S_NoPart_BadFrame S_NoPart_BadBook S_NoPart_BadProgram S_NoPart_BadPlayer S_NoPart_BadPaper S_NoPart_Misfit S_NoPart_NoWay S_NoPart_NoPart S_NoPart_TooMany S_NoPart_Impossible S_NoPart_BadText S_TooMany_PlayError S_TooMany_BadNumber S_TooMany_BadPiece S_TooMany_BadFrame S_TooMany_BadBook S_TooMany_BadProgram S_TooMany_BadPlayer S_TooMany_BadPaper S_TooMany_Misfit S_TooMany_NoWay S_TooMany_NoPart S_TooMany_TooMany S_TooMany_Impossible S_TooMany_BadText S_Impossible_PlayError S_Impossible_BadNumber S_Impossible_BadPiece S_Impossible_BadFrame S_Impossible_BadBook S_Impossible_BadProgram S_Impossible_BadPlayer S_Impossible_BadPaper S_Impossible_Misfit S_Impossible_NoWay S_Impossible_NoPart S_Impossible_TooMany S_Impossible_Impossible S_Impossible_BadText S_BadText_PlayError S_BadText_BadNumber S_BadText_BadPiece S_BadText_BadFrame S_BadText_BadBook S_BadText_BadProgram S_BadText_BadPlayer S_BadText_BadPaper S_BadText_Misfit S_BadText_NoWay S_BadText_NoPart S_BadText_TooMany S_BadText_Impossible S_BadText_BadText S_PlayError_PlayError ec_PlayError ic_PlayError tc_PlayError ec_BadNumber ic_BadNumber tc_BadNumber ec_BadPiece ic_BadPiece tc_BadPiece ec_BadFrame ic_BadFrame tc_BadFrame ec_BadBook ic_BadBook tc_BadBook ec_BadProgram ic_BadProgram tc_BadProgram ec_BadPlayer ic_BadPlayer tc_BadPlayer ec_BadPaper ic_BadPaper tc_BadPaper ec_Misfit ic_Misfit tc_Misfit ec_NoWay ic_NoWay tc_NoWay ec_NoPart ic_NoPart tc_NoPart ec_TooMany ic_TooMany tc_TooMany ec_Impossible ic_Impossible tc_Impossible ec_BadText ic_BadText tc_BadText
  have HT : TblOk K mg tbl := fun x y b Cx Cy h hx hy => let r := SA x y b Cx Cy h hx hy
    exm_of r.e r.i r.t r.s
  have EX : ∀ x C, x ∈ lowN → CNm K x C → ExcC K C := by
    intro x C h hx
    simp only [lowN, List.mem_cons, List.not_mem_nil, or_false] at h
    rcases h with rfl | rfl | rfl | rfl | rfl | rfl | rfl | rfl | rfl | rfl | rfl | rfl | rfl
    · obtain rfl := cn_one N_BadNumber hx
      exact exc_c X_BadNumber.2.2.1 ca_BadNumber cm_BadNumber gN gT
    · obtain rfl := cn_one N_BadPiece hx
      exact exc_c X_BadPiece.2.2.1 ca_BadPiece cm_BadPiece gN gT
    · obtain rfl := cn_one N_BadFrame hx
      exact exc_c X_BadFrame.2.2.1 ca_BadFrame cm_BadFrame gN gT
    · obtain rfl := cn_one N_BadBook hx
      exact exc_c X_BadBook.2.2.1 ca_BadBook cm_BadBook gN gT
    · obtain rfl := cn_one N_BadProgram hx
      exact exc_c X_BadProgram.2.2.1 ca_BadProgram cm_BadProgram gN gT
    · obtain rfl := cn_one N_BadPlayer hx
      exact exc_c X_BadPlayer.2.2.1 ca_BadPlayer cm_BadPlayer gN gT
    · obtain rfl := cn_one N_BadPaper hx
      exact exc_c X_BadPaper.2.2.1 ca_BadPaper cm_BadPaper gN gT
    · obtain rfl := cn_one N_Misfit hx
      exact exc_c X_Misfit.2.2.1 ca_Misfit cm_Misfit gN gT
    · obtain rfl := cn_one N_NoWay hx
      exact exc_c X_NoWay.2.2.1 ca_NoWay cm_NoWay gN gT
    · obtain rfl := cn_one N_NoPart hx
      exact exc_c X_NoPart.2.2.1 ca_NoPart cm_NoPart gN gT
    · obtain rfl := cn_one N_TooMany hx
      exact exc_c X_TooMany.2.2.1 ca_TooMany cm_TooMany gN gT
    · obtain rfl := cn_one N_Impossible hx
      exact exc_c X_Impossible.2.2.1 ca_Impossible cm_Impossible gN gT
    · obtain rfl := cn_one N_BadText hx
      exact exc_c X_BadText.2.2.1 ca_BadText cm_BadText gN gT
  have HTab : Tab K tbl tbx fT tyL := by
    refine ⟨fun x y C h hx => ?_, fun x y b C D h hx hy => let r := SA x y b C D h hx hy; kit_mk r.s r.i r.t r.q, fun x y b C hy h hx => ?_, fun x f C h hx => ?_⟩
    · cases e : tbl x y with
      | none => exact absurd e h
      | some b => exact EX x C (low_of e).1 hx
    · have hl : x ∈ lowN := by
        unfold tbx at h
        split at h
        · rename_i z
          simpa using z
        · cases h
      refine ⟨EX x C hl hx, ?_⟩
      simp only [lowN, List.mem_cons, List.not_mem_nil, or_false] at hl
      simp only [tyL, List.mem_cons, List.not_mem_nil, or_false] at hy
      rcases hl with rfl | rfl | rfl | rfl | rfl | rfl | rfl | rfl | rfl | rfl | rfl | rfl | rfl
      · obtain rfl := cn_one N_BadNumber hx
        rcases hy with rfl | rfl | rfl | rfl | rfl
        · obtain rfl : b = false := by
            have z : tbx "BadNumber" "ArithmeticError" = some false := by decide +kernel
            rw [z] at h
            cases h
            rfl
          exact kit_ty' T_BadNumber_ArithmeticError (by decide +kernel)
        · obtain rfl : b = false := by
            have z : tbx "BadNumber" "LookupError" = some false := by decide +kernel
            rw [z] at h
            cases h
            rfl
          exact kit_ty' T_BadNumber_LookupError (by decide +kernel)
        · obtain rfl : b = false := by
            have z : tbx "BadNumber" "RuntimeError" = some false := by decide +kernel
            rw [z] at h
            cases h
            rfl
          exact kit_ty' T_BadNumber_RuntimeError (by decide +kernel)
        · obtain rfl : b = false := by
            have z : tbx "BadNumber" "TypeError" = some false := by decide +kernel
            rw [z] at h
            cases h
            rfl
          exact kit_ty' T_BadNumber_TypeError (by decide +kernel)
        · obtain rfl : b = true := by
            have z : tbx "BadNumber" "ValueError" = some true := by decide +kernel
            rw [z] at h
            cases h
            rfl
          exact kit_ty' T_BadNumber_ValueError (by decide +kernel)
      · obtain rfl := cn_one N_BadPiece hx
        rcases hy with rfl | rfl | rfl | rfl | rfl
        · obtain rfl : b = false := by
            have z : tbx "BadPiece" "ArithmeticError" = some false := by decide +kernel
            rw [z] at h
            cases h
            rfl
          exact kit_ty' T_BadPiece_ArithmeticError (by decide +kernel)
        · obtain rfl : b = false := by
            have z : tbx "BadPiece" "LookupError" = some false := by decide +kernel
            rw [z] at h
            cases h
            rfl
          exact kit_ty' T_BadPiece_LookupError (by decide +kernel)
        · obtain rfl : b = false := by
            have z : tbx "BadPiece" "RuntimeError" = some false := by decide +kernel
            rw [z] at h
            cases h
            rfl
          exact kit_ty' T_BadPiece_RuntimeError (by decide +kernel)
        · obtain rfl : b = false := by
            have z : tbx "BadPiece" "TypeError" = some false := by decide +kernel
            rw [z] at h
            cases h
            rfl
          exact kit_ty' T_BadPiece_TypeError (by decide +kernel)
        · obtain rfl : b = true := by
            have z : tbx "BadPiece" "ValueError" = some true := by decide +kernel
            rw [z] at h
            cases h
            rfl
          exact kit_ty' T_BadPiece_ValueError (by decide +kernel)
      · obtain rfl := cn_one N_BadFrame hx
        rcases hy with rfl | rfl | rfl | rfl | rfl
        · obtain rfl : b = false := by
            have z : tbx "BadFrame" "ArithmeticError" = some false := by decide +kernel
            rw [z] at h
            cases h
            rfl
          exact kit_ty' T_BadFrame_ArithmeticError (by decide +kernel)
        · obtain rfl : b = false := by
            have z : tbx "BadFrame" "LookupError" = some false := by decide +kernel
            rw [z] at h
            cases h
            rfl
          exact kit_ty' T_BadFrame_LookupError (by decide +kernel)
        · obtain rfl : b = false := by
            have z : tbx "BadFrame" "RuntimeError" = some false := by decide +kernel
            rw [z] at h
            cases h
            rfl
          exact kit_ty' T_BadFrame_RuntimeError (by decide +kernel)
        · obtain rfl : b = false := by
            have z : tbx "BadFrame" "TypeError" = some false := by decide +kernel
            rw [z] at h
            cases h
            rfl
          exact kit_ty' T_BadFrame_TypeError (by decide +kernel)
        · obtain rfl : b = true := by
            have z : tbx "BadFrame" "ValueError" = some true := by decide +kernel
            rw [z] at h
            cases h
            rfl
          exact kit_ty' T_BadFrame_ValueError (by decide +kernel)
      · obtain rfl := cn_one N_BadBook hx
        rcases hy with rfl | rfl | rfl | rfl | rfl
        · obtain rfl : b = false := by
            have z : tbx "BadBook" "ArithmeticError" = some false := by decide +kernel
            rw [z] at h
            cases h
            rfl
          exact kit_ty' T_BadBook_ArithmeticError (by decide +kernel)
        · obtain rfl : b = false := by
            have z : tbx "BadBook" "LookupError" = some false := by decide +kernel
            rw [z] at h
            cases h
            rfl
          exact kit_ty' T_BadBook_LookupError (by decide +kernel)
        · obtain rfl : b = false := by
            have z : tbx "BadBook" "RuntimeError" = some false := by decide +kernel
            rw [z] at h
            cases h
            rfl
          exact kit_ty' T_BadBook_RuntimeError (by decide +kernel)
        · obtain rfl : b = false := by
            have z : tbx "BadBook" "TypeError" = some false := by decide +kernel
            rw [z] at h
            cases h
            rfl
          exact kit_ty' T_BadBook_TypeError (by decide +kernel)
        · obtain rfl : b = true := by
            have z : tbx "BadBook" "ValueError" = some true := by decide +kernel
            rw [z] at h
            cases h
            rfl
          exact kit_ty' T_BadBook_ValueError (by decide +kernel)
      · obtain rfl := cn_one N_BadProgram hx
        rcases hy with rfl | rfl | rfl | rfl | rfl
        · obtain rfl : b = false := by
            have z : tbx "BadProgram" "ArithmeticError" = some false := by decide +kernel
            rw [z] at h
            cases h
            rfl
          exact kit_ty' T_BadProgram_ArithmeticError (by decide +kernel)
        · obtain rfl : b = false := by
            have z : tbx "BadProgram" "LookupError" = some false := by decide +kernel
            rw [z] at h
            cases h
            rfl
          exact kit_ty' T_BadProgram_LookupError (by decide +kernel)
        · obtain rfl : b = false := by
            have z : tbx "BadProgram" "RuntimeError" = some false := by decide +kernel
            rw [z] at h
            cases h
            rfl
          exact kit_ty' T_BadProgram_RuntimeError (by decide +kernel)
        · obtain rfl : b = false := by
            have z : tbx "BadProgram" "TypeError" = some false := by decide +kernel
            rw [z] at h
            cases h
            rfl
          exact kit_ty' T_BadProgram_TypeError (by decide +kernel)
        · obtain rfl : b = true := by
            have z : tbx "BadProgram" "ValueError" = some true := by decide +kernel
            rw [z] at h
            cases h
            rfl
          exact kit_ty' T_BadProgram_ValueError (by decide +kernel)
      · obtain rfl := cn_one N_BadPlayer hx
        rcases hy with rfl | rfl | rfl | rfl | rfl
        · obtain rfl : b = false := by
            have z : tbx "BadPlayer" "ArithmeticError" = some false := by decide +kernel
            rw [z] at h
            cases h
            rfl
          exact kit_ty' T_BadPlayer_ArithmeticError (by decide +kernel)
        · obtain rfl : b = false := by
            have z : tbx "BadPlayer" "LookupError" = some false := by decide +kernel
            rw [z] at h
            cases h
            rfl
          exact kit_ty' T_BadPlayer_LookupError (by decide +kernel)
        · obtain rfl : b = false := by
            have z : tbx "BadPlayer" "RuntimeError" = some false := by decide +kernel
            rw [z] at h
            cases h
            rfl
          exact kit_ty' T_BadPlayer_RuntimeError (by decide +kernel)
        · obtain rfl : b = false := by
            have z : tbx "BadPlayer" "TypeError" = some false := by decide +kernel
            rw [z] at h
            cases h
            rfl
          exact kit_ty' T_BadPlayer_TypeError (by decide +kernel)
        · obtain rfl : b = true := by
            have z : tbx "BadPlayer" "ValueError" = some true := by decide +kernel
            rw [z] at h
            cases h
            rfl
          exact kit_ty' T_BadPlayer_ValueError (by decide +kernel)
      · obtain rfl := cn_one N_BadPaper hx
        rcases hy with rfl | rfl | rfl | rfl | rfl
        · obtain rfl : b = false := by
            have z : tbx "BadPaper" "ArithmeticError" = some false := by decide +kernel
            rw [z] at h
            cases h
            rfl
          exact kit_ty' T_BadPaper_ArithmeticError (by decide +kernel)
        · obtain rfl : b = false := by
            have z : tbx "BadPaper" "LookupError" = some false := by decide +kernel
            rw [z] at h
            cases h
            rfl
          exact kit_ty' T_BadPaper_LookupError (by decide +kernel)
        · obtain rfl : b = false := by
            have z : tbx "BadPaper" "RuntimeError" = some false := by decide +kernel
            rw [z] at h
            cases h
            rfl
          exact kit_ty' T_BadPaper_RuntimeError (by decide +kernel)
        · obtain rfl : b = false := by
            have z : tbx "BadPaper" "TypeError" = some false := by decide +kernel
            rw [z] at h
            cases h
            rfl
          exact kit_ty' T_BadPaper_TypeError (by decide +kernel)
        · obtain rfl : b = true := by
            have z : tbx "BadPaper" "ValueError" = some true := by decide +kernel
            rw [z] at h
            cases h
            rfl
          exact kit_ty' T_BadPaper_ValueError (by decide +kernel)
      · obtain rfl := cn_one N_Misfit hx
        rcases hy with rfl | rfl | rfl | rfl | rfl
        · obtain rfl : b = false := by
            have z : tbx "Misfit" "ArithmeticError" = some false := by decide +kernel
            rw [z] at h
            cases h
            rfl
          exact kit_ty' T_Misfit_ArithmeticError (by decide +kernel)
        · obtain rfl : b = false := by
            have z : tbx "Misfit" "LookupError" = some false := by decide +kernel
            rw [z] at h
            cases h
            rfl
          exact kit_ty' T_Misfit_LookupError (by decide +kernel)
        · obtain rfl : b = false := by
            have z : tbx "Misfit" "RuntimeError" = some false := by decide +kernel
            rw [z] at h
            cases h
            rfl
          exact kit_ty' T_Misfit_RuntimeError (by decide +kernel)
        · obtain rfl : b = false := by
            have z : tbx "Misfit" "TypeError" = some false := by decide +kernel
            rw [z] at h
            cases h
            rfl
          exact kit_ty' T_Misfit_TypeError (by decide +kernel)
        · obtain rfl : b = true := by
            have z : tbx "Misfit" "ValueError" = some true := by decide +kernel
            rw [z] at h
            cases h
            rfl
          exact kit_ty' T_Misfit_ValueError (by decide +kernel)
      · obtain rfl := cn_one N_NoWay hx
        rcases hy with rfl | rfl | rfl | rfl | rfl
        · obtain rfl : b = false := by
            have z : tbx "NoWay" "ArithmeticError" = some false := by decide +kernel
            rw [z] at h
            cases h
            rfl
          exact kit_ty' T_NoWay_ArithmeticError (by decide +kernel)
        · obtain rfl : b = false := by
            have z : tbx "NoWay" "LookupError" = some false := by decide +kernel
            rw [z] at h
            cases h
            rfl
          exact kit_ty' T_NoWay_LookupError (by decide +kernel)
        · obtain rfl : b = false := by
            have z : tbx "NoWay" "RuntimeError" = some false := by decide +kernel
            rw [z] at h
            cases h
            rfl
          exact kit_ty' T_NoWay_RuntimeError (by decide +kernel)
        · obtain rfl : b = false := by
            have z : tbx "NoWay" "TypeError" = some false := by decide +kernel
            rw [z] at h
            cases h
            rfl
          exact kit_ty' T_NoWay_TypeError (by decide +kernel)
        · obtain rfl : b = true := by
            have z : tbx "NoWay" "ValueError" = some true := by decide +kernel
            rw [z] at h
            cases h
            rfl
          exact kit_ty' T_NoWay_ValueError (by decide +kernel)
      · obtain rfl := cn_one N_NoPart hx
        rcases hy with rfl | rfl | rfl | rfl | rfl
        · obtain rfl : b = false := by
            have z : tbx "NoPart" "ArithmeticError" = some false := by decide +kernel
            rw [z] at h
            cases h
            rfl
          exact kit_ty' T_NoPart_ArithmeticError (by decide +kernel)
        · obtain rfl : b = false := by
            have z : tbx "NoPart" "LookupError" = some false := by decide +kernel
            rw [z] at h
            cases h
            rfl
          exact kit_ty' T_NoPart_LookupError (by decide +kernel)
        · obtain rfl : b = false := by
            have z : tbx "NoPart" "RuntimeError" = some false := by decide +kernel
            rw [z] at h
            cases h
            rfl
          exact kit_ty' T_NoPart_RuntimeError (by decide +kernel)
        · obtain rfl : b = false := by
            have z : tbx "NoPart" "TypeError" = some false := by decide +kernel
            rw [z] at h
            cases h
            rfl
          exact kit_ty' T_NoPart_TypeError (by decide +kernel)
        · obtain rfl : b = true := by
            have z : tbx "NoPart" "ValueError" = some true := by decide +kernel
            rw [z] at h
            cases h
            rfl
          exact kit_ty' T_NoPart_ValueError (by decide +kernel)
      · obtain rfl := cn_one N_TooMany hx
        rcases hy with rfl | rfl | rfl | rfl | rfl
        · obtain rfl : b = false := by
            have z : tbx "TooMany" "ArithmeticError" = some false := by decide +kernel
            rw [z] at h
            cases h
            rfl
          exact kit_ty' T_TooMany_ArithmeticError (by decide +kernel)
        · obtain rfl : b = false := by
            have z : tbx "TooMany" "LookupError" = some false := by decide +kernel
            rw [z] at h
            cases h
            rfl
          exact kit_ty' T_TooMany_LookupError (by decide +kernel)
        · obtain rfl : b = false := by
            have z : tbx "TooMany" "RuntimeError" = some false := by decide +kernel
            rw [z] at h
            cases h
            rfl
          exact kit_ty' T_TooMany_RuntimeError (by decide +kernel)
        · obtain rfl : b = false := by
            have z : tbx "TooMany" "TypeError" = some false := by decide +kernel
            rw [z] at h
            cases h
            rfl
          exact kit_ty' T_TooMany_TypeError (by decide +kernel)
        · obtain rfl : b = true := by
            have z : tbx "TooMany" "ValueError" = some true := by decide +kernel
            rw [z] at h
            cases h
            rfl
          exact kit_ty' T_TooMany_ValueError (by decide +kernel)
      · obtain rfl := cn_one N_Impossible hx
        rcases hy with rfl | rfl | rfl | rfl | rfl
        · obtain rfl : b = false := by
            have z : tbx "Impossible" "ArithmeticError" = some false := by decide +kernel
            rw [z] at h
            cases h
            rfl
          exact kit_ty' T_Impossible_ArithmeticError (by decide +kernel)
        · obtain rfl : b = false := by
            have z : tbx "Impossible" "LookupError" = some false := by decide +kernel
            rw [z] at h
            cases h
            rfl
          exact kit_ty' T_Impossible_LookupError (by decide +kernel)
        · obtain rfl : b = false := by
            have z : tbx "Impossible" "RuntimeError" = some false := by decide +kernel
            rw [z] at h
            cases h
            rfl
          exact kit_ty' T_Impossible_RuntimeError (by decide +kernel)
        · obtain rfl : b = false := by
            have z : tbx "Impossible" "TypeError" = some false := by decide +kernel
            rw [z] at h
            cases h
            rfl
          exact kit_ty' T_Impossible_TypeError (by decide +kernel)
        · obtain rfl : b = true := by
            have z : tbx "Impossible" "ValueError" = some true := by decide +kernel
            rw [z] at h
            cases h
            rfl
          exact kit_ty' T_Impossible_ValueError (by decide +kernel)
      · obtain rfl := cn_one N_BadText hx
        rcases hy with rfl | rfl | rfl | rfl | rfl
        · obtain rfl : b = false := by
            have z : tbx "BadText" "ArithmeticError" = some false := by decide +kernel
            rw [z] at h
            cases h
            rfl
          exact kit_ty' T_BadText_ArithmeticError (by decide +kernel)
        · obtain rfl : b = false := by
            have z : tbx "BadText" "LookupError" = some false := by decide +kernel
            rw [z] at h
            cases h
            rfl
          exact kit_ty' T_BadText_LookupError (by decide +kernel)
        · obtain rfl : b = false := by
            have z : tbx "BadText" "RuntimeError" = some false := by decide +kernel
            rw [z] at h
            cases h
            rfl
          exact kit_ty' T_BadText_RuntimeError (by decide +kernel)
        · obtain rfl : b = false := by
            have z : tbx "BadText" "TypeError" = some false := by decide +kernel
            rw [z] at h
            cases h
            rfl
          exact kit_ty' T_BadText_TypeError (by decide +kernel)
        · obtain rfl : b = true := by
            have z : tbx "BadText" "ValueError" = some true := by decide +kernel
            rw [z] at h
            cases h
            rfl
          exact kit_ty' T_BadText_ValueError (by decide +kernel)
    · obtain ⟨e, he, h2⟩ := List.any_eq_true.mp h
      simp only [Bool.and_eq_true, decide_eq_true_eq] at h2
      simp only [fldN, List.mem_cons, List.not_mem_nil, or_false] at he
      rcases he with rfl | rfl | rfl | rfl | rfl | rfl | rfl | rfl | rfl | rfl | rfl | rfl | rfl
      · obtain ⟨rfl, h3⟩ := h2
        obtain rfl := cn_one N_BadNumber hx
        exact ⟨X_BadNumber.2.2.1, X_BadNumber.2.2.2.1 _ (by simpa using h3)⟩
      · obtain ⟨rfl, h3⟩ := h2
        obtain rfl := cn_one N_BadPiece hx
        exact ⟨X_BadPiece.2.2.1, X_BadPiece.2.2.2.1 _ (by simpa using h3)⟩
      · obtain ⟨rfl, h3⟩ := h2
        obtain rfl := cn_one N_BadFrame hx
        exact ⟨X_BadFrame.2.2.1, X_BadFrame.2.2.2.1 _ (by simpa using h3)⟩
      · obtain ⟨rfl, h3⟩ := h2
        obtain rfl := cn_one N_BadBook hx
        exact ⟨X_BadBook.2.2.1, X_BadBook.2.2.2.1 _ (by simpa using h3)⟩
      · obtain ⟨rfl, h3⟩ := h2
        obtain rfl := cn_one N_BadProgram hx
        exact ⟨X_BadProgram.2.2.1, X_BadProgram.2.2.2.1 _ (by simpa using h3)⟩
      · obtain ⟨rfl, h3⟩ := h2
        obtain rfl := cn_one N_BadPlayer hx
        exact ⟨X_BadPlayer.2.2.1, X_BadPlayer.2.2.2.1 _ (by simpa using h3)⟩
      · obtain ⟨rfl, h3⟩ := h2
        obtain rfl := cn_one N_BadPaper hx
        exact ⟨X_BadPaper.2.2.1, X_BadPaper.2.2.2.1 _ (by simpa using h3)⟩
      · obtain ⟨rfl, h3⟩ := h2
        obtain rfl := cn_one N_Misfit hx
        exact ⟨X_Misfit.2.2.1, X_Misfit.2.2.2.1 _ (by simpa using h3)⟩
      · obtain ⟨rfl, h3⟩ := h2
        obtain rfl := cn_one N_NoWay hx
        exact ⟨X_NoWay.2.2.1, X_NoWay.2.2.2.1 _ (by simpa using h3)⟩
      · obtain ⟨rfl, h3⟩ := h2
        obtain rfl := cn_one N_NoPart hx
        exact ⟨X_NoPart.2.2.1, X_NoPart.2.2.2.1 _ (by simpa using h3)⟩
      · obtain ⟨rfl, h3⟩ := h2
        obtain rfl := cn_one N_TooMany hx
        exact ⟨X_TooMany.2.2.1, X_TooMany.2.2.2.1 _ (by simpa using h3)⟩
      · obtain ⟨rfl, h3⟩ := h2
        obtain rfl := cn_one N_Impossible hx
        exact ⟨X_Impossible.2.2.1, X_Impossible.2.2.2.1 _ (by simpa using h3)⟩
      · obtain ⟨rfl, h3⟩ := h2
        obtain rfl := cn_one N_BadText hx
        exact ⟨X_BadText.2.2.1, X_BadText.2.2.2.1 _ (by simpa using h3)⟩
  obtain ⟨f, fd, Fn, hm⟩ := H_law
  obtain rfl : f = fa := by
    rw [hfa] at hm
    cases hm
    rfl
  refine ⟨fd, ?_, fun base _ _ => ?_⟩
  · obtain ⟨oc, od, kV, dc, pm, an, cd, ct, osl, rfl, _, _⟩ := Fn.ex
    exact fun s u => .of_eq rfl
  have E_BadNumber := e_BadNumber (P := l.prog) (w := w) (base := base) X G X_BadNumber
  have E_BadPiece := e_BadPiece (P := l.prog) (w := w) (base := base) X G X_BadPiece
  have E_BadFrame := e_BadFrame (P := l.prog) (w := w) (base := base) X G X_BadFrame
  have E_BadBook := e_BadBook (P := l.prog) (w := w) (base := base) X G X_BadBook
  have E_BadProgram := e_BadProgram (P := l.prog) (w := w) (base := base) X G X_BadProgram
  have E_BadPlayer := e_BadPlayer (P := l.prog) (w := w) (base := base) X G X_BadPlayer
  have E_BadPaper := e_BadPaper (P := l.prog) (w := w) (base := base) X G X_BadPaper
  have E_Misfit := e_Misfit (P := l.prog) (w := w) (base := base) X G X_Misfit
  have E_NoWay := e_NoWay (P := l.prog) (w := w) (base := base) X G X_NoWay
  have E_NoPart := e_NoPart (P := l.prog) (w := w) (base := base) X G X_NoPart
  have E_TooMany := e_TooMany (P := l.prog) (w := w) (base := base) X G X_TooMany
  have E_Impossible := e_Impossible (P := l.prog) (w := w) (base := base) X G X_Impossible
  have E_BadText := e_BadText (P := l.prog) (w := w) (base := base) X G X_BadText
  have W_law_deal := w_law_deal (P := l.prog) (w := w) (base := base) B H_law_deal 
  have W_law_pick := w_law_pick (P := l.prog) (w := w) (base := base) B H_law_pick W_law_deal
  have W_law_value := w_law_value (P := l.prog) (w := w) (base := base) B H_law_value W_law_pick
  have W_law_first := w_law_first (P := l.prog) (w := w) (base := base) B H_law_first E_BadBook E_BadFrame E_BadNumber E_BadPaper E_BadPiece E_BadPlayer E_BadProgram E_Impossible E_Misfit E_NoPart E_NoWay
  have W_law_named := w_law_named (P := l.prog) (w := w) (base := base) B H_law_named E_BadBook E_BadFrame E_BadNumber E_BadPaper E_BadPiece E_BadPlayer E_BadProgram E_Impossible E_Misfit E_NoPart E_NoWay
  have W_law_last := w_law_last (P := l.prog) (w := w) (base := base) B H_law_last E_BadText E_TooMany
  have W_law_kinds := w_law_kinds (P := l.prog) (w := w) (base := base) B H_law_kinds M_BadBook M_BadFrame M_BadNumber M_BadPaper M_BadPiece M_BadPlayer M_BadProgram M_BadText M_Impossible M_Misfit M_NoPart M_NoWay M_TooMany HTab
  have W_law_fields := w_law_fields (P := l.prog) (w := w) (base := base) B H_law_fields HTab
  have W_law_raises := w_law_raises (P := l.prog) (w := w) (base := base) B H_law_raises W_law_first W_law_named W_law_last
  have W_law_right := w_law_right (P := l.prog) (w := w) (base := base) B H_law_right M_PlayError HT HTab W_law_kinds W_law_fields W_law_raises
  have Wd := w_law_deck (P := l.prog) (w := w) (base := base) B H_law_deck
  obtain ⟨f', fd', Gn, Fn', hm'⟩ := w_law (P := l.prog) (w := w) (base := base) B ⟨f, fd, Fn, hm⟩ Wd  W_law_value W_law_right (fun cells _ => law_true cells)
  obtain rfl : f' = f := by
    rw [hm] at hm'
    cases hm'
    rfl
  obtain rfl : fd' = fd := fun_one Fn' Fn
  exact Gn
end K00
open PySem PySem.W PyProof.Rows in
set_option maxRecDepth 100000 in
set_option maxHeartbeats 0 in
theorem PySem.Challenge.cw_planless_k00_errors_and_their_fields_holds : PySem.Challenge.rw_planless_k00_errors_and_their_fields.Holds := by
  w_on; o_law; k_head; (case hw => w_witness2)
  k_fill
  refine FL.walkG (l := PySem.Challenge.rw_planless_k00_errors_and_their_fields) (k := 6) (x := "script") rfl rfl ⟨rfl, by decide, by decide⟩ (fun w h Y => PySem.W.kIn_of Y) ?F
  case F =>
    intro w mg fa h KX G hmg
    refine' K00.all_mk KX G hmg ?A_law_deck ?A_law_deal ?A_law_pick ?A_law_value ?A_law_first ?A_law_named ?A_law_last ?A_law_kinds ?A_law_fields ?A_law_raises ?A_law_right ?A_law ?X_PlayError ?X_BadNumber ?X_BadPiece ?X_BadFrame ?X_BadBook ?X_BadProgram ?X_BadPlayer ?X_BadPaper ?X_Misfit ?X_NoWay ?X_NoPart ?X_TooMany ?X_Impossible ?X_BadText ?ec_PlayError ?ic_PlayError ?tc_PlayError ?ec_BadNumber ?ic_BadNumber ?tc_BadNumber ?ec_BadPiece ?ic_BadPiece ?tc_BadPiece ?ec_BadFrame ?ic_BadFrame ?tc_BadFrame ?ec_BadBook ?ic_BadBook ?tc_BadBook ?ec_BadProgram ?ic_BadProgram ?tc_BadProgram ?ec_BadPlayer ?ic_BadPlayer ?tc_BadPlayer ?ec_BadPaper ?ic_BadPaper ?tc_BadPaper ?ec_Misfit ?ic_Misfit ?tc_Misfit ?ec_NoWay ?ic_NoWay ?tc_NoWay ?ec_NoPart ?ic_NoPart ?tc_NoPart ?ec_TooMany ?ic_TooMany ?tc_TooMany ?ec_Impossible ?ic_Impossible ?tc_Impossible ?ec_BadText ?ic_BadText ?tc_BadText ?S_BadNumber_PlayError ?S_BadNumber_BadNumber ?S_BadNumber_BadPiece ?S_BadNumber_BadFrame ?S_BadNumber_BadBook ?S_BadNumber_BadProgram ?S_BadNumber_BadPlayer ?S_BadNumber_BadPaper ?S_BadNumber_Misfit ?S_BadNumber_NoWay ?S_BadNumber_NoPart ?S_BadNumber_TooMany ?S_BadNumber_Impossible ?S_BadNumber_BadText ?S_BadPiece_PlayError ?S_BadPiece_BadNumber ?S_BadPiece_BadPiece ?S_BadPiece_BadFrame ?S_BadPiece_BadBook ?S_BadPiece_BadProgram ?S_BadPiece_BadPlayer ?S_BadPiece_BadPaper ?S_BadPiece_Misfit ?S_BadPiece_NoWay ?S_BadPiece_NoPart ?S_BadPiece_TooMany ?S_BadPiece_Impossible ?S_BadPiece_BadText ?S_BadFrame_PlayError ?S_BadFrame_BadNumber ?S_BadFrame_BadPiece ?S_BadFrame_BadFrame ?S_BadFrame_BadBook ?S_BadFrame_BadProgram ?S_BadFrame_BadPlayer ?S_BadFrame_BadPaper ?S_BadFrame_Misfit ?S_BadFrame_NoWay ?S_BadFrame_NoPart ?S_BadFrame_TooMany ?S_BadFrame_Impossible ?S_BadFrame_BadText ?S_BadBook_PlayError ?S_BadBook_BadNumber ?S_BadBook_BadPiece ?S_BadBook_BadFrame ?S_BadBook_BadBook ?S_BadBook_BadProgram ?S_BadBook_BadPlayer ?S_BadBook_BadPaper ?S_BadBook_Misfit ?S_BadBook_NoWay ?S_BadBook_NoPart ?S_BadBook_TooMany ?S_BadBook_Impossible ?S_BadBook_BadText ?S_BadProgram_PlayError ?S_BadProgram_BadNumber ?S_BadProgram_BadPiece ?S_BadProgram_BadFrame ?S_BadProgram_BadBook ?S_BadProgram_BadProgram ?S_BadProgram_BadPlayer ?S_BadProgram_BadPaper ?S_BadProgram_Misfit ?S_BadProgram_NoWay ?S_BadProgram_NoPart ?S_BadProgram_TooMany ?S_BadProgram_Impossible ?S_BadProgram_BadText ?S_BadPlayer_PlayError ?S_BadPlayer_BadNumber ?S_BadPlayer_BadPiece ?S_BadPlayer_BadFrame ?S_BadPlayer_BadBook ?S_BadPlayer_BadProgram ?S_BadPlayer_BadPlayer ?S_BadPlayer_BadPaper ?S_BadPlayer_Misfit ?S_BadPlayer_NoWay ?S_BadPlayer_NoPart ?S_BadPlayer_TooMany ?S_BadPlayer_Impossible ?S_BadPlayer_BadText ?S_BadPaper_PlayError ?S_BadPaper_BadNumber ?S_BadPaper_BadPiece ?S_BadPaper_BadFrame ?S_BadPaper_BadBook ?S_BadPaper_BadProgram ?S_BadPaper_BadPlayer ?S_BadPaper_BadPaper ?S_BadPaper_Misfit ?S_BadPaper_NoWay ?S_BadPaper_NoPart ?S_BadPaper_TooMany ?S_BadPaper_Impossible ?S_BadPaper_BadText ?S_Misfit_PlayError ?S_Misfit_BadNumber ?S_Misfit_BadPiece ?S_Misfit_BadFrame ?S_Misfit_BadBook ?S_Misfit_BadProgram ?S_Misfit_BadPlayer ?S_Misfit_BadPaper ?S_Misfit_Misfit ?S_Misfit_NoWay ?S_Misfit_NoPart ?S_Misfit_TooMany ?S_Misfit_Impossible ?S_Misfit_BadText ?S_NoWay_PlayError ?S_NoWay_BadNumber ?S_NoWay_BadPiece ?S_NoWay_BadFrame ?S_NoWay_BadBook ?S_NoWay_BadProgram ?S_NoWay_BadPlayer ?S_NoWay_BadPaper ?S_NoWay_Misfit ?S_NoWay_NoWay ?S_NoWay_NoPart ?S_NoWay_TooMany ?S_NoWay_Impossible ?S_NoWay_BadText ?S_NoPart_PlayError ?S_NoPart_BadNumber ?S_NoPart_BadPiece ?S_NoPart_BadFrame ?S_NoPart_BadBook ?S_NoPart_BadProgram ?S_NoPart_BadPlayer ?S_NoPart_BadPaper ?S_NoPart_Misfit ?S_NoPart_NoWay ?S_NoPart_NoPart ?S_NoPart_TooMany ?S_NoPart_Impossible ?S_NoPart_BadText ?S_TooMany_PlayError ?S_TooMany_BadNumber ?S_TooMany_BadPiece ?S_TooMany_BadFrame ?S_TooMany_BadBook ?S_TooMany_BadProgram ?S_TooMany_BadPlayer ?S_TooMany_BadPaper ?S_TooMany_Misfit ?S_TooMany_NoWay ?S_TooMany_NoPart ?S_TooMany_TooMany ?S_TooMany_Impossible ?S_TooMany_BadText ?S_Impossible_PlayError ?S_Impossible_BadNumber ?S_Impossible_BadPiece ?S_Impossible_BadFrame ?S_Impossible_BadBook ?S_Impossible_BadProgram ?S_Impossible_BadPlayer ?S_Impossible_BadPaper ?S_Impossible_Misfit ?S_Impossible_NoWay ?S_Impossible_NoPart ?S_Impossible_TooMany ?S_Impossible_Impossible ?S_Impossible_BadText ?S_BadText_PlayError ?S_BadText_BadNumber ?S_BadText_BadPiece ?S_BadText_BadFrame ?S_BadText_BadBook ?S_BadText_BadProgram ?S_BadText_BadPlayer ?S_BadText_BadPaper ?S_BadText_Misfit ?S_BadText_NoWay ?S_BadText_NoPart ?S_BadText_TooMany ?S_BadText_Impossible ?S_BadText_BadText ?S_PlayError_PlayError ?ca_BadNumber ?cm_BadNumber ?ca_BadPiece ?cm_BadPiece ?ca_BadFrame ?cm_BadFrame ?ca_BadBook ?cm_BadBook ?ca_BadProgram ?cm_BadProgram ?ca_BadPlayer ?cm_BadPlayer ?ca_BadPaper ?cm_BadPaper ?ca_Misfit ?cm_Misfit ?ca_NoWay ?cm_NoWay ?ca_NoPart ?cm_NoPart ?ca_TooMany ?cm_TooMany ?ca_Impossible ?cm_Impossible ?ca_BadText ?cm_BadText ?gN ?gT ?T_BadNumber_ArithmeticError ?T_BadNumber_LookupError ?T_BadNumber_RuntimeError ?T_BadNumber_TypeError ?T_BadNumber_ValueError ?T_BadPiece_ArithmeticError ?T_BadPiece_LookupError ?T_BadPiece_RuntimeError ?T_BadPiece_TypeError ?T_BadPiece_ValueError ?T_BadFrame_ArithmeticError ?T_BadFrame_LookupError ?T_BadFrame_RuntimeError ?T_BadFrame_TypeError ?T_BadFrame_ValueError ?T_BadBook_ArithmeticError ?T_BadBook_LookupError ?T_BadBook_RuntimeError ?T_BadBook_TypeError ?T_BadBook_ValueError ?T_BadProgram_ArithmeticError ?T_BadProgram_LookupError ?T_BadProgram_RuntimeError ?T_BadProgram_TypeError ?T_BadProgram_ValueError ?T_BadPlayer_ArithmeticError ?T_BadPlayer_LookupError ?T_BadPlayer_RuntimeError ?T_BadPlayer_TypeError ?T_BadPlayer_ValueError ?T_BadPaper_ArithmeticError ?T_BadPaper_LookupError ?T_BadPaper_RuntimeError ?T_BadPaper_TypeError ?T_BadPaper_ValueError ?T_Misfit_ArithmeticError ?T_Misfit_LookupError ?T_Misfit_RuntimeError ?T_Misfit_TypeError ?T_Misfit_ValueError ?T_NoWay_ArithmeticError ?T_NoWay_LookupError ?T_NoWay_RuntimeError ?T_NoWay_TypeError ?T_NoWay_ValueError ?T_NoPart_ArithmeticError ?T_NoPart_LookupError ?T_NoPart_RuntimeError ?T_NoPart_TypeError ?T_NoPart_ValueError ?T_TooMany_ArithmeticError ?T_TooMany_LookupError ?T_TooMany_RuntimeError ?T_TooMany_TypeError ?T_TooMany_ValueError ?T_Impossible_ArithmeticError ?T_Impossible_LookupError ?T_Impossible_RuntimeError ?T_Impossible_TypeError ?T_Impossible_ValueError ?T_BadText_ArithmeticError ?T_BadText_LookupError ?T_BadText_RuntimeError ?T_BadText_TypeError ?T_BadText_ValueError ?Z_ArithmeticError ?Z_LookupError ?Z_RuntimeError ?Z_TypeError ?Z_ValueError ?Z_abs ?Z_enumerate ?Z_int ?Z_isinstance ?Z_len ?Z_range ?Z_repr
    (case A_law_deck => (refine' FL.At.mk ?a ?l ?c ?k; (case a => k_is); (case l => k_is); (case c => k_is); (case k => k_is)))
    (case A_law_deal => (refine' FL.At.mk ?a ?l ?c ?k; (case a => k_is); (case l => k_is); (case c => k_is); (case k => k_is)))
    (case A_law_pick => (refine' FL.At.mk ?a ?l ?c ?k; (case a => k_is); (case l => k_is); (case c => k_is); (case k => k_is)))
    (case A_law_value => (refine' FL.At.mk ?a ?l ?c ?k; (case a => k_is); (case l => k_is); (case c => k_is); (case k => k_is)))
    (case A_law_first => (refine' FL.At.mk ?a ?l ?c ?k; (case a => k_is); (case l => k_is); (case c => k_is); (case k => k_is)))
    (case A_law_named => (refine' FL.At.mk ?a ?l ?c ?k; (case a => k_is); (case l => k_is); (case c => k_is); (case k => k_is)))
    (case A_law_last => (refine' FL.At.mk ?a ?l ?c ?k; (case a => k_is); (case l => k_is); (case c => k_is); (case k => k_is)))
    (case A_law_kinds => (refine' FL.At.mk ?a ?l ?c ?k; (case a => k_is); (case l => k_is); (case c => k_is); (case k => k_is)))
    (case A_law_fields => (refine' FL.At.mk ?a ?l ?c ?k; (case a => k_is); (case l => k_is); (case c => k_is); (case k => k_is)))
    (case A_law_raises => (refine' FL.At.mk ?a ?l ?c ?k; (case a => k_is); (case l => k_is); (case c => k_is); (case k => k_is)))
    (case A_law_right => (refine' FL.At.mk ?a ?l ?c ?k; (case a => k_is); (case l => k_is); (case c => k_is); (case k => k_is)))
    (case A_law => (refine' FL.At.mk ?a ?l ?c ?k; (case a => k_is); (case l => k_is); (case c => k_is); (case k => k_is)))
    (case X_PlayError => k_is)
    (case X_BadNumber => (refine' FL.XAt.mk1 ?aC ?xL ?hb ?sa ?ga ?gg ?n1 ?i1 ?t1 ?l1 ?c1 ?kf ?kC ?eC ?tC ?hC; (case aC => k_is); (case xL => k_is); (case hb => decide +kernel); (case sa => k_is); (case ga => k_is); (case gg => k_is); (case n1 => k_is); (case i1 => k_is); (case t1 => k_is); (case l1 => k_is); (case c1 => k_is); (case kf => k_is); (case kC => k_is); (case eC => k_is); (case tC => k_is); (case hC => k_is)))
    (case X_BadPiece => (refine' FL.XAt.mk1 ?aC ?xL ?hb ?sa ?ga ?gg ?n1 ?i1 ?t1 ?l1 ?c1 ?kf ?kC ?eC ?tC ?hC; (case aC => k_is); (case xL => k_is); (case hb => decide +kernel); (case sa => k_is); (case ga => k_is); (case gg => k_is); (case n1 => k_is); (case i1 => k_is); (case t1 => k_is); (case l1 => k_is); (case c1 => k_is); (case kf => k_is); (case kC => k_is); (case eC => k_is); (case tC => k_is); (case hC => k_is)))
    (case X_BadFrame => (refine' FL.XAt.mk1 ?aC ?xL ?hb ?sa ?ga ?gg ?n1 ?i1 ?t1 ?l1 ?c1 ?kf ?kC ?eC ?tC ?hC; (case aC => k_is); (case xL => k_is); (case hb => decide +kernel); (case sa => k_is); (case ga => k_is); (case gg => k_is); (case n1 => k_is); (case i1 => k_is); (case t1 => k_is); (case l1 => k_is); (case c1 => k_is); (case kf => k_is); (case kC => k_is); (case eC => k_is); (case tC => k_is); (case hC => k_is)))
    (case X_BadBook => (refine' FL.XAt.mk1 ?aC ?xL ?hb ?sa ?ga ?gg ?n1 ?i1 ?t1 ?l1 ?c1 ?kf ?kC ?eC ?tC ?hC; (case aC => k_is); (case xL => k_is); (case hb => decide +kernel); (case sa => k_is); (case ga => k_is); (case gg => k_is); (case n1 => k_is); (case i1 => k_is); (case t1 => k_is); (case l1 => k_is); (case c1 => k_is); (case kf => k_is); (case kC => k_is); (case eC => k_is); (case tC => k_is); (case hC => k_is)))
    (case X_BadProgram => (refine' FL.XAt.mk1 ?aC ?xL ?hb ?sa ?ga ?gg ?n1 ?i1 ?t1 ?l1 ?c1 ?kf ?kC ?eC ?tC ?hC; (case aC => k_is); (case xL => k_is); (case hb => decide +kernel); (case sa => k_is); (case ga => k_is); (case gg => k_is); (case n1 => k_is); (case i1 => k_is); (case t1 => k_is); (case l1 => k_is); (case c1 => k_is); (case kf => k_is); (case kC => k_is); (case eC => k_is); (case tC => k_is); (case hC => k_is)))
    (case X_BadPlayer => (refine' FL.XAt.mk1 ?aC ?xL ?hb ?sa ?ga ?gg ?n1 ?i1 ?t1 ?l1 ?c1 ?kf ?kC ?eC ?tC ?hC; (case aC => k_is); (case xL => k_is); (case hb => decide +kernel); (case sa => k_is); (case ga => k_is); (case gg => k_is); (case n1 => k_is); (case i1 => k_is); (case t1 => k_is); (case l1 => k_is); (case c1 => k_is); (case kf => k_is); (case kC => k_is); (case eC => k_is); (case tC => k_is); (case hC => k_is)))
    (case X_BadPaper => (refine' FL.XAt.mk1 ?aC ?xL ?hb ?sa ?ga ?gg ?n1 ?i1 ?t1 ?l1 ?c1 ?kf ?kC ?eC ?tC ?hC; (case aC => k_is); (case xL => k_is); (case hb => decide +kernel); (case sa => k_is); (case ga => k_is); (case gg => k_is); (case n1 => k_is); (case i1 => k_is); (case t1 => k_is); (case l1 => k_is); (case c1 => k_is); (case kf => k_is); (case kC => k_is); (case eC => k_is); (case tC => k_is); (case hC => k_is)))
    (case X_Misfit => (refine' FL.XAt.mk1 ?aC ?xL ?hb ?sa ?ga ?gg ?n1 ?i1 ?t1 ?l1 ?c1 ?kf ?kC ?eC ?tC ?hC; (case aC => k_is); (case xL => k_is); (case hb => decide +kernel); (case sa => k_is); (case ga => k_is); (case gg => k_is); (case n1 => k_is); (case i1 => k_is); (case t1 => k_is); (case l1 => k_is); (case c1 => k_is); (case kf => k_is); (case kC => k_is); (case eC => k_is); (case tC => k_is); (case hC => k_is)))
    (case X_NoWay => (refine' FL.XAt.mk1 ?aC ?xL ?hb ?sa ?ga ?gg ?n1 ?i1 ?t1 ?l1 ?c1 ?kf ?kC ?eC ?tC ?hC; (case aC => k_is); (case xL => k_is); (case hb => decide +kernel); (case sa => k_is); (case ga => k_is); (case gg => k_is); (case n1 => k_is); (case i1 => k_is); (case t1 => k_is); (case l1 => k_is); (case c1 => k_is); (case kf => k_is); (case kC => k_is); (case eC => k_is); (case tC => k_is); (case hC => k_is)))
    (case X_NoPart => (refine' FL.XAt.mk1 ?aC ?xL ?hb ?sa ?ga ?gg ?n1 ?i1 ?t1 ?l1 ?c1 ?kf ?kC ?eC ?tC ?hC; (case aC => k_is); (case xL => k_is); (case hb => decide +kernel); (case sa => k_is); (case ga => k_is); (case gg => k_is); (case n1 => k_is); (case i1 => k_is); (case t1 => k_is); (case l1 => k_is); (case c1 => k_is); (case kf => k_is); (case kC => k_is); (case eC => k_is); (case tC => k_is); (case hC => k_is)))
    (case X_TooMany => (refine' FL.XAt.mk2 ?aC ?xL ?hb ?sa ?ga ?gg ?n1 ?n2 ?i1 ?t1 ?l1 ?c1 ?kf ?kC ?eC ?tC ?hC; (case aC => k_is); (case xL => k_is); (case hb => decide +kernel); (case sa => k_is); (case ga => k_is); (case gg => k_is); (case n1 => k_is); (case n2 => k_is); (case i1 => k_is); (case t1 => k_is); (case l1 => k_is); (case c1 => k_is); (case kf => k_is); (case kC => k_is); (case eC => k_is); (case tC => k_is); (case hC => k_is)))
    (case X_Impossible => (refine' FL.XAt.mk1 ?aC ?xL ?hb ?sa ?ga ?gg ?n1 ?i1 ?t1 ?l1 ?c1 ?kf ?kC ?eC ?tC ?hC; (case aC => k_is); (case xL => k_is); (case hb => decide +kernel); (case sa => k_is); (case ga => k_is); (case gg => k_is); (case n1 => k_is); (case i1 => k_is); (case t1 => k_is); (case l1 => k_is); (case c1 => k_is); (case kf => k_is); (case kC => k_is); (case eC => k_is); (case tC => k_is); (case hC => k_is)))
    (case X_BadText => (refine' FL.XAt.mk2 ?aC ?xL ?hb ?sa ?ga ?gg ?n1 ?n2 ?i1 ?t1 ?l1 ?c1 ?kf ?kC ?eC ?tC ?hC; (case aC => k_is); (case xL => k_is); (case hb => decide +kernel); (case sa => k_is); (case ga => k_is); (case gg => k_is); (case n1 => k_is); (case n2 => k_is); (case i1 => k_is); (case t1 => k_is); (case l1 => k_is); (case c1 => k_is); (case kf => k_is); (case kC => k_is); (case eC => k_is); (case tC => k_is); (case hC => k_is)))
    (case ec_PlayError => first | k_is | rfl)
    (case ic_PlayError => first | k_is | rfl)
    (case tc_PlayError => first | k_is | rfl)
    (case ec_BadNumber => first | k_is | rfl)
    (case ic_BadNumber => first | k_is | rfl)
    (case tc_BadNumber => first | k_is | rfl)
    (case ec_BadPiece => first | k_is | rfl)
    (case ic_BadPiece => first | k_is | rfl)
    (case tc_BadPiece => first | k_is | rfl)
    (case ec_BadFrame => first | k_is | rfl)
    (case ic_BadFrame => first | k_is | rfl)
    (case tc_BadFrame => first | k_is | rfl)
    (case ec_BadBook => first | k_is | rfl)
    (case ic_BadBook => first | k_is | rfl)
    (case tc_BadBook => first | k_is | rfl)
    (case ec_BadProgram => first | k_is | rfl)
    (case ic_BadProgram => first | k_is | rfl)
    (case tc_BadProgram => first | k_is | rfl)
    (case ec_BadPlayer => first | k_is | rfl)
    (case ic_BadPlayer => first | k_is | rfl)
    (case tc_BadPlayer => first | k_is | rfl)
    (case ec_BadPaper => first | k_is | rfl)
    (case ic_BadPaper => first | k_is | rfl)
    (case tc_BadPaper => first | k_is | rfl)
    (case ec_Misfit => first | k_is | rfl)
    (case ic_Misfit => first | k_is | rfl)
    (case tc_Misfit => first | k_is | rfl)
    (case ec_NoWay => first | k_is | rfl)
    (case ic_NoWay => first | k_is | rfl)
    (case tc_NoWay => first | k_is | rfl)
    (case ec_NoPart => first | k_is | rfl)
    (case ic_NoPart => first | k_is | rfl)
    (case tc_NoPart => first | k_is | rfl)
    (case ec_TooMany => first | k_is | rfl)
    (case ic_TooMany => first | k_is | rfl)
    (case tc_TooMany => first | k_is | rfl)
    (case ec_Impossible => first | k_is | rfl)
    (case ic_Impossible => first | k_is | rfl)
    (case tc_Impossible => first | k_is | rfl)
    (case ec_BadText => first | k_is | rfl)
    (case ic_BadText => first | k_is | rfl)
    (case tc_BadText => first | k_is | rfl)
    (case S_BadNumber_PlayError => first | k_is | rfl)
    (case S_BadNumber_BadNumber => first | k_is | rfl)
    (case S_BadNumber_BadPiece => first | k_is | rfl)
    (case S_BadNumber_BadFrame => first | k_is | rfl)
    (case S_BadNumber_BadBook => first | k_is | rfl)
    (case S_BadNumber_BadProgram => first | k_is | rfl)
    (case S_BadNumber_BadPlayer => first | k_is | rfl)
    (case S_BadNumber_BadPaper => first | k_is | rfl)
    (case S_BadNumber_Misfit => first | k_is | rfl)
    (case S_BadNumber_NoWay => first | k_is | rfl)
    (case S_BadNumber_NoPart => first | k_is | rfl)
    (case S_BadNumber_TooMany => first | k_is | rfl)
    (case S_BadNumber_Impossible => first | k_is | rfl)
    (case S_BadNumber_BadText => first | k_is | rfl)
    (case S_BadPiece_PlayError => first | k_is | rfl)
    (case S_BadPiece_BadNumber => first | k_is | rfl)
    (case S_BadPiece_BadPiece => first | k_is | rfl)
    (case S_BadPiece_BadFrame => first | k_is | rfl)
    (case S_BadPiece_BadBook => first | k_is | rfl)
    (case S_BadPiece_BadProgram => first | k_is | rfl)
    (case S_BadPiece_BadPlayer => first | k_is | rfl)
    (case S_BadPiece_BadPaper => first | k_is | rfl)
    (case S_BadPiece_Misfit => first | k_is | rfl)
    (case S_BadPiece_NoWay => first | k_is | rfl)
    (case S_BadPiece_NoPart => first | k_is | rfl)
    (case S_BadPiece_TooMany => first | k_is | rfl)
    (case S_BadPiece_Impossible => first | k_is | rfl)
    (case S_BadPiece_BadText => first | k_is | rfl)
    (case S_BadFrame_PlayError => first | k_is | rfl)
    (case S_BadFrame_BadNumber => first | k_is | rfl)
    (case S_BadFrame_BadPiece => first | k_is | rfl)
    (case S_BadFrame_BadFrame => first | k_is | rfl)
    (case S_BadFrame_BadBook => first | k_is | rfl)
    (case S_BadFrame_BadProgram => first | k_is | rfl)
    (case S_BadFrame_BadPlayer => first | k_is | rfl)
    (case S_BadFrame_BadPaper => first | k_is | rfl)
    (case S_BadFrame_Misfit => first | k_is | rfl)
    (case S_BadFrame_NoWay => first | k_is | rfl)
    (case S_BadFrame_NoPart => first | k_is | rfl)
    (case S_BadFrame_TooMany => first | k_is | rfl)
    (case S_BadFrame_Impossible => first | k_is | rfl)
    (case S_BadFrame_BadText => first | k_is | rfl)
    (case S_BadBook_PlayError => first | k_is | rfl)
    (case S_BadBook_BadNumber => first | k_is | rfl)
    (case S_BadBook_BadPiece => first | k_is | rfl)
    (case S_BadBook_BadFrame => first | k_is | rfl)
    (case S_BadBook_BadBook => first | k_is | rfl)
    (case S_BadBook_BadProgram => first | k_is | rfl)
    (case S_BadBook_BadPlayer => first | k_is | rfl)
    (case S_BadBook_BadPaper => first | k_is | rfl)
    (case S_BadBook_Misfit => first | k_is | rfl)
    (case S_BadBook_NoWay => first | k_is | rfl)
    (case S_BadBook_NoPart => first | k_is | rfl)
    (case S_BadBook_TooMany => first | k_is | rfl)
    (case S_BadBook_Impossible => first | k_is | rfl)
    (case S_BadBook_BadText => first | k_is | rfl)
    (case S_BadProgram_PlayError => first | k_is | rfl)
    (case S_BadProgram_BadNumber => first | k_is | rfl)
    (case S_BadProgram_BadPiece => first | k_is | rfl)
    (case S_BadProgram_BadFrame => first | k_is | rfl)
    (case S_BadProgram_BadBook => first | k_is | rfl)
    (case S_BadProgram_BadProgram => first | k_is | rfl)
    (case S_BadProgram_BadPlayer => first | k_is | rfl)
    (case S_BadProgram_BadPaper => first | k_is | rfl)
    (case S_BadProgram_Misfit => first | k_is | rfl)
    (case S_BadProgram_NoWay => first | k_is | rfl)
    (case S_BadProgram_NoPart => first | k_is | rfl)
    (case S_BadProgram_TooMany => first | k_is | rfl)
    (case S_BadProgram_Impossible => first | k_is | rfl)
    (case S_BadProgram_BadText => first | k_is | rfl)
    (case S_BadPlayer_PlayError => first | k_is | rfl)
    (case S_BadPlayer_BadNumber => first | k_is | rfl)
    (case S_BadPlayer_BadPiece => first | k_is | rfl)
    (case S_BadPlayer_BadFrame => first | k_is | rfl)
    (case S_BadPlayer_BadBook => first | k_is | rfl)
    (case S_BadPlayer_BadProgram => first | k_is | rfl)
    (case S_BadPlayer_BadPlayer => first | k_is | rfl)
    (case S_BadPlayer_BadPaper => first | k_is | rfl)
    (case S_BadPlayer_Misfit => first | k_is | rfl)
    (case S_BadPlayer_NoWay => first | k_is | rfl)
    (case S_BadPlayer_NoPart => first | k_is | rfl)
    (case S_BadPlayer_TooMany => first | k_is | rfl)
    (case S_BadPlayer_Impossible => first | k_is | rfl)
    (case S_BadPlayer_BadText => first | k_is | rfl)
    (case S_BadPaper_PlayError => first | k_is | rfl)
    (case S_BadPaper_BadNumber => first | k_is | rfl)
    (case S_BadPaper_BadPiece => first | k_is | rfl)
    (case S_BadPaper_BadFrame => first | k_is | rfl)
    (case S_BadPaper_BadBook => first | k_is | rfl)
    (case S_BadPaper_BadProgram => first | k_is | rfl)
    (case S_BadPaper_BadPlayer => first | k_is | rfl)
    (case S_BadPaper_BadPaper => first | k_is | rfl)
    (case S_BadPaper_Misfit => first | k_is | rfl)
    (case S_BadPaper_NoWay => first | k_is | rfl)
    (case S_BadPaper_NoPart => first | k_is | rfl)
    (case S_BadPaper_TooMany => first | k_is | rfl)
    (case S_BadPaper_Impossible => first | k_is | rfl)
    (case S_BadPaper_BadText => first | k_is | rfl)
    (case S_Misfit_PlayError => first | k_is | rfl)
    (case S_Misfit_BadNumber => first | k_is | rfl)
    (case S_Misfit_BadPiece => first | k_is | rfl)
    (case S_Misfit_BadFrame => first | k_is | rfl)
    (case S_Misfit_BadBook => first | k_is | rfl)
    (case S_Misfit_BadProgram => first | k_is | rfl)
    (case S_Misfit_BadPlayer => first | k_is | rfl)
    (case S_Misfit_BadPaper => first | k_is | rfl)
    (case S_Misfit_Misfit => first | k_is | rfl)
    (case S_Misfit_NoWay => first | k_is | rfl)
    (case S_Misfit_NoPart => first | k_is | rfl)
    (case S_Misfit_TooMany => first | k_is | rfl)
    (case S_Misfit_Impossible => first | k_is | rfl)
    (case S_Misfit_BadText => first | k_is | rfl)
    (case S_NoWay_PlayError => first | k_is | rfl)
    (case S_NoWay_BadNumber => first | k_is | rfl)
    (case S_NoWay_BadPiece => first | k_is | rfl)
    (case S_NoWay_BadFrame => first | k_is | rfl)
    (case S_NoWay_BadBook => first | k_is | rfl)
    (case S_NoWay_BadProgram => first | k_is | rfl)
    (case S_NoWay_BadPlayer => first | k_is | rfl)
    (case S_NoWay_BadPaper => first | k_is | rfl)
    (case S_NoWay_Misfit => first | k_is | rfl)
    (case S_NoWay_NoWay => first | k_is | rfl)
    (case S_NoWay_NoPart => first | k_is | rfl)
    (case S_NoWay_TooMany => first | k_is | rfl)
    (case S_NoWay_Impossible => first | k_is | rfl)
    (case S_NoWay_BadText => first | k_is | rfl)
    (case S_NoPart_PlayError => first | k_is | rfl)
    (case S_NoPart_BadNumber => first | k_is | rfl)
    (case S_NoPart_BadPiece => first | k_is | rfl)
    (case S_NoPart_BadFrame => first | k_is | rfl)
    (case S_NoPart_BadBook => first | k_is | rfl)
    (case S_NoPart_BadProgram => first | k_is | rfl)
    (case S_NoPart_BadPlayer => first | k_is | rfl)
    (case S_NoPart_BadPaper => first | k_is | rfl)
    (case S_NoPart_Misfit => first | k_is | rfl)
    (case S_NoPart_NoWay => first | k_is | rfl)
    (case S_NoPart_NoPart => first | k_is | rfl)
    (case S_NoPart_TooMany => first | k_is | rfl)
    (case S_NoPart_Impossible => first | k_is | rfl)
    (case S_NoPart_BadText => first | k_is | rfl)
    (case S_TooMany_PlayError => first | k_is | rfl)
    (case S_TooMany_BadNumber => first | k_is | rfl)
    (case S_TooMany_BadPiece => first | k_is | rfl)
    (case S_TooMany_BadFrame => first | k_is | rfl)
    (case S_TooMany_BadBook => first | k_is | rfl)
    (case S_TooMany_BadProgram => first | k_is | rfl)
    (case S_TooMany_BadPlayer => first | k_is | rfl)
    (case S_TooMany_BadPaper => first | k_is | rfl)
    (case S_TooMany_Misfit => first | k_is | rfl)
    (case S_TooMany_NoWay => first | k_is | rfl)
    (case S_TooMany_NoPart => first | k_is | rfl)
    (case S_TooMany_TooMany => first | k_is | rfl)
    (case S_TooMany_Impossible => first | k_is | rfl)
    (case S_TooMany_BadText => first | k_is | rfl)
    (case S_Impossible_PlayError => first | k_is | rfl)
    (case S_Impossible_BadNumber => first | k_is | rfl)
    (case S_Impossible_BadPiece => first | k_is | rfl)
    (case S_Impossible_BadFrame => first | k_is | rfl)
    (case S_Impossible_BadBook => first | k_is | rfl)
    (case S_Impossible_BadProgram => first | k_is | rfl)
    (case S_Impossible_BadPlayer => first | k_is | rfl)
    (case S_Impossible_BadPaper => first | k_is | rfl)
    (case S_Impossible_Misfit => first | k_is | rfl)
    (case S_Impossible_NoWay => first | k_is | rfl)
    (case S_Impossible_NoPart => first | k_is | rfl)
    (case S_Impossible_TooMany => first | k_is | rfl)
    (case S_Impossible_Impossible => first | k_is | rfl)
    (case S_Impossible_BadText => first | k_is | rfl)
    (case S_BadText_PlayError => first | k_is | rfl)
    (case S_BadText_BadNumber => first | k_is | rfl)
    (case S_BadText_BadPiece => first | k_is | rfl)
    (case S_BadText_BadFrame => first | k_is | rfl)
    (case S_BadText_BadBook => first | k_is | rfl)
    (case S_BadText_BadProgram => first | k_is | rfl)
    (case S_BadText_BadPlayer => first | k_is | rfl)
    (case S_BadText_BadPaper => first | k_is | rfl)
    (case S_BadText_Misfit => first | k_is | rfl)
    (case S_BadText_NoWay => first | k_is | rfl)
    (case S_BadText_NoPart => first | k_is | rfl)
    (case S_BadText_TooMany => first | k_is | rfl)
    (case S_BadText_Impossible => first | k_is | rfl)
    (case S_BadText_BadText => first | k_is | rfl)
    (case S_PlayError_PlayError => first | k_is | rfl)
    (case ca_BadNumber => first | k_is | rfl)
    (case cm_BadNumber => first | k_is | rfl)
    (case ca_BadPiece => first | k_is | rfl)
    (case cm_BadPiece => first | k_is | rfl)
    (case ca_BadFrame => first | k_is | rfl)
    (case cm_BadFrame => first | k_is | rfl)
    (case ca_BadBook => first | k_is | rfl)
    (case cm_BadBook => first | k_is | rfl)
    (case ca_BadProgram => first | k_is | rfl)
    (case cm_BadProgram => first | k_is | rfl)
    (case ca_BadPlayer => first | k_is | rfl)
    (case cm_BadPlayer => first | k_is | rfl)
    (case ca_BadPaper => first | k_is | rfl)
    (case cm_BadPaper => first | k_is | rfl)
    (case ca_Misfit => first | k_is | rfl)
    (case cm_Misfit => first | k_is | rfl)
    (case ca_NoWay => first | k_is | rfl)
    (case cm_NoWay => first | k_is | rfl)
    (case ca_NoPart => first | k_is | rfl)
    (case cm_NoPart => first | k_is | rfl)
    (case ca_TooMany => first | k_is | rfl)
    (case cm_TooMany => first | k_is | rfl)
    (case ca_Impossible => first | k_is | rfl)
    (case cm_Impossible => first | k_is | rfl)
    (case ca_BadText => first | k_is | rfl)
    (case cm_BadText => first | k_is | rfl)
    (case gN => first | k_is | rfl)
    (case gT => first | k_is | rfl)
    (case T_BadNumber_ArithmeticError => first | k_is | rfl)
    (case T_BadNumber_LookupError => first | k_is | rfl)
    (case T_BadNumber_RuntimeError => first | k_is | rfl)
    (case T_BadNumber_TypeError => first | k_is | rfl)
    (case T_BadNumber_ValueError => first | k_is | rfl)
    (case T_BadPiece_ArithmeticError => first | k_is | rfl)
    (case T_BadPiece_LookupError => first | k_is | rfl)
    (case T_BadPiece_RuntimeError => first | k_is | rfl)
    (case T_BadPiece_TypeError => first | k_is | rfl)
    (case T_BadPiece_ValueError => first | k_is | rfl)
    (case T_BadFrame_ArithmeticError => first | k_is | rfl)
    (case T_BadFrame_LookupError => first | k_is | rfl)
    (case T_BadFrame_RuntimeError => first | k_is | rfl)
    (case T_BadFrame_TypeError => first | k_is | rfl)
    (case T_BadFrame_ValueError => first | k_is | rfl)
    (case T_BadBook_ArithmeticError => first | k_is | rfl)
    (case T_BadBook_LookupError => first | k_is | rfl)
    (case T_BadBook_RuntimeError => first | k_is | rfl)
    (case T_BadBook_TypeError => first | k_is | rfl)
    (case T_BadBook_ValueError => first | k_is | rfl)
    (case T_BadProgram_ArithmeticError => first | k_is | rfl)
    (case T_BadProgram_LookupError => first | k_is | rfl)
    (case T_BadProgram_RuntimeError => first | k_is | rfl)
    (case T_BadProgram_TypeError => first | k_is | rfl)
    (case T_BadProgram_ValueError => first | k_is | rfl)
    (case T_BadPlayer_ArithmeticError => first | k_is | rfl)
    (case T_BadPlayer_LookupError => first | k_is | rfl)
    (case T_BadPlayer_RuntimeError => first | k_is | rfl)
    (case T_BadPlayer_TypeError => first | k_is | rfl)
    (case T_BadPlayer_ValueError => first | k_is | rfl)
    (case T_BadPaper_ArithmeticError => first | k_is | rfl)
    (case T_BadPaper_LookupError => first | k_is | rfl)
    (case T_BadPaper_RuntimeError => first | k_is | rfl)
    (case T_BadPaper_TypeError => first | k_is | rfl)
    (case T_BadPaper_ValueError => first | k_is | rfl)
    (case T_Misfit_ArithmeticError => first | k_is | rfl)
    (case T_Misfit_LookupError => first | k_is | rfl)
    (case T_Misfit_RuntimeError => first | k_is | rfl)
    (case T_Misfit_TypeError => first | k_is | rfl)
    (case T_Misfit_ValueError => first | k_is | rfl)
    (case T_NoWay_ArithmeticError => first | k_is | rfl)
    (case T_NoWay_LookupError => first | k_is | rfl)
    (case T_NoWay_RuntimeError => first | k_is | rfl)
    (case T_NoWay_TypeError => first | k_is | rfl)
    (case T_NoWay_ValueError => first | k_is | rfl)
    (case T_NoPart_ArithmeticError => first | k_is | rfl)
    (case T_NoPart_LookupError => first | k_is | rfl)
    (case T_NoPart_RuntimeError => first | k_is | rfl)
    (case T_NoPart_TypeError => first | k_is | rfl)
    (case T_NoPart_ValueError => first | k_is | rfl)
    (case T_TooMany_ArithmeticError => first | k_is | rfl)
    (case T_TooMany_LookupError => first | k_is | rfl)
    (case T_TooMany_RuntimeError => first | k_is | rfl)
    (case T_TooMany_TypeError => first | k_is | rfl)
    (case T_TooMany_ValueError => first | k_is | rfl)
    (case T_Impossible_ArithmeticError => first | k_is | rfl)
    (case T_Impossible_LookupError => first | k_is | rfl)
    (case T_Impossible_RuntimeError => first | k_is | rfl)
    (case T_Impossible_TypeError => first | k_is | rfl)
    (case T_Impossible_ValueError => first | k_is | rfl)
    (case T_BadText_ArithmeticError => first | k_is | rfl)
    (case T_BadText_LookupError => first | k_is | rfl)
    (case T_BadText_RuntimeError => first | k_is | rfl)
    (case T_BadText_TypeError => first | k_is | rfl)
    (case T_BadText_ValueError => first | k_is | rfl)
    (case Z_ArithmeticError => k_is)
    (case Z_LookupError => k_is)
    (case Z_RuntimeError => k_is)
    (case Z_TypeError => k_is)
    (case Z_ValueError => k_is)
    (case Z_abs => k_is)
    (case Z_enumerate => k_is)
    (case Z_int => k_is)
    (case Z_isinstance => k_is)
    (case Z_len => k_is)
    (case Z_range => k_is)
    (case Z_repr => k_is)
#print axioms PySem.Challenge.cw_planless_k00_errors_and_their_fields_holds

