import PyProof.Rows.All
import Wide.All
import OpenK.AllK
import Wide.FinOn
import HandS.ForMost
import HandS.Flow
import HandS.NoneIn
import HandS.Style
import HandS.ForExc
import HandS.Gcd
import HandS.IsInst
import HandS.Wide
import HandS.Zip
import HandS.TryMany
import HandS.ExcCtx
import HandS.ExcInit
import HandS.ExcField
import HandS.CallSlots
import HandS.Defaults
import HandS.FStr
import HandS.StrMore
import HandS.TupLe
import HandS.TupAny
import HandS.SortInts
import PyProof.ReprReads
import PyProof.ReprRoads
import HandS.Text
import PySem.Challenge.RW_planless_k03_numbers_reckoned
set_option Elab.async false
set_option linter.all false
set_option maxRecDepth 100000
set_option maxHeartbeats 8000000
/-! a functional reading of the program's text: values as trees, a mixer's state -/
namespace FL
open PySem PySem.Spec L2

/-! ### trees -/
inductive D where
  | non
  | bl (b : Bool)
  | int (i : Int)
  | str (s : Str)
  | lst (xs : List D)
  | tup (xs : List D)
  | dct (kvs : List (Key × D))
  | deck
  deriving Inhabited

structure Deck where
  cells : List Int
  turn : Int
  left : Int

/-- an error of an own class: its name, its fields -/
structure Ex where
  cls : Str
  flds : List (Str × D)

inductive R (α : Type) where
  | ok (a : α) (s : Deck)
  | raise (e : Ex) (s : Deck)
  | bad
def R.bind {α β : Type} : R α → (α → Deck → R β) → R β
  | .ok a s, f => f a s
  | .raise e s, _ => .raise e s
  | .bad, _ => .bad
abbrev M (α : Type) := Deck → R α
abbrev DEnv := List (Option D)

mutual
inductive Rp (K : PySem.W.Frag) (dk : Addr) (F : Hp) : V → D → Prop
  | non : Rp K dk F .non .non
  | bl (b : Bool) : Rp K dk F (.bl b) (.bl b)
  | int (i : Int) : Rp K dk F (.int i) (.int i)
  | str (x : Str) : Rp K dk F (.str x) (.str x)
  | lst {a : Addr} {xs : List V} {ds : List D} : F a = some (.lst xs) → RpAll K dk F xs ds → Rp K dk F (.ref a) (.lst ds)
  | tup {a : Addr} {xs : List V} {ds : List D} : SqT K F a xs → RpAll K dk F xs ds → Rp K dk F (.ref a) (.tup ds)
  | dct {a : Addr} {kvs : List (Key × V)} {ds : List (Key × D)} : F a = some (.dK kvs) → kvs.map (·.1) = ds.map (·.1) → RpAll K dk F (kvs.map (·.2)) (ds.map (·.2)) → Rp K dk F (.ref a) (.dct ds)
  | deck : Rp K dk F (.ref dk) .deck
inductive RpAll (K : PySem.W.Frag) (dk : Addr) (F : Hp) : List V → List D → Prop
  | nil : RpAll K dk F [] []
  | cons {v : V} {vs : List V} {d : D} {ds : List D} : Rp K dk F v d → RpAll K dk F vs ds → RpAll K dk F (v :: vs) (d :: ds)
end

section
variable {K : PySem.W.Frag} {dk : Addr} {F F' : Hp}
theorem seqT {a : Addr} {xs : List V} (e : Same F F') (h : SqT K F a xs) : SqT K F' a xs := by
  rcases h with (h | ⟨o, h⟩) | h
  · exact .inl (.inl (e _ _ h))
  · exact .inl (.inr ⟨o, e _ _ h⟩)
  · exact .inr h
mutual
theorem Rp.mono (e : Same F F') : ∀ {v : V} {d : D}, Rp K dk F v d → Rp K dk F' v d
  | _, _, .non => .non
  | _, _, .bl b => .bl b
  | _, _, .int i => .int i
  | _, _, .str x => .str x
  | _, _, .lst h1 h2 => .lst (e _ _ h1) (RpAll.mono e h2)
  | _, _, .tup h1 h2 => .tup (seqT e h1) (RpAll.mono e h2)
  | _, _, .dct h1 hk h2 => .dct (e _ _ h1) hk (RpAll.mono e h2)
  | _, _, .deck => .deck
theorem RpAll.mono (e : Same F F') : ∀ {vs : List V} {ds : List D}, RpAll K dk F vs ds → RpAll K dk F' vs ds
  | _, _, .nil => .nil
  | _, _, .cons h1 h2 => .cons (Rp.mono e h1) (RpAll.mono e h2)
end
theorem RpAll.length : ∀ {vs : List V} {ds : List D}, RpAll K dk F vs ds → vs.length = ds.length
  | _, _, .nil => rfl
  | _, _, .cons _ h2 => congrArg (· + 1) (RpAll.length h2)
theorem RpAll.get : ∀ {vs : List V} {ds : List D} {i : Nat} {d : D}, RpAll K dk F vs ds → ds[i]? = some d → ∃ v, vs[i]? = some v ∧ Rp K dk F v d
  | _, _, _, _, .nil, e => by simp at e
  | _, _, 0, _, .cons r _, e => by simp at e; subst e; exact ⟨_, rfl, r⟩
  | _, _, i + 1, d, .cons _ t, e => by
    obtain ⟨u, h1, h2⟩ := RpAll.get (i := i) (d := d) t (by simpa using e)
    exact ⟨u, by simpa using h1, h2⟩
theorem RpAll.getV : ∀ {vs : List V} {ds : List D} {i : Nat} {v : V}, RpAll K dk F vs ds → vs[i]? = some v → ∃ d, ds[i]? = some d ∧ Rp K dk F v d
  | _, _, _, _, .nil, e => by simp at e
  | _, _, 0, _, .cons r _, e => by simp at e; subst e; exact ⟨_, rfl, r⟩
  | _, _, i + 1, d, .cons _ t, e => by
    obtain ⟨u, h1, h2⟩ := RpAll.getV (i := i) (v := d) t (by simpa using e)
    exact ⟨u, by simpa using h1, h2⟩
theorem RpAll.append : ∀ {vs us : List V} {ds es : List D}, RpAll K dk F vs ds → RpAll K dk F us es → RpAll K dk F (vs ++ us) (ds ++ es)
  | _, _, _, _, .nil, h => h
  | _, _, _, _, .cons r t, h => .cons r (RpAll.append t h)
theorem RpAll.drop : ∀ {vs : List V} {ds : List D} (n : Nat), RpAll K dk F vs ds → RpAll K dk F (vs.drop n) (ds.drop n)
  | _, _, 0, h => h
  | _, _, _ + 1, .nil => .nil
  | _, _, n + 1, .cons _ t => RpAll.drop n t
theorem RpAll.take : ∀ {vs : List V} {ds : List D} (n : Nat), RpAll K dk F vs ds → RpAll K dk F (vs.take n) (ds.take n)
  | _, _, 0, _ => .nil
  | _, _, _ + 1, .nil => .nil
  | _, _, n + 1, .cons r t => .cons r (RpAll.take n t)
end

/-! ### the state -/
structure Stt (K : PySem.W.Frag) (dk : Addr) (F H : Hp) (s : Deck) : Prop where
  sub : Same F H
  fdk : F dk = none
  deck : ∃ cl, H dk = some (.lst [.ref cl, .int s.turn, .int s.left]) ∧ F cl = some (.lst (s.cells.map V.int))
def Fr (dk : Addr) (H H' : Hp) : Prop := ∀ b o, b ≠ dk → H b = some o → H' b = some o
theorem Fr.refl (dk : Addr) (H : Hp) : Fr dk H H := fun _ _ _ h => h
theorem Fr.trans {dk : Addr} {H H1 H2 : Hp} (a : Fr dk H H1) (b : Fr dk H1 H2) : Fr dk H H2 := fun c o h q => b c o h (a c o h q)
structure Nxt (K : PySem.W.Frag) (dk : Addr) (F H F' H' : Hp) (s' : Deck) : Prop where
  sm : Same F F'
  st : Stt K dk F' H' s'
  fr : Fr dk H H'
  pv : ∀ b, F b = none → H b ≠ none → F' b = none
theorem Nxt.refl {K : PySem.W.Frag} {dk : Addr} {F H : Hp} {s : Deck} (h : Stt K dk F H s) : Nxt K dk F H F H s := ⟨Same.refl _, h, Fr.refl _ _, fun _ e _ => e⟩
theorem Fr.there {dk : Addr} {H H' : Hp} (h : Fr dk H H') {b : Addr} (hb : b ≠ dk) (e : H b ≠ none) : H' b ≠ none := by
  cases q : H b with
  | none => exact absurd q e
  | some o => rw [h b o hb q]; exact fun z => by cases z
theorem Nxt.trans {K : PySem.W.Frag} {dk : Addr} {F H F1 H1 F2 H2 : Hp} {s1 s2 : Deck} (a : Nxt K dk F H F1 H1 s1) (b : Nxt K dk F1 H1 F2 H2 s2) : Nxt K dk F H F2 H2 s2 := by
  refine ⟨a.sm.trans b.sm, b.st, a.fr.trans b.fr, fun c e h => ?_⟩
  by_cases hc : c = dk
  · rw [hc]; exact b.st.fdk
  · exact b.pv c (a.pv c e h) (a.fr.there hc h)

structure EnvR (K : PySem.W.Frag) (dk : Addr) (F : Hp) (σ : St) (δ : DEnv) : Prop where
  len : σ.length = δ.length
  get : ∀ (i : Nat) (d : D), δ[i]? = some (some d) → ∃ v, σ[i]? = some (some v) ∧ Rp K dk F v d
theorem EnvR.mono {K : PySem.W.Frag} {dk : Addr} {F F' : Hp} {σ : St} {δ : DEnv} (e : Same F F') (h : EnvR K dk F σ δ) : EnvR K dk F' σ δ := ⟨h.len, fun i d q => let ⟨v, h1, h2⟩ := h.get i d q; ⟨v, h1, h2.mono e⟩⟩
theorem EnvR.set {K : PySem.W.Frag} {dk : Addr} {F : Hp} {σ : St} {δ : DEnv} {i : Nat} {v : V} {d : D} (h : EnvR K dk F σ δ) (r : Rp K dk F v d) : EnvR K dk F (σ.set i (some v)) (δ.set i (some d)) := by
  refine ⟨by simp [h.len], fun j e q => ?_⟩
  by_cases hj : i = j
  · subst hj
    by_cases hl : i < δ.length
    · rw [List.getElem?_set_self hl] at q
      cases q
      exact ⟨v, List.getElem?_set_self (by rw [h.len]; exact hl), r⟩
    · rw [List.getElem?_eq_none (by simpa using hl)] at q
      cases q
  · rw [List.getElem?_set_ne hj] at q
    obtain ⟨u, h1, h2⟩ := h.get j e q
    exact ⟨u, by rw [List.getElem?_set_ne hj]; exact h1, h2⟩
theorem EnvR.unset {K : PySem.W.Frag} {dk : Addr} {F : Hp} {σ : St} {δ : DEnv} {i : Nat} {o : Option V} (h : EnvR K dk F σ δ) : EnvR K dk F (σ.set i o) (δ.set i none) := by
  refine ⟨by simp [h.len], fun j e q => ?_⟩
  by_cases hj : i = j
  · subst hj
    by_cases hl : i < δ.length
    · rw [List.getElem?_set_self hl] at q
      cases q
    · rw [List.getElem?_eq_none (by simpa using hl)] at q
      cases q
  · rw [List.getElem?_set_ne hj] at q
    obtain ⟨u, h1, h2⟩ := h.get j e q
    exact ⟨u, by rw [List.getElem?_set_ne hj]; exact h1, h2⟩

/-- an error of the class named, its own dict at dd -/
def ExAt (K : PySem.W.Frag) (dk : Addr) (F H : Hp) (dd : Addr) (e : Ex) : Prop :=
  ∃ fs : List (Str × V), H dd = some (.xd fs) ∧ ∀ (f : Str) (d : D), e.flds.lookup f = some d → ∃ v, fs.lookup f = some v ∧ Rp K dk F v d

/-- what is wanted behind: of a value in relation RR to the tree, of an error -/
def EPost {α β : Type} (K : PySem.W.Frag) (mg : Str → Option Value) (dk : Addr) (RR : Hp → β → α → Prop) (W : XK) (F H : Hp) (Q : β → Hp → Prop) : R α → Prop
  | .ok a s' => ∀ v F' H', Nxt K dk F H F' H' s' → RR F' v a → Q v H'
  | .raise e s' => ∀ C dd F' H', Nxt K dk F H F' H' s' → mg e.cls = some (.ref C) → ExAt K dk F' H' dd e → W (.ref C) (some dd) H'
  | .bad => False
theorem EPost.later {α β : Type} {K : PySem.W.Frag} {mg : Str → Option Value} {dk : Addr} {RR : Hp → β → α → Prop} {W : XK} {F H F1 H1 : Hp} {s1 : Deck} {Q : β → Hp → Prop} {r : R α} (n : Nxt K dk F H F1 H1 s1) (h : EPost K mg dk RR W F H Q r) : EPost K mg dk RR W F1 H1 Q r := by
  cases r with
  | ok a s' => exact fun v F' H' n' rr => h v F' H' (n.trans n') rr
  | raise e s' => exact fun C dd F' H' n' hm hx => h C dd F' H' (n.trans n') hm hx
  | bad => exact h
theorem EPost.bind {α β γ δ : Type} {K : PySem.W.Frag} {mg : Str → Option Value} {dk : Addr} {RR : Hp → β → α → Prop} {RS : Hp → δ → γ → Prop} {W : XK} {F H : Hp} {Q : δ → Hp → Prop} {r : R α} {g : α → Deck → R γ} {P : β → Hp → Prop}
    (h : EPost K mg dk RS W F H Q (r.bind g))
    (k : ∀ a s1 v F1 H1, Nxt K dk F H F1 H1 s1 → RR F1 v a → EPost K mg dk RS W F1 H1 Q (g a s1) → P v H1) : EPost K mg dk RR W F H P r := by
  cases r with
  | ok a s' => exact fun v F' H' n rr => k a s' v F' H' n rr (EPost.later n h)
  | raise e s' => exact h
  | bad => exact h
theorem EPost.ok {α β : Type} {K : PySem.W.Frag} {mg : Str → Option Value} {dk : Addr} {RR : Hp → β → α → Prop} {W : XK} {F H : Hp} {s : Deck} {Q : β → Hp → Prop} {a : α} {v : β} (h : EPost K mg dk RR W F H Q (.ok a s)) (st : Stt K dk F H s) (r : RR F v a) : Q v H :=
  h v F H (Nxt.refl st) r

/-! ### judgements -/
abbrev RelD (K : PySem.W.Frag) (dk : Addr) : Hp → V → D → Prop := fun F v d => Rp K dk F v d
abbrev RelL (K : PySem.W.Frag) (dk : Addr) : Hp → List V → List D → Prop := fun F v d => RpAll K dk F v d
abbrev RelB : Hp → Bool → Bool → Prop := fun _ a b => a = b
abbrev FE := DEnv → M D
abbrev FA := DEnv → M (List D)
abbrev FT := DEnv → M Bool
def tEV (K : PySem.W.Frag) (mg : Str → Option Value) (W : WX) (f : FE) : TE := fun σ H Q => ∃ dk δ s F, EnvR K dk F σ δ ∧ Stt K dk F H s ∧ EPost K mg dk (RelD K dk) (WE W σ) F H Q (f δ s)
def tAV (K : PySem.W.Frag) (mg : Str → Option Value) (W : WX) (f : FA) : TA := fun σ H Q => ∃ dk δ s F, EnvR K dk F σ δ ∧ Stt K dk F H s ∧ EPost K mg dk (RelL K dk) (WE W σ) F H Q (f δ s)
def tTV (K : PySem.W.Frag) (mg : Str → Option Value) (W : WX) (f : FT) : TT := fun σ H Q => ∃ dk δ s F, EnvR K dk F σ δ ∧ Stt K dk F H s ∧ EPost K mg dk RelB (WE W σ) F H Q (f δ s)
def EV (X : Cx) (W : WX) (e : Expr) (f : FE) : Prop := PE X e (tEV X.K X.mg W f)
def AV (X : Cx) (W : WX) (es : List Expr) (f : FA) : Prop := PA X es (tAV X.K X.mg W f)
def TV (X : Cx) (W : WX) (e : Expr) (f : FT) : Prop := PT X e (tTV X.K X.mg W f)
theorem pe_weak {X : Cx} {e : Expr} {t t' : TE} (h : PE X e t) (k : ∀ σ H Q, t' σ H Q → t σ H Q) : PE X e t' := ⟨fun pins s σ H Q I q => h.run pins s σ H Q I (k σ H Q q)⟩
theorem pt_weak {X : Cx} {e : Expr} {t t' : TT} (h : PT X e t) (k : ∀ σ H Q, t' σ H Q → t σ H Q) : PT X e t' := ⟨fun pins s σ H Q I q => h.run pins s σ H Q I (k σ H Q q)⟩
theorem pw_weak {X : Cx} {e : Expr} {t t' : TT} (h : PW X e t) (k : ∀ σ H Q, t' σ H Q → t σ H Q) : PW X e t' := ⟨fun wh pins s σ H Q I q => h.run wh pins s σ H Q I (k σ H Q q)⟩
theorem pa_weak {X : Cx} {e : List Expr} {t t' : TA} (h : PA X e t) (k : ∀ σ H Q, t' σ H Q → t σ H Q) : PA X e t' := ⟨fun pos pins s σ H Q I q => h.run pos pins s σ H Q I (k σ H Q q)⟩
theorem ps_weak {X : Cx} {e : Stmt} {t t' : TS} (h : PS X e t) (k : ∀ Dn σ H, t' Dn σ H → t Dn σ H) : PS X e t' := ⟨fun pins s σ H Dn I q => h.run pins s σ H Dn I (k Dn σ H q)⟩
theorem pss_weak {X : Cx} {e : List Stmt} {t t' : TS} (h : PSs X e t) (k : ∀ Dn σ H, t' Dn σ H → t Dn σ H) : PSs X e t' := ⟨fun pins s σ H Dn I q => h.run pins s σ H Dn I (k Dn σ H q)⟩

section
variable {X : Cx} {W : WX} {a b : Expr} {f g : FE} {pos : Pos}
def getE (i : Nat) : FE := fun δ s => match δ[i]? with
  | some (some d) => .ok d s
  | _ => .bad
def cst (d : D) : FE := fun _ s => .ok d s
theorem ev_var {e : Expr} {i : Nat} (h : PE X e (tVar i)) : EV X W e (getE i) := by
  refine pe_weak h fun σ H Q q => ?_
  obtain ⟨dk, δ, s, F, er, st, q⟩ := q
  unfold getE at q
  split at q
  · rename_i d hd
    obtain ⟨v, h1, h2⟩ := er.get i d hd
    exact ⟨v, h1, q.ok st h2⟩
  · exact q.elim
theorem ev_int {i : Int} {j} : EV X W (.Constant (.int i) j pos) (cst (.int i)) := pe_weak pe_int fun σ H Q ⟨dk, δ, s, F, er, st, q⟩ => EPost.ok q st (.int i)
theorem ev_bl {i : Bool} {j} : EV X W (.Constant (.bool i) j pos) (cst (.bl i)) := pe_weak pe_bl fun σ H Q ⟨dk, δ, s, F, er, st, q⟩ => EPost.ok q st (.bl i)
theorem ev_non {j} : EV X W (.Constant .none j pos) (cst .non) := pe_weak pe_non fun σ H Q ⟨dk, δ, s, F, er, st, q⟩ => EPost.ok q st .non
theorem ev_str {i : Str} {j} : EV X W (.Constant (.str i) j pos) (cst (.str i)) := pe_weak pe_str fun σ H Q ⟨dk, δ, s, F, er, st, q⟩ => EPost.ok q st (.str i)

/-! ### operators -/
/-- an operator by values -/
def OpM (X : Cx) (r : R2) (m : D → D → M D) : Prop := ∀ (dk : Addr) (W : XK) (F H : Hp) (s : Deck) (x y : V) (dx dy : D) (Q : VK), Stt X.K dk F H s → Rp X.K dk F x dx → Rp X.K dk F y dy →
  EPost X.K X.mg dk (RelD X.K dk) W F H Q (m dx dy s) → r x y H Q
def lift2 (m : D → D → M D) (f g : FE) : FE := fun δ s => (f δ s).bind fun x s => (g δ s).bind fun y s => m x y s
/-- two in a row -/
theorem two {ta tb : TE} {m : D → D → M D} {σ : St} {H : Hp} {Q : VK} {r : R2} (ha : ∀ σ H Q, tEV X.K X.mg W f σ H Q → ta σ H Q) (hb : ∀ σ H Q, tEV X.K X.mg W g σ H Q → tb σ H Q) (hr : OpM X r m) (q : tEV X.K X.mg W (lift2 m f g) σ H Q) :
    tOp r ta tb σ H Q := by
  obtain ⟨dk, δ, s, F, er, st, q⟩ := q
  refine ha _ _ _ ⟨dk, δ, s, F, er, st, EPost.bind q fun x s1 v F1 H1 n rx q1 => ?_⟩
  refine hb _ _ _ ⟨dk, δ, s1, F1, er.mono n.sm, n.st, EPost.bind q1 fun y s2 u F2 H2 n2 ry q2 => ?_⟩
  exact hr dk _ F2 H2 s2 v u x y Q n2.st (rx.mono n2.sm) ry q2
theorem ev_op {op : Operator} {r : R2} {m : D → D → M D} (ho : OpR X (binaryOp op) r) (hr : OpM X r m) (ha : EV X W a f) (hb : EV X W b g) : EV X W (.BinOp a op b pos) (lift2 m f g) :=
  pe_weak (pe_op ho ha hb) fun σ H Q q => two (fun _ _ _ z => z) (fun _ _ _ z => z) hr q
theorem ev_cmp {op : CmpOp} {r : R2} {m : D → D → M D} (ho : OpR X (compareOp op) r) (hr : OpM X r m) (ha : EV X W a f) (hb : EV X W b g) (hm : behindInMarks op b = false := by first | exact nomark _ | rfl) : EV X W (.Compare a [op] [b] pos) (lift2 m f g) :=
  pe_weak (pe_cmpR ho ha hb hm) fun σ H Q q => two (fun _ _ _ z => z) (fun _ _ _ z => z) hr q
end
end FL

namespace FL
open PySem PySem.Spec L2

section
variable {X : Cx} {W : WX} {a b c : Expr} {es : List Expr} {f g h : FE} {fs : FA} {pos p : Pos}
/-! ### arguments, displays -/
def av0 : FA := fun _ s => .ok [] s
def avC (f : FE) (g : FA) : FA := fun δ s => (f δ s).bind fun x s => (g δ s).bind fun xs s => .ok (x :: xs) s
theorem av_nil : AV X W [] av0 := pa_weak pa_nil fun σ H Q ⟨dk, δ, s, F, er, st, q⟩ => EPost.ok q st .nil
theorem av_cons (ha : EV X W a f) (hb : AV X W es fs) (hs : starEach (a :: es) X.env = (false, eval a X.env) :: starEach es X.env := by rfl) : AV X W (a :: es) (avC f fs) := by
  refine pa_weak (pa_cons ha hb hs) fun σ H Q ⟨dk, δ, s, F, er, st, q⟩ => ?_
  refine ⟨dk, δ, s, F, er, st, EPost.bind q fun x s1 v F1 H1 n rx q1 => ?_⟩
  refine ⟨dk, δ, s1, F1, er.mono n.sm, n.st, EPost.bind q1 fun xs s2 us F2 H2 n2 rxs q2 => ?_⟩
  exact q2.ok n2.st (.cons (rx.mono n2.sm) rxs)
/-- a new object is laid -/
theorem Nxt.new {K : PySem.W.Frag} {dk : Addr} {F H : Hp} {s : Deck} {q : Addr} {o : HO} (st : Stt K dk F H s) (hq : H q = none) : Nxt K dk F H (upd F q o) (upd H q o) s := by
  have fq : F q = none := st.sub.free hq
  obtain ⟨cl, h1, h2⟩ := st.deck
  have hdq : dk ≠ q := ne_of_none h1 hq
  have sm : Same F (upd F q o) := fun b u e => by rw [upd_ne (ne_of_none e fq)]; exact e
  refine ⟨sm, ⟨fun b u e => ?_, ?_, cl, ?_, sm _ _ h2⟩, fun b u _ e => by rw [upd_ne (ne_of_none e hq)]; exact e, fun b e h => by rw [upd_ne (fun z => h (by rw [z]; exact hq))]; exact e⟩
  · by_cases hb : b = q
    · subst hb; rw [upd_same] at e ⊢; exact e
    · rw [upd_ne hb] at e ⊢; exact st.sub b u e
  · rw [upd_ne hdq]; exact st.fdk
  · rw [upd_ne hdq]; exact h1
def small (xs : List D) : Bool := decide (xs.length ≤ 16777216)
theorem small_le {xs : List D} (h : small xs = true) : xs.length ≤ sizeLine := by
  rw [sizeLine_eq]
  exact of_decide_eq_true h
def mkLst (xs : List D) : M D := fun s => if small xs = true then .ok (.lst xs) s else .bad
def mkTup (xs : List D) : M D := fun s => if small xs = true then .ok (.tup xs) s else .bad
theorem epost_lst {K : PySem.W.Frag} {mg : Str → Option Value} {dk : Addr} {Wx : XK} {F H : Hp} {s : Deck} {vs : List V} {xs : List D} {Q : VK} (st : Stt K dk F H s) (r : RpAll K dk F vs xs) (q : EPost K mg dk (RelD K dk) Wx F H Q (mkLst xs s)) :
    vs.length ≤ sizeLine ∧ ∀ p, H p = none → Q (.ref p) (upd H p (.lst vs)) := by
  unfold mkLst at q
  split at q
  · rename_i hz
    refine ⟨by rw [r.length]; exact small_le hz, fun p hp => ?_⟩
    have n := Nxt.new (o := .lst vs) st hp
    exact q _ _ _ n (.lst upd_same (r.mono n.sm))
  · exact q.elim
theorem epost_tup {K : PySem.W.Frag} {mg : Str → Option Value} {dk : Addr} {Wx : XK} {F H : Hp} {s : Deck} {vs : List V} {xs : List D} {Q : VK} (st : Stt K dk F H s) (r : RpAll K dk F vs xs) (q : EPost K mg dk (RelD K dk) Wx F H Q (mkTup xs s)) :
    vs.length ≤ sizeLine ∧ ∀ p, H p = none → Q (.ref p) (upd H p (.tup vs)) := by
  unfold mkTup at q
  split at q
  · rename_i hz
    refine ⟨by rw [r.length]; exact small_le hz, fun p hp => ?_⟩
    have n := Nxt.new (o := .tup vs) st hp
    exact q _ _ _ n (.tup (SqT.of upd_same) (r.mono n.sm))
  · exact q.elim
def withA (fs : FA) (m : List D → M D) : FE := fun δ s => (fs δ s).bind m
theorem ev_lst {k} (ha : AV X W es fs) : EV X W (.List es k) (withA fs mkLst) := by
  refine pe_weak (pe_lst ha) fun σ H Q ⟨dk, δ, s, F, er, st, q⟩ => ?_
  exact ⟨dk, δ, s, F, er, st, EPost.bind q fun xs s1 vs F1 H1 n r q1 => epost_lst n.st r q1⟩
theorem ev_tup {x1} (ha : AV X W es fs) : EV X W (.Tuple es x1 pos) (withA fs mkTup) := by
  refine pe_weak (pe_tup ha) fun σ H Q ⟨dk, δ, s, F, er, st, q⟩ => ?_
  exact ⟨dk, δ, s, F, er, st, EPost.bind q fun xs s1 vs F1 H1 n r q1 => epost_tup n.st r q1⟩

/-! ### calls -/
def CallM (X : Cx) (r : List V → Hp → VK → Prop) (m : List D → M D) : Prop := ∀ (dk : Addr) (Wx : XK) (F H : Hp) (s : Deck) (vs : List V) (ds : List D) (Q : VK), Stt X.K dk F H s → RpAll X.K dk F vs ds →
  EPost X.K X.mg dk (RelD X.K dk) Wx F H Q (m ds s) → r vs H Q
theorem tcb {r : List V → Hp → VK → Prop} {m : List D → M D} (hm : CallM X r m) : ∀ σ H Q, tEV X.K X.mg W (withA fs m) σ H Q → tCB r (tAV X.K X.mg W fs) σ H Q := fun σ H Q ⟨dk, δ, s, F, er, st, q⟩ =>
  ⟨dk, δ, s, F, er, st, EPost.bind q fun xs s1 vs F1 H1 n r q1 => hm dk _ F1 H1 s1 vs xs Q n.st r q1⟩
theorem ev_callB {id : String} {x : Str} {r : List V → Hp → VK → Prop} {m : List D → M D} (hc : CallR X (.builtin id) r) (hm : CallM X r m) (hg : Gl X x) (hmg : X.mg x = none) (hv : bootBuiltins x = some (.builtin id)) (ha : AV X W (a :: es) fs)
    (hn : x ≠ "__name__" := by decide) (hdb : (x == ("__debug__" : Str)) = false := by decide) (he : starEach (a :: es) X.env = (false, eval a X.env) :: starEach es X.env := by rfl) (hpl : (backTo pos (starEach es X.env)).any (·.1) = false := by rfl) :
    EV X W (.Call (.Name x p) (a :: es) [] pos) (withA fs m) := pe_weak (pe_callB hc hg hmg hv ha hn hdb he hpl) (tcb hm)
theorem ev_callTy {T : String} {x : Str} {r : List V → Hp → VK → Prop} {m : List D → M D} (hc : CallR X (.type T) r) (hm : CallM X r m) (hg : Gl X x) (hmg : X.mg x = none) (hv : bootBuiltins x = some (.type T)) (ha : AV X W (a :: es) fs)
    (hn : x ≠ "__name__" := by decide) (hdb : (x == ("__debug__" : Str)) = false := by decide) (he : starEach (a :: es) X.env = (false, eval a X.env) :: starEach es X.env := by rfl) (hpl : (backTo pos (starEach es X.env)).any (·.1) = false := by rfl) :
    EV X W (.Call (.Name x p) (a :: es) [] pos) (withA fs m) := pe_weak (pe_callTy hc hg hmg hv ha hn hdb he hpl) (tcb hm)
/-- what a def of the text is worth -/
def spD (K : PySem.W.Frag) (mg : Str → Option Value) (n : Nat) (m : List D → M D) : Sp := fun vs H Q E => ∃ dk ds s F, Stt K dk F H s ∧ RpAll K dk F vs ds ∧ ds.length = n ∧ EPost K mg dk (RelD K dk) E F H Q (m ds s)
def callN (n : Nat) (m : List D → M D) : List D → M D := fun ds s => if ds.length = n then m ds s else .bad
theorem ev_call {x : Str} {k n : Nat} {fn : Addr} {fd : FuncData} {ps : List Str} {m : List D → M D} (G : FnOk X.prog X.w X.K X.mg X.base (L2.CX X.prog X.w) k fn fd ps (spD X.K X.mg n m)) (hr : Room k X.A) (hg : Gl X x) (hm : X.mg x = some (.ref fn)) (hk : PySem.W.keepIn X.K (.ref fn) = true) (hb : Binds X.K fd ps [])
    (tk : Takes X W) (ha : AV X W (a :: es) fs) (hdb : (x == ("__debug__" : Str)) = false := by decide) (he : starEach (a :: es) X.env = (false, eval a X.env) :: starEach es X.env := by rfl) (hpl : (backTo pos (starEach es X.env)).any (·.1) = false := by rfl) :
    EV X W (.Call (.Name x p) (a :: es) [] pos) (withA fs (callN n m)) := by
  refine pe_weak (pe_callS (E := WE W) G hr hg hm hk hb (fun σ => passAt tk σ) ha hdb he hpl) fun σ H Q ⟨dk, δ, s, F, er, st, q⟩ => ?_
  refine ⟨dk, δ, s, F, er, st, EPost.bind q fun xs s1 vs F1 H1 n r q1 => ?_⟩
  unfold callN at q1
  split at q1
  · rename_i hl
    exact ⟨dk, xs, s1, F1, n.st, r, hl, q1⟩
  · exact q1.elim

/-! ### and, or, not, if .. else -/
def truD : D → Option Bool
  | .non => some false
  | .bl b => some b
  | .int i => some (i != 0)
  | .str y => if y.length ≤ 16777216 then some ((y.length : Int) != 0) else none
  | .lst xs => some (!xs.isEmpty)
  | .tup xs => some (!xs.isEmpty)
  | _ => none
theorem isEmpty_eq {K : PySem.W.Frag} {dk : Addr} {F : Hp} : ∀ {vs : List V} {ds : List D}, RpAll K dk F vs ds → vs.isEmpty = ds.isEmpty
  | _, _, .nil => rfl
  | _, _, .cons _ _ => rfl
theorem truV_of {K : PySem.W.Frag} {dk : Addr} {F H : Hp} {v : V} {d : D} {k : Bool} (sm : Same F H) (r : Rp K dk F v d) (h : truD d = some k) : TruV K v H k := by
  cases r with
  | non => unfold truD at h; cases h; exact rfl
  | bl b => unfold truD at h; cases h; exact rfl
  | int i => unfold truD at h; cases h; exact rfl
  | str x =>
    have h' : (if x.length ≤ 16777216 then some ((x.length : Int) != 0) else none) = some k := h
    by_cases hz : x.length ≤ 16777216
    · rw [if_pos hz] at h'; cases h'; exact ⟨by rw [sizeLine_eq]; exact hz, rfl⟩
    · rw [if_neg hz] at h'; cases h'
  | lst hs ha => unfold truD at h; cases h; exact .inl ⟨_, SqL.of (sm _ _ hs), by rw [isEmpty_eq ha]⟩
  | tup hs ha => unfold truD at h; cases h; exact .inr (.inl ⟨_, seqT sm hs, by rw [isEmpty_eq ha]⟩)
  | dct _ _ _ => unfold truD at h; cases h
  | deck => unfold truD at h; cases h
def tru (d : D) : M Bool := fun s => match truD d with
  | some b => .ok b s
  | none => .bad
def fTru (f : FE) : FT := fun δ s => (f δ s).bind tru
theorem epost_tru {K : PySem.W.Frag} {mg : Str → Option Value} {dk : Addr} {α β : Type} {RR : Hp → β → α → Prop} {Wx : XK} {F H : Hp} {s : Deck} {v : V} {d : D} {g : Bool → Deck → R α} {Q : β → Hp → Prop} (st : Stt K dk F H s) (r : Rp K dk F v d)
    (q : EPost K mg dk RR Wx F H Q ((tru d s).bind g)) : ∃ k, TruV K v H k ∧ EPost K mg dk RR Wx F H Q (g k s) := by
  unfold tru at q
  split at q
  · rename_i k hk
    exact ⟨k, truV_of st.sub r hk, q⟩
  · exact q.elim
def orD (f g : FE) : FE := fun δ s => (f δ s).bind fun x s => (tru x s).bind fun k s => if k = true then .ok x s else g δ s
def andD (f g : FE) : FE := fun δ s => (f δ s).bind fun x s => (tru x s).bind fun k s => if k = true then g δ s else .ok x s
def notD (f : FE) : FE := fun δ s => (f δ s).bind fun x s => (tru x s).bind fun k s => .ok (.bl (!k)) s
theorem ev_or {rest : List Expr} (ha : EV X W a f) (hb : EV X W (.BoolOp .Or (b :: rest) pos) g) : EV X W (.BoolOp .Or (a :: b :: rest) pos) (orD f g) := by
  refine pe_weak (pe_orT ha hb) fun σ H Q ⟨dk, δ, s, F, er, st, q⟩ => ?_
  refine ⟨dk, δ, s, F, er, st, EPost.bind q fun x s1 v F1 H1 n rx q1 => ?_⟩
  obtain ⟨k, ht, q2⟩ := epost_tru n.st rx q1
  refine ⟨k, ht, ?_⟩
  cases k with
  | true => exact EPost.ok q2 n.st rx
  | false => exact ⟨dk, δ, s1, F1, er.mono n.sm, n.st, q2⟩
theorem ev_and {rest : List Expr} (ha : EV X W a f) (hb : EV X W (.BoolOp .And (b :: rest) pos) g) : EV X W (.BoolOp .And (a :: b :: rest) pos) (andD f g) := by
  refine pe_weak (pe_andT ha hb) fun σ H Q ⟨dk, δ, s, F, er, st, q⟩ => ?_
  refine ⟨dk, δ, s, F, er, st, EPost.bind q fun x s1 v F1 H1 n rx q1 => ?_⟩
  obtain ⟨k, ht, q2⟩ := epost_tru n.st rx q1
  refine ⟨k, ht, ?_⟩
  cases k with
  | false => exact EPost.ok q2 n.st rx
  | true => exact ⟨dk, δ, s1, F1, er.mono n.sm, n.st, q2⟩
theorem ev_one {op} (ha : EV X W a f) : EV X W (.BoolOp op [a] pos) f := pe_one ha
theorem ev_not (ha : EV X W a f) : EV X W (.UnaryOp .Not a pos) (notD f) := by
  refine pe_weak (pe_notT ha) fun σ H Q ⟨dk, δ, s, F, er, st, q⟩ => ?_
  refine ⟨dk, δ, s, F, er, st, EPost.bind q fun x s1 v F1 H1 n rx q1 => ?_⟩
  obtain ⟨k, ht, q2⟩ := epost_tru n.st rx q1
  exact ⟨k, ht, EPost.ok q2 n.st (.bl _)⟩
/-- tests -/
theorem tv_of (ha : EV X W a f) (he : ∀ whole, isTrue a X.env whole = (do let v ← whole; standAt a.pos; holding [v] (truthy v)) := by intro _; rfl) : TV X W a (fTru f) := by
  refine pt_weak (pt_truth ha he) fun σ H Q ⟨dk, δ, s, F, er, st, q⟩ => ?_
  refine ⟨dk, δ, s, F, er, st, EPost.bind q fun x s1 v F1 H1 n rx q1 => ?_⟩
  have q1' : EPost X.K X.mg dk RelB (WE W σ) F1 H1 Q ((tru x s1).bind fun k s => .ok k s) := by
    have e : (tru x s1).bind (fun k s => R.ok k s) = tru x s1 := by cases tru x s1 <;> rfl
    rw [e]; exact q1
  obtain ⟨k, ht, q2⟩ := epost_tru n.st rx q1'
  exact ⟨k, ht, EPost.ok q2 n.st rfl⟩
def boo (d : D) : M Bool := fun s => match d with
  | .bl b => .ok b s
  | _ => .bad
def fBoo (f : FE) : FT := fun δ s => (f δ s).bind boo
theorem tv_cmp {op : CmpOp} {r : R2} {m : D → D → M D} (ho : OpR X (compareOp op) r) (hr : OpM X r m) (ha : EV X W a f) (hb : EV X W b g) (hm : behindInMarks op b = false := by first | exact nomark _ | rfl) : TV X W (.Compare a [op] [b] pos) (fBoo (lift2 m f g)) := by
  refine pt_weak (pt_cmpR ho ha hb hm) fun σ H Q ⟨dk, δ, s, F, er, st, q⟩ => ?_
  refine two (W := W) (fun _ _ _ z => z) (fun _ _ _ z => z) hr ⟨dk, δ, s, F, er, st, EPost.bind q fun x s1 v F1 H1 n rx q1 => ?_⟩
  unfold boo at q1
  split at q1
  · cases rx
    exact ⟨_, rfl, EPost.ok q1 n.st rfl⟩
  · exact q1.elim
def fAnd (f g : FT) : FT := fun δ s => (f δ s).bind fun k s => if k = true then g δ s else .ok false s
def fOr (f g : FT) : FT := fun δ s => (f δ s).bind fun k s => if k = true then .ok true s else g δ s
def fNot (f : FT) : FT := fun δ s => (f δ s).bind fun k s => .ok (!k) s
def WV (X : Cx) (W : WX) (e : Expr) (f : FT) : Prop := PW X e (tTV X.K X.mg W f)
variable {fa fb : FT} {rest : List Expr}
theorem wv_and1 (ha : TV X W a fa) : WV X W (.BoolOp .And [a] pos) fa := pw_and1 ha
theorem wv_or1 (ha : TV X W a fa) : WV X W (.BoolOp .Or [a] pos) fa := pw_or1 ha
theorem wv_and (ha : TV X W a fa) (hb : WV X W (.BoolOp .And (b :: rest) pos) fb) : WV X W (.BoolOp .And (a :: b :: rest) pos) (fAnd fa fb) := by
  refine pw_weak (pw_and ha hb) fun σ H Q ⟨dk, δ, s, F, er, st, q⟩ => ?_
  refine ⟨dk, δ, s, F, er, st, EPost.bind q fun k s1 v F1 H1 n rx q1 => ?_⟩
  have rx : v = k := rx
  subst rx
  cases v with
  | true => exact ⟨dk, δ, s1, F1, er.mono n.sm, n.st, q1⟩
  | false => exact EPost.ok q1 n.st rfl
theorem wv_or (ha : TV X W a fa) (hb : WV X W (.BoolOp .Or (b :: rest) pos) fb) : WV X W (.BoolOp .Or (a :: b :: rest) pos) (fOr fa fb) := by
  refine pw_weak (pw_or ha hb) fun σ H Q ⟨dk, δ, s, F, er, st, q⟩ => ?_
  refine ⟨dk, δ, s, F, er, st, EPost.bind q fun k s1 v F1 H1 n rx q1 => ?_⟩
  have rx : v = k := rx
  subst rx
  cases v with
  | false => exact ⟨dk, δ, s1, F1, er.mono n.sm, n.st, q1⟩
  | true => exact EPost.ok q1 n.st rfl
theorem tv_w (h : WV X W a fa) : TV X W a fa := PW.pt h
theorem tv_not (ha : TV X W a fa) : TV X W (.UnaryOp .Not a pos) (fNot fa) := by
  refine pt_weak (pt_not ha) fun σ H Q ⟨dk, δ, s, F, er, st, q⟩ => ?_
  refine ⟨dk, δ, s, F, er, st, EPost.bind q fun k s1 v F1 H1 n rx q1 => ?_⟩
  have rx : v = k := rx
  subst rx
  exact EPost.ok q1 n.st rfl
def ifD (c : FT) (f g : FE) : FE := fun δ s => (c δ s).bind fun k s => if k = true then f δ s else g δ s
theorem ev_if (hc : TV X W c fa) (ha : EV X W a f) (hb : EV X W b g) : EV X W (.IfExp c a b pos) (ifD fa f g) := by
  refine pe_weak (pe_ifExp hc ha hb) fun σ H Q ⟨dk, δ, s, F, er, st, q⟩ => ?_
  refine ⟨dk, δ, s, F, er, st, EPost.bind q fun k s1 v F1 H1 n rx q1 => ?_⟩
  have rx : v = k := rx
  subst rx
  cases v with
  | true => exact ⟨dk, δ, s1, F1, er.mono n.sm, n.st, q1⟩
  | false => exact ⟨dk, δ, s1, F1, er.mono n.sm, n.st, q1⟩
/-- is None -/
def isNone : D → Bool
  | .non => true
  | _ => false
def isN (f : FE) : FE := fun δ s => (f δ s).bind fun x s => .ok (.bl (isNone x)) s
def notN (f : FE) : FE := fun δ s => (f δ s).bind fun x s => .ok (.bl (!isNone x)) s
def fIsN (f : FE) : FT := fun δ s => (f δ s).bind fun x s => .ok (isNone x) s
def fNotN (f : FE) : FT := fun δ s => (f δ s).bind fun x s => .ok (!isNone x) s
theorem rp_non {K : PySem.W.Frag} {dk : Addr} {F : Hp} {v : V} {d : D} (r : Rp K dk F v d) : decide (v = .non) = isNone d := by
  cases r <;> simp [isNone]
theorem ev_isN {j pos'} (ha : EV X W a f) : EV X W (.Compare a [.Is] [.Constant .none j pos'] pos) (isN f) := by
  refine pe_weak (pe_cmp (pc_isN ha)) fun σ H Q ⟨dk, δ, s, F, er, st, q⟩ => ?_
  refine ⟨dk, δ, s, F, er, st, EPost.bind q fun x s1 v F1 H1 n rx q1 => ?_⟩
  show Q (.bl (decide (v = .non))) H1
  rw [rp_non rx]
  exact EPost.ok q1 n.st (.bl _)
theorem ev_notN {j pos'} (ha : EV X W a f) : EV X W (.Compare a [.IsNot] [.Constant .none j pos'] pos) (notN f) := by
  refine pe_weak (pe_cmp (pc_notN ha)) fun σ H Q ⟨dk, δ, s, F, er, st, q⟩ => ?_
  refine ⟨dk, δ, s, F, er, st, EPost.bind q fun x s1 v F1 H1 n rx q1 => ?_⟩
  show Q (.bl (!decide (v = .non))) H1
  rw [rp_non rx]
  exact EPost.ok q1 n.st (.bl _)
theorem tv_isN {j pos'} (ha : EV X W a f) : TV X W (.Compare a [.Is] [.Constant .none j pos'] pos) (fIsN f) := by
  refine pt_weak (pt_cmp (pc_isN ha)) fun σ H Q ⟨dk, δ, s, F, er, st, q⟩ => ?_
  refine ⟨dk, δ, s, F, er, st, EPost.bind q fun x s1 v F1 H1 n rx q1 => ?_⟩
  refine ⟨_, rfl, ?_⟩
  rw [rp_non rx]
  exact EPost.ok q1 n.st rfl
theorem tv_notN {j pos'} (ha : EV X W a f) : TV X W (.Compare a [.IsNot] [.Constant .none j pos'] pos) (fNotN f) := by
  refine pt_weak (pt_cmp (pc_notN ha)) fun σ H Q ⟨dk, δ, s, F, er, st, q⟩ => ?_
  refine ⟨dk, δ, s, F, er, st, EPost.bind q fun x s1 v F1 H1 n rx q1 => ?_⟩
  refine ⟨_, rfl, ?_⟩
  rw [rp_non rx]
  exact EPost.ok q1 n.st rfl
end
end FL

namespace FL
open PySem PySem.Spec L2

/-! ### what is walked -/
def ItD (K : PySem.W.Frag) (dk : Addr) (F0 : Hp) (J : It) (ds : List D) : Prop := ∀ (i : Nat) (F H : Hp) (s : Deck), Same F0 F → Stt K dk F H s →
  (i < ds.length → J.go i H) ∧ (ds.length ≤ i → J.stop i H) ∧ ∀ x H', i < ds.length → J.yld i H x H' → ∃ F' d, ds[i]? = some d ∧ Nxt K dk F H F' H' s ∧ Rp K dk F' x d
def tIV (K : PySem.W.Frag) (mg : Str → Option Value) (W : WX) (f : FA) : TI := fun σ H R => ∃ dk δ s F, EnvR K dk F σ δ ∧ Stt K dk F H s ∧ EPost K mg dk (fun F J ds => ItD K dk F J ds) (WE W σ) F H R (f δ s)
def IV (X : Cx) (W : WX) (tg it : Expr) (f : FA) : Prop := PI X tg it (tIV X.K X.mg W f)
theorem pi_weak {X : Cx} {tg e : Expr} {t t' : TI} (h : PI X tg e t) (k : ∀ σ H Q, t' σ H Q → t σ H Q) : PI X tg e t' := ⟨fun pins s σ H Q I q => h.run pins s σ H Q I (k σ H Q q)⟩
theorem pi_or {X : Cx} {tg e : Expr} {t t' : TI} (h : PI X tg e t) (h' : PI X tg e t') : PI X tg e (fun σ H R => t σ H R ∨ t' σ H R) := ⟨fun pins s σ H Q I q => q.elim (h.run pins s σ H Q I) (h'.run pins s σ H Q I)⟩
section
variable {X : Cx} {W : WX} {a b tg : Expr} {es : List Expr} {f g : FE} {fs : FA} {pos p : Pos}
/-- its items -/
def seqOf : D → Option (List D)
  | .lst xs => some xs
  | .tup xs => some xs
  | _ => none
def seqM (d : D) : M (List D) := fun s => match seqOf d with
  | some xs => .ok xs s
  | none => .bad
theorem itl_ok {K : PySem.W.Frag} {dk : Addr} {F0 : Hp} {a : Addr} {xs : List V} {ds : List D} (h : SqL K F0 a xs) (r : RpAll K dk F0 xs ds) : ItD K dk F0 (Itl K a) ds := by
  intro i F H s sm st
  have hq : SqL K H a xs := st.sub.seq (sm.seq h)
  have hl := r.length
  refine ⟨fun hi => ⟨xs, xs[i]'(by omega), hq, List.getElem?_eq_getElem (by omega)⟩, fun hi => ⟨xs, hq, by omega⟩, fun x H' hi y => ?_⟩
  obtain ⟨e, y⟩ := y
  subst e
  have hx := y xs hq
  obtain ⟨d, hd, rd⟩ := r.getV hx
  exact ⟨F, d, hd, Nxt.refl st, rd.mono sm⟩
theorem itt_ok {K : PySem.W.Frag} {dk : Addr} {F0 : Hp} {a : Addr} {xs : List V} {ds : List D} (h : SqT K F0 a xs) (r : RpAll K dk F0 xs ds) : ItD K dk F0 (Itt K a) ds := by
  intro i F H s sm st
  have hq : SqT K H a xs := seqT st.sub (seqT sm h)
  have hl := r.length
  refine ⟨fun hi => ⟨xs, xs[i]'(by omega), hq, List.getElem?_eq_getElem (by omega)⟩, fun hi => ⟨xs, hq, by omega⟩, fun x H' hi y => ?_⟩
  obtain ⟨e, y⟩ := y
  subst e
  have hx := y xs hq
  obtain ⟨d, hd, rd⟩ := r.getV hx
  exact ⟨F, d, hd, Nxt.refl st, rd.mono sm⟩
theorem iv_seq (ha : EV X W a f) : IV X W tg a (fun δ s => (f δ s).bind seqM) := by
  refine pi_weak (pi_or (pi_list ha) (pi_tup ha)) fun σ H RQ ⟨dk, δ, s, F, er, st, q⟩ => ?_
  dsimp only at q
  have key : ∀ r : R D, (∃ xs s1, r = .ok (.lst xs) s1) ∨ ¬ (∃ xs s1, r = .ok (.lst xs) s1) := fun r => Classical.em _
  rcases key (f δ s) with ⟨xs, s1, e⟩ | ne
  · refine .inl ⟨dk, δ, s, F, er, st, ?_⟩
    rw [e] at q ⊢
    intro v F1 H1 n rv
    cases rv with
    | @lst a0 vs _ hs hr => exact ⟨a0, rfl, ⟨_, SqL.of (n.st.sub _ _ hs)⟩, q _ F1 H1 n (itl_ok (SqL.of hs) hr)⟩
  · refine .inr ⟨dk, δ, s, F, er, st, ?_⟩
    cases hr : f δ s with
    | bad => rw [hr] at q; exact q
    | raise e s1 => rw [hr] at q; exact q
    | ok d s1 =>
      rw [hr] at q
      intro v F1 H1 n rv
      cases rv with
      | @tup a0 vs xs hs hr2 => exact ⟨a0, rfl, ⟨_, seqT n.st.sub hs⟩, q _ F1 H1 n (itt_ok hs hr2)⟩
      | lst hs _ => exact absurd ⟨_, _, hr⟩ ne
      | non => exact q.elim
      | bl _ => exact q.elim
      | int _ => exact q.elim
      | str _ => exact q.elim
      | dct _ _ _ => exact q.elim
      | deck => exact q.elim
/-! ### range, enumerate, zip -/
def rng (lo : Int) (n : Nat) : List D := (List.range n).map fun (i : Nat) => D.int (lo + (i : Int))
theorem itr_ok {K : PySem.W.Frag} {dk : Addr} {F0 : Hp} {lo : Int} {n : Nat} : ItD K dk F0 (Itr lo n) (rng lo n) := by
  intro i F H s sm st
  unfold rng
  refine ⟨fun hi => (show i < n by simpa using hi), fun hi => (show n ≤ i by simpa using hi), fun x H' hi y => ?_⟩
  obtain ⟨e1, e2⟩ := y
  subst e1 e2
  have hi' : i < n := by simpa using hi
  exact ⟨F, .int (lo + i), by simp [List.getElem?_range hi'], Nxt.refl st, .int _⟩
def small62 (i : Int) : Bool := decide (-(2 ^ 62) ≤ i ∧ i < 2 ^ 62)
def rng1M (ds : List D) : M (List D) := fun s => match ds with
  | [.int n] => if small62 n = true then .ok (rng 0 n.toNat) s else .bad
  | _ => .bad
def rng2M (ds : List D) : M (List D) := fun s => match ds with
  | [.int i, .int j] => if small62 i = true then (if small62 j = true then .ok (rng i (j - i).toNat) s else .bad) else .bad
  | _ => .bad
theorem iv_range1 (hg : Gl X "range") (hm : X.mg "range" = none) (ha : AV X W [a] fs) (hs : starEach [a] X.env = [(false, eval a X.env)] := by rfl) : IV X W tg (.Call (.Name "range" p) [a] [] pos) (fun δ s => (fs δ s).bind rng1M) := by
  refine pi_weak (pi_range1 hg hm ha hs) fun σ H RQ ⟨dk, δ, s, F, er, st, q⟩ => ?_
  refine ⟨dk, δ, s, F, er, st, EPost.bind q fun xs s1 vs F1 H1 n r q1 => ?_⟩
  unfold rng1M at q1
  split at q1
  · rename_i k
    split at q1
    · rename_i hk
      cases r with
      | cons r1 r2 =>
        cases r1; cases r2
        have hk' := of_decide_eq_true hk
        exact ⟨k, rfl, hk'.1, hk'.2, EPost.ok q1 n.st itr_ok⟩
    · exact q1.elim
  · exact q1.elim
theorem iv_range2 (hg : Gl X "range") (hm : X.mg "range" = none) (ha : AV X W [a, b] fs) (hs : starEach [a, b] X.env = [(false, eval a X.env), (false, eval b X.env)] := by rfl) (hs2 : starEach [b] X.env = [(false, eval b X.env)] := by rfl) :
    IV X W tg (.Call (.Name "range" p) [a, b] [] pos) (fun δ s => (fs δ s).bind rng2M) := by
  refine pi_weak (pi_range2 hg hm ha hs hs2) fun σ H RQ ⟨dk, δ, s, F, er, st, q⟩ => ?_
  refine ⟨dk, δ, s, F, er, st, EPost.bind q fun xs s1 vs F1 H1 n r q1 => ?_⟩
  unfold rng2M at q1
  split at q1
  · rename_i k l
    split at q1
    · rename_i hk
      split at q1
      · rename_i hl
        cases r with
        | cons r1 r2 =>
          cases r2 with
          | cons r3 r4 =>
            cases r1; cases r3; cases r4
            have hk' := of_decide_eq_true hk
            have hl' := of_decide_eq_true hl
            exact ⟨k, l, rfl, ⟨hk'.1, hk'.2, hl'.1, hl'.2⟩, EPost.ok q1 n.st itr_ok⟩
      · exact q1.elim
    · exact q1.elim
  · exact q1.elim
/-- pairs -/
def pairsI : Nat → List D → List D
  | _, [] => []
  | i, x :: xs => .tup [.int (i : Nat), x] :: pairsI (i + 1) xs
theorem pairsI_len : ∀ (i : Nat) (xs : List D), (pairsI i xs).length = xs.length
  | _, [] => rfl
  | i, _ :: xs => congrArg (· + 1) (pairsI_len (i + 1) xs)
theorem pairsI_get : ∀ (k : Nat) (xs : List D) (i : Nat) (d : D), xs[i]? = some d → (pairsI k xs)[i]? = some (.tup [.int ((k + i : Nat) : Int), d])
  | _, [], _, _, h => by simp at h
  | k, x :: xs, 0, d, h => by
    simp at h; subst h; rfl
  | k, x :: xs, i + 1, d, h => by
    have e := pairsI_get (k + 1) xs i d (by simpa using h)
    have e2 : k + 1 + i = k + (i + 1) := by omega
    rw [e2] at e
    simpa [pairsI] using e
theorem tup2 {K : PySem.W.Frag} {dk : Addr} {F H : Hp} {s : Deck} {T : Addr} {x y : V} {d e : D} (st : Stt K dk F H s) (hT : H T = none) (r1 : Rp K dk F x d) (r2 : Rp K dk F y e) :
    Nxt K dk F H (upd F T (.tup [x, y])) (upd H T (.tup [x, y])) s ∧ Rp K dk (upd F T (.tup [x, y])) (.ref T) (.tup [d, e]) := by
  have n := Nxt.new (o := .tup [x, y]) st hT
  exact ⟨n, .tup (SqT.of upd_same) (.cons (r1.mono n.sm) (.cons (r2.mono n.sm) .nil))⟩
theorem ite_ok {K : PySem.W.Frag} {dk : Addr} {F0 : Hp} {a : Addr} {xs : List V} {ds : List D} (h : SqL K F0 a xs) (r : RpAll K dk F0 xs ds) : ItD K dk F0 (Ite K a) (pairsI 0 ds) := by
  intro i F H s sm st
  have hq : SqL K H a xs := st.sub.seq (sm.seq h)
  have hl := r.length
  rw [pairsI_len]
  refine ⟨fun hi => ⟨xs, xs[i]'(by omega), hq, List.getElem?_eq_getElem (by omega)⟩, fun hi => ⟨xs, hq, by omega⟩, fun x H' hi y => ?_⟩
  obtain ⟨T, x, rfl, hT, rfl, y⟩ := y
  have hx := y xs hq
  obtain ⟨d, hd, rd⟩ := r.getV hx
  obtain ⟨n, rt⟩ := tup2 st hT (.int (i : Nat)) (rd.mono sm)
  have e := pairsI_get 0 ds i d hd
  rw [Nat.zero_add] at e
  exact ⟨_, _, e, n, rt⟩
def enumM (ds : List D) : M (List D) := fun s => match ds with
  | [.lst xs] => .ok (pairsI 0 xs) s
  | _ => .bad
theorem iv_enum {elts : List Expr} {kk : Nat} {tpos : Pos} (hg : Gl X "enumerate") (hm : X.mg "enumerate" = none) (ha : AV X W [a] fs) (hs : starEach [a] X.env = [(false, eval a X.env)] := by rfl) :
    IV X W (.Tuple elts kk tpos) (.Call (.Name "enumerate" p) [a] [] pos) (fun δ s => (fs δ s).bind enumM) := by
  refine pi_weak (pi_enum hg hm ha hs) fun σ H RQ ⟨dk, δ, s, F, er, st, q⟩ => ?_
  refine ⟨dk, δ, s, F, er, st, EPost.bind q fun xs s1 vs F1 H1 n r q1 => ?_⟩
  unfold enumM at q1
  split at q1
  · cases r with
    | cons r1 r2 =>
      cases r2
      cases r1 with
      | lst hs2 hr => exact ⟨_, _, rfl, SqL.of (n.st.sub _ _ hs2), EPost.ok q1 n.st (ite_ok (SqL.of hs2) hr)⟩
  · exact q1.elim
def pairsZ : List D → List D → List D
  | x :: xs, y :: ys => .tup [x, y] :: pairsZ xs ys
  | _, _ => []
theorem pairsZ_len : ∀ (xs ys : List D), (pairsZ xs ys).length = min xs.length ys.length
  | [], ys => by simp [pairsZ]
  | x :: xs, [] => by simp [pairsZ]
  | x :: xs, y :: ys => by
    have := pairsZ_len xs ys
    simp only [pairsZ, List.length_cons, this]
    omega
theorem pairsZ_get : ∀ (xs ys : List D) (i : Nat) (d e : D), xs[i]? = some d → ys[i]? = some e → (pairsZ xs ys)[i]? = some (.tup [d, e])
  | [], _, _, _, _, h, _ => by simp at h
  | _ :: _, [], _, _, _, _, h => by simp at h
  | x :: xs, y :: ys, 0, d, e, h, h' => by simp at h h'; subst h h'; rfl
  | x :: xs, y :: ys, i + 1, d, e, h, h' => by simpa [pairsZ] using pairsZ_get xs ys i d e (by simpa using h) (by simpa using h')
theorem itz_ok {K : PySem.W.Frag} {dk : Addr} {F0 : Hp} {a b : Addr} {xs ys : List V} {ds es : List D} (h : SqL K F0 a xs) (r : RpAll K dk F0 xs ds) (h' : SqL K F0 b ys) (r' : RpAll K dk F0 ys es) : ItD K dk F0 (Itz K a b) (pairsZ ds es) := by
  intro i F H s sm st
  have hq : SqL K H a xs := st.sub.seq (sm.seq h)
  have hq' : SqL K H b ys := st.sub.seq (sm.seq h')
  have hl := r.length
  have hl' := r'.length
  rw [pairsZ_len]
  refine ⟨fun hi => ⟨xs, ys, xs[i]'(by omega), ys[i]'(by omega), hq, hq', List.getElem?_eq_getElem (by omega), List.getElem?_eq_getElem (by omega)⟩, fun hi => ⟨xs, ys, hq, hq', by omega⟩, fun x H' hi y => ?_⟩
  obtain ⟨T, x, z, rfl, hT, rfl, y, y'⟩ := y
  obtain ⟨d, hd, rd⟩ := r.getV (y xs hq)
  obtain ⟨e, he, re⟩ := r'.getV (y' ys hq')
  obtain ⟨n, rt⟩ := tup2 st hT (rd.mono sm) (re.mono sm)
  exact ⟨_, _, pairsZ_get ds es i d e hd he, n, rt⟩
theorem itzT_ok {K : PySem.W.Frag} {dk : Addr} {F0 : Hp} {a b : Addr} {xs ys : List V} {ds es : List D} (h : SqT K F0 a xs) (r : RpAll K dk F0 xs ds) (h' : SqT K F0 b ys) (r' : RpAll K dk F0 ys es) : ItD K dk F0 (RZ.ItzT K a b) (pairsZ ds es) := by
  intro i F H s sm st
  have hq : SqT K H a xs := seqT st.sub (seqT sm h)
  have hq' : SqT K H b ys := seqT st.sub (seqT sm h')
  have hl := r.length
  have hl' := r'.length
  rw [pairsZ_len]
  refine ⟨fun hi => ⟨xs, ys, xs[i]'(by omega), ys[i]'(by omega), hq, hq', List.getElem?_eq_getElem (by omega), List.getElem?_eq_getElem (by omega)⟩, fun hi => ⟨xs, ys, hq, hq', by omega⟩, fun x H' hi y => ?_⟩
  obtain ⟨T, x, z, rfl, hT, rfl, y, y'⟩ := y
  obtain ⟨d, hd, rd⟩ := r.getV (y xs hq)
  obtain ⟨e, he, re⟩ := r'.getV (y' ys hq')
  obtain ⟨n, rt⟩ := tup2 st hT (rd.mono sm) (re.mono sm)
  exact ⟨_, _, pairsZ_get ds es i d e hd he, n, rt⟩
def zipM (ds : List D) : M (List D) := fun s => match ds with
  | [.lst xs, .lst ys] => .ok (pairsZ xs ys) s
  | [.tup xs, .tup ys] => .ok (pairsZ xs ys) s
  | _ => .bad
theorem iv_zip {elts : List Expr} {kk : Nat} {tpos : Pos} (hg : Gl X "zip") (hm : X.mg "zip" = none) (ha : AV X W [a, b] fs) (hs : starEach [a, b] X.env = (false, eval a X.env) :: starEach [b] X.env := by rfl) (hpl : (backTo pos (starEach [b] X.env)).any (·.1) = false := by rfl) :
    IV X W (.Tuple elts kk tpos) (.Call (.Name "zip" p) [a, b] [] pos) (fun δ s => (fs δ s).bind zipM) := by
  refine pi_weak (RZ.pi_zipA hg hm ha hs hpl) fun σ H RQ ⟨dk, δ, s, F, er, st, q⟩ => ?_
  refine ⟨dk, δ, s, F, er, st, EPost.bind q fun xs s1 vs F1 H1 n r q1 => ?_⟩
  unfold zipM at q1
  split at q1
  · cases r with
    | cons r1 r2 =>
      cases r2 with
      | cons r3 r4 =>
        cases r4
        cases r1 with
        | lst h1 k1 =>
          cases r3 with
          | lst h2 k2 => exact ⟨_, _, _, _, rfl, .inl ⟨SqL.of (n.st.sub _ _ h1), SqL.of (n.st.sub _ _ h2), EPost.ok q1 n.st (itz_ok (SqL.of h1) k1 (SqL.of h2) k2)⟩⟩
  · cases r with
    | cons r1 r2 =>
      cases r2 with
      | cons r3 r4 =>
        cases r4
        cases r1 with
        | tup h1 k1 =>
          cases r3 with
          | tup h2 k2 => exact ⟨_, _, _, _, rfl, .inr ⟨seqT n.st.sub h1, seqT n.st.sub h2, EPost.ok q1 n.st (itzT_ok h1 k1 h2 k2)⟩⟩
  · exact q1.elim

/-! ### targets -/
inductive Pat where
  | nm (i : Nat)
  | tp (ps : List Pat)
mutual
def asgP : Pat → D → Option (List (Nat × D))
  | .nm i, d => some [(i, d)]
  | .tp ps, .tup xs => asgPs ps xs
  | .tp ps, .lst xs => asgPs ps xs
  | .tp _, _ => none
def asgPs : List Pat → List D → Option (List (Nat × D))
  | [], [] => some []
  | p :: ps, x :: xs => (asgP p x).bind fun l => (asgPs ps xs).bind fun m => some (l ++ m)
  | _, _ => none
end
def setD (δ : DEnv) (l : List (Nat × D)) : DEnv := l.foldl (fun δ p => δ.set p.1 (some p.2)) δ
def setV (σ : List (Option V)) (l : List (Nat × V)) : List (Option V) := l.foldl (fun δ p => δ.set p.1 (some p.2)) σ
def PairsR (K : PySem.W.Frag) (dk : Addr) (F : Hp) (lv : List (Nat × V)) (l : List (Nat × D)) : Prop := lv.map (·.1) = l.map (·.1) ∧ RpAll K dk F (lv.map (·.2)) (l.map (·.2))
theorem EnvR.setAll {K : PySem.W.Frag} {dk : Addr} {F : Hp} : ∀ {lv : List (Nat × V)} {l : List (Nat × D)} {σ : List (Option V)} {δ : DEnv}, PairsR K dk F lv l → EnvR K dk F σ δ → EnvR K dk F (setV σ lv) (setD δ l)
  | [], [], _, _, _, h => h
  | (i, v) :: lv, (j, d) :: l, σ, δ, ⟨e, r⟩, h => by
    have e1 : i = j := by simp at e; exact e.1
    have e2 : lv.map (·.1) = l.map (·.1) := by simp at e; exact e.2
    subst e1
    cases r with
    | cons r1 r2 => exact EnvR.setAll (lv := lv) (l := l) ⟨e2, r2⟩ (h.set r1)
  | [], _ :: _, _, _, ⟨e, _⟩, _ => by simp at e
  | _ :: _, [], _, _, ⟨e, _⟩, _ => by simp at e
def tGV (K : PySem.W.Frag) (p : Pat) : TG := fun v σ H Q => ∃ dk F d l, Same F H ∧ Rp K dk F v d ∧ asgP p d = some l ∧ ∀ lv, PairsR K dk F lv l → Q (setV σ lv) H
def tGVs (K : PySem.W.Frag) (ps : List Pat) : TGs := fun vs σ H Q => ∃ dk F ds l, Same F H ∧ RpAll K dk F vs ds ∧ asgPs ps ds = some l ∧ ∀ lv, PairsR K dk F lv l → Q (setV σ lv) H
def GV (X : Cx) (tg : Expr) (p : Pat) : Prop := PG X tg (tGV X.K p)
def GVs (X : Cx) (tg : List Expr) (p : List Pat) : Prop := PGs X tg (tGVs X.K p)
theorem pg_weak {X : Cx} {tg : Expr} {t t' : TG} (h : PG X tg t) (k : ∀ v σ H Q, t' v σ H Q → t v σ H Q) : PG X tg t' := ⟨fun pins s σ H v u Q I r q => h.run pins s σ H v u Q I r (k v σ H Q q)⟩
theorem pgs_weak {X : Cx} {tg : List Expr} {t t' : TGs} (h : PGs X tg t) (k : ∀ v σ H Q, t' v σ H Q → t v σ H Q) : PGs X tg t' := ⟨fun pins s σ H v u Q I r q => h.run pins s σ H v u Q I r (k v σ H Q q)⟩
theorem pg_or {X : Cx} {tg : Expr} {t t' : TG} (h : PG X tg t) (h' : PG X tg t') : PG X tg (fun v σ H Q => t v σ H Q ∨ t' v σ H Q) := ⟨fun pins s σ H v u Q I r q => q.elim (h.run pins s σ H v u Q I r) (h'.run pins s σ H v u Q I r)⟩
theorem gv_name {i : Nat} (h : PG X tg (gName i)) : GV X tg (.nm i) := by
  refine pg_weak h fun v σ H Q ⟨dk, F, d, l, sm, r, e, q⟩ => ?_
  have e' : some [(i, d)] = some l := by rw [← e]; unfold asgP; rfl
  cases e'
  exact q [(i, v)] ⟨rfl, .cons r .nil⟩
theorem gvs_nil : GVs X [] [] := by
  refine pgs_weak pgs_nil fun vs σ H Q ⟨dk, F, ds, l, sm, r, e, q⟩ => ?_
  cases r with
  | nil =>
    have e' : some [] = some l := by rw [← e]; unfold asgPs; rfl
    cases e'
    exact ⟨rfl, q [] ⟨rfl, .nil⟩⟩
  | cons _ _ => unfold asgPs at e; cases e
theorem gvs_cons {t : Expr} {ts : List Expr} {p : Pat} {ps : List Pat} (h1 : GV X t p) (h2 : GVs X ts ps) (hs : (assignEach (t :: ts) X.env).map (·.2) = assign t X.env :: (assignEach ts X.env).map (·.2) := by rfl) : GVs X (t :: ts) (p :: ps) := by
  refine pgs_weak (pgs_cons h1 h2 hs) fun vs σ H Q ⟨dk, F, ds, l, sm, r, e, q⟩ => ?_
  cases r with
  | nil => unfold asgPs at e; cases e
  | @cons v vr d dr r1 r2 =>
    have e' : ((asgP p d).bind fun l => (asgPs ps dr).bind fun m => some (l ++ m)) = some l := by rw [← e]; rw [asgPs]
    cases e1 : asgP p d with
    | none => rw [e1] at e'; cases e'
    | some l1 =>
      rw [e1] at e'
      cases e2 : asgPs ps dr with
      | none => rw [e2] at e'; cases e'
      | some l2 =>
        rw [e2] at e'
        cases e'
        refine ⟨v, vr, rfl, dk, F, d, l1, sm, r1, e1, fun lv1 p1 => ?_⟩
        refine ⟨dk, F, dr, l2, sm, r2, e2, fun lv2 p2 => ?_⟩
        have z : setV (setV σ lv1) lv2 = setV σ (lv1 ++ lv2) := by unfold setV; rw [List.foldl_append]
        rw [z]
        refine q _ ⟨?_, ?_⟩
        · rw [List.map_append, List.map_append, p1.1, p2.1]
        · rw [List.map_append, List.map_append]; exact p1.2.append p2.2
theorem asgPs_len : ∀ {ps : List Pat} {xs : List D} {l : List (Nat × D)}, asgPs ps xs = some l → xs.length = ps.length
  | [], [], _, _ => rfl
  | [], _ :: _, _, h => by unfold asgPs at h; cases h
  | _ :: _, [], _, h => by unfold asgPs at h; cases h
  | p :: ps, x :: xs, l, h => by
    rw [asgPs] at h
    cases e1 : asgP p x with
    | none => rw [e1] at h; cases h
    | some l1 =>
      rw [e1] at h
      cases e2 : asgPs ps xs with
      | none => rw [e2] at h; cases h
      | some l2 => exact congrArg (· + 1) (asgPs_len e2)
theorem gv_tup {ts : List Expr} {k : Nat} {ps : List Pat} (hc : X.calm = true) (h : GVs X ts ps) (hn : (assignEach ts X.env).length = ps.length := by rfl) (hst : (assignEach ts X.env).findIdx? (·.1) = none := by rfl) : GV X (.Tuple ts k pos) (.tp ps) := by
  refine pg_weak (pg_or (pg_tup hc h hn hst) (pg_unl hc h hn hst)) fun v σ H Q ⟨dk, F, d, l, sm, r, e, q⟩ => ?_
  cases r with
  | @tup _ _ ds0 hs hr =>
    have e' : asgPs ps ds0 = some l := by rw [← e]; rw [asgP]
    exact .inl ⟨_, _, rfl, seqT sm hs, by rw [hr.length]; exact asgPs_len e', dk, F, _, l, sm, hr, e', q⟩
  | @lst _ _ ds0 hs hr =>
    have e' : asgPs ps ds0 = some l := by rw [← e]; rw [asgP]
    exact .inr ⟨_, _, rfl, SqL.of (sm _ _ hs), by rw [hr.length]; exact asgPs_len e', dk, F, _, l, sm, hr, e', q⟩
  | non => unfold asgP at e; cases e
  | bl _ => unfold asgP at e; cases e
  | int _ => unfold asgP at e; cases e
  | str _ => unfold asgP at e; cases e
  | dct _ _ _ => unfold asgP at e; cases e
  | deck => unfold asgP at e; cases e
end
end FL

namespace FL
open PySem PySem.Spec L2

/-! ### comprehensions -/
def wipeE (δ : DEnv) : List Nat → DEnv
  | [] => δ
  | v :: vs => (wipeE δ vs).set v none
theorem EnvR.wipe {K : PySem.W.Frag} {dk : Addr} {F : Hp} {σ : List (Option V)} {δ : DEnv} (h : EnvR K dk F σ δ) : ∀ vs, EnvR K dk F (L2.wipe σ vs) (wipeE δ vs)
  | [] => h
  | v :: vs => (EnvR.wipe h vs).unset
/-- its slots all among vs -/
def patIn (vs : List Nat) : List (Nat × D) → Bool := fun l => l.all fun p => vs.contains p.1
theorem wipe_get (σ : List (Option V)) : ∀ (vs : List Nat) (j : Nat), (L2.wipe σ vs)[j]? = if j ∈ vs ∧ j < σ.length then some none else σ[j]?
  | [], j => by simp [L2.wipe]
  | v :: vs, j => by
    have ih := wipe_get σ vs j
    unfold L2.wipe
    by_cases hv : v = j
    · subst hv
      by_cases hl : v < σ.length
      · rw [List.getElem?_set_self (by rw [wipe_length]; exact hl)]
        simp [hl]
      · rw [List.getElem?_eq_none (by rw [List.length_set, wipe_length]; omega)]
        simp [hl]
    · rw [List.getElem?_set_ne hv, ih]
      have : (j ∈ v :: vs) ↔ j ∈ vs := by
        simp only [List.mem_cons]
        constructor
        · rintro (e | h)
          · exact absurd e.symm hv
          · exact h
        · exact Or.inr
      simp only [this]
theorem setV_get : ∀ (lv : List (Nat × V)) (σ : List (Option V)) (j : Nat), (∀ p ∈ lv, p.1 ≠ j) → (setV σ lv)[j]? = σ[j]?
  | [], _, _, _ => rfl
  | (i, v) :: lv, σ, j, h => by
    show (setV (σ.set i (some v)) lv)[j]? = _
    rw [setV_get lv _ j fun p hp => h p (List.mem_cons_of_mem _ hp), List.getElem?_set_ne (h (i, v) List.mem_cons_self)]
theorem setV_len : ∀ (lv : List (Nat × V)) (σ : List (Option V)), (setV σ lv).length = σ.length
  | [], _ => rfl
  | (i, v) :: lv, σ => by
    show (setV (σ.set i (some v)) lv).length = _
    rw [setV_len lv, List.length_set]
theorem wipe_setV {σ : List (Option V)} {vs : List Nat} {lv : List (Nat × V)} (h : ∀ p ∈ lv, p.1 ∈ vs) : L2.wipe (setV (L2.wipe σ vs) lv) vs = L2.wipe σ vs := by
  apply List.ext_getElem?
  intro j
  rw [wipe_get, setV_len, wipe_length]
  by_cases hj : j ∈ vs ∧ j < σ.length
  · rw [if_pos hj, wipe_get, if_pos hj]
  · rw [if_neg hj]
    by_cases hv : j ∈ vs
    · have hl : ¬ j < σ.length := fun q => hj ⟨hv, q⟩
      rw [List.getElem?_eq_none (by rw [setV_len, wipe_length]; omega), List.getElem?_eq_none (by rw [wipe_length]; omega)]
    · rw [setV_get lv _ j fun p hp e => hv (e ▸ h p hp)]

/-- what a comprehension makes: errors do not leave it -/
def compD (b : D → Deck → R (Option D)) : List D → M (List D)
  | [], s => .ok [] s
  | x :: xs, s => match b x s with
    | .ok o s => (compD b xs s).bind fun ys s => .ok (o.toList ++ ys) s
    | _ => .bad
def elemD (p : Pat) (vs : List Nat) (c : FT) (e : FE) (δ : DEnv) : D → Deck → R (Option D) := fun x s => match asgP p x with
  | some l => if patIn vs l = true then (c (setD (wipeE δ vs) l) s).bind fun k s => if k = true then (e (setD (wipeE δ vs) l) s).bind fun y s => .ok (some y) s else .ok none s else .bad
  | none => .bad
def lcD (src : FA) (p : Pat) (vs : List Nat) (c : FT) (e : FE) : FE := fun δ s => (src δ s).bind fun xs s => (compD (elemD p vs c e δ) xs s).bind mkLst
abbrev W0 : WX := fun _ _ _ _ => False
def yesT : FT := fun _ s => .ok true s
def TsV (X : Cx) (W : WX) (ifs : List Expr) (f : FT) : Prop := PTs X ifs (tTV X.K X.mg W f)
theorem pts_weak {X : Cx} {e : List Expr} {t t' : TT} (h : PTs X e t) (k : ∀ σ H Q, t' σ H Q → t σ H Q) : PTs X e t' := ⟨fun pins s σ H Q I q => h.run pins s σ H Q I (k σ H Q q)⟩
theorem tsv_nil {X : Cx} {W : WX} : TsV X W [] yesT := pts_weak pts_nil fun σ H Q ⟨dk, δ, s, F, er, st, q⟩ => EPost.ok q st rfl
theorem tsv_one {X : Cx} {W : WX} {c : Expr} {f : FT} (h : TV X W c f) : TsV X W [c] f := pts_one h

/-- the comprehension's new list, made so far -/
theorem Nxt.upd {K : PySem.W.Frag} {dk Dl : Addr} {F H : Hp} {s : Deck} {o o' : HO} (st : Stt K dk F H s) (hF : F Dl = none) (hD : Dl ≠ dk) : Stt K dk F (upd H Dl o') s := by
  obtain ⟨cl, h1, h2⟩ := st.deck
  refine ⟨fun b u e => ?_, st.fdk, cl, ?_, h2⟩
  · by_cases hb : b = Dl
    · rw [hb, hF] at e; cases e
    · rw [upd_ne hb]; exact st.sub b u e
  · rw [upd_ne (Ne.symm hD)]; exact h1
theorem comp_len {b : D → Deck → R (Option D)} : ∀ {xs : List D} {s s' : Deck} {ys : List D}, compD b xs s = .ok ys s' → ys.length ≤ xs.length
  | [], s, s', ys, h => by
    have h' : R.ok [] s = R.ok ys s' := h
    cases h'
    exact Nat.le_refl _
  | x :: xs, s, s', ys, h => by
    rw [compD] at h
    cases e : b x s with
    | bad => rw [e] at h; cases h
    | raise _ _ => rw [e] at h; cases h
    | ok o s1 =>
      rw [e] at h
      have h' : ((compD b xs s1).bind fun ys s => .ok (o.toList ++ ys) s) = R.ok ys s' := h
      cases e2 : compD b xs s1 with
      | bad => rw [e2] at h'; cases h'
      | raise _ _ => rw [e2] at h'; cases h'
      | ok zs s2 =>
        rw [e2] at h'
        have h2 : R.ok (o.toList ++ zs) s2 = R.ok ys s' := h'
        cases h2
        have := comp_len e2
        rw [List.length_append, List.length_cons]
        cases o <;> simp <;> omega

/-- behind the turns: what is left to be made, over the list so far; F1, H1: where the comprehension began -/
structure LcInv (K : PySem.W.Frag) (dk Dl : Addr) (F1 H1 : Hp) (b : D → Deck → R (Option D)) (ds all : List D) (s' : Deck) (i : Nat) (H : Hp) (F : Hp) (s : Deck) (acc : List V) (done rest : List D) : Prop where
  sm : Same F1 F
  st : Stt K dk F H s
  fr : ∀ b o, b ≠ dk → H1 b = some o → H b = some o
  pv : ∀ b, F1 b = none → H1 b ≠ none → F b = none
  fd : F Dl = none
  hd : H Dl = some (.lst acc)
  ra : RpAll K dk F acc done
  le : i ≤ ds.length
  dl : done.length ≤ i
  cm : compD b (ds.drop i) s = .ok rest s'
  al : all = done ++ rest
theorem drop_cons {α : Type} {l : List α} {i : Nat} {d : α} (h : l[i]? = some d) : l.drop i = d :: l.drop (i + 1) := by
  obtain ⟨hi, e⟩ := List.getElem?_eq_some_iff.mp h
  rw [List.drop_eq_getElem_cons hi, e]

section
variable {X : Cx} {W : WX} {tg iter elt : Expr} {ifs : List Expr} {scope : Scope} {own : List (Str × Nat)} {pos : Pos} {src : FA} {p : Pat} {c : FT} {e : FE}
theorem lc_core {σ : List (Option V)} {H : Hp} {Q : VK} {te : TE} {tt : TT} {g : TG} {wi : TI} (hi : ∀ σ H RQ, tIV X.K X.mg W src σ H RQ → wi σ H RQ) (hg : ∀ v σ H Q, tGV X.K p v σ H Q → g v σ H Q) (ht : ∀ σ H Q, tTV X.K X.mg W0 c σ H Q → tt σ H Q) (he : ∀ σ H Q, tEV X.K X.mg W0 e σ H Q → te σ H Q)
    (q : tEV X.K X.mg W (lcD src p (own.map (·.2)) c e) σ H Q) : tLc wi g tt te (own.map (·.2)) σ H Q := by
  obtain ⟨dk, δ, s, F, er, st, q⟩ := q
  unfold lcD at q
  refine hi _ _ _ ⟨dk, δ, s, F, er, st, EPost.bind q fun ds s1 J F1 H1 n1 it q1 => ?_⟩
  intro Dl hDl
  generalize hb : elemD p (own.map (·.2)) c e δ = b at q1
  -- the whole is known
  cases hall : compD b ds s1 with
  | bad => rw [hall] at q1; exact q1.elim
  | raise _ _ =>
    exfalso
    have no : ∀ (xs : List D) (s s' : Deck) (e : Ex), compD b xs s ≠ .raise e s' := by
      intro xs
      induction xs with
      | nil => intro s s' e h; cases h
      | cons x xs ih =>
        intro s s' e h
        rw [compD] at h
        cases hx : b x s with
        | bad => rw [hx] at h; cases h
        | raise _ _ => rw [hx] at h; cases h
        | ok o s2 =>
          rw [hx] at h
          have h' : ((compD b xs s2).bind fun ys s => R.ok (o.toList ++ ys) s) = R.raise e s' := h
          cases h2 : compD b xs s2 with
          | bad => rw [h2] at h'; cases h'
          | raise _ _ => exact ih _ _ _ h2
          | ok _ _ => rw [h2] at h'; cases h'
    exact no _ _ _ _ hall
  | ok all s' =>
    rw [hall] at q1
    have q2 : EPost X.K X.mg dk (RelD X.K dk) (WE W σ) F1 H1 Q (mkLst all s') := q1
    unfold mkLst at q2
    split at q2
    case isFalse => exact q2.elim
    rename_i hsm
    have hlen := small_le hsm
    obtain ⟨cl, hdk, _⟩ := n1.st.deck
    have hne : Dl ≠ dk := fun z => by rw [z, hdk] at hDl; cases hDl
    have hF1 : F1 Dl = none := n1.st.sub.free hDl
    have hnD : ∀ {b : Addr} {o : HO}, H1 b = some o → b ≠ Dl := fun h => ne_of_none h hDl
    refine ⟨fun i m H' => m = ds.length - i ∧ ∃ F s acc done rest, LcInv X.K dk Dl F1 H1 b ds all s' i H' F s acc done rest, ⟨ds.length, by simp, F1, s1, [], [], all, Same.refl _, Nxt.upd (o := .lst []) n1.st hF1 hne, fun b o _ h => by rw [upd_ne (hnD h)]; exact h, fun _ h _ => h, hF1, upd_same, .nil, Nat.zero_le _, Nat.le_refl _, by simpa using hall, rfl⟩, ?_⟩
    rintro i m H2 ⟨rfl, F2, s2, acc, done, rest, I⟩
    obtain ⟨J1, J2, J3⟩ := it i F2 H2 s2 I.sm I.st
    by_cases hlt : i < ds.length
    · refine .inr ⟨J1 hlt, fun H' => ∃ F s acc done rest, LcInv X.K dk Dl F1 H1 b ds all s' (i + 1) H' F s acc done rest, fun H' z => ⟨ds.length - (i + 1), by omega, rfl, z⟩, fun x H' y => ?_⟩
      obtain ⟨F3, d, hd, n3, rd⟩ := J3 x H' hlt y
      have hc2 := I.cm
      rw [drop_cons hd, compD] at hc2
      -- the turn
      cases hx : b d s2 with
      | bad => rw [hx] at hc2; cases hc2
      | raise _ _ => rw [hx] at hc2; cases hc2
      | ok o s3 =>
        rw [hx] at hc2
        have hc3 : ((compD b (ds.drop (i + 1)) s3).bind fun ys s => R.ok (o.toList ++ ys) s) = R.ok rest s' := hc2
        cases hr : compD b (ds.drop (i + 1)) s3 with
        | bad => rw [hr] at hc3; cases hc3
        | raise _ _ => rw [hr] at hc3; cases hc3
        | ok rest' s4 =>
          rw [hr] at hc3
          have hc4 : R.ok (o.toList ++ rest') s4 = R.ok rest s' := hc3
          have erest : rest = o.toList ++ rest' := by cases hc4; rfl
          have es4 : s4 = s' := by cases hc4; rfl
          subst es4
          rw [← hb] at hx
          unfold elemD at hx
          split at hx
          case h_2 => cases hx
          rename_i l hl
          split at hx
          case isFalse => cases hx
          rename_i hpi
          refine hg _ _ _ _ ⟨dk, F3, d, l, n3.st.sub, rd, hl, fun lv pr => ?_⟩
          have hin : ∀ p ∈ lv, p.1 ∈ own.map (·.2) := by
            intro p' hp
            have h1 : p'.1 ∈ l.map (·.1) := by rw [← pr.1]; exact List.mem_map.mpr ⟨p', hp, rfl⟩
            obtain ⟨p2, hp2, e2⟩ := List.mem_map.mp h1
            have z := List.all_eq_true.mp hpi p2 hp2
            rw [← e2]
            simpa using z
          refine ⟨wipe_setV hin, ?_⟩
          have er3 : EnvR X.K dk F3 (setV (L2.wipe σ (own.map (·.2))) lv) (setD (wipeE δ (own.map (·.2))) l) := EnvR.setAll pr ((er.mono (n1.sm.trans (I.sm.trans n3.sm))).wipe _)
          have hD3 : H' Dl = some (.lst acc) := n3.fr _ _ hne I.hd
          refine ht _ _ _ ⟨dk, _, s2, F3, er3, n3.st, ?_⟩
          cases hct : c (setD (wipeE δ (own.map (·.2))) l) s2 with
          | bad => rw [hct] at hx; cases hx
          | raise _ _ => rw [hct] at hx; cases hx
          | ok k s5 =>
            rw [hct] at hx
            have hx' : (if k = true then (e (setD (wipeE δ (own.map (·.2))) l) s5).bind fun y s => R.ok (some y) s else R.ok none s5) = R.ok o s3 := hx
            intro k' F4 H4 n4 rk
            have rk : k' = k := rk
            subst rk
            have hD4 : H4 Dl = some (.lst acc) := n4.fr _ _ hne hD3
            have hF3 : F3 Dl = none := n3.pv _ I.fd (by rw [I.hd]; exact fun z => by cases z)
            have hF4 : F4 Dl = none := n4.pv _ hF3 (by rw [hD3]; exact fun z => by cases z)
            have n24 := n3.trans n4
            have pv4 : ∀ b, F1 b = none → H1 b ≠ none → F4 b = none := fun b h1 h2 => by
              by_cases hb : b = dk
              · rw [hb]; exact n4.st.fdk
              · exact n24.pv b (I.pv b h1 h2) (Fr.there (dk := dk) (fun c o hc h => I.fr c o hc h) hb h2)
            cases k' with
            | false =>
              rw [if_neg Bool.false_ne_true] at hx' ⊢
              cases hx'
              exact ⟨F4, _, acc, done, rest', I.sm.trans n24.sm, n4.st, fun b u hb h => n24.fr _ _ hb (I.fr b u hb h), pv4, hF4, hD4, I.ra.mono n24.sm, hlt, Nat.le_succ_of_le I.dl, hr, by rw [I.al, erest]; rfl⟩
            | true =>
              rw [if_pos rfl] at hx' ⊢
              refine he _ _ _ ⟨dk, _, s5, F4, er3.mono n4.sm, n4.st, ?_⟩
              cases hey : e (setD (wipeE δ (own.map (·.2))) l) s5 with
              | bad => rw [hey] at hx'; cases hx'
              | raise _ _ => rw [hey] at hx'; cases hx'
              | ok y s6 =>
                rw [hey] at hx'
                have hx2 : R.ok (some y) s6 = R.ok o s3 := hx'
                cases hx2
                intro v F5 H5 n5 rv
                have hD5 : H5 Dl = some (.lst acc) := n5.fr _ _ hne hD4
                have hF5 : F5 Dl = none := n5.pv _ hF4 (by rw [hD4]; exact fun z => by cases z)
                have n25 := n24.trans n5
                have hal2 : all = (done ++ [y]) ++ rest' := by rw [I.al, erest, List.append_assoc]; rfl
                have hlen2 : done.length + 1 ≤ all.length := by rw [hal2, List.length_append, List.length_append]; simp only [List.length_cons, List.length_nil]; omega
                have hacc := I.ra.length
                have hle : done.length + 1 ≤ sizeLine := Nat.le_trans hlen2 hlen
                refine ⟨acc, hD5, by omega, F5, _, acc ++ [v], done ++ [y], rest', I.sm.trans n25.sm, Nxt.upd (o := .lst []) n5.st hF5 hne, fun b u hb hu => ?_, fun b h1 h2 => ?_, hF5, upd_same, (I.ra.mono n25.sm).append (.cons rv .nil), hlt, by have := I.dl; simp; omega, hr, hal2⟩
                · rw [upd_ne (hnD hu)]
                  exact n25.fr _ _ hb (I.fr b u hb hu)
                · by_cases hb : b = dk
                  · rw [hb]; exact n5.st.fdk
                  · exact n25.pv b (I.pv b h1 h2) (Fr.there (dk := dk) (fun c o hc h => I.fr c o hc h) hb h2)
    · have ei : i = ds.length := by have := I.le; omega
      subst ei
      refine .inl ⟨J2 (Nat.le_refl _), ?_⟩
      have hc2 := I.cm
      rw [List.drop_length] at hc2
      have hc3 : R.ok [] s2 = R.ok rest s' := hc2
      cases hc3
      have hal := I.al
      rw [List.append_nil] at hal
      subst hal
      have sm2 : Same F2 (upd F2 Dl (.lst acc)) := fun b u h => by rw [upd_ne (fun z => by rw [z, I.fd] at h; cases h)]; exact h
      obtain ⟨cl2, k1, k2⟩ := I.st.deck
      refine q2 (.ref Dl) (upd F2 Dl (.lst acc)) H2 ⟨I.sm.trans sm2, ⟨fun b u h => ?_, by rw [upd_ne (Ne.symm hne)]; exact I.st.fdk, cl2, k1, sm2 _ _ k2⟩, fun b o hb h => I.fr b o hb h, fun b h1 h2 => ?_⟩ (.lst upd_same (I.ra.mono sm2))
      · by_cases hb : b = Dl
        · rw [hb] at h ⊢; rw [upd_same] at h; rw [I.hd]; exact h
        · rw [upd_ne hb] at h; exact I.st.sub b u h
      · rw [upd_ne (fun z => h2 (by rw [z]; exact hDl))]
        exact I.pv b h1 h2
theorem ev_lc (hc : X.calm = true) (hN : X.N.Nodup) (hi : IV X W tg iter src) (ok : BlkOk X.N X.env.scope scope own)
    (hg : ∀ (s : Shared) (H : Hp) (C : Addr) (cl : List (Str × Addr)) (fp : List Addr), GV (X.blk s H scope (compEnvC scope cl C X.env) fp) tg p) (ht : ∀ (s : Shared) (H : Hp) (C : Addr) (cl : List (Str × Addr)) (fp : List Addr), TsV (X.blk s H scope (compEnvC scope cl C X.env) fp) W0 ifs c)
    (he : ∀ (s : Shared) (H : Hp) (C : Addr) (cl : List (Str × Addr)) (fp : List Addr), EV (X.blk s H scope (compEnvC scope cl C X.env) fp) W0 elt e) (hs : ∀ x, foldedSetIterable iter X.env x = pure x := by intro _; rfl) :
    EV X W (.ListComp elt [⟨tg, iter, ifs, 0⟩] scope pos) (lcD src p (own.map (·.2)) c e) :=
  pe_weak (pe_lc (wi := tIV X.K X.mg W src) (g := tGV X.K p) (tt := tTV X.K X.mg W0 c) (te := tEV X.K X.mg W0 e) hc hN hi ok hg ht he hs) fun σ H Q q => lc_core (fun _ _ _ z => z) (fun _ _ _ _ z => z) (fun _ _ _ z => z) (fun _ _ _ z => z) q
end
end FL

namespace FL
open PySem PySem.Spec L2

/-! ### statements -/
inductive RS where
  | nx (δ : DEnv) (s : Deck)
  | rt (d : D) (s : Deck)
  | bk (δ : DEnv) (s : Deck)
  | ct (δ : DEnv) (s : Deck)
  | raise (e : Ex) (δ : DEnv) (s : Deck)
  | bad
abbrev FS := DEnv → Deck → RS
/-- what is wanted behind a statement that began at slots σ0 -/
def SPost (K : PySem.W.Frag) (mg : Str → Option Value) (dk : Addr) (W : WX) (F H : Hp) (Dn : Ends) : RS → Prop
  | .nx δ s => ∀ σ' F' H', Nxt K dk F H F' H' s → EnvR K dk F' σ' δ → Dn.nx σ' H'
  | .bk δ s => ∀ σ' F' H', Nxt K dk F H F' H' s → EnvR K dk F' σ' δ → Dn.bk σ' H'
  | .ct δ s => ∀ σ' F' H', Nxt K dk F H F' H' s → EnvR K dk F' σ' δ → Dn.ct σ' H'
  | .rt d s => ∀ v F' H', Nxt K dk F H F' H' s → Rp K dk F' v d → Dn.rt v H'
  | .raise e δ s => ∀ σ' C dd F' H', Nxt K dk F H F' H' s → EnvR K dk F' σ' δ → mg e.cls = some (.ref C) → ExAt K dk F' H' dd e → W (.ref C) (some dd) σ' H'
  | .bad => False
theorem SPost.later {K : PySem.W.Frag} {mg : Str → Option Value} {dk : Addr} {W : WX} {F H F1 H1 : Hp} {s1 : Deck} {Dn : Ends} {r : RS} (n : Nxt K dk F H F1 H1 s1) (h : SPost K mg dk W F H Dn r) : SPost K mg dk W F1 H1 Dn r := by
  cases r with
  | nx δ s => exact fun σ' F' H' n' er => h σ' F' H' (n.trans n') er
  | bk δ s => exact fun σ' F' H' n' er => h σ' F' H' (n.trans n') er
  | ct δ s => exact fun σ' F' H' n' er => h σ' F' H' (n.trans n') er
  | rt d s => exact fun v F' H' n' rr => h v F' H' (n.trans n') rr
  | raise e δ s => exact fun σ' C dd F' H' n' er hm hx => h σ' C dd F' H' (n.trans n') er hm hx
  | bad => exact h
def tSV (K : PySem.W.Frag) (mg : Str → Option Value) (W : WX) (g : FS) : TS := fun Dn σ H => ∃ dk δ s F, EnvR K dk F σ δ ∧ Stt K dk F H s ∧ SPost K mg dk W F H Dn (g δ s)
def SV (X : Cx) (W : WX) (st : Stmt) (g : FS) : Prop := PS X st (tSV X.K X.mg W g)
def BV (X : Cx) (W : WX) (st : List Stmt) (g : FS) : Prop := PSs X st (tSV X.K X.mg W g)
/-- an expression's value goes on to a statement's end -/
def R.toS {α : Type} (δ : DEnv) (r : R α) (k : α → Deck → RS) : RS := match r with
  | .ok a s => k a s
  | .raise e s => .raise e δ s
  | .bad => .bad
theorem SPost.ofE {α β : Type} {K : PySem.W.Frag} {mg : Str → Option Value} {dk : Addr} {RR : Hp → β → α → Prop} {W : WX} {σ : List (Option V)} {δ : DEnv} {F H : Hp} {Dn : Ends} {r : R α} {k : α → Deck → RS} {P : β → Hp → Prop} (er : EnvR K dk F σ δ)
    (h : SPost K mg dk W F H Dn (r.toS δ k)) (kk : ∀ a s1 v F1 H1, Nxt K dk F H F1 H1 s1 → RR F1 v a → SPost K mg dk W F1 H1 Dn (k a s1) → P v H1) : EPost K mg dk RR (WE W σ) F H P r := by
  cases r with
  | ok a s1 => exact fun v F' H' n rr => kk a s1 v F' H' n rr (SPost.later n h)
  | raise e s1 => exact fun C dd F' H' n hm hx => h σ C dd F' H' n (er.mono n.sm) hm hx
  | bad => exact h
def seqS (f g : FS) : FS := fun δ s => match f δ s with
  | .nx δ' s' => g δ' s'
  | r => r
section
variable {X : Cx} {W : WX} {st : Stmt} {rest body : List Stmt} {e c tg iter : Expr} {f : FE} {fc : FT} {g h : FS} {fs src : FA} {pos : Pos} {p : Pat}
theorem bv_nil : BV X W [] (fun δ s => .nx δ s) := pss_weak pss_nil fun Dn σ H ⟨dk, δ, s, F, er, st, q⟩ => q σ F H (Nxt.refl st) er
theorem bv_cons (h1 : SV X W st g) (h2 : BV X W rest h) : BV X W (st :: rest) (seqS g h) := by
  refine pss_weak (pss_cons h1 h2) fun Dn σ H ⟨dk, δ, s, F, er, st, q⟩ => ?_
  refine ⟨dk, δ, s, F, er, st, ?_⟩
  unfold seqS at q
  cases hg : g δ s with
  | nx δ' s' =>
    rw [hg] at q
    exact fun σ' F' H' n er' => ⟨dk, δ', s', F', er', n.st, SPost.later n q⟩
  | bk δ' s' => rw [hg] at q; exact q
  | ct δ' s' => rw [hg] at q; exact q
  | rt d s' => rw [hg] at q; exact q
  | raise e δ' s' => rw [hg] at q; exact q
  | bad => rw [hg] at q; exact q
theorem bv_one (h1 : SV X W st g) : BV X W [st] g := pss_one h1
theorem sv_pass : SV X W (.Pass pos) (fun δ s => .nx δ s) := ps_weak ps_pass fun Dn σ H ⟨dk, δ, s, F, er, st, q⟩ => q σ F H (Nxt.refl st) er
def dropS (f : FE) : FS := fun δ s => (f δ s).toS δ fun _ s => .nx δ s
theorem sv_expr (he : EV X W e f) (hs : swapsWith e none pos.line X.env = pure false := by rfl) : SV X W (.Expr e pos) (dropS f) := by
  refine ps_weak (ps_expr he hs) fun Dn σ H ⟨dk, δ, s, F, er, st, q⟩ => ?_
  exact ⟨dk, δ, s, F, er, st, SPost.ofE er q fun a s1 v F1 H1 n rr q1 => q1 σ F1 H1 (Nxt.refl n.st) (er.mono n.sm)⟩
def retS (f : FE) : FS := fun δ s => (f δ s).toS δ fun d s => .rt d s
theorem sv_ret (he : EV X W e f) : SV X W (.Return (some e) pos) (retS f) := by
  refine ps_weak (ps_ret he) fun Dn σ H ⟨dk, δ, s, F, er, st, q⟩ => ?_
  exact ⟨dk, δ, s, F, er, st, SPost.ofE er q fun a s1 v F1 H1 n rr q1 => q1 v F1 H1 (Nxt.refl n.st) rr⟩
def setS (i : Nat) (f : FE) : FS := fun δ s => (f δ s).toS δ fun d s => .nx (δ.set i (some d)) s
theorem sv_set {i : Nat} {e' : Expr} (h : ∀ te, PE X e te → PS X st (tAsg te (gName i))) (he : EV X W e f) : SV X W st (setS i f) := by
  refine ps_weak (h _ he) fun Dn σ H ⟨dk, δ, s, F, er, st, q⟩ => ?_
  exact ⟨dk, δ, s, F, er, st, SPost.ofE er q fun a s1 v F1 H1 n rr q1 => q1 _ F1 H1 (Nxt.refl n.st) ((er.mono n.sm).set rr)⟩
theorem sv_name {i : Nat} {x : Str} {pos' : Pos} (hN : X.N.Nodup) (hi : X.N[i]? = some x) (hx : Loc X.env.scope x) (he : EV X W e f) (hs : swapsWith e (some (.Name x pos')) pos.line X.env = pure false := by rfl) (hf : X.fn x = true ∨ X.env.scope.names.lookup x = some .local := by first | exact .inl rfl | exact .inr rfl | assumption) :
    SV X W (.Assign [.Name x pos'] e pos) (setS i f) := by
  refine ps_weak (ps_set hN hi hx he hs hf) fun Dn σ H ⟨dk, δ, s, F, er, st, q⟩ => ?_
  exact ⟨dk, δ, s, F, er, st, SPost.ofE er q fun a s1 v F1 H1 n rr q1 => q1 _ F1 H1 (Nxt.refl n.st) ((er.mono n.sm).set rr)⟩
/-- name = [..] -/
theorem sv_nameLc {i : Nat} {y : Str} {py : Pos} {elt : Expr} {ifs : List Expr} {scope : Scope} {own : List (Str × Nat)} {spos : Pos} {p : Pat} {fc : FT} {f : FE} (hc : X.calm = true) (hN : X.N.Nodup) (hy : X.N[i]? = some y) (hyl : X.env.scope.names.lookup y = some .local)
    (hsw : swapsWith (.ListComp elt [⟨tg, iter, ifs, 0⟩] scope pos) (some (.Name y py)) spos.line X.env = pure true) (hi : IV X W tg iter src) (ok : BlkOk X.N X.env.scope scope own)
    (hg : ∀ (s : Shared) (H : Hp) (C : Addr) (cl : List (Str × Addr)) (fp : List Addr), GV (X.blk s H scope (compEnvC scope cl C X.env) fp) tg p) (ht : ∀ (s : Shared) (H : Hp) (C : Addr) (cl : List (Str × Addr)) (fp : List Addr), TsV (X.blk s H scope (compEnvC scope cl C X.env) fp) W0 ifs fc)
    (he : ∀ (s : Shared) (H : Hp) (C : Addr) (cl : List (Str × Addr)) (fp : List Addr), EV (X.blk s H scope (compEnvC scope cl C X.env) fp) W0 elt f) (hs : ∀ x, foldedSetIterable iter X.env x = pure x := by intro _; rfl) :
    SV X W (.Assign [.Name y py] (.ListComp elt [⟨tg, iter, ifs, 0⟩] scope pos) spos) (setS i (lcD src p (own.map (·.2)) fc f)) := by
  refine ps_weak (ps_setLc (wi := tIV X.K X.mg W src) (g := tGV X.K p) (tt := tTV X.K X.mg W0 fc) (te := tEV X.K X.mg W0 f) hc hN hy hyl hsw hi ok hg ht he hs) fun Dn σ H ⟨dk, δ, s, F, er, st, q⟩ => ?_
  refine lc_core (W := W) (src := src) (p := p) (c := fc) (e := f) (fun _ _ _ z => z) (fun _ _ _ _ z => z) (fun _ _ _ z => z) (fun _ _ _ z => z) ⟨dk, δ, s, F, er, st, SPost.ofE er q fun a s1 v F1 H1 n rr q1 => q1 _ F1 H1 (Nxt.refl n.st) ((er.mono n.sm).set rr)⟩
def asgS (p : Pat) (f : FE) : FS := fun δ s => (f δ s).toS δ fun d s => match asgP p d with
  | some l => .nx (setD δ l) s
  | none => .bad
theorem sv_asg (he : EV X W e f) (hg : GV X tg p) (hs : swapsWithSole [tg] e pos.line X.env = pure false := by rfl) (hw : swappedStores [tg] e X.env = pure none := by rfl) (h1 : (assignEach [tg] X.env).map (·.2) = [assign tg X.env] := by rfl) :
    SV X W (.Assign [tg] e pos) (asgS p f) := by
  refine ps_weak (ps_asg he hg hs hw h1) fun Dn σ H ⟨dk, δ, s, F, er, st, q⟩ => ?_
  refine ⟨dk, δ, s, F, er, st, SPost.ofE er q fun a s1 v F1 H1 n rr q1 => ?_⟩
  split at q1
  · rename_i l hl
    exact ⟨dk, F1, a, l, n.st.sub, rr, hl, fun lv pr => q1 _ F1 H1 (Nxt.refl n.st) (EnvR.setAll pr (er.mono n.sm))⟩
  · exact q1.elim
/-- a, b = x, y -/
def parS (i j : Nat) (fs : FA) : FS := fun δ s => (fs δ s).toS δ fun ds s => match ds with
  | [d, e] => .nx ((δ.set i (some d)).set j (some e)) s
  | _ => .bad
theorem sv_par {i j : Nat} {x y : Str} {a b : Expr} {px py pt : Pos} {kt k2 pt2} (hc : X.calm = true) (hN : X.N.Nodup) (hi : X.N[i]? = some x) (hj : X.N[j]? = some y) (hij : i ≠ j)
    (hx : X.env.scope.names.lookup x = some .local) (hy : X.env.scope.names.lookup y = some .local) (ha : AV X W [a, b] fs)
    (hw : swappedStores [.Tuple [.Name x px, .Name y py] kt pt] (.Tuple [a, b] k2 pt2) X.env = pure (some [x, y]))
    (hs : swapsWithSole [.Tuple [.Name x px, .Name y py] kt pt] (.Tuple [a, b] k2 pt2) pos.line X.env = pure false := by rfl) :
    SV X W (.Assign [.Tuple [.Name x px, .Name y py] kt pt] (.Tuple [a, b] k2 pt2) pos) (parS i j fs) := by
  refine ps_weak (ps_par hc hN hi hj hij hx hy ha hw hs) fun Dn σ H ⟨dk, δ, s, F, er, st, q⟩ => ?_
  refine ⟨dk, δ, s, F, er, st, SPost.ofE er q fun a s1 v F1 H1 n rr q1 => ?_⟩
  split at q1
  · cases rr with
    | cons r1 r2 =>
      cases r2 with
      | cons r3 r4 =>
        cases r4
        exact ⟨_, _, rfl, q1 _ F1 H1 (Nxt.refl n.st) (((er.mono n.sm).set r1).set r3)⟩
  · exact q1.elim
def parS3 (i j l : Nat) (fs : FA) : FS := fun δ s => (fs δ s).toS δ fun ds s => match ds with
  | [d, e, h] => .nx (((δ.set i (some d)).set j (some e)).set l (some h)) s
  | _ => .bad
def iteS (c : FT) (g h : FS) : FS := fun δ s => (c δ s).toS δ fun k s => if k = true then g δ s else h δ s
theorem sv_if {a b : List Stmt} (hc : TV X W c fc) (ha : BV X W a g) (hb : BV X W b h) : SV X W (.If c a b pos) (iteS fc g h) := by
  refine ps_weak (ps_if hc ha hb) fun Dn σ H ⟨dk, δ, s, F, er, st, q⟩ => ?_
  refine ⟨dk, δ, s, F, er, st, SPost.ofE er q fun k s1 v F1 H1 n rr q1 => ?_⟩
  have rr : v = k := rr
  subst rr
  cases v with
  | true => exact ⟨dk, δ, s1, F1, er.mono n.sm, n.st, q1⟩
  | false => exact ⟨dk, δ, s1, F1, er.mono n.sm, n.st, q1⟩
theorem sv_break : SV X W (.Break pos) (fun δ s => .bk δ s) := ps_weak ps_break fun Dn σ H ⟨dk, δ, s, F, er, st, q⟩ => q σ F H (Nxt.refl st) er
theorem sv_cont : SV X W (.Continue pos) (fun δ s => .ct δ s) := ps_weak ps_continue fun Dn σ H ⟨dk, δ, s, F, er, st, q⟩ => q σ F H (Nxt.refl st) er

/-! ### for -/
def forD (b : D → FS) : List D → FS
  | [], δ, s => .nx δ s
  | x :: xs, δ, s => match b x δ s with
    | .nx δ' s' => forD b xs δ' s'
    | .ct δ' s' => forD b xs δ' s'
    | .bk δ' s' => .nx δ' s'
    | r => r
def turnS (p : Pat) (b : FS) : D → FS := fun x δ s => match asgP p x with
  | some l => b (setD δ l) s
  | none => .bad
def forS (src : FA) (p : Pat) (b : FS) : FS := fun δ s => (src δ s).toS δ fun xs s => forD (turnS p b) xs δ s
theorem sv_for (hp : PassesOwn (model X.prog X.w) X.A X.env X.xe) (hc : X.calm = true) (hi : IV X W tg iter src) (hg : GV X tg p) (hb : BV X W body g) (hs : ∀ x, foldedSetIterable iter X.env x = pure x := by intro _; rfl) :
    SV X W (.For tg iter body [] pos) (forS src p g) := by
  refine ps_weak (ps_for hp hc hi hg hb hs) fun Dn σ H ⟨dk, δ, s, F, er, st, q⟩ => ?_
  refine ⟨dk, δ, s, F, er, st, SPost.ofE er q fun ds s1 J F1 H1 n1 it q1 => ?_⟩
  refine ⟨fun i m σ' H' => m = ds.length - i ∧ i ≤ ds.length ∧ ∃ δ' s' F', Nxt X.K dk F1 H1 F' H' s' ∧ EnvR X.K dk F' σ' δ' ∧ SPost X.K X.mg dk W F' H' Dn (forD (turnS p g) (ds.drop i) δ' s'), ⟨ds.length, by simp, Nat.zero_le _, δ, s1, F1, Nxt.refl n1.st, er.mono n1.sm, q1⟩, ?_⟩
  rintro i m σ2 H2 ⟨rfl, hi2, δ2, s2, F2, n2, er2, q2⟩
  obtain ⟨J1, J2, J3⟩ := it i F2 H2 s2 n2.sm n2.st
  by_cases hlt : i < ds.length
  · refine .inr ⟨J1 hlt, fun σ' H' => ∃ δ' s' F', Nxt X.K dk F1 H1 F' H' s' ∧ EnvR X.K dk F' σ' δ' ∧ SPost X.K X.mg dk W F' H' Dn (forD (turnS p g) (ds.drop (i + 1)) δ' s'), fun σ' H' z => ⟨ds.length - (i + 1), by omega, rfl, hlt, z⟩, fun x H' y => ?_⟩
    obtain ⟨F3, d, hd, n3, rd⟩ := J3 x H' hlt y
    rw [drop_cons hd, forD] at q2
    unfold turnS at q2
    cases hl : asgP p d with
    | none => rw [hl] at q2; exact q2.elim
    | some l =>
      rw [hl] at q2
      refine ⟨dk, F3, d, l, n3.st.sub, rd, hl, fun lv pr => ?_⟩
      refine ⟨dk, _, s2, F3, EnvR.setAll pr (er2.mono n3.sm), n3.st, ?_⟩
      have q3 := SPost.later n3 q2
      dsimp only at q3
      cases hg : g (setD δ2 l) s2 with
      | nx δ' s' =>
        rw [hg] at q3
        exact fun σ' F' H4 n4 er4 => ⟨δ', s', F', n2.trans (n3.trans n4), er4, SPost.later n4 q3⟩
      | ct δ' s' =>
        rw [hg] at q3
        exact fun σ' F' H4 n4 er4 => ⟨δ', s', F', n2.trans (n3.trans n4), er4, SPost.later n4 q3⟩
      | bk δ' s' => rw [hg] at q3; exact q3
      | rt d s' => rw [hg] at q3; exact q3
      | raise e δ' s' => rw [hg] at q3; exact q3
      | bad => rw [hg] at q3; exact q3
  · have ei : i = ds.length := by omega
    subst ei
    rw [List.drop_length, forD] at q2
    exact .inl ⟨J2 (Nat.le_refl _), q2 σ2 F2 H2 (Nxt.refl n2.st) er2⟩

/-! ### while: with so many turns at most -/
def whileD (c : FT) (b : FS) : Nat → FS
  | 0, _, _ => .bad
  | n + 1, δ, s => (c δ s).toS δ fun k s => if k = true then (match b δ s with
    | .nx δ' s' => whileD c b n δ' s'
    | .ct δ' s' => whileD c b n δ' s'
    | .bk δ' s' => .nx δ' s'
    | r => r) else .nx δ s
def whileS (fuel : DEnv → Deck → Nat) (c : FT) (b : FS) : FS := fun δ s => whileD c b (fuel δ s) δ s
theorem sv_while {fuel : DEnv → Deck → Nat} (hp : PassesOwn (model X.prog X.w) X.A X.env X.xe) (hc : TV X W c fc) (hb : BV X W body g) : SV X W (.While c body [] pos) (whileS fuel fc g) := by
  refine ps_weak (ps_while hp hc hb) fun Dn σ H ⟨dk, δ, s, F, er, st, q⟩ => ?_
  refine ⟨fun m σ' H' => ∃ δ' s' F', Stt X.K dk F' H' s' ∧ EnvR X.K dk F' σ' δ' ∧ SPost X.K X.mg dk W F' H' Dn (whileD fc g m δ' s'), ⟨fuel δ s, δ, s, F, st, er, q⟩, ?_⟩
  rintro m σ2 H2 ⟨δ2, s2, F2, st2, er2, q2⟩
  cases m with
  | zero => exact q2.elim
  | succ m =>
    rw [whileD] at q2
    refine ⟨dk, δ2, s2, F2, er2, st2, SPost.ofE er2 q2 fun k s3 v F3 H3 n3 rr q3 => ?_⟩
    have rr : v = k := rr
    subst rr
    cases v with
    | false => exact q3 σ2 F3 H3 (Nxt.refl n3.st) (er2.mono n3.sm)
    | true =>
      rw [if_pos rfl] at q3 ⊢
      refine ⟨fun σ' H' => ∃ δ' s' F', Stt X.K dk F' H' s' ∧ EnvR X.K dk F' σ' δ' ∧ SPost X.K X.mg dk W F' H' Dn (whileD fc g m δ' s'), fun σ' H' z => ⟨m, Nat.lt_succ_self m, z⟩, dk, δ2, s3, F3, er2.mono n3.sm, n3.st, ?_⟩
      cases hg : g δ2 s3 with
      | nx δ' s' =>
        rw [hg] at q3
        exact fun σ' F' H4 n4 er4 => ⟨δ', s', F', n4.st, er4, SPost.later n4 q3⟩
      | ct δ' s' =>
        rw [hg] at q3
        exact fun σ' F' H4 n4 er4 => ⟨δ', s', F', n4.st, er4, SPost.later n4 q3⟩
      | bk δ' s' => rw [hg] at q3; exact q3
      | rt d s' => rw [hg] at q3; exact q3
      | raise e δ' s' => rw [hg] at q3; exact q3
      | bad => rw [hg] at q3; exact q3
end

/-! ### a def -/
/-- a def's worth, by its body's -/
def toR : RS → R D
  | .rt d s => .ok d s
  | .nx _ s => .ok .non s
  | .raise e _ s => .raise e s
  | _ => .bad
/-- the slots at the start: the arguments, then nothing -/
def startD (n : Nat) (ds : List D) : DEnv := ds.map some ++ List.replicate (n - ds.length) none
def defM (n : Nat) (g : FS) : List D → M D := fun ds s => toR (g (startD n ds) s)
section
variable {P : Program} {w : World} {K : PySem.W.Frag} {mg : Str → Option Value} {base : Heap}
theorem start_env {K : PySem.W.Frag} {dk : Addr} {F : Hp} {N : List Str} {vs : List V} {ds : List D} (h : RpAll K dk F vs ds) (hl : vs.length ≤ N.length) : EnvR K dk F (L2.start N vs) (startD N.length ds) := by
  have e := h.length
  refine ⟨by unfold L2.start startD; simp; omega, fun i d q => ?_⟩
  unfold startD at q
  by_cases hi : i < ds.length
  · rw [List.getElem?_append_left (by simpa using hi), List.getElem?_map] at q
    cases hd : ds[i]? with
    | none => rw [hd] at q; cases q
    | some d' =>
      rw [hd] at q
      have q' : some (some d') = some (some d) := q
      cases q'
      obtain ⟨v, hv, r⟩ := h.get hd
      refine ⟨v, ?_, r⟩
      unfold L2.start
      rw [List.getElem?_append_left (by simp; omega), List.getElem?_map, hv]
      rfl
  · rw [List.getElem?_append_right (by simpa using Nat.le_of_not_lt hi)] at q
    have z := List.mem_of_getElem? q
    have z2 := List.eq_of_mem_replicate z
    cases z2
theorem fn_def {x qual : Str} {st : Stmt} {f : Addr} {fd : FuncData} {N ps : List Str} {k : Nat} {g : FS} (Fn : Fun K x qual st f fd) (S : FnScope N ps (defScope st)) (hN : ps.length ≤ N.length)
    (hbody : ∀ (cdv : Value) (A : Around) (outer : List Env) (s : Shared) (H : Hp) (E : XK), Room k (A.deeper (PyProof.Rows.envOfC qual (defScope st) s.heap.objs.size f cdv)) →
      BV (cxOf (L2.CX P w) P w K mg base N qual (defScope st) f cdv A outer s H E) (fun cls d _ H => E cls d H) (defBody st) g) : FnOk P w K mg base (L2.CX P w) (k + 1) f fd ps (spD K mg ps.length (defM N.length g)) := by
  refine Fn.okX S (fun vs H Q E h => ?_) (fun cdv A outer s H vs Q E hr h => ?_)
  · obtain ⟨dk, ds, s, F, st, r, hl, _⟩ := h
    rw [r.length, hl]
  · obtain ⟨dk, ds, sd, F, st, r, hl, q⟩ := h
    refine ⟨_, hbody cdv A outer s H E hr, dk, startD N.length ds, sd, F, start_env r (by rw [r.length, hl]; exact hN), st, ?_⟩
    unfold defM at q
    cases hg : g (startD N.length ds) sd with
    | nx δ' s' => rw [hg] at q; exact fun σ' F' H' n er => q .non F' H' n .non
    | rt d s' => rw [hg] at q; exact fun v F' H' n rr => q v F' H' n rr
    | raise e δ' s' => rw [hg] at q; exact fun σ' C dd F' H' n er hm hx => q C dd F' H' n hm hx
    | bk δ' s' => rw [hg] at q; exact q.elim
    | ct δ' s' => rw [hg] at q; exact q.elim
    | bad => rw [hg] at q; exact q.elim
end
end FL

namespace FL
open PySem PySem.Spec L2

/-! ### defs that are called where nothing is being shown (repr) -/
structure FnG (P : Program) (w : World) (K : PySem.W.Frag) (mg : Str → Option Value) (base : Heap) (k : Nat) (f : Addr) (fd : FuncData) (ps : List Str) (sp : Sp) : Prop where
  len : ∀ vs H Q E, sp vs H Q E → vs.length = ps.length
  run : ∀ (A : Around) (outer : List Env) (s : Shared) (H : Hp) (args : Args) (us : List Value) (vs : List V) (Q : VK) (E : XK), Room k A → A.guards = some [] → Env0 P w K mg base A outer s H →
    BindsTo s fd args (ps.zip us) → Vals vs us → sp vs H Q E → codeAny (model P w) A (.call (.ref f) args) (CR (L2.CX P w) outer P w H s Q E) s
theorem FnG.mono {P : Program} {w : World} {K : PySem.W.Frag} {mg : Str → Option Value} {base : Heap} {j k : Nat} {f : Addr} {fd : FuncData} {ps : List Str} {sp : Sp} (Fn : FnG P w K mg base j f fd ps sp) (h : j ≤ k) : FnG P w K mg base k f fd ps sp :=
  ⟨Fn.len, fun A outer s H args us vs Q E hr => Fn.run A outer s H args us vs Q E (hr.mono h)⟩
theorem FnG.imp {P : Program} {w : World} {K : PySem.W.Frag} {mg : Str → Option Value} {base : Heap} {k : Nat} {f : Addr} {fd : FuncData} {ps : List Str} {sp sp' : Sp} (Fn : FnG P w K mg base k f fd ps sp) (h : ∀ vs H Q E, sp' vs H Q E → sp vs H Q E) : FnG P w K mg base k f fd ps sp' :=
  ⟨fun vs H Q E q => Fn.len vs H Q E (h _ _ _ _ q), fun A outer s H args us vs Q E hr hg e0 hb hv hs => Fn.run A outer s H args us vs Q E hr hg e0 hb hv (h _ _ _ _ hs)⟩
theorem fn_ofG {P : Program} {w : World} {K : PySem.W.Frag} {mg : Str → Option Value} {base : Heap} {x qual : Str} {st : Stmt} {f : Addr} {fd : FuncData} {N ps : List Str} {k : Nat} {sp : Sp} (Fn : Fun K x qual st f fd) (S : FnScope N ps (defScope st))
    (len : ∀ vs H Q E, sp vs H Q E → vs.length = ps.length)
    (hbody : ∀ (cdv : Value) (A : Around) (outer : List Env) (s : Shared) (H : Hp) (vs : List V) (Q : VK) (E : XK), Room k (A.deeper (PyProof.Rows.envOfC qual (defScope st) s.heap.objs.size f cdv)) → A.guards = some [] → sp vs H Q E →
      ∃ t, PSs (cxOf (L2.CX P w) P w K mg base N qual (defScope st) f cdv A outer s H E) (defBody st) t ∧ t { nx := fun _ H' => Q .non H', rt := Q } (L2.start N vs) H) : FnG P w K mg base (k + 1) f fd ps sp := by
  obtain ⟨oc, od, kV, doc, pm, an, cdv, ct, osl, rfl, lk, hcd⟩ := Fn.ex
  refine ⟨len, fun A outer s H args us vs Q E room hgd e0 bnd rel hsp => ?_⟩
  have hlen := len _ _ _ _ hsp
  have keep0 : ∀ b o, base.get? b = some o → s.heap.get? b = some o := fun b o e => (e0.bs b o e).1
  have kin : K.In s.heap := e0.mod.kin.keeps keep0
  have lim : s.heap.NoLimit := e0.mod.nolimit.keeps keep0
  refine codeAny_call_function room.depth (kin _ _ lk) rfl S.co S.gen rfl (PySem.W.codeRec_of kin hcd) (bnd _ _ _ _ ?_)
  refine wpAny_newFunctionEnv_cells S.kind (fun y hy => ?_) fun env he s1 cells => ?_
  · obtain ⟨n, v⟩ := y
    cases S.par n (List.of_mem_zip hy).1 with
    | inl q => exact .inl q
    | inr q => exact .inr ⟨q, PySem.W.cellsFrom_some _ _ _ (.inl q)⟩
  subst he
  refine ⟨lim.keeps cells.toInCall.keep, codeAny_func ?_⟩
  obtain ⟨t, ht, hq⟩ := hbody cdv A outer s H vs Q E (room.deeper _) hgd hsp
  have I := inv_start (CX := L2.CX P w) (E := E) S room.hd e0 hlen rel cells
  refine wpAny_mono (ht.run [] s1 (L2.start N vs) H _ I hq) (fun fl s' hs => ?_) fun e s' hs => hs
  cases fl with
  | ret u =>
    obtain ⟨v, σ', H', J, rv, q⟩ := hs
    exact ⟨v, H', J.os, J.bare, J.base, J.hok, rv, q⟩
  | next =>
    obtain ⟨σ', H', J, q⟩ := hs
    exact ⟨V.non, H', J.os, J.bare, J.base, J.hok, rfl, q⟩
  | brk => exact hs.elim fun _ h => h.elim fun _ h => h.2.elim
  | cont => exact hs.elim fun _ h => h.elim fun _ h => h.2.elim
section
variable {X : Cx} {k : Nat} {f : Addr} {fd : FuncData} {ps : List Str} {sp : Sp} {E : List (Option V) → XK} {x : Str} {p pos : Pos} {e : Expr} {es : List Expr} {t : TA} {ds : List Value} {dvs : List V}
theorem run_fnG {pins : List (Addr × Obj)} {σ : List (Option V)} {H : Hp} {s : Shared} {Q : VK} {us : List Value} {vs : List V} (Fn : FnG X.prog X.w X.K X.mg X.base k f fd ps sp) (hr : Room k X.A) (hgd : X.A.guards = some []) (hb : Binds X.K fd ps ds) (hd : Vals dvs ds) (hx : PassesAt (L2.CX X.prog X.w) X σ (E σ))
    (I : Inv X pins σ H s) (r : Vals vs us) (h : sp (vs ++ dvs) H Q (E σ)) : wpAny (model X.prog X.w) X.A (call (.ref f) us) (EP X pins σ Q) X.xe s := by
  have r2 := r.append hd
  have len2 : (us ++ ds).length = ps.length := by rw [← r2.length]; exact Fn.len _ _ _ _ h
  refine wpAny_call (codeAny_mono (Fn.run X.A X.stack s H ⟨us, []⟩ (us ++ ds) (vs ++ dvs) Q (E σ) hr hgd I.env0 (hb s us I.kIn len2) r2 h) fun r' s' hq => ?_)
  cases r' with
  | error er => exact hx pins H s er s' I hq
  | ok fl =>
    cases fl with
    | ret u => exact I.after hq
    | next => exact hq.elim
    | brk => exact hq.elim
    | cont => exact hq.elim
theorem pe_callG (Fn : FnG X.prog X.w X.K X.mg X.base k f fd ps sp) (hr : Room k X.A) (hgd : X.A.guards = some []) (hg : Gl X x) (hm : X.mg x = some (.ref f)) (hk : PySem.W.keepIn X.K (.ref f) = true) (hb : Binds X.K fd ps ds) (hd : Vals dvs ds) (hx : ∀ σ, PassesAt (L2.CX X.prog X.w) X σ (E σ))
    (ha : PA X (e :: es) t) (hdb : (x == ("__debug__" : Str)) = false := by decide) (he : starEach (e :: es) X.env = (false, eval e X.env) :: starEach es X.env := by rfl) (hpl : (backTo pos (starEach es X.env)).any (·.1) = false := by rfl) :
    PE X (.Call (.Name x p) (e :: es) [] pos) (fun σ H Q => t σ H fun vs H1 => sp (vs ++ dvs) H1 Q (E σ)) := by
  refine ⟨fun pins s σ H Q I h => ?_⟩
  refine wpAny_Call_Name_kw (ld_glob I hg hm ?_ hdb)
  refine PySem.W.callWith_K (h₀ := X.base) I.ok.mod.kin hk (thn (ha.run pos pins s σ H _ I h) fun us s1 hh => ?_) he hpl
  obtain ⟨vs, H1, I1, r, q⟩ := hh
  exact ⟨I1.kIn, run_fnG Fn hr hgd hb hd (hx σ) I1 r q⟩
end
section
variable {X : Cx} {W : WX} {a : Expr} {es : List Expr} {fs : FA} {pos p : Pos}
theorem ev_callG {x : Str} {k n : Nat} {fn : Addr} {fd : FuncData} {ps : List Str} {m : List D → M D} (G : FnG X.prog X.w X.K X.mg X.base k fn fd ps (spD X.K X.mg n m)) (hr : Room k X.A) (hgd : X.A.guards = some []) (hg : Gl X x) (hm : X.mg x = some (.ref fn)) (hk : PySem.W.keepIn X.K (.ref fn) = true) (hb : Binds X.K fd ps [])
    (tk : Takes X W) (ha : AV X W (a :: es) fs) (hdb : (x == ("__debug__" : Str)) = false := by decide) (he : starEach (a :: es) X.env = (false, eval a X.env) :: starEach es X.env := by rfl) (hpl : (backTo pos (starEach es X.env)).any (·.1) = false := by rfl) :
    EV X W (.Call (.Name x p) (a :: es) [] pos) (withA fs (callN n m)) := by
  refine pe_weak (pe_callG (E := WE W) (dvs := []) G hr hgd hg hm hk hb .nil (fun σ => passAt tk σ) ha hdb he hpl) fun σ H Q ⟨dk, δ, s, F, er, st, q⟩ => ?_
  refine ⟨dk, δ, s, F, er, st, EPost.bind q fun xs s1 vs F1 H1 n r q1 => ?_⟩
  unfold callN at q1
  split at q1
  · rename_i hl
    rw [List.append_nil]
    exact ⟨dk, xs, s1, F1, n.st, r, hl, q1⟩
  · exact q1.elim
end
section
variable {P : Program} {w : World} {K : PySem.W.Frag} {mg : Str → Option Value} {base : Heap}
theorem fn_defG {x qual : Str} {st : Stmt} {f : Addr} {fd : FuncData} {N ps : List Str} {k : Nat} {g : FS} (Fn : Fun K x qual st f fd) (S : FnScope N ps (defScope st)) (hN : ps.length ≤ N.length)
    (hbody : ∀ (cdv : Value) (A : Around) (outer : List Env) (s : Shared) (H : Hp) (E : XK), Room k (A.deeper (PyProof.Rows.envOfC qual (defScope st) s.heap.objs.size f cdv)) → A.guards = some [] →
      BV (cxOf (L2.CX P w) P w K mg base N qual (defScope st) f cdv A outer s H E) (fun cls d _ H => E cls d H) (defBody st) g) : FnG P w K mg base (k + 1) f fd ps (spD K mg ps.length (defM N.length g)) := by
  refine fn_ofG Fn S (fun vs H Q E h => ?_) (fun cdv A outer s H vs Q E hr hgd h => ?_)
  · obtain ⟨dk, ds, s, F, st, r, hl, _⟩ := h
    rw [r.length, hl]
  · obtain ⟨dk, ds, sd, F, st, r, hl, q⟩ := h
    refine ⟨_, hbody cdv A outer s H E hr hgd, dk, startD N.length ds, sd, F, start_env r (by rw [r.length, hl]; exact hN), st, ?_⟩
    unfold defM at q
    cases hg : g (startD N.length ds) sd with
    | nx δ' s' => rw [hg] at q; exact fun σ' F' H' n er => q .non F' H' n .non
    | rt d s' => rw [hg] at q; exact fun v F' H' n rr => q v F' H' n rr
    | raise e δ' s' => rw [hg] at q; exact fun σ' C dd F' H' n er hm hx => q C dd F' H' n hm hx
    | bk δ' s' => rw [hg] at q; exact q.elim
    | ct δ' s' => rw [hg] at q; exact q.elim
    | bad => rw [hg] at q; exact q.elim
end
end FL

namespace FL
open PySem PySem.Spec L2

/-! ### operators on trees -/
def pureM (o : Option D) : M D := fun s => match o with
  | some d => .ok d s
  | none => .bad
theorem epost_pure {K : PySem.W.Frag} {mg : Str → Option Value} {dk : Addr} {Wx : XK} {F H : Hp} {s : Deck} {o : Option D} {Q : VK} (st : Stt K dk F H s) (q : EPost K mg dk (RelD K dk) Wx F H Q (pureM o s)) : ∃ d, o = some d ∧ ∀ v, Rp K dk F v d → Q v H := by
  cases o with
  | none => exact q.elim
  | some d => exact ⟨d, rfl, fun v r => EPost.ok q st r⟩
def addM (a b : D) : M D := match a, b with
  | .int i, .int j => fun s => .ok (.int (i + j)) s
  | .str x, .str y => fun s => if x.length + y.length ≤ 16777216 then .ok (.str (x ++ y)) s else .bad
  | .lst x, .lst y => mkLst (x ++ y)
  | _, _ => fun _ => .bad
def rAddM : R2 := fun x y H Q => (rI0 fun i j => .int (i + j)) x y H Q ∨ (∃ i j, x = .str i ∧ y = .str j ∧ i.length + j.length ≤ sizeLine ∧ Q (.str (i ++ j)) H) ∨ rCat x y H Q
section
variable {X : Cx}
theorem op_addM : OpR X (binaryOp .Add) rAddM := op_add.or (op_add_str.or op_cat)
theorem m_add : OpM X rAddM addM := by
  intro dk Wx F H s x y dx dy Q st rx ry q
  unfold addM at q
  split at q
  · cases rx; cases ry
    exact .inl ⟨_, _, rfl, rfl, EPost.ok q st (.int _)⟩
  · cases rx; cases ry
    split at q
    · rename_i hz
      exact .inr (.inl ⟨_, _, rfl, rfl, by rw [sizeLine_eq]; exact hz, EPost.ok q st (.str _)⟩)
    · exact q.elim
  · cases rx with
    | lst h1 k1 =>
      cases ry with
      | lst h2 k2 =>
        obtain ⟨hz, hq⟩ := epost_lst st (k1.append k2) q
        rw [List.length_append] at hz
        exact .inr (.inr ⟨_, _, _, _, rfl, rfl, st.sub _ _ h1, st.sub _ _ h2, hz, hq⟩)
  · exact q.elim
/-- ints, under a condition -/
def intM (c : Int → Int → Bool) (g : Int → Int → D) (a b : D) : M D := match a, b with
  | .int i, .int j => fun s => if c i j = true then .ok (g i j) s else .bad
  | _, _ => fun _ => .bad
theorem m_int {C : Int → Int → Prop} {c : Int → Int → Bool} {g : Int → Int → V} {g' : Int → Int → D} (hc : ∀ i j, c i j = true → C i j) (hg : ∀ i j K dk F, Rp K dk F (g i j) (g' i j)) : OpM X (rI C g) (intM c g') := by
  intro dk Wx F H s x y dx dy Q st rx ry q
  unfold intM at q
  split at q
  · cases rx; cases ry
    split at q
    · rename_i hz
      exact ⟨_, _, rfl, rfl, hc _ _ hz, EPost.ok q st (hg _ _ _ _ _)⟩
    · exact q.elim
  · exact q.elim
theorem m_int0 {g : Int → Int → V} {g' : Int → Int → D} (hg : ∀ i j K dk F, Rp K dk F (g i j) (g' i j)) : OpM X (rI0 g) (intM (fun _ _ => true) g') := by
  intro dk Wx F H s x y dx dy Q st rx ry q
  unfold intM at q
  split at q
  · cases rx; cases ry
    rw [if_pos rfl] at q
    exact ⟨_, _, rfl, rfl, EPost.ok q st (hg _ _ _ _ _)⟩
  · exact q.elim
def subM : D → D → M D := intM (fun _ _ => true) fun i j => .int (i - j)
theorem m_sub : OpM X (rI0 fun i j => .int (i - j)) subM := m_int0 fun _ _ _ _ _ => .int _
def mulB (i j : Int) : Bool := decide (i.natAbs.log2 + j.natAbs.log2 < 1000000)
def mul64 (i j : Int) : Bool := decide ((-(2 ^ 64) < i ∧ i < 2 ^ 64) ∨ (-(2 ^ 64) < j ∧ j < 2 ^ 64))
def mulM : D → D → M D := intM (fun i j => mulB i j || mul64 i j) fun i j => .int (i * j)
theorem op_mulA : OpR X (binaryOp .Mult) (rI (fun i j => CMulW i j ∨ CMul i j) fun i j => .int (i * j)) := opI fun i j t u s Q E hc q => PyProof.Rows.mul_int q (hc.elim CMulW.ok CMul.ok)
theorem m_mul : OpM X (rI (fun i j => CMulW i j ∨ CMul i j) fun i j => .int (i * j)) mulM := m_int (fun i j h => by
  rcases Bool.or_eq_true_iff.mp h with h | h
  · exact .inl (show i.natAbs.log2 + j.natAbs.log2 < 1000000 from of_decide_eq_true h)
  · exact .inr (show (-(2 ^ 64) < i ∧ i < 2 ^ 64) ∨ (-(2 ^ 64) < j ∧ j < 2 ^ 64) from of_decide_eq_true h)) fun _ _ _ _ _ => .int _
def modM : D → D → M D := intM (fun _ j => decide (0 < j)) fun i j => .int (i % j)
theorem m_mod : OpM X (rI (fun _ j => 0 < j) fun i j => .int (i % j)) modM := m_int (fun _ _ h => of_decide_eq_true h) fun _ _ _ _ _ => .int _
def divB (j : Int) : Bool := decide (0 < j ∧ j.natAbs.log2 < 9000)
def fdivM : D → D → M D := intM (fun _ j => divB j) fun i j => .int (i / j)
theorem m_fdiv : OpM X (rI CDivW fun i j => .int (i / j)) fdivM := m_int (fun _ j h => (show 0 < j ∧ j.natAbs.log2 < 9000 from of_decide_eq_true h)) fun _ _ _ _ _ => .int _
def powB (i j : Int) : Bool := decide (0 ≤ j ∧ j ≤ 1000000 ∧ i.natAbs < 2 ^ 64)
def powM : D → D → M D := intM powB fun i j => .int (i ^ j.toNat)
theorem m_pow : OpM X (rI CPow fun i j => .int (i ^ j.toNat)) powM := m_int (fun i j h => (show 0 ≤ j ∧ j ≤ 1000000 ∧ i.natAbs < 2 ^ 64 from of_decide_eq_true h)) fun _ _ _ _ _ => .int _
def ltM : D → D → M D := intM (fun _ _ => true) fun i j => .bl (decide (i < j))
def leM : D → D → M D := intM (fun _ _ => true) fun i j => .bl (decide (i ≤ j))
def gtM : D → D → M D := intM (fun _ _ => true) fun i j => .bl (decide (j < i))
def geM : D → D → M D := intM (fun _ _ => true) fun i j => .bl (decide (j ≤ i))
theorem m_lt : OpM X (rI0 fun i j => .bl (decide (i < j))) ltM := m_int0 fun _ _ _ _ _ => .bl _
theorem m_le : OpM X (rI0 fun i j => .bl (decide (i ≤ j))) leM := m_int0 fun _ _ _ _ _ => .bl _
theorem m_gt : OpM X (rI0 fun i j => .bl (decide (j < i))) gtM := m_int0 fun _ _ _ _ _ => .bl _
theorem m_ge : OpM X (rI0 fun i j => .bl (decide (j ≤ i))) geM := m_int0 fun _ _ _ _ _ => .bl _
def negM (d : D) : M D := match d with
  | .int i => fun s => .ok (.int (-i)) s
  | _ => fun _ => .bad

/-! ### equality -/
mutual
def py : D → Option PyData
  | .non => some .none
  | .bl b => some (.bool b)
  | .int i => some (.int i)
  | .str x => some (.str x)
  | .lst xs => (pys xs).map .list
  | .tup xs => (pys xs).map .tuple
  | .dct kvs => (pykv kvs).map .dict
  | .deck => none
def pys : List D → Option (List PyData)
  | [] => some []
  | x :: xs => (py x).bind fun a => (pys xs).map fun b => a :: b
def pykv : List (Key × D) → Option (List (PyData × PyData))
  | [] => some []
  | (k, x) :: xs => (py x).bind fun a => (pykv xs).map fun b => ((match k with | .inl i => PyData.int i | .inr z => PyData.str z), a) :: b
end
mutual
theorem dp_of {K : PySem.W.Frag} {dk : Addr} {F H : Hp} (sm : Same F H) : ∀ {v : V} {d : D} {p : PyData}, Rp K dk F v d → py d = some p → p.canLay0 = true → Dp K H v p
  | _, _, _, .non, e, _ => by unfold py at e; cases e; exact .non
  | _, _, _, .bl b, e, _ => by unfold py at e; cases e; exact .bl b
  | _, _, _, .int b, e, _ => by unfold py at e; cases e; exact .int b
  | _, _, _, .str b, e, _ => by unfold py at e; cases e; exact .str b
  | _, _, p, .lst (ds := ds) h k, e, c => by
    rw [py] at e
    cases e2 : pys ds with
    | none => rw [e2] at e; cases e
    | some ps =>
      rw [e2] at e; cases e
      exact .lst (SqL.of (sm _ _ h)) (dpAll_of sm k e2 (by simpa [PyData.canLay0] using c))
  | _, _, p, .tup (ds := ds) h k, e, c => by
    rw [py] at e
    cases e2 : pys ds with
    | none => rw [e2] at e; cases e
    | some ps =>
      rw [e2] at e; cases e
      exact .tup (seqT sm h) (dpAll_of sm k e2 (by simpa [PyData.canLay0] using c))
  | _, _, p, .dct (ds := ds) h k1 k, e, c => by
    rw [py] at e
    cases e2 : pykv ds with
    | none => rw [e2] at e; cases e
    | some ps =>
      rw [e2] at e; cases e
      simp [PyData.canLay0] at c
  | _, _, _, .deck, e, _ => by unfold py at e; cases e
theorem dpAll_of {K : PySem.W.Frag} {dk : Addr} {F H : Hp} (sm : Same F H) : ∀ {v : List V} {d : List D} {p : List PyData}, RpAll K dk F v d → pys d = some p → PyData.canLayAll0 p = true → DpAll K H v p
  | _, _, _, .nil, e, _ => by unfold pys at e; cases e; exact .nil
  | _, _, p, .cons (d := d) (ds := ds) h k, e, c => by
    rw [pys] at e
    cases e1 : py d with
    | none => rw [e1] at e; cases e
    | some a =>
      rw [e1] at e
      cases e2 : pys ds with
      | none => rw [e2] at e; cases e
      | some b =>
        rw [e2] at e; cases e
        have c' : a.canLay0 = true ∧ PyData.canLayAll0 b = true := by simpa [PyData.canLayAll0] using c
        exact .cons (dp_of sm h e1 c'.1) (dpAll_of sm k e2 c'.2)
end
def eqO (a b : D) : Option Bool := match py a, py b with
  | some p, some q => if SeqAt.shaped p = true then (if SeqAt.shaped q = true then some (PyData.eqv p q) else none) else none
  | _, _ => none
def eqM (a b : D) : M D := pureM ((eqO a b).map .bl)
def neM (a b : D) : M D := pureM ((eqO a b).map fun k => .bl (!k))
theorem eqO_some {K : PySem.W.Frag} {dk : Addr} {F H : Hp} {x y : V} {a b : D} {k : Bool} (sm : Same F H) (rx : Rp K dk F x a) (ry : Rp K dk F y b) (h : eqO a b = some k) : ∃ d e, Dp K H x d ∧ Dp K H y e ∧ SeqAt.shaped d = true ∧ SeqAt.shaped e = true ∧ k = PyData.eqv d e := by
  unfold eqO at h
  split at h
  · rename_i p q hp hq
    split at h
    · rename_i s1
      split at h
      · rename_i s2
        cases h
        exact ⟨p, q, dp_of sm rx hp (SeqAt.canLay_of_shaped s1), dp_of sm ry hq (SeqAt.canLay_of_shaped s2), s1, s2, rfl⟩
      · cases h
    · cases h
  · cases h
theorem m_eq : OpM X (rEqD X.K) eqM := by
  intro dk Wx F H s x y dx dy Q st rx ry q
  obtain ⟨d, e, hq⟩ := epost_pure st q
  cases h : eqO dx dy with
  | none => rw [h] at e; cases e
  | some k =>
    rw [h] at e; cases e
    obtain ⟨d1, d2, a1, a2, a3, a4, rfl⟩ := eqO_some st.sub rx ry h
    exact ⟨d1, d2, a1, a2, a3, a4, hq _ (.bl _)⟩
theorem m_ne : OpM X (rNeD X.K) neM := by
  intro dk Wx F H s x y dx dy Q st rx ry q
  obtain ⟨d, e, hq⟩ := epost_pure st q
  cases h : eqO dx dy with
  | none => rw [h] at e; cases e
  | some k =>
    rw [h] at e; cases e
    obtain ⟨d1, d2, a1, a2, a3, a4, rfl⟩ := eqO_some st.sub rx ry h
    exact ⟨d1, d2, a1, a2, a3, a4, hq _ (.bl _)⟩

/-! ### subscripts, slices -/
def getM (a b : D) : M D := match a, b with
  | .lst xs, .int i => pureM (atI xs i)
  | .tup xs, .int i => pureM (atI xs i)
  | .str z, .int i => fun s => if z.length ≤ 16777216 then (match atI z.cps.toList i with | some c => .ok (.str ⟨#[c]⟩) s | none => .bad) else .bad
  | .deck, .int 0 => fun s => .ok (.lst (s.cells.map .int)) s
  | .deck, .int 1 => fun s => .ok (.int s.turn) s
  | .deck, .int 2 => fun s => .ok (.int s.left) s
  | _, _ => fun _ => .bad
theorem atI_rp {K : PySem.W.Frag} {dk : Addr} {F : Hp} {vs : List V} {ds : List D} {i : Int} {d : D} (r : RpAll K dk F vs ds) (h : atI ds i = some d) : ∃ v, atI vs i = some v ∧ Rp K dk F v d := by
  unfold atI at h ⊢
  rw [r.length]
  cases e : ixN ds.length i with
  | none => rw [e] at h; cases h
  | some j =>
    rw [e] at h
    exact r.get h
theorem ints_rp {K : PySem.W.Frag} {dk : Addr} {F : Hp} : ∀ ns : List Int, RpAll K dk F (ns.map V.int) (ns.map D.int)
  | [] => .nil
  | n :: ns => .cons (.int n) (ints_rp ns)
def rGet (K : PySem.W.Frag) : R2 := fun x y H Q => (∃ p xs i v, x = .ref p ∧ y = .int i ∧ SqL K H p xs ∧ atI xs i = some v ∧ Q v H) ∨ rIxT K x y H Q ∨ rIxS x y H Q
theorem m_get : OpM X (rIx X.K) getM := by
  intro dk Wx F H s x y dx dy Q st rx ry q
  unfold getM at q
  split at q
  · cases rx with
    | lst h k =>
      cases ry
      obtain ⟨d, e, hq⟩ := epost_pure st q
      obtain ⟨v, hv, r⟩ := atI_rp k e
      exact .inl ⟨_, _, _, v, rfl, rfl, SqL.of (st.sub _ _ h), hv, hq v r⟩
  · cases rx with
    | tup h k =>
      cases ry
      obtain ⟨d, e, hq⟩ := epost_pure st q
      obtain ⟨v, hv, r⟩ := atI_rp k e
      exact .inr (.inl ⟨_, _, _, v, rfl, rfl, seqT st.sub h, hv, hq v r⟩)
  · cases rx; cases ry
    split at q
    · rename_i hz
      split at q
      · rename_i c hc
        exact .inr (.inr ⟨_, _, _, rfl, rfl, by rw [sizeLine_eq]; exact hz, hc, EPost.ok q st (.str _)⟩)
      · exact q.elim
    · exact q.elim
  · cases rx; cases ry
    obtain ⟨cl, h1, h2⟩ := st.deck
    exact .inl ⟨dk, _, 0, .ref cl, rfl, rfl, SqL.of h1, rfl, EPost.ok q st (.lst h2 (ints_rp _))⟩
  · cases rx; cases ry
    obtain ⟨cl, h1, h2⟩ := st.deck
    exact .inl ⟨dk, _, 1, .int s.turn, rfl, rfl, SqL.of h1, rfl, EPost.ok q st (.int _)⟩
  · cases rx; cases ry
    obtain ⟨cl, h1, h2⟩ := st.deck
    exact .inl ⟨dk, _, 2, .int s.left, rfl, rfl, SqL.of h1, rfl, EPost.ok q st (.int _)⟩
  · exact q.elim
variable {W : WX} {a b e : Expr} {f g : FE} {pos p2 : Pos}
theorem ev_get (ha : EV X W a f) (hb : EV X W b g) (hs : PlainIx b := by exact fun _ _ => rfl) : EV X W (.Subscript a b pos) (lift2 getM f g) :=
  pe_weak (pe_ix ix_seq ha hb hs) fun σ H Q q => two (fun _ _ _ z => z) (fun _ _ _ z => z) m_get q
/-- a slice's part -/
inductive Prt where
  | no
  | at (f : FE)
def prtM : Prt → DEnv → M (Option Int)
  | .no, _, s => .ok none s
  | .at f, δ, s => (f δ s).bind fun d s => match d with
    | .int i => .ok (some i) s
    | _ => .bad
def tPV (K : PySem.W.Frag) (mg : Str → Option Value) (W : WX) (f : DEnv → M (Option Int)) : TO := fun σ H Q => ∃ dk δ s F, EnvR K dk F σ δ ∧ Stt K dk F H s ∧ EPost K mg dk (fun _ (a b : Option Int) => a = b) (WE W σ) F H Q (f δ s)
def PV (X : Cx) (W : WX) (e : Option Expr) (f : Prt) : Prop := PO X e (tPV X.K X.mg W (prtM f))
theorem po_weak {X : Cx} {e : Option Expr} {t t' : TO} (h : PO X e t) (k : ∀ σ H Q, t' σ H Q → t σ H Q) : PO X e t' := ⟨fun pins s σ H Q I q => h.run pins s σ H Q I (k σ H Q q)⟩
theorem pv_no : PV X W none .no := po_weak po_none fun σ H Q ⟨dk, δ, s, F, er, st, q⟩ => EPost.ok (v := (none : Option Int)) q st rfl
theorem pv_at (h : EV X W a f) : PV X W (some a) (.at f) := by
  refine po_weak (po_some h) fun σ H Q ⟨dk, δ, s, F, er, st, q⟩ => ?_
  refine ⟨dk, δ, s, F, er, st, EPost.bind q fun x s1 v F1 H1 n rx q1 => ?_⟩
  cases rx with
  | int i => exact ⟨i, rfl, EPost.ok (v := some i) q1 n.st rfl⟩
  | _ => exact q1.elim
def cutD (xs : List D) (lo hi : Option Int) : List D := (xs.drop (HT.sIx xs.length 0 lo)).take (HT.sIx xs.length xs.length hi - HT.sIx xs.length 0 lo)
theorem cut_rp {K : PySem.W.Frag} {dk : Addr} {F : Hp} {vs : List V} {ds : List D} (lo hi : Option Int) (r : RpAll K dk F vs ds) : RpAll K dk F (cutV vs lo hi) (cutD ds lo hi) := by
  unfold cutV cutD
  rw [r.length]
  exact (r.drop _).take _
theorem sIx_le' (n : Nat) (lo : Option Int) (k : Nat) (h : k ≤ n) : HT.sIx n k lo ≤ n := HT.sIx_le _ _ h _
def slcM (d : D) (lo hi : Option Int) : M D := match d with
  | .lst xs => fun s => .ok (.lst (cutD xs lo hi)) s
  | .tup xs => fun s => .ok (.tup (cutD xs lo hi)) s
  | .str z => fun s => if z.length ≤ 16777216 then .ok (.str (cutS z lo hi)) s else .bad
  | _ => fun _ => .bad
def rSlc (K : PySem.W.Frag) : V → Option Int → Option Int → Hp → VK → Prop := fun x lo hi H Q => rSlL K x lo hi H Q ∨ rSlA K x lo hi H Q ∨ rSlS x lo hi H Q
theorem sl_all : SlR X (rSlc X.K) := sl_list.or (sl_tupA.or sl_str)
theorem cutD_whole {xs : List D} {lo hi : Option Int} (h : HT.sIx xs.length 0 lo = 0 ∧ HT.sIx xs.length xs.length hi = xs.length) : cutD xs lo hi = xs := by
  unfold cutD
  rw [h.1, h.2, List.drop_zero, Nat.sub_zero, List.take_length]
theorem m_slc {dk : Addr} {Wx : XK} {F H : Hp} {s : Deck} {x : V} {dx : D} {lo hi : Option Int} {Q : VK} (st : Stt X.K dk F H s) (rx : Rp X.K dk F x dx) (q : EPost X.K X.mg dk (RelD X.K dk) Wx F H Q (slcM dx lo hi s)) : rSlc X.K x lo hi H Q := by
  unfold slcM at q
  split at q
  · cases rx with
    | @lst a0 vs0 _ h k =>
      refine .inl ⟨_, _, rfl, SqL.of (st.sub _ _ h), fun p hp => ?_⟩
      have n := Nxt.new (o := .lst (cutV vs0 lo hi)) st hp
      exact q _ _ _ n (.lst upd_same ((cut_rp lo hi k).mono n.sm))
  · cases rx with
    | @tup a0 vs0 _ h k =>
      refine .inr (.inl ⟨_, _, rfl, seqT st.sub h, fun hw => ?_, fun hw p hp => ?_⟩)
      · rw [k.length] at hw
        rw [cutD_whole hw] at q
        exact EPost.ok q st (.tup h k)
      · have n := Nxt.new (o := .tup (cutV vs0 lo hi)) st hp
        exact q _ _ _ n (.tup (SqT.of upd_same) ((cut_rp lo hi k).mono n.sm))
  · cases rx
    split at q
    · rename_i hz
      exact .inr (.inr ⟨_, rfl, by rw [sizeLine_eq]; exact hz, EPost.ok q st (.str _)⟩)
    · exact q.elim
  · exact q.elim
def slcD (f : FE) (lo hi : Prt) : FE := fun δ s => (f δ s).bind fun x s => (prtM lo δ s).bind fun l s => (prtM hi δ s).bind fun u s => slcM x l u s
theorem ev_slc {lo hi : Option Expr} {pl ph : Prt} (ha : EV X W a f) (hl : PV X W lo pl) (hh : PV X W hi ph) : EV X W (.Subscript a (.Slice lo hi none p2) pos) (slcD f pl ph) := by
  refine pe_weak (pe_slice sl_all ha hl hh) fun σ H Q ⟨dk, δ, s, F, er, st, q⟩ => ?_
  refine ⟨dk, δ, s, F, er, st, EPost.bind q fun x s1 v F1 H1 n rx q1 => ?_⟩
  refine ⟨dk, δ, s1, F1, er.mono n.sm, n.st, EPost.bind q1 fun l s2 vl F2 H2 n2 rl q2 => ?_⟩
  have rl : vl = l := rl
  subst rl
  refine ⟨dk, δ, s2, F2, er.mono (n.sm.trans n2.sm), n2.st, EPost.bind q2 fun u s3 vu F3 H3 n3 ru q3 => ?_⟩
  have ru : vu = u := ru
  subst ru
  exact m_slc n3.st (rx.mono (n2.sm.trans n3.sm)) q3

/-! ### stores into the mixer -/
def putM (k : Int) (v : D) (s : Deck) : Option Deck := match k, v with
  | 1, .int i => some { s with turn := i }
  | 2, .int i => some { s with left := i }
  | _, _ => none
def putS (f : FE) (o : FE) (k : Int) : FS := fun δ s => (f δ s).toS δ fun v s => (o δ s).toS δ fun d s => match d with
  | .deck => match putM k v s with
    | some s' => .nx δ s'
    | none => .bad
  | _ => .bad
theorem Stt.put {K : PySem.W.Frag} {dk : Addr} {F H : Hp} {s : Deck} {cl : Addr} {i j : Int} (st : Stt K dk F H s) (h2 : F cl = some (.lst (s.cells.map V.int))) : Nxt K dk F H F (upd H dk (.lst [.ref cl, .int i, .int j])) { s with turn := i, left := j } := by
  refine ⟨Same.refl _, ⟨fun b u h => ?_, st.fdk, cl, upd_same, h2⟩, fun b o hb h => by rw [upd_ne hb]; exact h, fun b h _ => h⟩
  rw [upd_ne (fun z => by rw [z, st.fdk] at h; cases h)]
  exact st.sub b u h
theorem sv_put {o e : Expr} {k : Int} {fo : FE} {tpos : Pos} {j : Nat} {ip : Pos} (he : EV X W e f) (ho : EV X W o fo) (hsw : swapsWithSole [.Subscript o (.Constant (.int k) j ip) tpos] e pos.line X.env = pure false := by rfl) (hw : swappedStores [.Subscript o (.Constant (.int k) j ip) tpos] e X.env = pure none := by rfl)
    (h1 : (assignEach [.Subscript o (.Constant (.int k) j ip) tpos] X.env).map (·.2) = [assign (.Subscript o (.Constant (.int k) j ip) tpos) X.env] := by rfl)
    (ha : ∀ v, assign (.Subscript o (.Constant (.int k) j ip) tpos) X.env v = (do
      let ov ← holding [v] (eval o X.env)
      let iv ← holding [v, ov] (eval (.Constant (.int k) j ip) X.env)
      standAt tpos
      holding [v, ov, iv] (setItem ov iv v)
      release [v, ov, iv] []) := by intro _; rfl) :
    SV X W (.Assign [.Subscript o (.Constant (.int k) j ip) tpos] e pos) (putS f fo k) := by
  refine ps_weak (ps_asg he (pg_sub ho pe_int set_list ha) hsw hw h1) fun Dn σ H ⟨dk, δ, s, F, er, st, q⟩ => ?_
  refine ⟨dk, δ, s, F, er, st, SPost.ofE er q fun v s1 x F1 H1 n rx q1 => ?_⟩
  refine ⟨dk, δ, s1, F1, er.mono n.sm, n.st, SPost.ofE (er.mono n.sm) q1 fun d s2 y F2 H2 n2 ry q2 => ?_⟩
  cases ry with
  | deck =>
    dsimp only at q2
    obtain ⟨cl, c1, c2⟩ := n2.st.deck
    unfold putM at q2
    split at q2
    · rename_i s' hs
      split at hs
      · cases hs
        cases rx
        exact ⟨dk, _, 1, 1, rfl, rfl, c1, rfl, q2 σ F2 _ (Stt.put n2.st c2) (er.mono (n.sm.trans n2.sm))⟩
      · cases hs
        cases rx
        exact ⟨dk, _, 2, 2, rfl, rfl, c1, rfl, q2 σ F2 _ (Stt.put n2.st c2) (er.mono (n.sm.trans n2.sm))⟩
      · cases hs
    · exact q2.elim
  | _ => exact q2.elim
end
end FL

namespace FL
open PySem PySem.Spec L2

section
variable {X : Cx} {W : WX} {a b e : Expr} {es : List Expr} {f g : FE} {fs : FA} {pos p p1 p2 : Pos}
/-! ### len, abs, max, min, int, tuple, list, all, sorted, gcd -/
def lenM (ds : List D) : M D := fun s => match ds with
  | [.lst xs] => .ok (.int xs.length) s
  | [.tup xs] => .ok (.int xs.length) s
  | [.str z] => if z.length ≤ 16777216 then .ok (.int z.length) s else .bad
  | [.dct k] => .ok (.int k.length) s
  | _ => .bad
def rLen (X : Cx) : List V → Hp → VK → Prop := fun xs H Q => (∃ p ys, xs = [.ref p] ∧ (SqL X.K H p ys ∨ SqT X.K H p ys) ∧ Q (.int ys.length) H) ∨ (∃ z, xs = [.str z] ∧ z.length ≤ sizeLine ∧ Q (.int z.length) H) ∨ (∃ a kvs, xs = [V.ref a] ∧ H a = some (.dK kvs) ∧ Q (.int kvs.length) H)
theorem call_lenA : CallR X (.builtin "len") (rLen X) := call_len_seq.or (call_len_str.or call_lenD)
theorem m_len : CallM X (rLen X) lenM := by
  intro dk Wx F H s vs ds Q st r q
  unfold lenM at q
  split at q
  · cases r with
    | cons r1 r2 =>
      cases r2
      cases r1 with
      | lst h k =>
        rw [← k.length] at q
        exact .inl ⟨_, _, rfl, .inl (SqL.of (st.sub _ _ h)), EPost.ok q st (.int _)⟩
  · cases r with
    | cons r1 r2 =>
      cases r2
      cases r1 with
      | tup h k =>
        rw [← k.length] at q
        exact .inl ⟨_, _, rfl, .inr (seqT st.sub h), EPost.ok q st (.int _)⟩
  · cases r with
    | cons r1 r2 =>
      cases r2; cases r1
      split at q
      · rename_i hz
        exact .inr (.inl ⟨_, rfl, by rw [sizeLine_eq]; exact hz, EPost.ok q st (.int _)⟩)
      · exact q.elim
  · cases r with
    | cons r1 r2 =>
      cases r2
      cases r1 with
      | dct h e k =>
        have hl := congrArg List.length e
        simp only [List.length_map] at hl
        rw [← hl] at q
        exact .inr (.inr ⟨_, _, rfl, st.sub _ _ h, EPost.ok q st (.int _)⟩)
  · exact q.elim
def absM (ds : List D) : M D := fun s => match ds with
  | [.int i] => .ok (.int (if i < 0 then -i else i)) s
  | _ => .bad
theorem m_abs : CallM X (fun xs H Q => ∃ i, xs = [.int i] ∧ Q (.int (if i < 0 then -i else i)) H) absM := by
  intro dk Wx F H s vs ds Q st r q
  unfold absM at q
  split at q
  · cases r with
    | cons r1 r2 => cases r2; cases r1; exact ⟨_, rfl, EPost.ok q st (.int _)⟩
  · exact q.elim
def max2M (ds : List D) : M D := fun s => match ds with
  | [.int i, .int j] => .ok (.int (if j > i then j else i)) s
  | _ => .bad
theorem m_max2 : CallM X (fun xs H Q => ∃ i j, xs = [.int i, .int j] ∧ Q (.int (if j > i then j else i)) H) max2M := by
  intro dk Wx F H s vs ds Q st r q
  unfold max2M at q
  split at q
  · cases r with
    | cons r1 r2 => cases r2 with
      | cons r3 r4 => cases r4; cases r1; cases r3; exact ⟨_, _, rfl, EPost.ok q st (.int _)⟩
  · exact q.elim
def min2M (ds : List D) : M D := fun s => match ds with
  | [.int i, .int j] => .ok (.int (if j < i then j else i)) s
  | _ => .bad
theorem m_min2 : CallM X (fun xs H Q => ∃ i j, xs = [.int i, .int j] ∧ Q (.int (if j < i then j else i)) H) min2M := by
  intro dk Wx F H s vs ds Q st r q
  unfold min2M at q
  split at q
  · cases r with
    | cons r1 r2 => cases r2 with
      | cons r3 r4 => cases r4; cases r1; cases r3; exact ⟨_, _, rfl, EPost.ok q st (.int _)⟩
  · exact q.elim
def gcdM (ds : List D) : M D := fun s => match ds with
  | [.int i, .int j] => .ok (.int ((Nat.gcd i.natAbs j.natAbs : Nat) : Int)) s
  | _ => .bad
theorem m_gcd : CallM X rGcd gcdM := by
  intro dk Wx F H s vs ds Q st r q
  unfold gcdM at q
  split at q
  · cases r with
    | cons r1 r2 => cases r2 with
      | cons r3 r4 => cases r4; cases r1; cases r3; exact ⟨_, _, rfl, EPost.ok q st (.int _)⟩
  · exact q.elim
/-- a call of a module's name for a built-in function -/
theorem ev_callF {id : String} {x : Str} {r : List V → Hp → VK → Prop} {m : List D → M D} (hc : CallR X (.builtin id) r) (hm : CallM X r m) (hg : Gl X x) (hmg : X.mg x = some (.builtin id)) (ha : AV X W (a :: es) fs)
    (hdb : (x == ("__debug__" : Str)) = false := by decide) (he : starEach (a :: es) X.env = (false, eval a X.env) :: starEach es X.env := by rfl) (hpl : (backTo pos (starEach es X.env)).any (·.1) = false := by rfl) :
    EV X W (.Call (.Name x p) (a :: es) [] pos) (withA fs m) := pe_weak (pe_callBfun hc hg hmg ha hdb he hpl) (tcb hm)
def intM1 (ds : List D) : M D := fun s => match ds with
  | [.int i] => .ok (.int i) s
  | [.bl k] => .ok (.int (if k then 1 else 0)) s
  | [.str z] => match PySem.intText? z with
    | some n => if z.length ≤ 640 then .ok (.int n) s else .bad
    | none => .bad
  | _ => .bad
def rInt : List V → Hp → VK → Prop := fun xs H Q => ((∃ i, xs = [.int i] ∧ Q (.int i) H) ∨ ∃ k, xs = [.bl k] ∧ Q (.int (if k then 1 else 0)) H) ∨ (∃ a n, xs = [.str a] ∧ PySem.intText? a = some n ∧ a.length ≤ 640 ∧ Q (.int n) H)
theorem call_intA : CallR X (.type "int") rInt := call_int1.or call_int_str
theorem m_intc : CallM X rInt intM1 := by
  intro dk Wx F H s vs ds Q st r q
  unfold intM1 at q
  split at q
  · cases r with
    | cons r1 r2 => cases r2; cases r1; exact .inl (.inl ⟨_, rfl, EPost.ok q st (.int _)⟩)
  · cases r with
    | cons r1 r2 => cases r2; cases r1; exact .inl (.inr ⟨_, rfl, EPost.ok q st (.int _)⟩)
  · cases r with
    | cons r1 r2 =>
      cases r2; cases r1
      split at q
      · rename_i n hn
        split at q
        · rename_i hz; exact .inr ⟨_, _, rfl, hn, hz, EPost.ok q st (.int _)⟩
        · exact q.elim
      · exact q.elim
  · exact q.elim
def tupM (ds : List D) : M D := fun s => match ds with
  | [.lst xs] => .ok (.tup xs) s
  | [.tup xs] => .ok (.tup xs) s
  | _ => .bad
theorem m_tup : CallM X (fun xs H Q => ∃ p ys, xs = [.ref p] ∧ ((SqL X.K H p ys ∧ ∀ l, H l = none → Q (.ref l) (upd H l (.tup ys))) ∨ (SqT X.K H p ys ∧ Q (.ref p) H))) tupM := by
  intro dk Wx F H s vs ds Q st r q
  unfold tupM at q
  split at q
  · cases r with
    | cons r1 r2 =>
      cases r2
      cases r1 with
      | @lst a0 vs0 _ h k =>
        refine ⟨_, _, rfl, .inl ⟨SqL.of (st.sub _ _ h), fun l hl => ?_⟩⟩
        have n := Nxt.new (o := .tup vs0) st hl
        exact q _ _ _ n (.tup (SqT.of upd_same) (k.mono n.sm))
  · cases r with
    | cons r1 r2 =>
      cases r2
      cases r1 with
      | tup h k => exact ⟨_, _, rfl, .inr ⟨seqT st.sub h, EPost.ok q st (.tup h k)⟩⟩
  · exact q.elim
def lstM (ds : List D) : M D := fun s => match ds with
  | [.lst xs] => .ok (.lst xs) s
  | [.tup xs] => .ok (.lst xs) s
  | _ => .bad
theorem m_lst : CallM X (fun xs H Q => ∃ p ys, xs = [.ref p] ∧ (SqL X.K H p ys ∨ SqT X.K H p ys) ∧ ∀ l, H l = none → Q (.ref l) (upd H l (.lst ys))) lstM := by
  intro dk Wx F H s vs ds Q st r q
  unfold lstM at q
  split at q
  · cases r with
    | cons r1 r2 =>
      cases r2
      cases r1 with
      | @lst a0 vs0 _ h k =>
        refine ⟨_, _, rfl, .inl (SqL.of (st.sub _ _ h)), fun l hl => ?_⟩
        have n := Nxt.new (o := .lst vs0) st hl
        exact q _ _ _ n (.lst upd_same (k.mono n.sm))
  · cases r with
    | cons r1 r2 =>
      cases r2
      cases r1 with
      | @tup a0 vs0 _ h k =>
        refine ⟨_, _, rfl, .inr (seqT st.sub h), fun l hl => ?_⟩
        have n := Nxt.new (o := .lst vs0) st hl
        exact q _ _ _ n (.lst upd_same (k.mono n.sm))
  · exact q.elim
def boolsOf : List D → Option (List Bool)
  | [] => some []
  | .bl b :: r => (boolsOf r).map (b :: ·)
  | _ => none
def intsOf : List D → Option (List Int)
  | [] => some []
  | .int b :: r => (intsOf r).map (b :: ·)
  | _ => none
theorem bools_eq {K : PySem.W.Frag} {dk : Addr} {F : Hp} : ∀ {vs : List V} {ds : List D} {bs : List Bool}, RpAll K dk F vs ds → boolsOf ds = some bs → vs = bs.map V.bl
  | _, _, _, .nil, h => by unfold boolsOf at h; cases h; rfl
  | _, _, bs, .cons (ds := dr) (.bl b) t, h => by
    rw [boolsOf] at h
    cases e : boolsOf dr with
    | none => rw [e] at h; cases h
    | some l => rw [e] at h; cases h; rw [bools_eq t e]; rfl
  | _, _, _, .cons .non _, h => by unfold boolsOf at h; cases h
  | _, _, _, .cons (.int _) _, h => by unfold boolsOf at h; cases h
  | _, _, _, .cons (.str _) _, h => by unfold boolsOf at h; cases h
  | _, _, _, .cons (.lst _ _) _, h => by unfold boolsOf at h; cases h
  | _, _, _, .cons (.tup _ _) _, h => by unfold boolsOf at h; cases h
  | _, _, _, .cons (.dct _ _ _) _, h => by unfold boolsOf at h; cases h
  | _, _, _, .cons .deck _, h => by unfold boolsOf at h; cases h
theorem ints_eq {K : PySem.W.Frag} {dk : Addr} {F : Hp} : ∀ {vs : List V} {ds : List D} {bs : List Int}, RpAll K dk F vs ds → intsOf ds = some bs → vs = bs.map V.int
  | _, _, _, .nil, h => by unfold intsOf at h; cases h; rfl
  | _, _, bs, .cons (ds := dr) (.int b) t, h => by
    rw [intsOf] at h
    cases e : intsOf dr with
    | none => rw [e] at h; cases h
    | some l => rw [e] at h; cases h; rw [ints_eq t e]; rfl
  | _, _, _, .cons .non _, h => by unfold intsOf at h; cases h
  | _, _, _, .cons (.bl _) _, h => by unfold intsOf at h; cases h
  | _, _, _, .cons (.str _) _, h => by unfold intsOf at h; cases h
  | _, _, _, .cons (.lst _ _) _, h => by unfold intsOf at h; cases h
  | _, _, _, .cons (.tup _ _) _, h => by unfold intsOf at h; cases h
  | _, _, _, .cons (.dct _ _ _) _, h => by unfold intsOf at h; cases h
  | _, _, _, .cons .deck _, h => by unfold intsOf at h; cases h
def allM (ds : List D) : M D := fun s => match ds with
  | [.lst xs] => match boolsOf xs with
    | some bs => .ok (.bl (bs.all id)) s
    | none => .bad
  | _ => .bad
theorem m_all : CallM X (rAll X.K) allM := by
  intro dk Wx F H s vs ds Q st r q
  unfold allM at q
  split at q
  · cases r with
    | cons r1 r2 =>
      cases r2
      cases r1 with
      | lst h k =>
        split at q
        · rename_i bs hb
          have e := bools_eq k hb
          subst e
          exact ⟨_, bs, rfl, SqL.of (st.sub _ _ h), EPost.ok q st (.bl _)⟩
        · exact q.elim
  · exact q.elim
def anyM (ds : List D) : M D := fun s => match ds with
  | [.lst xs] => match boolsOf xs with
    | some bs => .ok (.bl (bs.any id)) s
    | none => .bad
  | _ => .bad
theorem m_any : CallM X (rAny X.K) anyM := by
  intro dk Wx F H s vs ds Q st r q
  unfold anyM at q
  split at q
  · cases r with
    | cons r1 r2 =>
      cases r2
      cases r1 with
      | lst h k =>
        split at q
        · rename_i bs hb
          have e := bools_eq k hb
          subst e
          exact ⟨_, bs, rfl, SqL.of (st.sub _ _ h), EPost.ok q st (.bl _)⟩
        · exact q.elim
  · exact q.elim
def insI (x : Int) : List Int → List Int
  | [] => [x]
  | y :: r => if x ≤ y then x :: y :: r else y :: insI x r
def sortI : List Int → List Int
  | [] => []
  | x :: r => insI x (sortI r)
theorem insI_perm (x : Int) : ∀ l, (insI x l).Perm (x :: l)
  | [] => .refl _
  | y :: r => by
    unfold insI
    split
    · exact .refl _
    · exact ((insI_perm x r).cons y).trans (.swap x y r)
theorem sortI_perm : ∀ l, (sortI l).Perm l
  | [] => .refl _
  | x :: r => (insI_perm x (sortI r)).trans ((sortI_perm r).cons x)
theorem insI_sorted (x : Int) : ∀ l, l.Pairwise (· ≤ ·) → (insI x l).Pairwise (· ≤ ·)
  | [], _ => List.pairwise_singleton _ _
  | y :: r, h => by
    unfold insI
    obtain ⟨h1, h2⟩ := List.pairwise_cons.mp h
    split
    · rename_i hxy
      refine List.pairwise_cons.mpr ⟨fun z hz => ?_, h⟩
      rcases List.mem_cons.mp hz with e | hz
      · rw [e]; exact hxy
      · exact Int.le_trans hxy (h1 z hz)
    · rename_i hxy
      refine List.pairwise_cons.mpr ⟨fun z hz => ?_, insI_sorted x r h2⟩
      rcases List.mem_cons.mp ((insI_perm x r).subset hz) with e | hz
      · rw [e]; omega
      · exact h1 z hz
theorem sortI_sorted : ∀ l, (sortI l).Pairwise (· ≤ ·)
  | [] => .nil
  | x :: r => insI_sorted x _ (sortI_sorted r)
def sortedM (ds : List D) : M D := fun s => match ds with
  | [.lst xs] => match intsOf xs with
    | some ns => .ok (.lst ((sortI ns).map .int)) s
    | none => .bad
  | _ => .bad
theorem m_sorted : CallM X (rSortedI X.K) sortedM := by
  intro dk Wx F H s vs ds Q st r q
  unfold sortedM at q
  split at q
  · cases r with
    | cons r1 r2 =>
      cases r2
      cases r1 with
      | lst h k =>
        split at q
        · rename_i ns hb
          have e := ints_eq k hb
          subst e
          refine ⟨_, ns, rfl, SqL.of (st.sub _ _ h), fun ns' p hp hs hn => ?_⟩
          have ee : ns' = sortI ns := PySem.W.ksm_same (hp.trans (sortI_perm ns).symm) hs (sortI_sorted ns)
          subst ee
          have n := Nxt.new (o := .lst ((sortI ns).map V.int)) st hn
          exact q _ _ _ n (.lst upd_same (ints_rp _))
        · exact q.elim
  · exact q.elim

/-! ### isinstance -/
def tyD : D → Option String
  | .non => some "NoneType"
  | .bl _ => some "bool"
  | .int _ => some "int"
  | .str _ => some "str"
  | .lst _ => some "list"
  | .tup _ => some "tuple"
  | .dct _ => some "dict"
  | .deck => some "list"
theorem tyX_of {K : PySem.W.Frag} {dk : Addr} {F H : Hp} {s : Deck} {v : V} {d : D} {t : String} (st : Stt K dk F H s) (r : Rp K dk F v d) (h : tyD d = some t) : TyX K H v (.type t) := by
  cases r with
  | non => cases h; exact .base .non
  | bl b => cases h; exact .base (.bl b)
  | int b => cases h; exact .base (.int b)
  | str b => cases h; exact .base (.str b)
  | lst h1 _ => cases h; exact .base (.lst (st.sub _ _ h1))
  | tup h1 _ =>
    cases h
    rcases h1 with (h1 | ⟨o, h1⟩) | ⟨o, its, n, h1, h2, _⟩
    · exact .base (.tup (st.sub _ _ h1))
    · exact .fTuple (st.sub _ _ h1)
    · exact .kTuple h1 h2
  | dct h1 _ _ => cases h; exact .base (.dK (st.sub _ _ h1))
  | deck =>
    cases h
    obtain ⟨cl, h1, _⟩ := st.deck
    exact .base (.lst h1)
def isiD (T : String) (d : D) : Option Bool := (tyD d).bind fun t => kitB t T
def isiF (f : FE) (T : String) : FE := fun δ s => (f δ s).bind fun x s => pureM ((isiD T x).map .bl) s
theorem ev_isi {T : Str} {Tn : String} (hg : Gl X "isinstance") (hm : X.mg "isinstance" = none) (hgT : Gl X T) (hmT : X.mg T = none) (hv : bootBuiltins T = some (.type Tn)) (ha : EV X W a f)
    (hnT : T ≠ "__name__" := by decide) (hdT : (T == ("__debug__" : Str)) = false := by decide)
    (h1 : starEach (a :: [.Name T p1]) X.env = (false, eval a X.env) :: starEach [.Name T p1] X.env := by rfl) (h2 : starEach (Expr.Name T p1 :: []) X.env = (false, eval (.Name T p1) X.env) :: starEach [] X.env := by rfl)
    (hpl : (backTo pos (starEach [.Name T p1] X.env)).any (·.1) = false := by rfl) :
    EV X W (.Call (.Name "isinstance" p) [a, .Name T p1] [] pos) (isiF f Tn) := by
  refine pe_weak (pe_callB call_isi hg hm (by decide +kernel) (pa_cons ha (pa_cons (pe_bltn (v := .ty Tn) hgT hmT hv rfl hnT hdT) pa_nil h2) h1) (by decide) (by decide) h1 hpl) fun σ H Q ⟨dk, δ, s, F, er, st, q⟩ => ?_
  refine ⟨dk, δ, s, F, er, st, EPost.bind q fun y s1 v F1 H1 n ry q1 => ?_⟩
  obtain ⟨d, e, hq⟩ := epost_pure n.st q1
  unfold isiD at e
  cases ht : tyD y with
  | none => rw [ht] at e; cases e
  | some t =>
    rw [ht] at e
    have e' : (kitB t Tn).map D.bl = some d := e
    cases hk : kitB t Tn with
    | none => rw [hk] at e'; cases e'
    | some k =>
      rw [hk] at e'; cases e'
      exact ⟨v, .ty Tn, .type t, .type Tn, k, rfl, .ty Tn, tyX_of n.st ry ht, kit_ty hk, hq _ (.bl _)⟩
/-- isinstance(x, (T, U)) -/
def isi2D (T U : String) (d : D) : Option Bool := (tyD d).bind fun t => (kitB t T).bind fun k => if k = true then some true else kitB t U
def isi2F (f : FE) (T U : String) : FE := fun δ s => (f δ s).bind fun x s => pureM ((isi2D T U x).map .bl) s
theorem ev_isi2 {T U : Str} {Tn Un : String} {kk : Nat} {tp : Pos} (hg : Gl X "isinstance") (hm : X.mg "isinstance" = none) (hgT : Gl X T) (hmT : X.mg T = none) (hv : bootBuiltins T = some (.type Tn)) (hgU : Gl X U) (hmU : X.mg U = none) (hvU : bootBuiltins U = some (.type Un)) (ha : EV X W a f)
    (hnT : T ≠ "__name__" := by decide) (hdT : (T == ("__debug__" : Str)) = false := by decide) (hnU : U ≠ "__name__" := by decide) (hdU : (U == ("__debug__" : Str)) = false := by decide)
    (h1 : starEach (a :: [.Tuple [.Name T p1, .Name U p2] kk tp]) X.env = (false, eval a X.env) :: starEach [.Tuple [.Name T p1, .Name U p2] kk tp] X.env := by rfl) (h2 : starEach (Expr.Tuple [.Name T p1, .Name U p2] kk tp :: []) X.env = (false, eval (.Tuple [.Name T p1, .Name U p2] kk tp) X.env) :: starEach [] X.env := by rfl)
    (h3 : starEach (Expr.Name T p1 :: [.Name U p2]) X.env = (false, eval (.Name T p1) X.env) :: starEach [.Name U p2] X.env := by rfl) (h4 : starEach (Expr.Name U p2 :: []) X.env = (false, eval (.Name U p2) X.env) :: starEach [] X.env := by rfl)
    (hpl : (backTo pos (starEach [.Tuple [.Name T p1, .Name U p2] kk tp] X.env)).any (·.1) = false := by rfl) :
    EV X W (.Call (.Name "isinstance" p) [a, .Tuple [.Name T p1, .Name U p2] kk tp] [] pos) (isi2F f Tn Un) := by
  refine pe_weak (pe_callB call_isiT hg hm (by decide +kernel) (pa_cons ha (pa_cons (pe_tup (pa_cons (pe_bltn (v := .ty Tn) hgT hmT hv rfl hnT hdT) (pa_cons (pe_bltn (v := .ty Un) hgU hmU hvU rfl hnU hdU) pa_nil h4) h3)) pa_nil h2) h1) (by decide) (by decide) h1 hpl) fun σ H Q ⟨dk, δ, s, F, er, st, q⟩ => ?_
  refine ⟨dk, δ, s, F, er, st, EPost.bind q fun y s1 v F1 H1 n ry q1 => ?_⟩
  refine ⟨by show 2 ≤ sizeLine; decide, fun tpA htp => ?_⟩
  have n2 := Nxt.new (o := .tup [.ty Tn, .ty Un]) n.st htp
  obtain ⟨d, e, hq⟩ := epost_pure n2.st (EPost.later n2 q1)
  unfold isi2D at e
  cases ht : tyD y with
  | none => rw [ht] at e; cases e
  | some t =>
    rw [ht] at e
    have e' : ((kitB t Tn).bind fun k => if k = true then some true else kitB t Un).map D.bl = some d := e
    cases hk : kitB t Tn with
    | none => rw [hk] at e'; cases e'
    | some k =>
      rw [hk] at e'
      have e2 : (if k = true then some true else kitB t Un).map D.bl = some d := e'
      have fin : ∀ r : Bool, (if k = true then some true else kitB t Un) = some r → PySem.W.kitAny X.K (.type t) [.type Tn, .type Un] = some r := by
        intro r hr
        refine kitAny_cons (kit_ty hk) (fun z => ?_) (fun z => ?_)
        · rw [z, if_neg Bool.false_ne_true] at hr
          refine kitAny_cons (kit_ty hr) (fun z => ?_) (fun z => z)
          rw [z]; rfl
        · rw [z, if_pos rfl] at hr; cases hr; rfl
      cases hr : (if k = true then some true else kitB t Un) with
      | none => rw [hr] at e2; cases e2
      | some r =>
        rw [hr] at e2; cases e2
        exact ⟨v, tpA, [.ty Tn, .ty Un], .type t, [.type Tn, .type Un], r, rfl, upd_same, .cons (.ty Tn) (.cons (.ty Un) .nil), tyX_of n2.st (ry.mono n2.sm) ht, fin r hr, hq _ (.bl _)⟩

/-! ### repr, where nothing is being shown -/
def rRepr (K : PySem.W.Frag) : List V → Hp → VK → Prop := fun xs H Q => ∃ (a : Addr) (p : PyData), xs = [.ref a] ∧ Dp K H (.ref a) p ∧ p.canLay0 = true ∧ p.showable = true ∧ p.depth ≤ 60 ∧ p.shown.length ≤ sizeLine ∧ Q (.str p.shown) H
theorem call_repr (hg : X.A.guards = some []) (hu : X.A.units + 64 < cLine) : CallR X (.builtin "repr") (rRepr X.K) := by
  intro pins s σ H xs us Q I r h
  obtain ⟨a, p, rfl, hd, hc, hs, hz, hl, q⟩ := h
  cases r with
  | cons r1 r2 =>
    cases r2
    cases r1
    obtain ⟨as, rd⟩ := Dp.reads I p _ _ hd rfl
    refine repr_of_reads' rd hs (PyData.noDict_hsm (PyData.hasDict_of_canLay p hc)) hg (by omega) (fun _ _ e => e) (fun h' u tk k => ?_) hl
    exact ⟨.str _, H, I.kept (t' := tk) k, ⟨_, rfl⟩, q⟩
def showP (p : PyData) : Bool := p.canLay0 && p.showable && decide (p.depth ≤ 60) && decide (p.shown.length ≤ 16777216)
def isRefD : D → Bool
  | .lst _ => true
  | .tup _ => true
  | _ => false
def reprM (ds : List D) : M D := fun s => match ds with
  | [d] => if isRefD d = true then (match py d with
    | some p => if showP p = true then .ok (.str p.shown) s else .bad
    | none => .bad) else .bad
  | _ => .bad
theorem m_repr : CallM X (rRepr X.K) reprM := by
  intro dk Wx F H s vs ds Q st r q
  unfold reprM at q
  split at q
  · rename_i d
    split at q
    · rename_i hr
      split at q
      · rename_i p hp
        split at q
        · rename_i hs
          unfold showP at hs
          simp only [Bool.and_eq_true, decide_eq_true_eq] at hs
          cases r with
          | cons r1 r2 =>
            cases r2
            have hD := dp_of st.sub r1 hp hs.1.1.1
            cases r1 with
            | lst h k => exact ⟨_, p, rfl, hD, hs.1.1.1, hs.1.1.2, hs.1.2, by rw [sizeLine_eq]; exact hs.2, EPost.ok q st (.str _)⟩
            | tup h k => exact ⟨_, p, rfl, hD, hs.1.1.1, hs.1.1.2, hs.1.2, by rw [sizeLine_eq]; exact hs.2, EPost.ok q st (.str _)⟩
            | _ => cases hr
        · exact q.elim
      · exact q.elim
    · exact q.elim
  · exact q.elim
end
end FL

namespace FL
open PySem PySem.Spec L2

section
variable {X : Cx} {W : WX} {a b e : Expr} {es : List Expr} {f g : FE} {fs : FA} {pos p p1 p2 kpos : Pos} {kws : List Keyword} {nm : Option Str}
def un1 (m : D → M D) (f : FE) : FE := fun δ s => (f δ s).bind m
theorem ev_neg (ha : EV X W a f) : EV X W (.UnaryOp .USub a pos) (un1 negM f) := by
  refine pe_weak (pe_un un_neg ha) fun σ H Q ⟨dk, δ, s, F, er, st, q⟩ => ?_
  refine ⟨dk, δ, s, F, er, st, EPost.bind q fun x s1 v F1 H1 n rx q1 => ?_⟩
  cases rx with
  | int i => exact ⟨i, rfl, EPost.ok q1 n.st (.int _)⟩
  | _ => exact q1.elim
/-! ### keywords -/
def KV' (X : Cx) (W : WX) (kws : List Keyword) (f : FA) : Prop := PK X kws (tAV X.K X.mg W f)
theorem pk_weak {t t' : TA} (h : PK X kws t) (k : ∀ σ H Q, t' σ H Q → t σ H Q) : PK X kws t' := ⟨fun pos pins s σ H Q I q => h.run pos pins s σ H Q I (k σ H Q q)⟩
theorem kv_nil : KV' X W [] av0 := pk_weak pk_nil fun σ H Q ⟨dk, δ, s, F, er, st, q⟩ => EPost.ok q st .nil
theorem kv_cons (ha : EV X W a f) (hb : KV' X W kws fs) : KV' X W (⟨nm, a, kpos⟩ :: kws) (avC f fs) := by
  refine pk_weak (pk_cons ha hb) fun σ H Q ⟨dk, δ, s, F, er, st, q⟩ => ?_
  refine ⟨dk, δ, s, F, er, st, EPost.bind q fun x s1 v F1 H1 n rx q1 => ?_⟩
  refine ⟨dk, δ, s1, F1, er.mono n.sm, n.st, EPost.bind q1 fun xs s2 us F2 H2 n2 rxs q2 => ?_⟩
  exact q2.ok n2.st (.cons (rx.mono n2.sm) rxs)
/-- all by keywords: parameter j is the perm[j]-th keyword -/
def permL {α : Type} (z : α) (perm : List Nat) (l : List α) : List α := perm.map fun i => l.getD i z
def KBind (K : PySem.W.Frag) (fd : FuncData) (ps ks : List Str) (perm : List Nat) : Prop := ∀ (s : Shared) (ws : List Value), K.In s.heap → ws.length = ks.length → BindsTo s fd ⟨[], ks.zip ws⟩ (ps.zip (permL .none perm ws))
theorem vals_perm {vs : List V} {us : List Value} (r : Vals vs us) (perm : List Nat) : Vals (permL .non perm vs) (permL .none perm us) := by
  induction perm with
  | nil => exact .nil
  | cons i r' ih =>
    refine .cons ?_ ih
    show RelV (vs.getD i V.non) (us.getD i Value.none)
    by_cases hi : i < vs.length
    · obtain ⟨u, h1, h2⟩ := r.get (List.getElem?_eq_getElem hi)
      rw [List.getD_eq_getElem?_getD, List.getD_eq_getElem?_getD, List.getElem?_eq_getElem hi, h1]
      exact h2
    · have hl := r.length
      rw [List.getD_eq_getElem?_getD, List.getD_eq_getElem?_getD, List.getElem?_eq_none (by omega), List.getElem?_eq_none (by omega)]
      exact rfl
theorem rp_perm {K : PySem.W.Frag} {dk : Addr} {F : Hp} {vs : List V} {ds : List D} (r : RpAll K dk F vs ds) (perm : List Nat) : RpAll K dk F (permL .non perm vs) (permL .non perm ds) := by
  induction perm with
  | nil => exact .nil
  | cons i r' ih =>
    refine .cons ?_ ih
    show Rp K dk F (vs.getD i V.non) (ds.getD i D.non)
    by_cases hi : i < ds.length
    · obtain ⟨u, h1, h2⟩ := r.get (List.getElem?_eq_getElem hi)
      rw [List.getD_eq_getElem?_getD, List.getD_eq_getElem?_getD, List.getElem?_eq_getElem hi, h1]
      exact h2
    · have hl := r.length
      rw [List.getD_eq_getElem?_getD, List.getD_eq_getElem?_getD, List.getElem?_eq_none (by omega), List.getElem?_eq_none (by omega)]
      exact .non
def callP (perm : List Nat) (n : Nat) (m : List D → M D) : List D → M D := fun ds => callN n m (permL .non perm ds)
theorem ev_callK {x : Str} {k n nk : Nat} {fn : Addr} {fd : FuncData} {ps ks : List Str} {m : List D → M D} {perm : List Nat} (G : FnG X.prog X.w X.K X.mg X.base k fn fd ps (spD X.K X.mg n m)) (hr : Room k X.A) (hgd : X.A.guards = some []) (hg : Gl X x) (hm : X.mg x = some (.ref fn)) (hk : PySem.W.keepIn X.K (.ref fn) = true) (hb : KBind X.K fd ps ks perm)
    (tk : Takes X W) (ha : KV' X W kws fs) (hall : (backToKw pos (keywordEach kws X.env)).all (·.1.isSome) = true := by rfl) (hks : (backToKw pos (keywordEach kws X.env)).filterMap (·.1) = ks := by rfl) (hnk : ks.length = nk := by rfl) (hdb : (x == ("__debug__" : Str)) = false := by decide)
    (hpl : ((backTo pos (starEach [] X.env)).any (·.1) || (backToKw pos (keywordEach kws X.env)).any (·.1.isNone)) = false := by rfl) :
    EV X W (.Call (.Name x p) [] kws pos) (withA fs fun ds => if ds.length = nk then callP perm n m ds else fun _ => .bad) := by
  refine ⟨fun pins s σ H Q I h => ?_⟩
  refine wpAny_Call_Name_kw (ld_glob I hg hm ?_ hdb)
  refine PySem.W.callWith_KW0 (h₀ := X.base) I.ok.mod.kin hk hall ?_ hpl
  obtain ⟨dk, δ, sd, F, er, st, q⟩ := h
  refine thn (ha.run pos pins s σ H _ I ⟨dk, δ, sd, F, er, st, EPost.bind q fun xs s1 vs F1 H1 n r q1 => (show ∃ xs s1 F1, Nxt X.K dk F H F1 H1 s1 ∧ RpAll X.K dk F1 vs xs ∧ EPost X.K X.mg dk (RelD X.K dk) (WE W σ) F1 H1 Q ((if xs.length = nk then callP perm _ m xs else fun _ => .bad) s1) from ⟨xs, s1, F1, n, r, q1⟩)⟩) fun ws s2 hh => ?_
  obtain ⟨vs, H2, I2, rz, xs, s1, F1, n, r, q1⟩ := hh
  refine ⟨I2.kIn, ?_⟩
  rw [hks]
  split at q1
  · rename_i hl
    unfold callP callN at q1
    split at q1
    · rename_i hln
      have len1 : ws.length = ks.length := by rw [← rz.length, r.length, hl, hnk]
      have r2 := vals_perm rz perm
      have hsp : spD X.K X.mg _ m (permL .non perm vs) H2 Q (WE W σ) := ⟨dk, _, s1, F1, n.st, rp_perm r perm, hln, q1⟩
      refine wpAny_call (codeAny_mono (G.run X.A X.stack s2 H2 ⟨[], ks.zip ws⟩ _ _ Q (WE W σ) hr hgd I2.env0 (hb s2 ws I2.kIn len1) r2 hsp) fun r' s' hq => ?_)
      cases r' with
      | error er => exact passAt tk σ pins H2 s2 er s' I2 hq
      | ok fl =>
        cases fl with
        | ret u => exact I2.after hq
        | next => exact hq.elim
        | brk => exact hq.elim
        | cont => exact hq.elim
    · exact q1.elim
  · exact q1.elim
/-! ### dict displays -/
def keyOf : D → Option Key
  | .int i => some (.inl i)
  | .str x => some (.inr x)
  | _ => none
def dctOf : List (D × D) → Option (List (Key × D))
  | [] => some []
  | (k, v) :: r => (keyOf k).bind fun k => (dctOf r).map fun r => (k, v) :: r
def mkDct (ps : List (D × D)) : M D := fun s => match dctOf ps with
  | some kvs => if decide ((kvs.map (·.1)).Nodup) = true then (if decide (kvs.length ≤ 15) = true then .ok (.dct kvs) s else .bad) else .bad
  | none => .bad
abbrev FP := DEnv → M (List (D × D))
def dv0 : FP := fun _ s => .ok [] s
def dvC (f g : FE) (h : FP) : FP := fun δ s => (f δ s).bind fun x s => (g δ s).bind fun y s => (h δ s).bind fun r s => .ok ((x, y) :: r) s
theorem ev_dict0 : EV X W (.Dict [] [] pos) (cst (.dct [])) := by
  refine pe_weak pe_dnewK fun σ H Q ⟨dk, δ, s, F, er, st, q⟩ => ?_
  intro pA hp
  have n := Nxt.new (o := .dK []) st hp
  exact q _ _ _ n (.dct upd_same rfl .nil)
def PairsP (K : PySem.W.Frag) (dk : Addr) (F : Hp) (vs : List (V × V)) (ds : List (D × D)) : Prop := RpAll K dk F (vs.map (·.1)) (ds.map (·.1)) ∧ RpAll K dk F (vs.map (·.2)) (ds.map (·.2))
def DVs (X : Cx) (W : WX) (trs : List (TE × TE)) (h : FP) : Prop := ∀ σ H (Q : List (V × V) → Hp → Prop), (∃ dk δ s F, EnvR X.K dk F σ δ ∧ Stt X.K dk F H s ∧ EPost X.K X.mg dk (fun F v d => PairsP X.K dk F v d) (WE W σ) F H Q (h δ s)) → tPairs trs σ H Q
theorem dvs_nil : DVs X W [] dv0 := fun σ H Q ⟨dk, δ, s, F, er, st, q⟩ => EPost.ok (v := []) q st ⟨.nil, .nil⟩
theorem dvs_cons {trs : List (TE × TE)} {h : FP} (hr : DVs X W trs h) : DVs X W ((tEV X.K X.mg W f, tEV X.K X.mg W g) :: trs) (dvC f g h) := fun σ H Q ⟨dk, δ, s, F, er, st, q⟩ => by
  refine ⟨dk, δ, s, F, er, st, EPost.bind q fun x s1 v F1 H1 n rx q1 => ?_⟩
  refine ⟨dk, δ, s1, F1, er.mono n.sm, n.st, EPost.bind q1 fun y s2 u F2 H2 n2 ry q2 => ?_⟩
  refine hr σ H2 _ ⟨dk, δ, s2, F2, er.mono (n.sm.trans n2.sm), n2.st, EPost.bind q2 fun r s3 rv F3 H3 n3 rr q3 => ?_⟩
  exact EPost.ok q3 n3.st ⟨.cons (rx.mono (n2.sm.trans n3.sm)) rr.1, .cons (ry.mono n3.sm) rr.2⟩
theorem putK_new {acc : List (Key × V)} {k : Key} {v : V} (h : k ∉ acc.map (·.1)) : putK acc k v = acc ++ [(k, v)] := by
  unfold putK
  rw [if_neg]
  intro z
  obtain ⟨kv, h1, h2⟩ := List.any_eq_true.mp z
  exact h (List.mem_map.mpr ⟨kv, h1, of_decide_eq_true h2⟩)
theorem merge_new : ∀ (more acc : List (Key × V)), ((acc ++ more).map (·.1)).Nodup → mergeK acc more = acc ++ more
  | [], acc, _ => by simp [mergeK]
  | (k, v) :: r, acc, h => by
    have h1 : k ∉ acc.map (·.1) := fun z => by
      rw [List.map_append] at h
      exact (List.nodup_append.mp h).2.2 k z k (by simp) rfl
    show mergeK (putK acc k v) r = _
    rw [putK_new h1, merge_new r (acc ++ [(k, v)]) (by rw [List.append_assoc]; exact h), List.append_assoc]
    rfl
theorem dct_pairs {K : PySem.W.Frag} {dk : Addr} {F : Hp} : ∀ {vs : List (V × V)} {ds : List (D × D)} {kds : List (Key × D)}, PairsP K dk F vs ds → dctOf ds = some kds →
    ∃ kvs : List (Key × V), vs = kvs.map (fun kv => (kV kv.1, kv.2)) ∧ kvs.map (·.1) = kds.map (·.1) ∧ RpAll K dk F (kvs.map (·.2)) (kds.map (·.2))
  | [], [], kds, _, h => by unfold dctOf at h; cases h; exact ⟨[], rfl, rfl, .nil⟩
  | [], _ :: _, _, ⟨h, _⟩, _ => by cases h
  | _ :: _, [], _, ⟨h, _⟩, _ => by cases h
  | (x, y) :: vr, (dx, dy) :: dr, kds, ⟨h1, h2⟩, h => by
    rw [dctOf] at h
    cases hk : keyOf dx with
    | none => rw [hk] at h; cases h
    | some k =>
      rw [hk] at h
      cases hr : dctOf dr with
      | none => rw [hr] at h; cases h
      | some kr =>
        rw [hr] at h; cases h
        cases h1 with
        | cons a1 a2 =>
          cases h2 with
          | cons b1 b2 =>
            obtain ⟨kvs, e1, e2, e3⟩ := dct_pairs (vs := vr) ⟨a2, b2⟩ hr
            have ek : x = kV k := by
              cases a1 with
              | int i => unfold keyOf at hk; cases hk; rfl
              | str i => unfold keyOf at hk; cases hk; rfl
              | _ => unfold keyOf at hk; cases hk
            exact ⟨(k, y) :: kvs, by rw [e1, ek]; rfl, by simp [e2], .cons b1 e3⟩
theorem EPost.bindAt {α β γ δ : Type} {K : PySem.W.Frag} {mg : Str → Option Value} {dk : Addr} {RR : Hp → β → α → Prop} {RS : Hp → δ → γ → Prop} {W : XK} {F H F' H' : Hp} {s : Deck} {Q : δ → Hp → Prop} {r : R α} {g : α → Deck → R γ} {P : β → Hp → Prop}
    (n1 : Nxt K dk F H F' H' s) (h : EPost K mg dk RS W F H Q (r.bind g)) (k : ∀ a s1 v F1 H1, Nxt K dk F' H' F1 H1 s1 → RR F1 v a → EPost K mg dk RS W F H Q (g a s1) → P v H1) : EPost K mg dk RR W F' H' P r := by
  cases r with
  | ok a s' => exact fun v F2 H2 n rr => k a s' v F2 H2 n rr h
  | raise e s' => exact EPost.later n1 h
  | bad => exact h
theorem ev_dict {keys : List (Option Expr)} {values : List Expr} {trs : List (TE × TE)} {h : FP} (hp : PPs X pos keys values trs) (hd : DVs X W trs h) (hall : keys.all (·.isSome) = true := by rfl) (hl : keys.length = values.length := by rfl) (h0 : keys ≠ [] := by exact List.cons_ne_nil _ _) (h15 : keys.length ≤ 15 := by decide) :
    EV X W (.Dict keys values pos) (fun δ s => (h δ s).bind mkDct) := by
  refine pe_weak (pe_disp hp hall hl h0 h15) fun σ H Q ⟨dk, δ, s, F, er, st, q⟩ => ?_
  intro pA hpA
  have fpA : F pA = none := st.sub.free hpA
  obtain ⟨cl, hdk, _⟩ := st.deck
  have hne : pA ≠ dk := fun z => by rw [z, hdk] at hpA; cases hpA
  have st1 : Stt X.K dk F (upd H pA (.dK [])) s := Nxt.upd (o := .dK []) st fpA hne
  have fr1 : Fr dk H (upd H pA (.dK [])) := fun b u _ e => by rw [upd_ne (ne_of_none e hpA)]; exact e
  have n1 : Nxt X.K dk F H F (upd H pA (.dK [])) s := ⟨Same.refl _, st1, fr1, fun _ e _ => e⟩
  refine hd σ _ _ ⟨dk, δ, s, F, er, st1, EPost.bindAt n1 q fun ds s2 vs F2 H2 n2 rv q2 => ?_⟩
  have hD2 : H2 pA = some (.dK []) := n2.fr _ _ hne upd_same
  have hF2 : F2 pA = none := n2.pv _ fpA (by rw [upd_same]; exact fun z => by cases z)
  unfold mkDct at q2
  split at q2
  · rename_i kds hk
    split at q2
    · rename_i hn
      split at q2
      · rename_i hz
        have hn' := of_decide_eq_true hn
        have hz' := of_decide_eq_true hz
        obtain ⟨kvs, e1, e2, e3⟩ := dct_pairs rv hk
        have hlen : kvs.length = kds.length := by have := congrArg List.length e2; simpa using this
        refine ⟨hD2, kvs, e1, by omega, ?_⟩
        rw [merge_new kvs [] (by rw [List.nil_append, e2]; exact hn'), List.nil_append]
        obtain ⟨cl2, k1, k2⟩ := n2.st.deck
        have sm2 : Same F2 (upd F2 pA (.dK kvs)) := fun b u e => by rw [upd_ne (fun z => by rw [z, hF2] at e; cases e)]; exact e
        have n12 := n1.trans n2
        refine q2 (.ref pA) (upd F2 pA (.dK kvs)) (upd H2 pA (.dK kvs)) ⟨n12.sm.trans sm2, ⟨fun b u e => ?_, by rw [upd_ne (Ne.symm hne)]; exact n2.st.fdk, cl2, by rw [upd_ne (Ne.symm hne)]; exact k1, sm2 _ _ k2⟩, fun b o hb e => by rw [upd_ne (ne_of_none e hpA)]; exact n12.fr b o hb e, fun b e1 e2 => ?_⟩ (.dct upd_same e2 (e3.mono sm2))
        · by_cases hb : b = pA
          · rw [hb] at e ⊢; rw [upd_same] at e ⊢; exact e
          · rw [upd_ne hb] at e ⊢; exact n2.st.sub b u e
        · rw [upd_ne (fun z => e2 (by rw [z]; exact hpA))]
          exact n12.pv b e1 e2
      · exact q2.elim
    · exact q2.elim
  · exact q2.elim
end
end FL

namespace FL
open PySem PySem.Spec L2

theorem hu64 {A : Around} {k : Nat} (hr : Room k A) : A.units + 64 < cLine := Nat.lt_of_le_of_lt (by omega) hr.un
/-- a def of the text stands under its name -/
def Here (K : PySem.W.Frag) (mg : Str → Option Value) (x : Str) (st : Stmt) : Prop := ∃ f fd, Fun K x x st f fd ∧ mg x = some (.ref f)
/-- .. and is worth m -/
def Worth (P : Program) (w : World) (K : PySem.W.Frag) (mg : Str → Option Value) (base : Heap) (k : Nat) (x : Str) (st : Stmt) (ps : List Str) (n : Nat) (m : List D → M D) : Prop :=
  ∃ f fd, FnG P w K mg base k f fd ps (spD K mg n m) ∧ Fun K x x st f fd ∧ mg x = some (.ref f)
section
variable {P : Program} {w : World} {K : PySem.W.Frag} {mg : Str → Option Value} {base : Heap} {x : Str} {st : Stmt} {ps N : List Str} {k n : Nat} {m : List D → M D} {g : FS}
theorem worth_mk (h : Here K mg x st) (S : FnScope N ps (defScope st)) (hN : ps.length ≤ N.length)
    (hbody : ∀ {f : Addr} (cdv : Value) (A : Around) (outer : List Env) (s : Shared) (H : Hp) (E : XK), Room k (A.deeper (PyProof.Rows.envOfC x (defScope st) s.heap.objs.size f cdv)) → A.guards = some [] →
      BV (cxOf (L2.CX P w) P w K mg base N x (defScope st) f cdv A outer s H E) (fun cls d _ H => E cls d H) (defBody st) g) : Worth P w K mg base (k + 1) x st ps ps.length (defM N.length g) := by
  obtain ⟨f, fd, Fn, hm⟩ := h
  exact ⟨f, fd, fn_defG Fn S hN hbody, Fn, hm⟩
theorem worth_zero (h : Here K mg x st) (hb : ∀ ds s, m ds s = .bad) : Worth P w K mg base k x st ps n m := by
  obtain ⟨f, fd, Fn, hm⟩ := h
  have no : ∀ vs H Q E, ¬ spD K mg n m vs H Q E := fun vs H Q E ⟨dk, ds, s, F, st, r, hl, q⟩ => by rw [hb] at q; exact q
  exact ⟨f, fd, ⟨fun vs H Q E q => absurd q (no _ _ _ _), fun A outer s H args us vs Q E _ _ _ _ _ q => absurd q (no _ _ _ _)⟩, Fn, hm⟩
theorem Worth.mono (h : Worth P w K mg base k x st ps n m) {j : Nat} (hk : k ≤ j) : Worth P w K mg base j x st ps n m := by
  obtain ⟨f, fd, G, r⟩ := h
  exact ⟨f, fd, G.mono hk, r⟩
theorem Worth.imp (h : Worth P w K mg base k x st ps n m) {m' : List D → M D} (hm : ∀ ds s, ds.length = n → m' ds s ≠ .bad → m ds s = m' ds s) : Worth P w K mg base k x st ps n m' := by
  obtain ⟨f, fd, G, r⟩ := h
  refine ⟨f, fd, G.imp fun vs H Q E ⟨dk, ds, s, F, st, rr, hl, q⟩ => ⟨dk, ds, s, F, st, rr, hl, ?_⟩, r⟩
  by_cases hb : m' ds s = .bad
  · rw [hb] at q; exact q.elim
  · rw [hm ds s hl hb]; exact q
end
section
variable {X : Cx} {W : WX} {a : Expr} {es : List Expr} {fs : FA} {pos p : Pos} {kws : List Keyword} {x : Str} {st : Stmt} {k n : Nat} {ps : List Str} {m : List D → M D}
theorem ev_callW (Wt : Worth X.prog X.w X.K X.mg X.base k x st ps n m) (hr : Room k X.A) (hgd : X.A.guards = some []) (hg : Gl X x)
    (hbind : ∀ (kV doc pm : Value) (an : Option Addr) (cdv ct : Value) (us : List Value), us.length = ps.length → bindArgs (PySem.W.fnOf x x (defArgs st) (defBody st) (defScope st) .none kV doc pm an cdv ct) ⟨us, []⟩ = pure (ps.zip us))
    (tk : Takes X W) (ha : AV X W (a :: es) fs) (hdb : (x == ("__debug__" : Str)) = false := by decide) (he : starEach (a :: es) X.env = (false, eval a X.env) :: starEach es X.env := by rfl) (hpl : (backTo pos (starEach es X.env)).any (·.1) = false := by rfl) :
    EV X W (.Call (.Name x p) (a :: es) [] pos) (withA fs (callN n m)) := by
  obtain ⟨f, fd, G, Fn, hm⟩ := Wt
  exact ev_callG G hr hgd hg hm Fn.kp (Fn.binds hbind) tk ha hdb he hpl
def callKW (nk : Nat) (perm : List Nat) (n : Nat) (m : List D → M D) : List D → M D := fun ds => if ds.length = nk then callP perm n m ds else fun _ => .bad
theorem ev_callKW {ks : List Str} {perm : List Nat} (Wt : Worth X.prog X.w X.K X.mg X.base k x st ps n m) (hr : Room k X.A) (hgd : X.A.guards = some []) (hg : Gl X x)
    (hbind : ∀ (kV doc pm : Value) (an : Option Addr) (cdv ct : Value) (ws : List Value), ws.length = ks.length → bindArgs (PySem.W.fnOf x x (defArgs st) (defBody st) (defScope st) .none kV doc pm an cdv ct) ⟨[], ks.zip ws⟩ = pure (ps.zip (permL .none perm ws)))
    (tk : Takes X W) (ha : KV' X W kws fs) (hall : (backToKw pos (keywordEach kws X.env)).all (·.1.isSome) = true := by rfl) (hks : (backToKw pos (keywordEach kws X.env)).filterMap (·.1) = ks := by rfl) (hdb : (x == ("__debug__" : Str)) = false := by decide)
    (hpl : ((backTo pos (starEach [] X.env)).any (·.1) || (backToKw pos (keywordEach kws X.env)).any (·.1.isNone)) = false := by rfl) :
    EV X W (.Call (.Name x p) [] kws pos) (withA fs (callKW ks.length perm n m)) := by
  obtain ⟨f, fd, G, Fn, hm⟩ := Wt
  have kp := Fn.kp
  refine ev_callK (ks := ks) (perm := perm) G hr hgd hg hm kp (fun s ws _ hl => ?_) tk ha hall hks rfl hdb hpl
  obtain ⟨oc, od, kV, doc, pm, an, cdv, ct, osl, rfl, lk, hcd⟩ := Fn.ex
  exact .of_eq (hbind kV doc pm an cdv ct ws hl)
end
end FL

namespace FL
open PySem PySem.Spec L2

/-! ### the mixer is made -/
def spDeck (K : PySem.W.Frag) (N : Nat) : Sp := fun vs H Q _ => ∃ (a : Addr) (ns : List Int), vs = [.ref a] ∧ SqL K H a (ns.map V.int) ∧ ns.length ≤ 63 ∧
  ∀ (H' : Hp) (p cl : Addr), Same H H' → H p = none → p ≠ cl → H' p = some (.lst [.ref cl, .int 0, .int 0]) → H' cl = some (.lst ((ns.take N).map V.int)) → Q (.ref p) H'
def rIntT : List V → Hp → VK → Prop := fun xs H Q => (∃ i, xs = [.int i] ∧ Q (.int i) H) ∨ ∃ k, xs = [.bl k] ∧ Q (.int (if k then 1 else 0)) H
def tDeck (K : PySem.W.Frag) (N : Nat) : TS := tRet (tLst (tCons (tLc (iList K (tSl (rSlL K) (tVar 0) tNoPart (tPart (tC (.int N))))) (gName 1) tYes (tCB rIntT (tCons (tVar 1) tNil)) [1]) (tCons (tC (.int 0)) (tCons (tC (.int 0)) tNil))))
theorem cut_take (xs : List V) (N : Nat) : cutV xs none (some (N : Int)) = xs.take N := by
  unfold cutV HT.sIx
  simp only [List.drop_zero, Nat.sub_zero]
  have h : ¬ ((N : Int) < 0) := by omega
  rw [if_neg h]
  by_cases hn : N ≤ xs.length
  · congr 1
    omega
  · rw [List.take_of_length_le (by omega), List.take_of_length_le (by omega)]
theorem deck_reads {K : PySem.W.Frag} {N : Nat} {vs : List V} {H : Hp} {Q : VK} {E : XK} {n1 n2 : Str} (h : spDeck K N vs H Q E) : tDeck K N { nx := fun _ H' => Q .non H', rt := Q } (L2.start [n1, n2] vs) H := by
  obtain ⟨a, ns, rfl, hS, hl, k⟩ := h
  obtain ⟨ms, hms⟩ : ∃ ms, ms = ns.take N := ⟨_, rfl⟩
  rw [← hms] at k
  have hcut : cutV (ns.map V.int) none (some (N : Int)) = ms.map V.int := by rw [cut_take, ← List.map_take, hms]
  refine ⟨_, rfl, (N : Int), rfl, a, _, rfl, hS, fun p1 hp1 => ?_⟩
  rw [hcut]
  have s1 : Same H (upd H p1 (.lst (ms.map V.int))) := fun b o e => by rw [upd_ne (ne_of_none e hp1)]; exact e
  refine ⟨p1, rfl, ⟨_, SqL.of upd_same⟩, fun Dl hD => ?_⟩
  have hD0 : H Dl = none := s1.free hD
  have ne1 : p1 ≠ Dl := fun z => by rw [← z, upd_same] at hD; cases hD
  have hml : ms.length ≤ 63 := by rw [hms, List.length_take]; omega
  refine lc_list (K := K) (a := p1) (xs := ms.map V.int) (fun i H' => Same (upd H p1 (.lst (ms.map V.int))) H' ∧ H' Dl = some (.lst ((ms.take i).map V.int)))
    ⟨fun b o e => by rw [upd_ne (fun z => by rw [z, upd_ne (Ne.symm ne1), hD0] at e; cases e)]; exact e, by rw [upd_same]; rfl⟩ (fun i H' _ z => z.1.seq (SqL.of upd_same)) ?_ ?_
  · rintro i x H' hi ⟨sm, hd⟩
    obtain ⟨z, hz, rfl⟩ : ∃ z, ms[i]? = some z ∧ x = V.int z := by
      rw [List.getElem?_map] at hi
      cases e : ms[i]? with
      | none => rw [e] at hi; cases hi
      | some z => rw [e] at hi; exact ⟨z, rfl, (Option.some.inj hi).symm⟩
    refine ⟨rfl, ?_⟩
    unfold tYes
    refine iteT ?_
    refine ⟨V.int z, rfl, .inl ⟨z, rfl, ?_⟩⟩
    refine ⟨_, hd, ?_, ?_, ?_⟩
    · rw [List.length_map, List.length_take, sizeLine_eq]; omega
    · exact fun b o e => by
        rw [upd_ne (fun q => by rw [q, upd_ne (Ne.symm ne1), hD0] at e; cases e)]
        exact sm b o e
    · rw [upd_same]
      have e2 : ms.take (i + 1) = ms.take i ++ [z] := by
        obtain ⟨hlt, e3⟩ := List.getElem?_eq_some_iff.mp hz
        rw [List.take_succ, hz]
        rfl
      rw [e2, List.map_append]
      rfl
  · rintro H' ⟨sm, hd⟩
    rw [List.length_map, List.take_length] at hd
    refine ⟨by show 3 ≤ sizeLine; decide, fun p hp => ?_⟩
    have ne2 : Dl ≠ p := ne_of_none hd hp
    have hp0 : H p = none := s1.free (sm.free hp)
    refine k _ p Dl (fun b o e => ?_) hp0 (Ne.symm ne2) upd_same (by rw [upd_ne ne2, hd])
    rw [upd_ne (ne_of_none e hp0)]
    exact sm b o (by rw [upd_ne (ne_of_none e hp1)]; exact e)

/-! ### the law -/
def spLawG (K : PySem.W.Frag) : Sp := fun vs H Q _ => ∃ (a : Addr) (ns : List Int), vs = [.ref a] ∧ SqL K H a (ns.map V.int) ∧ ns.length ≤ 63 ∧ ∀ H', Q (.bl true) H'
def deck0 (n : Nat) : DEnv := (List.replicate n none).set 1 (some .deck)
/-- the def that makes the mixer -/
def DeckOk (P : Program) (w : World) (K : PySem.W.Frag) (mg : Str → Option Value) (base : Heap) (k : Nat) (x : Str) (st : Stmt) (ps : List Str) (N : Nat) : Prop :=
  ∃ f fd, FnG P w K mg base k f fd ps (spDeck K N) ∧ Fun K x x st f fd ∧ mg x = some (.ref f)
theorem deck_mk {P : Program} {w : World} {K : PySem.W.Frag} {mg : Str → Option Value} {base : Heap} {k N : Nat} {x n1 n2 : Str} {st : Stmt} (h : Here K mg x st) (S : FnScope [n1, n2] [n1] (defScope st))
    (hbody : ∀ {f : Addr} (cdv : Value) (A : Around) (outer : List Env) (s : Shared) (H : Hp) (E : XK), Room k (A.deeper (PyProof.Rows.envOfC x (defScope st) s.heap.objs.size f cdv)) → A.guards = some [] →
      PSs (cxOf (L2.CX P w) P w K mg base [n1, n2] x (defScope st) f cdv A outer s H E) (defBody st) (tDeck K N)) : DeckOk P w K mg base (k + 1) x st [n1] N := by
  obtain ⟨f, fd, Fn, hm⟩ := h
  refine ⟨f, fd, fn_ofG Fn S (fun vs H Q E h => ?_) (fun cdv A outer s H vs Q E hr hgd h => ?_), Fn, hm⟩
  · obtain ⟨a, ns, rfl, _⟩ := h
    rfl
  · exact ⟨_, hbody cdv A outer s H E hr hgd, deck_reads h⟩
def tDeckCall (K : PySem.W.Frag) (N : Nat) (E : List (Option V) → XK) : TS := tAsg (fun σ H Q => (tCons (tVar 0) tNil) σ H fun vs H1 => spDeck K N (vs ++ []) H1 Q (E σ)) (gName 1)
theorem law_reads {K : PySem.W.Frag} {mg : Str → Option Value} {W : WX} {N : Nat} {Nl : List Str} {g : FS} {vs : List V} {H : Hp} {Q : VK} {E : XK} {E' : List (Option V) → XK} (h : spLawG K vs H Q E) (hN : 2 ≤ Nl.length)
    (hm : ∀ cells : List Int, cells.length ≤ 63 → ∃ s', g (deck0 Nl.length) ⟨cells, 0, 0⟩ = .rt (.bl true) s') :
    tSeq (tDeckCall K N E') (tSV K mg W g) { nx := fun _ H' => Q .non H', rt := Q } (L2.start Nl vs) H := by
  obtain ⟨a, ns, rfl, hS, hl, k⟩ := h
  refine ⟨V.ref a, rfl, a, ns, rfl, hS, hl, fun H' p cl sm hp ne h1 h2 => ?_⟩
  obtain ⟨s', hs⟩ := hm (ns.take N) (by rw [List.length_take]; omega)
  refine ⟨p, deck0 Nl.length, ⟨ns.take N, 0, 0⟩, fun b => if b = p then none else H' b, ⟨?_, fun i d e => ?_⟩, ⟨fun b o e => ?_, if_pos rfl, cl, h1, ?_⟩, ?_⟩
  · unfold L2.start deck0
    simp
    omega
  · unfold deck0 at e
    by_cases hi : i = 1
    · subst hi
      rw [List.getElem?_set_self (by simp; omega)] at e
      cases e
      refine ⟨.ref p, List.getElem?_set_self (by unfold L2.start; simp; omega), .deck⟩
    · rw [List.getElem?_set_ne (Ne.symm hi)] at e
      have z := List.eq_of_mem_replicate (List.mem_of_getElem? e)
      cases z
  · by_cases hb : b = p
    · rw [if_pos hb] at e; cases e
    · rw [if_neg hb] at e; exact e
  · rw [if_neg (Ne.symm ne)]; exact h2
  · rw [hs]
    intro v F' H2 _ r
    cases r
    exact k H2
theorem law_mk {P : Program} {w : World} {K : PySem.W.Frag} {mg : Str → Option Value} {base : Heap} {k N : Nat} {st : Stmt} {Nl : List Str} {x0 : Str} {g : FS} (h : Here K mg "law" st) (S : FnScope Nl [x0] (defScope st)) (hN : 2 ≤ Nl.length)
    (hm : ∀ cells : List Int, cells.length ≤ 63 → ∃ s', g (deck0 Nl.length) ⟨cells, 0, 0⟩ = .rt (.bl true) s')
    (hbody : ∀ {f : Addr} (cdv : Value) (A : Around) (outer : List Env) (s : Shared) (H : Hp) (E : XK), Room k (A.deeper (PyProof.Rows.envOfC "law" (defScope st) s.heap.objs.size f cdv)) → A.guards = some [] →
      PSs (cxOf (L2.CX P w) P w K mg base Nl "law" (defScope st) f cdv A outer s H E) (defBody st) (tSeq (tDeckCall K N (WE fun cls d _ H => E cls d H)) (tSV K mg (fun cls d _ H => E cls d H) g))) :
    ∃ f fd, FnG P w K mg base (k + 1) f fd [x0] (spLawG K) ∧ Fun K "law" "law" st f fd ∧ mg "law" = some (.ref f) := by
  obtain ⟨f, fd, Fn, hm'⟩ := h
  refine ⟨f, fd, fn_ofG Fn S (fun vs H Q E h => ?_) (fun cdv A outer s H vs Q E hr hgd h => ?_), Fn, hm'⟩
  · obtain ⟨a, ns, rfl, _⟩ := h
    rfl
  · exact ⟨_, hbody cdv A outer s H E hr hgd, law_reads h hN hm⟩
theorem ps_deck {X : Cx} {k N : Nat} {x y n1 : Str} {st : Stmt} {W : WX} {arg : Expr} {p pos pos' pos2 : Pos} (Wd : DeckOk X.prog X.w X.K X.mg X.base k x st [n1] N) (hr : Room k X.A) (hgd : X.A.guards = some []) (hg : Gl X x)
    (hbind : ∀ (kV doc pm : Value) (an : Option Addr) (cdv ct : Value) (us : List Value), us.length = [n1].length → bindArgs (PySem.W.fnOf x x (defArgs st) (defBody st) (defScope st) .none kV doc pm an cdv ct) ⟨us, []⟩ = pure ([n1].zip us))
    (tk : Takes X W) (hN : X.N.Nodup) (hi : X.N[1]? = some y) (hy : Loc X.env.scope y) (ha : PE X arg (tVar 0)) (hdb : (x == ("__debug__" : Str)) = false := by decide) (he : starEach (arg :: []) X.env = (false, eval arg X.env) :: starEach [] X.env := by rfl) (hpl : (backTo pos (starEach [] X.env)).any (·.1) = false := by rfl)
    (hs : swapsWith (.Call (.Name x p) [arg] [] pos) (some (.Name y pos')) pos2.line X.env = pure false := by rfl) (hf : X.fn y = true ∨ X.env.scope.names.lookup y = some .local := by first | exact .inl rfl | exact .inr rfl | assumption) :
    PS X (.Assign [.Name y pos'] (.Call (.Name x p) [arg] [] pos) pos2) (tDeckCall X.K N (WE W)) := by
  obtain ⟨f, fd, G, Fn, hm⟩ := Wd
  exact ps_set (i := 1) hN hi hy (pe_callG (E := WE W) (dvs := []) G hr hgd hg hm Fn.kp (Fn.binds hbind) .nil (fun σ => passAt tk σ) (pa_cons ha pa_nil he) hdb he hpl) hs hf
end FL

namespace FL
open PySem PySem.Spec L2

/-! ### the end: the law's call, from a promise that holds where nothing is being shown -/
theorem callG {P : Program} {w : World} {K : PySem.W.Frag} {mg mb : Str → Option Value} {k : Nat} {fa a : Addr} {fd : FuncData} {x : Str} {st : Shared} {vs : List Value} {ns : List Int}
    (inK : K.In st.heap) (hmn : st.heap.Ns mainGlobals mg) (hbu : st.heap.Ns builtinsNs mb) (hbo : ∀ y : Str, y ≠ "__name__" → mb y = bootBuiltins y) (hno : st.heap.NoLimit) (hge : st.gens = #[])
    (hat : st.heap.get? a = some { cls := .type "list", data := .seq vs.toArray }) (hin : PyProof.Rows.IntsAre vs ns) (h63 : ns.length ≤ 63) (room : Room k callerA)
    (F : ∀ base : Heap, K.In base → base.Ns mainGlobals mg → FnG P w K mg base k fa fd [x] (spLawG K)) (hbd : ∀ (s : Shared) (u : Value), BindsTo s fd ⟨[u], []⟩ [(x, u)]) :
    codeAny (model P w) callerA (.call (.ref fa) ⟨[.ref a], []⟩) (fun r s' => r = .ok (.ret (.bool true)) ∧ OldK st.heap s'.heap ∧ s'.os = st.os ∧ PyProof.Rows.AllBare s'.gens) st := by
  have rel := L2.vals_ints hin
  have nV := hin.length
  have hsz : ns.length ≤ sizeLine := by rw [sizeLine_eq]; omega
  have main : ∀ H : Hp, L2.Only H → SqL K H a (ns.map V.int) → HOk P w H st.heap → (∀ b, H b ≠ none → b = a) → (H a ≠ none → K.lookup a = none) →
      codeAny (model P w) callerA (.call (.ref fa) ⟨[.ref a], []⟩) (fun r s' => r = .ok (.ret (.bool true)) ∧ OldK st.heap s'.heap ∧ s'.os = st.os ∧ PyProof.Rows.AllBare s'.gens) st := by
    intro H only scr ok one noK
    have hid : ∀ {b : Addr} {o : Obj}, st.heap.get? b = some o → H b = none → (hidT st.heap H).get? b = some o := fun z n => hidT_get z n
    have dictless : ∀ {b : Addr} {o : Obj} {es : Array DictEntry} {ep : Nat}, st.heap.get? b = some o → o.data = .dict es ep → H b = none := by
      intro b o es ep z dz
      cases q : H b with
      | none => rfl
      | some u =>
        have eb : b = a := one b (by rw [q]; simp)
        rw [eb, hat] at z
        cases z
        exact absurd dz (fun y => by cases (show Data.seq vs.toArray _ = Data.dict es ep from y))
    have nsH : ∀ {b : Addr} {m : Str → Option Value}, st.heap.Ns b m → (hidT st.heap H).Ns b m := by
      rintro b m ⟨o, es, ep, z, dz, r⟩
      exact ⟨o, es, ep, hid z (dictless z dz), dz, r⟩
    have kb : K.In (hidT st.heap H) := by
      intro b o z
      refine hid (inK b o z) ?_
      cases q : H b with
      | none => rfl
      | some u =>
        have eb : b = a := one b (by rw [q]; simp)
        rw [eb, noK (by rw [← eb, q]; simp)] at z
        cases z
    obtain ⟨mc, l1, l2⟩ := hno
    have md : Mod K mg (hidT st.heap H) := ⟨kb, nsH hmn, ⟨mb, nsH hbu, hbo⟩, ⟨mc, nsH l1, l2⟩⟩
    have env : Env0 P w K mg (hidT st.heap H) callerA [] st H := ⟨rfl, md, fun b o z => of_hidT z, Nat.le_of_eq (hidT_size _ _), trivial, fun b hb => absurd (show b ∈ ([] : List Addr) from hb) (by simp), ok, .of_eq hge⟩
    refine codeAny_mono ((F _ kb (nsH hmn)).run callerA [] st H ⟨[.ref a], []⟩ [.ref a] [.ref a] (fun v _ => v = .bl true) (fun _ _ _ => False) room rfl env (hbd st (.ref a)) (.cons rfl .nil) ⟨a, ns, rfl, scr, h63, fun _ => rfl⟩) fun r s' hr => ?_
    cases r with
    | error e =>
      obtain ⟨_, _, _, _, _, _, _, _, _, _, _, _, no⟩ := hr
      exact no.elim
    | ok fl =>
      cases fl with
      | next => exact hr.elim
      | brk => exact hr.elim
      | cont => exact hr.elim
      | ret u =>
        obtain ⟨v, H', os, bare, un, ok', rr, q⟩ := hr
        cases (show v = .bl true from q)
        cases (show u = Value.bool true from rr)
        refine ⟨rfl, OldK.of_keep fun b o z => ?_, os, bare⟩
        cases q2 : H b with
        | none => exact un.keep b o z q2 (fun y => absurd (show b ∈ ([] : List Addr) from y) (by simp)) (by simp)
        | some u =>
          rcases only b with y | ⟨ob, xs, y⟩
          · rw [q2] at y
            cases y
          · obtain ⟨g1, _⟩ := ok b _ y
            obtain ⟨g2, _⟩ := ok' b _ (un.frzs b ob _ y)
            rw [z] at g1
            cases g1
            exact g2
  cases hk : K.lookup a with
  | some o =>
    have z := inK a o hk
    rw [hat] at z
    cases z
    exact main (fun _ => none) (fun _ => .inl rfl) (.inr ⟨_, vs.toArray, _, hk, rfl, rfl, rfl, by rw [List.size_toArray, nV]; exact hsz, by simpa using rel⟩) (fun b u y => nomatch y) (fun b y => absurd rfl y) fun y => absurd rfl y
  | none =>
    obtain ⟨H, hH⟩ : ∃ H : Hp, H = fun b => if b = a then some (.frz { cls := .type "list", data := .seq vs.toArray } (.lst (ns.map V.int))) else none := ⟨_, rfl⟩
    have at_a : H a = some (.frz { cls := .type "list", data := .seq vs.toArray } (.lst (ns.map V.int))) := by rw [hH]; exact if_pos rfl
    have not_a : ∀ b, b ≠ a → H b = none := fun b n => by rw [hH]; exact if_neg n
    refine main H (fun b => ?_) (.inl (.inr ⟨_, at_a⟩)) (fun b u y => ?_) (fun b y => ?_) fun _ => hk
    · by_cases e : b = a
      · rw [e]; exact .inr ⟨_, _, at_a⟩
      · exact .inl (not_a b e)
    · by_cases e : b = a
      · subst e
        rw [at_a] at y
        cases y
        exact ⟨hat, by rw [List.length_map]; exact hsz, vs, _, rel, hat⟩
      · rw [not_a b e] at y
        cases y
    · by_cases e : b = a
      · exact e
      · exact absurd (not_a b e) y
theorem walkG {l : PySem.W.OpenLaw} {k : Nat} {q : Program} {loose : List Str} {XP : (Str → Option Value) → Heap → Prop} {YP : World → Heap → Prop} {d : DefRec} {K : Params → PySem.W.Frag} {x : Str} (h63 : l.most = some 63) (hdf : d.params.defaults = []) (room : Room k callerA)
    (hY : ∀ (w : World) (h : Heap), YP w h → (K w.params).In h)
    (F : ∀ (w : World) (mg : Str → Option Value) (fa : Addr) (h : Heap), (K w.params).In h → h.Ns mainGlobals mg → mg d.name = some (.ref fa) →
      ∃ fd : FuncData, (∀ (s : Shared) (u : Value), BindsTo s fd ⟨[u], []⟩ [(x, u)]) ∧ ∀ base : Heap, (K w.params).In base → base.Ns mainGlobals mg → FnG l.prog w (K w.params) mg base k fa fd [x] (spLawG (K w.params))) :
    PySem.W.WalkO q loose XP YP l.row.toRowW d [] (fun f vs => PySem.call f vs) :=
  Att.attach_call h63 hdf fun w s₀ s₁ mg mb fa o pm cd doc a vs ns G Y ho hd hcd hmg hobj hints hlen hg =>
    have inK := hY w _ Y
    have ⟨_, hb, hF⟩ := F w mg fa _ inK G.T.g hmg
    callG inK G.T.g G.T.b G.T.builtins G.T.nolimit hg hobj hints hlen room hF hb
end FL
namespace FL
open PySem PySem.Spec L2
/-! ### what the program's top has left -/
def At (K : PySem.W.Frag) (x : Str) (st : Stmt) : Prop := ∃ (f : Addr) (oc : Value) (od : Option Addr) (osl : Array (Option Value)) (kV dc pm : Value) (an : Option Addr) (cd ct : Value),
  PySem.W.nsIn K mainGlobals x = some (some (.ref f)) ∧ K.lookup f = some ⟨oc, od, .func (PySem.W.fnOf x x (defArgs st) (defBody st) (defScope st) .none kV dc pm an cd ct), osl⟩ ∧ PySem.W.codeIn K cd x = true ∧ PySem.W.keepIn K (.ref f) = true
theorem At.mk {K : PySem.W.Frag} {x : Str} {st : Stmt} {f : Addr} {oc : Value} {od : Option Addr} {osl : Array (Option Value)} {kV dc pm : Value} {an : Option Addr} {cd ct : Value} (a : PySem.W.nsIn K mainGlobals x = some (some (.ref f)))
    (l : K.lookup f = some ⟨oc, od, .func (PySem.W.fnOf x x (defArgs st) (defBody st) (defScope st) .none kV dc pm an cd ct), osl⟩) (c : PySem.W.codeIn K cd x = true) (k : PySem.W.keepIn K (.ref f) = true) : At K x st := ⟨f, oc, od, osl, kV, dc, pm, an, cd, ct, a, l, c, k⟩
theorem At.here {K : PySem.W.Frag} {h : Heap} {mg : Str → Option Value} {x : Str} {st : Stmt} (A : At K x st) (X : K.In h) (G : h.Ns mainGlobals mg) : Here K mg x st := by
  obtain ⟨f, oc, od, osl, kV, dc, pm, an, cd, ct, a, l, c, k⟩ := A
  exact ⟨f, _, fun_mk l c k, PySem.W.mg_of X G a⟩
theorem fun_one {K : PySem.W.Frag} {x y : Str} {st : Stmt} {f : Addr} {fd fd' : FuncData} (F : Fun K x y st f fd) (F' : Fun K x y st f fd') : fd = fd' := by
  obtain ⟨_, _, _, _, _, _, _, _, _, e1, l1, _⟩ := F.ex
  obtain ⟨_, _, _, _, _, _, _, _, _, e2, l2, _⟩ := F'.ex
  rw [l1] at l2
  have := congrArg (fun o => o.map Obj.data) l2
  simp only [Option.map_some] at this
  injection this with h
  injection h
end FL

namespace FL
open PySem PySem.Spec L2
/-! ### reckoning with mirrors: what each piece gives at what is known -/
section
variable {α β : Type} {a : α} {s s' : Deck} {e : Ex} {f g : FE} {fs gs : FS} {δ δ' : DEnv} {d d' : D} {k : Bool} {i j : Int} {xs ys : List D} {n : Nat} {m : List D → M D} {fa : FA} {ft fu : FT} {p : Pat}
@[simp] theorem q_bind {h : α → Deck → R β} : (R.ok a s).bind h = h a s := rfl
@[simp] theorem q_toS {h : α → Deck → RS} : (R.ok a s).toS δ h = h a s := rfl
@[simp] theorem q_toS_raise {h : α → Deck → RS} : (R.raise e s).toS δ h = .raise e δ s := rfl
@[simp] theorem q_rt : toR (.rt d s) = .ok d s := rfl
@[simp] theorem q_nx : toR (.nx δ s) = .ok .non s := rfl
@[simp] theorem q_raise : toR (.raise e δ s) = .raise e s := rfl
def RS.thn (r : RS) (g : FS) : RS := match r with
  | .nx δ s => g δ s
  | r => r
theorem q_seq : seqS fs gs δ s = (fs δ s).thn gs := by unfold seqS RS.thn; cases fs δ s <;> rfl
@[simp] theorem q_thn_nx : (RS.nx δ s).thn gs = gs δ s := rfl
@[simp] theorem q_thn_rt : (RS.rt d s).thn gs = .rt d s := rfl
@[simp] theorem q_thn_raise : (RS.raise e δ s).thn gs = .raise e δ s := rfl
theorem q_def {g : FS} {ds : List D} : defM n g ds s = toR (g (startD n ds) s) := rfl
theorem q_ite : iteS ft fs gs δ s = (ft δ s).toS δ fun k s => if k = true then fs δ s else gs δ s := rfl
theorem q_ret : retS f δ s = (f δ s).toS δ fun d s => .rt d s := rfl
theorem q_set {i : Nat} : setS i f δ s = (f δ s).toS δ fun d s => .nx (δ.set i (some d)) s := rfl
theorem q_drop : dropS f δ s = (f δ s).toS δ fun d s => .nx δ s := rfl
def nxO (l : Option (List (Nat × D))) (δ : DEnv) (s : Deck) : RS := match l with
  | some l => .nx (setD δ l) s
  | none => .bad
theorem q_asg : asgS p f δ s = (f δ s).toS δ fun d s => nxO (asgP p d) δ s := by unfold asgS nxO; rfl
@[simp] theorem q_nxO {l : List (Nat × D)} : nxO (some l) δ s = .nx (setD δ l) s := rfl
theorem q_for : forS fa p fs δ s = (fa δ s).toS δ fun xs s => forD (turnS p fs) xs δ s := rfl
@[simp] theorem q_for0 {b : D → FS} : forD b [] δ s = .nx δ s := rfl
theorem q_forC {b : D → FS} {x : D} (h : b x δ s = .nx δ' s') : forD b (x :: xs) δ s = forD b xs δ' s' := by show (match b x δ s with | .nx δ' s' => forD b xs δ' s' | .ct δ' s' => forD b xs δ' s' | .bk δ' s' => .nx δ' s' | r => r) = _; rw [h]
theorem q_forR {b : D → FS} {x : D} (h : b x δ s = .rt d s') : forD b (x :: xs) δ s = .rt d s' := by show (match b x δ s with | .nx δ' s' => forD b xs δ' s' | .ct δ' s' => forD b xs δ' s' | .bk δ' s' => .nx δ' s' | r => r) = _; rw [h]
def RS.frd (r : RS) (g : FS) : RS := match r with
  | .nx δ s => g δ s
  | .ct δ s => g δ s
  | .bk δ s => .nx δ s
  | r => r
theorem q_fc {b : D → FS} {x : D} : forD b (x :: xs) δ s = (b x δ s).frd fun δ s => forD b xs δ s := by
  show (match b x δ s with | .nx δ' s' => forD b xs δ' s' | .ct δ' s' => forD b xs δ' s' | .bk δ' s' => .nx δ' s' | r => r) = _
  unfold RS.frd
  cases b x δ s <;> rfl
@[simp] theorem q_frd_nx : (RS.nx δ s).frd gs = gs δ s := rfl
@[simp] theorem q_frd_rt : (RS.rt d s).frd gs = .rt d s := rfl
@[simp] theorem q_frd_ct : (RS.ct δ s).frd gs = gs δ s := rfl
@[simp] theorem q_frd_bk : (RS.bk δ s).frd gs = .nx δ s := rfl
theorem q_turn {i : Nat} : turnS (.nm i) fs d δ s = fs (δ.set i (some d)) s := rfl
def okO (o : Option (Option D)) (s : Deck) : R D := match o with
  | some (some d) => .ok d s
  | _ => .bad
theorem q_get {i : Nat} : getE i δ s = okO δ[i]? s := by unfold getE okO; rfl
@[simp] theorem q_okO : okO (some (some d)) s = .ok d s := rfl
theorem q_cst : cst d δ s = .ok d s := rfl
theorem q_lift {h : D → D → M D} : lift2 h f g δ s = (f δ s).bind fun x s => (g δ s).bind fun y s => h x y s := rfl
theorem q_un {h : D → M D} : un1 h f δ s = (f δ s).bind h := rfl
theorem q_with : withA fa m δ s = (fa δ s).bind m := rfl
theorem q_av0 : av0 δ s = .ok [] s := rfl
theorem q_avC : avC f fa δ s = (f δ s).bind fun x s => (fa δ s).bind fun xs s => .ok (x :: xs) s := rfl
theorem q_callN {ds : List D} : callN n m ds s = if ds.length = n then m ds s else .bad := rfl
theorem q_callKW {nk : Nat} {perm : List Nat} {ds : List D} : callKW nk perm n m ds s = if ds.length = nk then callN n m (permL .non perm ds) s else .bad := by unfold callKW callP; split <;> rfl
theorem q_andD : andD f g δ s = (f δ s).bind fun x s => (tru x s).bind fun k s => if k = true then g δ s else .ok x s := rfl
theorem q_orD : orD f g δ s = (f δ s).bind fun x s => (tru x s).bind fun k s => if k = true then .ok x s else g δ s := rfl
theorem q_notD : notD f δ s = (f δ s).bind fun x s => (tru x s).bind fun k s => .ok (.bl (!k)) s := rfl
theorem q_fAnd : fAnd ft fu δ s = (ft δ s).bind fun k s => if k = true then fu δ s else .ok false s := rfl
theorem q_fOr : fOr ft fu δ s = (ft δ s).bind fun k s => if k = true then .ok true s else fu δ s := rfl
theorem q_fNot : fNot ft δ s = (ft δ s).bind fun k s => .ok (!k) s := rfl
theorem q_fTru : fTru f δ s = (f δ s).bind tru := rfl
theorem q_fBoo : fBoo f δ s = (f δ s).bind boo := rfl
theorem q_ifD : ifD ft f g δ s = (ft δ s).bind fun k s => if k = true then f δ s else g δ s := rfl
theorem q_isN : isN f δ s = (f δ s).bind fun x s => .ok (.bl (isNone x)) s := rfl
theorem q_fIsN : fIsN f δ s = (f δ s).bind fun x s => .ok (isNone x) s := rfl
theorem q_fNotN : fNotN f δ s = (f δ s).bind fun x s => .ok (!isNone x) s := rfl
theorem q_isi {T : String} : isiF f T δ s = (f δ s).bind fun x s => pureM ((isiD T x).map .bl) s := rfl
theorem q_isi2 {T U : String} : isi2F f T U δ s = (f δ s).bind fun x s => pureM ((isi2D T U x).map .bl) s := rfl
@[simp] theorem q_pure : pureM (some d) s = .ok d s := rfl
@[simp] theorem q_none0 : isNone .non = true := rfl
@[simp] theorem q_none1 : isNone (.int i) = false := rfl
@[simp] theorem q_none2 : isNone (.lst xs) = false := rfl
@[simp] theorem q_none3 : isNone (.tup xs) = false := rfl
@[simp] theorem q_none4 : isNone (.bl k) = false := rfl
@[simp] theorem q_tru_bl : tru (.bl k) s = .ok k s := rfl
@[simp] theorem q_tru_int : tru (.int i) s = .ok (i != 0) s := rfl
@[simp] theorem q_tru_lst : tru (.lst xs) s = .ok (!xs.isEmpty) s := rfl
@[simp] theorem q_tru_tup : tru (.tup xs) s = .ok (!xs.isEmpty) s := rfl
@[simp] theorem q_tru_non : tru .non s = .ok false s := rfl
@[simp] theorem q_boo : boo (.bl k) s = .ok k s := rfl
theorem q_mkLst (h : xs.length ≤ 16777216) : mkLst xs s = .ok (.lst xs) s := by unfold mkLst small; rw [if_pos (decide_eq_true h)]
theorem q_mkTup (h : xs.length ≤ 16777216) : mkTup xs s = .ok (.tup xs) s := by unfold mkTup small; rw [if_pos (decide_eq_true h)]
@[simp] theorem q_seqL : seqM (.lst xs) s = .ok xs s := rfl
@[simp] theorem q_seqT : seqM (.tup xs) s = .ok xs s := rfl
@[simp] theorem q_lenL : lenM [.lst xs] s = .ok (.int xs.length) s := rfl
@[simp] theorem q_lenT : lenM [.tup xs] s = .ok (.int xs.length) s := rfl
@[simp] theorem q_eqI : eqM (.int i) (.int j) s = .ok (.bl (decide (i = j))) s := by
  have h : ∀ n : Int, SeqAt.shaped (PyData.int n) = true := fun n => rfl
  unfold eqM eqO pureM
  simp only [py, h, PyData.eqv, if_true, Option.map_some]
  by_cases e : i = j <;> simp [e]
@[simp] theorem q_neI : neM (.int i) (.int j) s = .ok (.bl (!decide (i = j))) s := by
  have h : ∀ n : Int, SeqAt.shaped (PyData.int n) = true := fun n => rfl
  unfold neM eqO pureM
  simp only [py, h, PyData.eqv, if_true, Option.map_some]
  by_cases e : i = j <;> simp [e]
@[simp] theorem q_lt : ltM (.int i) (.int j) s = .ok (.bl (decide (i < j))) s := rfl
@[simp] theorem q_le : leM (.int i) (.int j) s = .ok (.bl (decide (i ≤ j))) s := rfl
@[simp] theorem q_gt : gtM (.int i) (.int j) s = .ok (.bl (decide (j < i))) s := rfl
@[simp] theorem q_ge : geM (.int i) (.int j) s = .ok (.bl (decide (j ≤ i))) s := rfl
@[simp] theorem q_add : addM (.int i) (.int j) s = .ok (.int (i + j)) s := rfl
@[simp] theorem q_addL : addM (.lst xs) (.lst ys) s = mkLst (xs ++ ys) s := rfl
@[simp] theorem q_sub : subM (.int i) (.int j) s = .ok (.int (i - j)) s := rfl
@[simp] theorem q_neg : negM (.int i) s = .ok (.int (-i)) s := rfl
@[simp] theorem q_abs : absM [.int i] s = .ok (.int (if i < 0 then -i else i)) s := rfl
@[simp] theorem q_int : intM1 [.int i] s = .ok (.int i) s := rfl
@[simp] theorem q_intB : intM1 [.bl k] s = .ok (.int (if k then 1 else 0)) s := rfl
@[simp] theorem q_max : max2M [.int i, .int j] s = .ok (.int (if j > i then j else i)) s := rfl
@[simp] theorem q_gcd : gcdM [.int i, .int j] s = .ok (.int ((Nat.gcd i.natAbs j.natAbs : Nat) : Int)) s := rfl
@[simp] theorem q_tupL : tupM [.lst xs] s = .ok (.tup xs) s := rfl
theorem q_mod (h : 0 < j) : modM (.int i) (.int j) s = .ok (.int (i % j)) s := by unfold modM intM; simp [h]
theorem q_fdiv (h : 0 < j) (h2 : j.natAbs.log2 < 9000) : fdivM (.int i) (.int j) s = .ok (.int (i / j)) s := by unfold fdivM intM; simp [divB, h, h2]
theorem q_mul (h : -(2 ^ 64) < i ∧ i < 2 ^ 64) : mulM (.int i) (.int j) s = .ok (.int (i * j)) s := by
  unfold mulM intM
  simp only []
  rw [if_pos]
  exact Bool.or_eq_true_iff.mpr (.inr (decide_eq_true (.inl h)))
theorem q_mulR (h : -(2 ^ 64) < j ∧ j < 2 ^ 64) : mulM (.int i) (.int j) s = .ok (.int (i * j)) s := by
  unfold mulM intM
  simp only []
  rw [if_pos]
  exact Bool.or_eq_true_iff.mpr (.inr (decide_eq_true (.inr h)))
theorem q_pow (h : 0 ≤ j ∧ j ≤ 1000000 ∧ i.natAbs < 2 ^ 64) : powM (.int i) (.int j) s = .ok (.int (i ^ j.toNat)) s := by
  unfold powM intM
  simp only []
  rw [if_pos (show powB i j = true from decide_eq_true h)]
@[simp] theorem q_gL : getM (.lst xs) (.int i) s = pureM (atI xs i) s := rfl
@[simp] theorem q_gT : getM (.tup xs) (.int i) s = pureM (atI xs i) s := rfl
@[simp] theorem q_g0 : getM .deck (.int 0) s = .ok (.lst (s.cells.map .int)) s := rfl
@[simp] theorem q_g1 : getM .deck (.int 1) s = .ok (.int s.turn) s := rfl
@[simp] theorem q_g2 : getM .deck (.int 2) s = .ok (.int s.left) s := rfl
theorem q_put1 : putS f g 1 δ s = (f δ s).toS δ fun v s => (g δ s).toS δ fun d s => match d with
  | .deck => match putM 1 v s with
    | some s' => .nx δ s'
    | none => .bad
  | _ => .bad := rfl
theorem q_comp {b : D → Deck → R (Option D)} {h : D → D} : ∀ {xs : List D}, (∀ x ∈ xs, b x s = .ok (some (h x)) s) → compD b xs s = .ok (xs.map h) s
  | [], _ => rfl
  | x :: xs, hx => by
    unfold compD
    rw [hx x (List.mem_cons_self ..)]
    simp only []
    rw [q_comp fun y hy => hx y (List.mem_cons_of_mem _ hy)]
    rfl
theorem q_lc {src : FA} {vs : List Nat} : lcD src p vs ft f δ s = (src δ s).bind fun xs s => (compD (elemD p vs ft f δ) xs s).bind mkLst := rfl
theorem q_elem {vs : List Nat} {x : D} {l : List (Nat × D)} (h : asgP p x = some l) (h2 : patIn vs l = true) : elemD p vs yesT f δ x s = (f (setD (wipeE δ vs) l) s).bind fun y s => .ok (some y) s := by
  unfold elemD
  rw [h]
  simp only [h2, if_true]
  rfl
theorem q_bools : ∀ (l : List Bool), boolsOf (l.map D.bl) = some l
  | [] => rfl
  | b :: l => by simp [boolsOf, q_bools l]
theorem q_all {l : List Bool} : allM [.lst (l.map D.bl)] s = .ok (.bl (l.all id)) s := by
  unfold allM
  simp only [q_bools]
theorem q_isi2lt (d : D) : isi2D "list" "tuple" d = some (match d with | .lst _ => true | .tup _ => true | .deck => true | _ => false) := by cases d <;> rfl
end
theorem q_slc {f : FE} {lo hi : Prt} {δ : DEnv} {s : Deck} : slcD f lo hi δ s = (f δ s).bind fun x s => (prtM lo δ s).bind fun l s => (prtM hi δ s).bind fun u s => slcM x l u s := rfl
theorem q_prt0 {δ : DEnv} {s : Deck} : prtM .no δ s = .ok none s := rfl
def intR (r : R D) : R (Option Int) := r.bind fun d s => match d with
  | .int i => .ok (some i) s
  | _ => .bad
theorem q_prt1 {f : FE} {δ : DEnv} {s : Deck} : prtM (.at f) δ s = intR (f δ s) := rfl
theorem q_intR {i : Int} {s : Deck} : intR (.ok (.int i) s) = .ok (some i) s := rfl
theorem q_slcL {xs : List D} {lo hi : Option Int} {s : Deck} : slcM (.lst xs) lo hi s = .ok (.lst (cutD xs lo hi)) s := rfl
theorem q_slcT {xs : List D} {lo hi : Option Int} {s : Deck} : slcM (.tup xs) lo hi s = .ok (.tup (cutD xs lo hi)) s := rfl
theorem q_zipL {xs ys : List D} {s : Deck} : zipM [.lst xs, .lst ys] s = .ok (pairsZ xs ys) s := rfl
theorem q_zipT {xs ys : List D} {s : Deck} : zipM [.tup xs, .tup ys] s = .ok (pairsZ xs ys) s := rfl
theorem q_allp {α : Type} {p : α → Bool} {xs : List α} {s : Deck} : allM [.lst (xs.map fun x => D.bl (p x))] s = .ok (.bl (xs.all p)) s := by
  have h := q_all (l := xs.map p) (s := s)
  rw [List.map_map] at h
  rw [show (xs.map p).all id = xs.all p from by rw [List.all_map]; rfl] at h
  exact h
theorem q_asgN {i : Nat} {d : D} : asgP (.nm i) d = some [(i, d)] := by simp only [asgP]
theorem q_asgT {ps : List Pat} {xs : List D} : asgP (.tp ps) (.tup xs) = asgPs ps xs := by simp only [asgP]
theorem q_asgL {ps : List Pat} {xs : List D} : asgP (.tp ps) (.lst xs) = asgPs ps xs := by simp only [asgP]
theorem q_asgs0 : asgPs [] [] = some [] := by simp only [asgPs]
theorem q_asgsC {p : Pat} {ps : List Pat} {x : D} {xs : List D} : asgPs (p :: ps) (x :: xs) = (asgP p x).bind fun l => (asgPs ps xs).bind fun m => some (l ++ m) := by simp only [asgPs]
theorem q_and_bl {b c : Bool} {s : Deck} : (if b = true then R.ok (D.bl c) s else R.ok (D.bl b) s) = R.ok (D.bl (b && c)) s := by cases b <;> rfl
theorem q_or_bl {b c : Bool} {s : Deck} : (if b = true then R.ok (D.bl b) s else R.ok (D.bl c) s) = R.ok (D.bl (b || c)) s := by cases b <;> rfl
theorem q_c0 : ((0 : Nat) : Int) = 0 := rfl
theorem q_c1 : ((1 : Nat) : Int) = 1 := rfl
theorem q_c2 : ((2 : Nat) : Int) = 2 := rfl
theorem q_c3 : ((3 : Nat) : Int) = 3 := rfl
theorem q_c4 : ((4 : Nat) : Int) = 4 := rfl
theorem q_c5 : ((5 : Nat) : Int) = 5 := rfl
theorem q_c6 : ((6 : Nat) : Int) = 6 := rfl
theorem q_c9 : ((9 : Nat) : Int) = 9 := rfl
theorem q_c13 : ((13 : Nat) : Int) = 13 := rfl
def parO (i j : Nat) (ds : List D) (δ : DEnv) (s : Deck) : RS := match ds with
  | [d, e] => .nx ((δ.set i (some d)).set j (some e)) s
  | _ => .bad
theorem q_par {i j : Nat} {fa : FA} {δ : DEnv} {s : Deck} : parS i j fa δ s = (fa δ s).toS δ fun ds s => parO i j ds δ s := by unfold parS parO; rfl
theorem q_parO {i j : Nat} {d e : D} {δ : DEnv} {s : Deck} : parO i j [d, e] δ s = .nx ((δ.set i (some d)).set j (some e)) s := rfl
theorem q_whS {c : FT} {b : FS} {fu : DEnv → Deck → Nat} {δ : DEnv} {s : Deck} : whileS fu c b δ s = whileD c b (fu δ s) δ s := rfl
theorem q_whD {c : FT} {b : FS} {n : Nat} {δ : DEnv} {s : Deck} : whileD c b (n + 1) δ s = (c δ s).toS δ fun k s => if k = true then (b δ s).frd (whileD c b n) else .nx δ s := rfl
end FL

namespace FL
open PySem PySem.Spec PyProof.Rows L2

/-! ### try with several clauses, each with a name -/
abbrev Su := Addr → Value → Option Addr → TS
def unD (i : Nat) (D : Ends) : Ends := { nx := fun σ' H' => D.nx (σ'.set i none) H', rt := D.rt, bk := fun σ' H' => D.bk (σ'.set i none) H', ct := fun σ' H' => D.ct (σ'.set i none) H' }
/-- the clauses' wishes, one after the other -/
def wAll (K : PySem.W.Frag) (Wout : WX) (D : Ends) : List (Nat × Value × Su) → WX
  | [] => Wout
  | (i, c, ts) :: r => fun cls d σ H => ∃ b, PySem.W.exmOne K cls c = some b ∧ (b = true → ∀ a, H a = none → ts a cls d (unD i D) (σ.set i (some (.ref a))) H) ∧ (b = false → wAll K Wout D r cls d σ H)
inductive HdsN (X : Cx) : List ExceptHandler → List (Nat × Value × Su) → Prop
  | nil : HdsN X [] []
  | cons {x n : Str} {i : Nat} {c : Value} {ts : Su} {b0 : Stmt} {sts : List Stmt} {np po : Pos} {hds : List ExceptHandler} {l : List (Nat × Value × Su)} (hc : Names X x c) (hi : X.N[i]? = some n) (hk : X.env.kindOf n = some .local)
      (hsu : ∀ (a : Addr) (oe : Obj) (cls : Value) (d : Option Addr) (pn : List (Addr × Obj)), Zc cls d oe → (∃ vs, oe.data = .fields vs) → PSs (X.suite a ((a, oe) :: pn)) (b0 :: sts) (ts a cls d)) (r : HdsN X hds l) :
      HdsN X (.ExceptHandler (some (.Name x np)) (some n) (b0 :: sts) po :: hds) ((i, c, ts) :: l)
theorem ps_tryN {X : Cx} {body : List Stmt} {h0 : ExceptHandler} {hds : List ExceptHandler} {l : List (Nat × Value × Su)} {pos : Pos} {tb : WX → TS} {Wout : WX} (hs : X.stack = X.env :: X.outer) (hf : X.env.frame = some X.env.locals) (hN : X.N.Nodup) (tk : Takes X Wout)
    (hb : ∀ (W : WX) (pn : List (Addr × Obj)) (xe : Value → Shared → Prop), Takes (X.tr pn xe) W → PassesOwn (model X.prog X.w) X.A X.env xe → PSs (X.tr pn xe) body (tb W))
    (hh : HdsN X (h0 :: hds) l) : PS X (.Try body (h0 :: hds) [] [] pos) (fun D σ H => tb (wAll X.K Wout D l) D σ H) := by
  refine ⟨fun pins s σ H D inv red => wpAny_Try_except ?_⟩
  have okI := inv.ok
  have frm : X.A.frames = some (X.env :: X.outer) := by rw [okI.frames, hs]
  refine wpAny_mono ((hb (wAll X.K Wout D l) (X.pn ++ pins)
    (fun e s1 => wpAny (model X.prog X.w) X.A (noteFrame e X.env) (fun _ s2 => wpAny (model X.prog X.w) X.A (setFlight e none) (fun _ s3 => wpAny (model X.prog X.w) X.A (handleBy e X.env (h0 :: hds)) (SP X pins D) X.xe s3) X.xe s2) X.xe s1)
    (fun u s' caught => ?_) PassesOwn.looking).run [] s σ H D (inv.toTry _) red) (fun fl s1 post => ?_) (fun e s1 z => z)
  · obtain ⟨a, B, sI, pinsB, σ1, H1, cls, d, rfl, invB, nb, upB, skyB, na, os, ag, wish⟩ := caught
    have inv1 : Inv X pins σ1 H1 sI := invB.ofTry okI
    have sky1 : Sky B (X.env :: X.outer) a (Zc cls d) X.env.locals s'.heap := by rw [← hs]; exact skyB
    show wpAny (model X.prog X.w) X.A (noteFrame (.ref a) X.env) _ _ _
    refine Sky.land Zc.steady frm hf sky1 fun h3 fl3 up3 => ?_
    have inv3 : Inv X pins σ1 H1 { s' with heap := h3 } := inv1.landed nb fl3.1 (upB.trans up3) os ag
    obtain ⟨oe3, vs3, he3, hz3, hd3⟩ := fl3.there
    have off : a ∉ frs (X.env :: X.outer) := fun hm => by
      obtain ⟨_, oz, ez, hnf⟩ := fl3.2.2.1.mem hm
      rw [he3] at ez
      cases ez
      exact hnf _ hd3
    have notL : a ≠ X.env.locals := fun z => off (List.mem_filterMap.mpr ⟨X.env, List.mem_cons_self, by rw [hf, z]⟩)
    have notF : a ∉ X.fs := fun hm => by
      obtain ⟨e, he, q⟩ := List.mem_filterMap.mp hm
      exact off (List.mem_filterMap.mpr ⟨e, List.mem_cons_of_mem _ he, q⟩)
    have suite3 := inv3.suite he3 hd3 na notL notF
    have each : ∀ {hs2 : List ExceptHandler} {l2 : List (Nat × Value × Su)}, HdsN X hs2 l2 → wAll X.K Wout D l2 cls d σ1 H1 → wpAny (model X.prog X.w) X.A (handleBy (.ref a) X.env hs2) (SP X pins D) X.xe { s' with heap := h3 } := by
      intro hs2 l2 hk
      induction hk with
      | nil =>
        intro wn
        refine wpAny_handleBy_nil ?_
        obtain ⟨_, _, _, oeZ, vsZ, T, _, _, heZ, _, hdZ, h1Z, _⟩ := id fl3
        unfold PySem.passOn
        refine wpAny_bind (wpAny_field heZ hdZ h1Z ?_)
        rw [if_neg (show ¬ ((Value.ref T == Value.none) = true) from by simp)]
        have out : wpAny (model X.prog X.w) X.A (setFlight (.ref a) X.env.frame) (fun _ s4 => wpAny (model X.prog X.w) X.A (throw (.ref a) : Sem Flow) (SP X pins D) X.xe s4) X.xe { s' with heap := h3 } := by
          rw [hf]
          exact HandSPX.setFlight_upZ fl3 fun h4 sk4 up4 => wpAny_throw (tk _ _ ⟨a, B, sI, pins, σ1, H1, cls, d, rfl, inv1, nb, (upB.trans up3).trans up4, .inr (.inr (by rw [hs]; exact sk4)), na, os, ag, wn⟩)
        first
          | exact wpAny_bind (wpAny_pure (wpAny_bind out))
          | exact wpAny_bind out
      | @cons x n i c ts b0 sts np po hds3 l3 hc hi hkind hsu r ih =>
        intro wn
        obtain ⟨b, hb1, yes, no⟩ := wn
        refine wpAny_handleBy_cons (codeAny_handlers_test ?_) (by intro q; cases q)
        have looksT : PySem.W.Looks (model X.prog X.w) h3 (typeOf (.ref a)) cls := fun A Q E s k q => wpAny_typeOf_ref (k _ _ he3) (by rw [hz3.1]; exact q)
        have looksM := PySem.W.exm_one (M := model X.prog X.w) inv3.kIn looksT hb1
        have named : ∀ {Q E : Value → Shared → Prop}, Q c { s' with heap := h3 } → wpAny (model X.prog X.w) (X.A.mark (some (.ref a))) (eval (.Name x np) X.env) Q E { s' with heap := h3 } := fun {Q E} q => by
          obtain ⟨hg, hdb, hm | ⟨hm, hv, hnn⟩⟩ := hc
          · exact ld_glob (X := X.suite a ((a, oe3) :: (X.pn ++ pins))) suite3 hg hm q hdb
          · exact ld_blt (X := X.suite a ((a, oe3) :: (X.pn ++ pins))) suite3 hg hm hv q hnn hdb
        refine named (looksM.here ?_)
        cases b with
        | false => exact ih (no rfl)
        | true =>
          refine codeAny_handlers_suite_as (HandSPX.lands_againZ fl3 fun h4 fl4 up4 => ?_)
          have inv4 : Inv X pins σ1 H1 { s' with heap := h4 } := inv1.landed nb fl4.1 ((upB.trans up3).trans up4) os ag
          obtain ⟨oe4, vs4, he4, hz4, hd4⟩ := fl4.there
          have suite4 := inv4.suite he4 hd4 na notL notF
          refine store_ok (X := X.suite a ((a, oe4) :: (X.pn ++ pins))) (v := .ref a) suite4 hN hi (.inl hkind) rfl (fun s5 suite5 => ?_) (.inr hkind)
          refine wpAny_mono ((hsu a oe4 cls d (X.pn ++ pins) hz4 ⟨_, hd4⟩).run [] s5 _ H1 _ suite5 (yes rfl a na)) (fun fl s6 post => ?_) (fun _ _ z => False.elim z)
          have behind : ∀ {σ6 : L2.St} {H6 : Hp} {Q : Shared → Prop}, Inv (X.suite a ((a, oe4) :: (X.pn ++ pins))) [] σ6 H6 s6 → (∀ s7, Inv X pins (σ6.set i none) H6 s7 → Q s7) →
              wpAny (model X.prog X.w) X.A (do bindName X.env n .none; unbindBehindTheSuite X.env n po) (fun _ s7 => Q s7) X.xe s6 := fun {σ6 H6 Q} S6 hq => gone_ok (S6.unsuite okI) hN hi hkind hq
          cases fl with
          | ret u =>
            obtain ⟨v6, σ6, H6, S6, r6, q6⟩ := post
            exact behind S6 fun s7 J7 => ⟨_, _, _, J7, r6, q6⟩
          | next =>
            obtain ⟨σ6, H6, S6, q6⟩ := post
            exact behind S6 fun s7 J7 => ⟨_, _, J7, q6⟩
          | brk =>
            obtain ⟨σ6, H6, S6, q6⟩ := post
            exact behind S6 fun s7 J7 => ⟨_, _, J7, q6⟩
          | cont =>
            obtain ⟨σ6, H6, S6, q6⟩ := post
            exact behind S6 fun s7 J7 => ⟨_, _, J7, q6⟩
    exact each hh wish
  · cases fl with
    | ret u =>
      obtain ⟨v, σ', H', J', r, q⟩ := post
      exact ⟨v, σ', H', J'.ofTry okI, r, q⟩
    | next =>
      obtain ⟨σ', H', J', q⟩ := post
      exact wpAny_execs_nil ⟨σ', H', J'.ofTry okI, q⟩
    | brk =>
      obtain ⟨σ', H', J', q⟩ := post
      exact ⟨σ', H', J'.ofTry okI, q⟩
    | cont =>
      obtain ⟨σ', H', J', q⟩ := post
      exact ⟨σ', H', J'.ofTry okI, q⟩
end FL

namespace FL
open PySem PySem.Spec L2

/-! ### errors of own classes -/
/-- what its __init__ does: it keeps the fields -/
def spInit (C : Addr) (fl : List Str) : Sp := fun vs H Q _ => ∃ (a : Addr) (ys : List V), vs = .ref a :: ys ∧ ys.length = fl.length ∧ H a = some (exo a C none) ∧
  ∀ (d : Addr) (H' : Hp), H d = none → d ≠ a → H' a = some (exo a C (some d)) → H' d = some (exd d (fl.zip ys).reverse) → (∀ b, b ≠ a → b ≠ d → H' b = H b) → Q .non H'
structure ExcW (P : Program) (w : World) (K : PySem.W.Frag) (mg : Str → Option Value) (base : Heap) (x : Str) (fl : List Str) : Prop where
  ex : ∃ (C fI : Addr) (fd : FuncData) (ps : List Str), mg x = some (.ref C) ∧ OexC K C ∧ PySem.W.findIn K (.ref C) "__init__" = some (some (.ref fI)) ∧ PySem.W.typeIn K (.ref fI) = some (.type "function") ∧
    FnOk P w K mg base CX0 1 fI fd ps (spInit C fl) ∧ Binds K fd ps [] ∧ XfC K C ∧ (∀ f ∈ fl, PySem.W.findIn K (.ref C) f = some none)
  nd : fl.Nodup
section
variable {P : Program} {w : World} {K : PySem.W.Frag} {mg : Str → Option Value} {base : Heap}
theorem init1 {qual f n0 n1 : Str} {st : Stmt} {fI C : Addr} {fd : FuncData} (Fn : Fun K "__init__" qual st fI fd) (S : FnScope [n0, n1] [n0, n1] (defScope st)) (T : OexC K C) (hf : PySem.W.findIn K (.ref C) f = some none)
    (hb : ∀ {fa : Addr} (cdv : Value) (A : Around) (outer : List Env) (s : Shared) (H : Hp) (E : XK), PSs (cxOf CX0 P w K mg base [n0, n1] qual (defScope st) fa cdv A outer s H E).nox (defBody st) (tOst K f (tVar 0) (tVar 1))) : FnOk P w K mg base CX0 1 fI fd [n0, n1] (spInit C [f]) := by
  refine Fn.ok S (fun vs H Q E h => ?_) (fun cdv A outer s H vs Q E hr h => ⟨tOst K f (tVar 0) (tVar 1), hb cdv A outer s H E, ?_⟩)
  · obtain ⟨a, ys, rfl, hl, _⟩ := h
    simp [hl]
  · obtain ⟨a, ys, rfl, hl, ha, k⟩ := h
    match ys, hl with
    | [y], _ =>
      refine ⟨y, rfl, .ref a, rfl, a, C, rfl, T, hf, .inl ⟨ha, fun dx hdx hne => ?_⟩⟩
      exact k dx _ hdx hne upd_same (by rw [upd_ne hne, upd_same]; rfl) fun b h1 h2 => by rw [upd_ne h1, upd_ne h2]
theorem init2 {qual f g n0 n1 n2 : Str} {st : Stmt} {fI C : Addr} {fd : FuncData} (Fn : Fun K "__init__" qual st fI fd) (S : FnScope [n0, n1, n2] [n0, n1, n2] (defScope st)) (T : OexC K C) (hf : PySem.W.findIn K (.ref C) f = some none) (hg : PySem.W.findIn K (.ref C) g = some none)
    (hb : ∀ {fa : Addr} (cdv : Value) (A : Around) (outer : List Env) (s : Shared) (H : Hp) (E : XK), PSs (cxOf CX0 P w K mg base [n0, n1, n2] qual (defScope st) fa cdv A outer s H E).nox (defBody st) (tSeq (tOst K f (tVar 0) (tVar 1)) (tOst K g (tVar 0) (tVar 2)))) : FnOk P w K mg base CX0 1 fI fd [n0, n1, n2] (spInit C [f, g]) := by
  refine Fn.ok S (fun vs H Q E h => ?_) (fun cdv A outer s H vs Q E hr h => ⟨_, hb cdv A outer s H E, ?_⟩)
  · obtain ⟨a, ys, rfl, hl, _⟩ := h
    simp [hl]
  · obtain ⟨a, ys, rfl, hl, ha, k⟩ := h
    match ys, hl with
    | [y, z], _ =>
      refine ⟨y, rfl, .ref a, rfl, a, C, rfl, T, hf, .inl ⟨ha, fun dx hdx hne => ?_⟩⟩
      have e1 : (upd (upd H dx (exd dx [(f, y)])) a (exo a C (some dx))) dx = some (exd dx [(f, y)]) := by rw [upd_ne hne, upd_same]
      refine ⟨z, rfl, .ref a, rfl, a, C, rfl, T, hg, .inr ⟨dx, [(f, y)], upd_same, e1, by show 1 ≤ 900; decide, ?_⟩⟩
      exact k dx _ hdx hne (by rw [upd_ne (Ne.symm hne), upd_same]) upd_same fun b h1 h2 => by rw [upd_ne h2, upd_ne h1, upd_ne h2]
end
/-! ### raise C(..) -/
def raiseS (x : Str) (fl : List Str) (fs : FA) : FS := fun δ s => (fs δ s).toS δ fun ds s => if ds.length = fl.length then .raise ⟨x, fl.zip ds⟩ δ s else .bad
theorem look_none {α : Type} : ∀ (fl : List Str) (ys : List α) (f : Str), f ∉ fl → (fl.zip ys).lookup f = none
  | [], _, _, _ => by simp
  | _ :: _, [], _, _ => by simp
  | g :: fl, y :: ys, f, h => by
    have hne : (f == g) = false := by
      rw [beq_eq_false_iff_ne]
      exact fun e => h (by rw [e]; exact List.mem_cons_self ..)
    rw [List.zip_cons_cons, List.lookup_cons, hne]
    exact look_none fl ys f fun hm => h (List.mem_cons_of_mem _ hm)
theorem look_rev {α : Type} : ∀ (fl : List Str) (ys : List α) (f : Str), fl.Nodup → ((fl.zip ys).reverse).lookup f = (fl.zip ys).lookup f
  | [], _, _, _ => by simp
  | _ :: _, [], _, _ => by simp
  | g :: fl, y :: ys, f, nd => by
    obtain ⟨hg, hn⟩ := List.nodup_cons.mp nd
    rw [List.zip_cons_cons, List.reverse_cons, List.lookup_append, look_rev fl ys f hn, List.lookup_cons, List.lookup_cons, List.lookup_nil]
    by_cases e : f = g
    · subst e
      rw [look_none fl ys f hg]
      simp
    · have hne : (f == g) = false := beq_eq_false_iff_ne.mpr e
      rw [hne]
      simp
theorem look_zip {K : PySem.W.Frag} {dk : Addr} {F : Hp} : ∀ {fl : List Str} {vs : List V} {ds : List D} {f : Str} {d : D}, RpAll K dk F vs ds → (fl.zip ds).lookup f = some d → ∃ v, (fl.zip vs).lookup f = some v ∧ Rp K dk F v d
  | [], _, _, _, _, _, h => by simp at h
  | _ :: _, _, _, _, _, .nil, h => by simp at h
  | g :: fl, _, _, f, d, .cons (v := v) (d := d') r rs, h => by
    rw [List.zip_cons_cons, List.lookup_cons] at h ⊢
    by_cases e : (f == g) = true
    · rw [e] at h ⊢
      cases h
      exact ⟨_, rfl, r⟩
    · have e := Bool.eq_false_iff.mpr e
      rw [e] at h ⊢
      exact look_zip rs h
section
variable {X : Cx} {W : WX}
theorem sv_raise {x : Str} {fl : List Str} {e : Expr} {es : List Expr} {fs : FA} {p pos pos2 : Pos} (Ex : ExcW X.prog X.w X.K X.mg X.base x fl) (hc : X.calm = true) (hr : Room 2 X.A) (tk : Takes X W) (hg : Gl X x) (hfl : fl.length ≤ 1000) (ha : AV X W (e :: es) fs)
    (hdb : (x == ("__debug__" : Str)) = false := by decide) (he : starEach (e :: es) X.env = (false, eval e X.env) :: starEach es X.env := by rfl) (hpl : (backTo pos (starEach es X.env)).any (·.1) = false := by rfl) :
    SV X W (.Raise (some (.Call (.Name x p) (e :: es) [] pos)) none pos2) (raiseS x fl fs) := by
  obtain ⟨⟨C, fI, fd, ps, gC, T, iC, tI, F1, hb, _, _⟩, nd⟩ := Ex
  refine ps_weak (ps_raise hc tk (pmk_oex T iC tI F1 hr hb .nil pass0 hg gC ha hdb he hpl)) fun Dn σ H ⟨dk, δ, s, F, er, st, q⟩ => ?_
  refine ⟨dk, δ, s, F, er, st, SPost.ofE er q fun ds s1 vs F1 H1 n rr q1 => ?_⟩
  have lv := RpAll.length rr
  split at q1
  · rename_i hl
    refine ⟨by omega, fun a ha => ⟨a, vs, by rw [List.append_nil], by omega, upd_same, fun d H' hd hne h1 h2 h3 => ⟨rfl, d, _, h1, h2, by rw [upd_ne hne] at hd; exact hd, ?_⟩⟩⟩
    have hd0 : H1 d = none := by rw [upd_ne hne] at hd; exact hd
    have keep : ∀ b o, H1 b = some o → upd (del H' a) d (.xd (fl.zip vs).reverse) b = some o := fun b o hbo => by
      have e1 : b ≠ d := fun z => by rw [z, hd0] at hbo; cases hbo
      have e2 : b ≠ a := fun z => by rw [z, ha] at hbo; cases hbo
      rw [upd_ne e1, del_ne e2, h3 b e2 e1, upd_ne e2]
      exact hbo
    have hdk : F1 d = none := by
      cases z : F1 d with
      | none => rfl
      | some o => rw [n.st.sub _ _ z] at hd0; cases hd0
    obtain ⟨cl, c1, c2⟩ := n.st.deck
    refine q1 σ C d F1 _ ⟨Same.refl _, ⟨fun b o hbo => keep b o (n.st.sub _ _ hbo), n.st.fdk, cl, keep _ _ c1, c2⟩, fun b o _ hbo => keep b o hbo, fun b hb _ => hb⟩ (er.mono n.sm) gC ⟨_, upd_same, fun f d0 hf => ?_⟩
    obtain ⟨v, hv, rv⟩ := look_zip rr hf
    exact ⟨v, by rw [look_rev fl vs f nd]; exact hv, rv⟩
  · exact q1.elim
end
end FL

namespace FL
open PySem PySem.Spec L2

/-! ### in a clause's suite: the error is known -/
theorem ExAt.next {K : PySem.W.Frag} {dk dd : Addr} {F H F' H' : Hp} {s s' : Deck} {e : Ex} (h : ExAt K dk F H dd e) (st : Stt K dk F H s) (n : Nxt K dk F H F' H' s') : ExAt K dk F' H' dd e := by
  obtain ⟨fs, h1, h2⟩ := h
  have ne : dd ≠ dk := fun z => by
    obtain ⟨cl, c1, _⟩ := st.deck
    rw [z, c1] at h1
    cases h1
  exact ⟨fs, n.fr _ _ ne h1, fun f d q => let ⟨v, a, b⟩ := h2 f d q; ⟨v, a, b.mono n.sm⟩⟩
structure InSu (K : PySem.W.Frag) (mg : Str → Option Value) (i : Nat) (a : Addr) (cls : Value) (d : Option Addr) (dk : Addr) (F H : Hp) (σ : L2.St) (δ : DEnv) (s : Deck) (e : Ex) (C dd : Addr) : Prop where
  c : cls = .ref C
  d : d = some dd
  m : mg e.cls = some (.ref C)
  x : ExAt K dk F H dd e
  v : σ[i]? = some (some (.ref a))
  er : EnvR K dk F σ δ
  st : Stt K dk F H s
theorem InSu.next {K : PySem.W.Frag} {mg : Str → Option Value} {i : Nat} {a : Addr} {cls : Value} {d : Option Addr} {dk : Addr} {F H F' H' : Hp} {σ : L2.St} {δ : DEnv} {s s' : Deck} {e : Ex} {C dd : Addr} (h : InSu K mg i a cls d dk F H σ δ s e C dd) (n : Nxt K dk F H F' H' s') :
    InSu K mg i a cls d dk F' H' σ δ s' e C dd := ⟨h.c, h.d, h.m, h.x.next h.st n, h.v, h.er.mono n.sm, n.st⟩
abbrev HE := Ex → FE
abbrev HA := Ex → FA
abbrev HS := Ex → FS
def tEH (K : PySem.W.Frag) (mg : Str → Option Value) (i : Nat) (a : Addr) (cls : Value) (d : Option Addr) (f : HE) : TE := fun σ H Q => ∃ dk δ s F e C dd, InSu K mg i a cls d dk F H σ δ s e C dd ∧ EPost K mg dk (RelD K dk) (fun _ _ _ => False) F H Q (f e δ s)
def tAH (K : PySem.W.Frag) (mg : Str → Option Value) (i : Nat) (a : Addr) (cls : Value) (d : Option Addr) (f : HA) : TA := fun σ H Q => ∃ dk δ s F e C dd, InSu K mg i a cls d dk F H σ δ s e C dd ∧ EPost K mg dk (RelL K dk) (fun _ _ _ => False) F H Q (f e δ s)
def tSH (K : PySem.W.Frag) (mg : Str → Option Value) (i : Nat) (a : Addr) (cls : Value) (d : Option Addr) (g : HS) : TS := fun Dn σ H => ∃ dk δ s F e C dd, InSu K mg i a cls d dk F H σ δ s e C dd ∧ SPost K mg dk W0 F H Dn (g e δ s)
/-- in every suite of X: e is worth f -/
def EH (X : Cx) (i : Nat) (e : Expr) (f : HE) : Prop := ∀ (a : Addr) (oe : Obj) (cls : Value) (d : Option Addr) (pn : List (Addr × Obj)), Zc cls d oe → (∃ vs, oe.data = .fields vs) → PE (X.suite a ((a, oe) :: pn)) e (tEH X.K X.mg i a cls d f)
def AH (X : Cx) (i : Nat) (es : List Expr) (f : HA) : Prop := ∀ (a : Addr) (oe : Obj) (cls : Value) (d : Option Addr) (pn : List (Addr × Obj)), Zc cls d oe → (∃ vs, oe.data = .fields vs) → PA (X.suite a ((a, oe) :: pn)) es (tAH X.K X.mg i a cls d f)
def SH (X : Cx) (i : Nat) (st : Stmt) (g : HS) : Prop := ∀ (a : Addr) (oe : Obj) (cls : Value) (d : Option Addr) (pn : List (Addr × Obj)), Zc cls d oe → (∃ vs, oe.data = .fields vs) → PS (X.suite a ((a, oe) :: pn)) st (tSH X.K X.mg i a cls d g)
section
variable {X : Cx} {i : Nat} {e : Expr} {es : List Expr} {pos : Pos}
theorem eh_of {f : FE} (h : ∀ (a : Addr) (pn : List (Addr × Obj)), EV (X.suite a pn) W0 e f) : EH X i e (fun _ => f) := fun a oe cls d pn hz hf =>
  pe_weak (h a ((a, oe) :: pn)) fun σ H Q ⟨dk, δ, s, F, ex, C, dd, I, q⟩ => ⟨dk, δ, s, F, I.er, I.st, q⟩
def fldH (x f : Str) : HE := fun e δ s => if e.cls = x then pureM (e.flds.lookup f) s else .bad
theorem eh_fld {x f n : Str} {fl : List Str} {p2 : Pos} (Ex : ExcW X.prog X.w X.K X.mg X.base x fl) (hf : f ∈ fl) (hN : X.N[i]? = some n) (hv : Vis X.env.scope n) (hd : (n == ("__debug__" : Str)) = false := by decide) (hcd : (n == ("__classdict__" : Str)) = false := by decide)
    (hb : attributeBase (.Name n p2) f X.env (eval (.Name n p2) X.env) = eval (.Name n p2) X.env := by rfl) : EH X i (.Attribute (.Name n p2) f pos) (fldH x f) := by
  obtain ⟨⟨C, fI, fd, ps, gC, T, iC, tI, F1, _, xf, hno⟩, nd⟩ := Ex
  intro a oe cls d pn hz hfl
  refine pe_weak (pe_xf xf (hno f hf) hz hfl (pe_var (X := X.suite a ((a, oe) :: pn)) hN hv hd hcd) hb) fun σ H Q ⟨dk, δ, s, F, e, C', dd, I, q⟩ => ?_
  unfold fldH at q
  split at q
  · rename_i hx
    have hm := I.m
    rw [hx, gC] at hm
    cases hm
    obtain ⟨d0, hd0, hq⟩ := epost_pure I.st q
    obtain ⟨fs, h1, h2⟩ := I.x
    obtain ⟨v, hv, rv⟩ := h2 f d0 hd0
    exact ⟨_, I.v, rfl, I.c, dd, fs, v, I.d, h1, hv, hq v rv⟩
  · exact q.elim
theorem ah_nil : AH X i [] (fun _ => av0) := fun a oe cls d pn hz hf => pa_weak pa_nil fun σ H Q ⟨dk, δ, s, F, ex, C, dd, I, q⟩ => EPost.ok q I.st .nil
theorem ah_cons {f : HE} {g : HA} (h1 : EH X i e f) (h2 : AH X i es g) (hs : starEach (e :: es) X.env = (false, eval e X.env) :: starEach es X.env := by rfl) : AH X i (e :: es) (fun x => avC (f x) (g x)) := fun a oe cls d pn hz hf => by
  refine pa_weak (pa_cons (h1 a oe cls d pn hz hf) (h2 a oe cls d pn hz hf) hs) fun σ H Q ⟨dk, δ, s, F, ex, C, dd, I, q⟩ => ?_
  refine ⟨dk, δ, s, F, ex, C, dd, I, EPost.bind q fun x s1 v F1 H1 n r q1 => ?_⟩
  refine ⟨dk, δ, s1, F1, ex, C, dd, I.next n, EPost.bind q1 fun xs s2 vs F2 H2 n2 rs q2 => ?_⟩
  exact EPost.ok q2 n2.st (.cons (r.mono n2.sm) rs)
end
end FL
namespace FL
open PySem PySem.Spec L2
section
variable {X : Cx} {i : Nat} {e a b : Expr} {es : List Expr} {pos : Pos} {f g : HE} {fs : HA}
theorem eh_tup {x1} (ha : AH X i es fs) : EH X i (.Tuple es x1 pos) (fun x => withA (fs x) mkTup) := fun a oe cls d pn hz hf => by
  refine pe_weak (pe_tup (ha a oe cls d pn hz hf)) fun σ H Q ⟨dk, δ, s, F, ex, C, dd, I, q⟩ => ?_
  exact ⟨dk, δ, s, F, ex, C, dd, I, EPost.bind q fun xs s1 vs F1 H1 n r q1 => epost_tup n.st r q1⟩
theorem eh_lst {k} (ha : AH X i es fs) : EH X i (.List es k) (fun x => withA (fs x) mkLst) := fun a oe cls d pn hz hf => by
  refine pe_weak (pe_lst (ha a oe cls d pn hz hf)) fun σ H Q ⟨dk, δ, s, F, ex, C, dd, I, q⟩ => ?_
  exact ⟨dk, δ, s, F, ex, C, dd, I, EPost.bind q fun xs s1 vs F1 H1 n r q1 => epost_lst n.st r q1⟩
theorem eh_cmp {op : CmpOp} {r : R2} {m : D → D → M D} (ho : ∀ (a : Addr) (pn : List (Addr × Obj)), OpR (X.suite a pn) (compareOp op) r) (hr : ∀ (a : Addr) (pn : List (Addr × Obj)), OpM (X.suite a pn) r m) (ha : EH X i a f) (hb : EH X i b g) (hm : behindInMarks op b = false := by first | exact nomark _ | rfl) : EH X i (.Compare a [op] [b] pos) (fun x => lift2 m (f x) (g x)) := fun ad oe cls d pn hz hf => by
  refine pe_weak (pe_cmpR (ho _ _) (ha ad oe cls d pn hz hf) (hb ad oe cls d pn hz hf) hm) fun σ H Q ⟨dk, δ, s, F, ex, C, dd, I, q⟩ => ?_
  refine ⟨dk, δ, s, F, ex, C, dd, I, EPost.bind q fun x s1 v F1 H1 n rx q1 => ?_⟩
  refine ⟨dk, δ, s1, F1, ex, C, dd, I.next n, EPost.bind q1 fun y s2 u F2 H2 n2 ry q2 => ?_⟩
  exact hr ad ((ad, oe) :: pn) dk _ F2 H2 s2 v u x y Q n2.st (rx.mono n2.sm) ry q2
theorem sh_set {j : Nat} {y : Str} {pos' : Pos} (hN : X.N.Nodup) (hj : X.N[j]? = some y) (hy : Loc X.env.scope y) (he : EH X i e f) (hs : swapsWith e (some (.Name y pos')) pos.line X.env = pure false := by rfl)
    (hfn : X.fn y = true ∨ X.env.scope.names.lookup y = some .local := by first | exact .inl rfl | exact .inr rfl | assumption) : SH X i (.Assign [.Name y pos'] e pos) (fun x => setS j (f x)) := fun a oe cls d pn hz hf => by
  refine ps_weak (ps_set (X := X.suite a ((a, oe) :: pn)) (i := j) hN hj hy (he a oe cls d pn hz hf) hs hfn) fun Dn σ H ⟨dk, δ, s, F, ex, C, dd, I, q⟩ => ?_
  refine ⟨dk, δ, s, F, ex, C, dd, I, SPost.ofE (W := W0) I.er q fun d s1 v F1 H1 n rr q1 => ?_⟩
  exact q1 _ F1 H1 (Nxt.refl n.st) ((I.er.mono n.sm).set rr)
theorem sh_ret (he : EH X i e f) : SH X i (.Return (some e) pos) (fun x => retS (f x)) := fun a oe cls d pn hz hf => by
  refine ps_weak (ps_ret (he a oe cls d pn hz hf)) fun Dn σ H ⟨dk, δ, s, F, ex, C, dd, I, q⟩ => ?_
  exact ⟨dk, δ, s, F, ex, C, dd, I, SPost.ofE (W := W0) I.er q fun d s1 v F1 H1 n rr q1 => q1 v F1 H1 (Nxt.refl n.st) rr⟩
end
/-! ### try -/
def unS (i : Nat) : RS → RS
  | .nx δ s => .nx (δ.set i none) s
  | .rt d s => .rt d s
  | .bk δ s => .bk (δ.set i none) s
  | .ct δ s => .ct (δ.set i none) s
  | _ => .bad
def catchS (tbl : Str → Str → Option Bool) : List (Str × Nat × HS) → HS
  | [], e => fun δ s => .raise e δ s
  | (y, i, h) :: r, e => fun δ s => if i < δ.length then (match tbl e.cls y with
    | some true => unS i (h e (δ.set i none) s)
    | some false => catchS tbl r e δ s
    | none => .bad) else .bad
def tryS (tbl : Str → Str → Option Bool) (g : FS) (l : List (Str × Nat × HS)) : FS := fun δ s => match g δ s with
  | .raise e δ' s' => catchS tbl l e δ' s'
  | r => r
def TblOk (K : PySem.W.Frag) (mg : Str → Option Value) (tbl : Str → Str → Option Bool) : Prop := ∀ x y b Cx Cy, tbl x y = some b → mg x = some (.ref Cx) → mg y = some (.ref Cy) → PySem.W.exmOne K (.ref Cx) (.ref Cy) = some b
inductive HdsD (X : Cx) : List ExceptHandler → List (Str × Nat × HS) → Prop
  | nil : HdsD X [] []
  | cons {y n : Str} {i : Nat} {h : HS} {st : Stmt} {np po : Pos} {hds : List ExceptHandler} {l : List (Str × Nat × HS)} (hg : Gl X y) (hdb : (y == ("__debug__" : Str)) = false) (hm : ∃ C, X.mg y = some (.ref C)) (hi : X.N[i]? = some n) (hk : X.env.kindOf n = some .local)
      (hsu : SH X i st h) (r : HdsD X hds l) : HdsD X (.ExceptHandler (some (.Name y np)) (some n) [st] po :: hds) ((y, i, h) :: l)
theorem spost_un {K : PySem.W.Frag} {mg : Str → Option Value} {dk : Addr} {W : WX} {F H : Hp} {Dn : Ends} {i : Nat} {r : RS} (h : SPost K mg dk W F H Dn (unS i r)) : SPost K mg dk W0 F H (unD i Dn) r := by
  cases r with
  | nx δ s => exact fun σ' F' H' n er => h _ F' H' n er.unset
  | bk δ s => exact fun σ' F' H' n er => h _ F' H' n er.unset
  | ct δ s => exact fun σ' F' H' n er => h _ F' H' n er.unset
  | rt d s => exact h
  | raise e δ s => exact h.elim
  | bad => exact h.elim
theorem hds_of {X : Cx} {tbl : Str → Str → Option Bool} (HT : TblOk X.K X.mg tbl) : ∀ {hds : List ExceptHandler} {l : List (Str × Nat × HS)}, HdsD X hds l → ∃ l', HdsN X hds l' ∧
    ∀ (W : WX) (Dn : Ends) (dk : Addr) (F H : Hp) (e : Ex) (δ : DEnv) (s : Deck) (σ : L2.St) (C dd : Addr), SPost X.K X.mg dk W F H Dn (catchS tbl l e δ s) → Stt X.K dk F H s → EnvR X.K dk F σ δ → X.mg e.cls = some (.ref C) → ExAt X.K dk F H dd e → wAll X.K W Dn l' (.ref C) (some dd) σ H
  | _, _, .nil => ⟨[], .nil, fun W Dn dk F H e δ s σ C dd q st er hm hx => q σ C dd F H (Nxt.refl st) er hm hx⟩
  | _, _, .cons (y := y) (i := i) (h := h) hg hdb hm hi hk hsu r => by
    obtain ⟨l', N, w⟩ := hds_of HT r
    obtain ⟨Cy, hy⟩ := hm
    refine ⟨(i, .ref Cy, fun a cls d => tSH X.K X.mg i a cls d h) :: l', .cons ⟨hg, hdb, .inl hy⟩ hi hk (fun a oe cls d pn hz hf => pss_one (hsu a oe cls d pn hz hf)) N, fun W Dn dk F H e δ s σ C dd q st er hm hx => ?_⟩
    unfold catchS at q
    split at q
    · rename_i hl
      split at q
      · rename_i ht
        refine ⟨true, HT _ _ _ _ _ ht hm hy, fun _ a _ => ?_, fun z => by cases z⟩
        exact ⟨dk, _, s, F, e, C, dd, ⟨rfl, rfl, hm, hx, List.getElem?_set_self (by rw [er.len]; exact hl), er.unset, st⟩, spost_un q⟩
      · rename_i ht
        exact ⟨false, HT _ _ _ _ _ ht hm hy, (fun z => nomatch z), fun _ => w W Dn dk F H e δ s σ C dd q st er hm hx⟩
      · exact q.elim
    · exact q.elim
theorem sv_try {X : Cx} {W : WX} {tbl : Str → Str → Option Bool} {body : List Stmt} {h0 : ExceptHandler} {hds : List ExceptHandler} {l : List (Str × Nat × HS)} {pos : Pos} {g : FS} (HT : TblOk X.K X.mg tbl) (hs : X.stack = X.env :: X.outer) (hf : X.env.frame = some X.env.locals) (hN : X.N.Nodup) (tk : Takes X W)
    (hb : ∀ (W' : WX) (pn : List (Addr × Obj)) (xe : Value → Shared → Prop), Takes (X.tr pn xe) W' → PassesOwn (model X.prog X.w) X.A X.env xe → BV (X.tr pn xe) W' body g) (hh : HdsD X (h0 :: hds) l) : SV X W (.Try body (h0 :: hds) [] [] pos) (tryS tbl g l) := by
  obtain ⟨l', N, w⟩ := hds_of HT hh
  refine ps_weak (ps_tryN (tb := fun W' => tSV X.K X.mg W' g) hs hf hN tk hb N) fun Dn σ H ⟨dk, δ, s, F, er, st, q⟩ => ⟨dk, δ, s, F, er, st, ?_⟩
  unfold tryS at q
  cases hg : g δ s with
  | raise e δ' s' =>
    rw [hg] at q
    exact fun σ' C dd F' H' n er' hm hx => w W Dn dk F' H' e δ' s' σ' C dd (SPost.later n q) n.st er' hm hx
  | nx δ' s' => rw [hg] at q; exact q
  | bk δ' s' => rw [hg] at q; exact q
  | ct δ' s' => rw [hg] at q; exact q
  | rt d' s' => rw [hg] at q; exact q
  | bad => rw [hg] at q; exact q
end FL

namespace FL
open PySem PySem.Spec L2

/-! ### texts -/
section
variable {X : Cx} {W : WX} {a b tg o e : Expr} {es : List Expr} {f g : FE} {fs : FA} {pos p apos : Pos}
/-- one sign in a text -/
def signIn (x z : Str) : Option Bool := match x.cps.toList with
  | [c] => some (decide (c ∈ z.cps.toList))
  | _ => none
def inM (a b : D) : M D := match a, b with
  | .str x, .str z => pureM ((signIn x z).map .bl)
  | _, _ => fun _ => .bad
def notInM (a b : D) : M D := match a, b with
  | .str x, .str z => pureM ((signIn x z).map fun k => .bl (!k))
  | _, _ => fun _ => .bad
theorem sign_one {x : Str} {c : Nat} (h : x.cps.toList = [c]) : x = ⟨#[c]⟩ := by
  obtain ⟨⟨l⟩⟩ := x
  simp at h
  rw [h]
theorem m_in : OpM X (fun x y H Q => ∃ (c : Nat) (z : Str), x = .str ⟨#[c]⟩ ∧ y = .str z ∧ Q (.bl (decide (c ∈ z.cps.toList))) H) inM := by
  intro dk Wx F H s x y dx dy Q st rx ry q
  unfold inM at q
  split at q
  · rename_i x' z'
    cases rx
    cases ry
    obtain ⟨d, hd, hq⟩ := epost_pure st q
    unfold signIn at hd
    split at hd
    · rename_i c hc
      cases hd
      exact ⟨c, z', by rw [sign_one hc], rfl, hq _ (.bl _)⟩
    · cases hd
  · exact q.elim
theorem m_notIn : OpM X (fun x y H Q => ∃ (c : Nat) (z : Str), x = .str ⟨#[c]⟩ ∧ y = .str z ∧ Q (.bl (!decide (c ∈ z.cps.toList))) H) notInM := by
  intro dk Wx F H s x y dx dy Q st rx ry q
  unfold notInM at q
  split at q
  · rename_i x' z'
    cases rx
    cases ry
    obtain ⟨d, hd, hq⟩ := epost_pure st q
    unfold signIn at hd
    split at hd
    · rename_i c hc
      cases hd
      exact ⟨c, z', by rw [sign_one hc], rfl, hq _ (.bl _)⟩
    · cases hd
  · exact q.elim
/-- methods without arguments -/
def m0M (C : Str → Bool) (k : Str → D) (d : D) : M D := match d with
  | .str z => fun s => if C z = true then .ok (k z) s else .bad
  | _ => fun _ => .bad
theorem ev_m0 {id : String} {name : Str} {C : Str → Bool} {C' : Str → Prop} {k : Str → D} {kv : Str → V} (slot : Slot "str" name id) (ty : typeOf (.builtin id) = pure (.type "method_descriptor")) (rule : MtR X id (fun x xs H Q => ∃ a, x = .str a ∧ xs = [] ∧ C' a ∧ Q (kv a) H)) (hC : ∀ a, C a = true → C' a) (hk : ∀ a K dk F, Rp K dk F (kv a) (k a)) (ho : EV X W o f)
    (hbase : attributeBase o name X.env (eval o X.env) = eval o X.env := by rfl) (hline : (apos.endLine == pos.line) = true := by rfl) : EV X W (.Call (.Attribute o name apos) [] [] pos) (un1 (m0M C k) f) := by
  refine pe_weak (pe_m0 slot ty rule ho hbase hline) fun σ H Q ⟨dk, δ, s, F, er, st, q⟩ => ?_
  refine ⟨dk, δ, s, F, er, st, EPost.bind q fun d s1 v F1 H1 n r q1 => ?_⟩
  unfold m0M at q1
  split at q1
  · split at q1
    · rename_i hc
      cases r
      exact ⟨⟨_, rfl⟩, _, rfl, rfl, hC _ hc, EPost.ok q1 n.st (hk _ _ _ _)⟩
    · exact q1.elim
  · exact q1.elim
theorem ev_isascii (ho : EV X W o f) (hbase : attributeBase o "isascii" X.env (eval o X.env) = eval o X.env := by rfl) (hline : (apos.endLine == pos.line) = true := by rfl) : EV X W (.Call (.Attribute o "isascii" apos) [] [] pos) (un1 (m0M (fun _ => true) fun a => .bl (Txt.isascii a)) f) :=
  ev_m0 F.slot_str_isascii F.type_str_isascii mt_isascii (fun _ _ => trivial) (fun _ _ _ _ => .bl _) ho hbase hline
theorem ev_isdigit (ho : EV X W o f) (hbase : attributeBase o "isdigit" X.env (eval o X.env) = eval o X.env := by rfl) (hline : (apos.endLine == pos.line) = true := by rfl) : EV X W (.Call (.Attribute o "isdigit" apos) [] [] pos) (un1 (m0M (fun _ => true) fun a => .bl (Txt.isdigit a)) f) :=
  ev_m0 F.slot_str_isdigit F.type_str_isdigit mt_isdigit (fun _ _ => trivial) (fun _ _ _ _ => .bl _) ho hbase hline
/-- methods of one text -/
def strR {α : Type} (r : Str → Deck → R α) (d : D) : M α := fun s => match d with
  | .str z => r z s
  | _ => .bad
def m1D (k : Str → Str → M D) (f g : FE) : FE := fun δ s => (f δ s).bind (strR fun z s => (g δ s).bind (strR fun y s => k z y s))
theorem ev_m1 {id : String} {name : Str} {r : V → List V → Hp → VK → Prop} {k : Str → Str → M D} (slot : Slot "str" name id) (ty : typeOf (.builtin id) = pure (.type "method_descriptor")) (rule : MtR X id r)
    (hk : ∀ (z y : Str) (dk : Addr) (Wx : XK) (F H : Hp) (s : Deck) (Q : VK), Stt X.K dk F H s → EPost X.K X.mg dk (RelD X.K dk) Wx F H Q (k z y s) → r (.str z) [.str y] H Q) (ho : EV X W o f) (he : EV X W e g)
    (hs : starEach [e] X.env = [(false, eval e X.env)] := by rfl) (hbase : attributeBase o name X.env (eval o X.env) = eval o X.env := by rfl) (hline : (apos.endLine == pos.line) = true := by rfl) : EV X W (.Call (.Attribute o name apos) [e] [] pos) (m1D k f g) := by
  refine pe_weak (pe_m1 slot ty rule ho he hs hbase hline) fun σ H Q ⟨dk, δ, s, F, er, st, q⟩ => ?_
  refine ⟨dk, δ, s, F, er, st, EPost.bind q fun d s1 v F1 H1 n r1 q1 => ?_⟩
  unfold strR at q1
  split at q1
  · rename_i z
    cases r1
    refine ⟨⟨z, rfl⟩, dk, δ, s1, F1, er.mono n.sm, n.st, EPost.bind q1 fun d2 s2 v2 F2 H2 n2 r2 q2 => ?_⟩
    dsimp only at q2
    split at q2
    · cases r2
      exact hk _ _ _ _ _ _ _ _ n2.st q2
    · exact q2.elim
  · exact q1.elim
def rmpM (z y : Str) : M D := fun s => if z.length ≤ 16777216 then .ok (.str (Txt.removeprefix z y)) s else .bad
theorem ev_removeprefix (ho : EV X W o f) (he : EV X W e g) (hs : starEach [e] X.env = [(false, eval e X.env)] := by rfl) (hbase : attributeBase o "removeprefix" X.env (eval o X.env) = eval o X.env := by rfl) (hline : (apos.endLine == pos.line) = true := by rfl) : EV X W (.Call (.Attribute o "removeprefix" apos) [e] [] pos) (m1D rmpM f g) :=
  ev_m1 F.slot_str_removeprefix F.type_str_removeprefix mt_removeprefix (fun z y dk Wx F H s Q st q => by
    unfold rmpM at q
    split at q
    · rename_i hz
      exact ⟨z, y, rfl, rfl, by rw [sizeLine_eq]; exact hz, EPost.ok q st (.str _)⟩
    · exact q.elim) ho he hs hbase hline
def findM (z y : Str) : M D := fun s => .ok (.int (Txt.find z y)) s
theorem ev_find (ho : EV X W o f) (he : EV X W e g) (hs : starEach [e] X.env = [(false, eval e X.env)] := by rfl) (hbase : attributeBase o "find" X.env (eval o X.env) = eval o X.env := by rfl) (hline : (apos.endLine == pos.line) = true := by rfl) : EV X W (.Call (.Attribute o "find" apos) [e] [] pos) (m1D findM f g) :=
  ev_m1 F.slot_str_find F.type_str_find mt_find (fun z y dk Wx F H s Q st q => ⟨z, y, rfl, rfl, EPost.ok q st (.int _)⟩) ho he hs hbase hline
def prtnM (z y : Str) : M D := fun s => if (y.length == 0) = false ∧ z.length ≤ 16777216 then mkTup [.str (Txt.partition z y).1, .str (Txt.partition z y).2.1, .str (Txt.partition z y).2.2] s else .bad
theorem ev_partition (ho : EV X W o f) (he : EV X W e g) (hs : starEach [e] X.env = [(false, eval e X.env)] := by rfl) (hbase : attributeBase o "partition" X.env (eval o X.env) = eval o X.env := by rfl) (hline : (apos.endLine == pos.line) = true := by rfl) : EV X W (.Call (.Attribute o "partition" apos) [e] [] pos) (m1D prtnM f g) :=
  ev_m1 F.slot_str_partition F.type_str_partition mt_partition (fun z y dk Wx F H s Q st q => by
    unfold prtnM at q
    split at q
    · rename_i hz
      exact ⟨z, y, rfl, rfl, hz.1, by rw [sizeLine_eq]; exact hz.2, (epost_tup st (.cons (.str _) (.cons (.str _) (.cons (.str _) .nil))) q).2⟩
    · exact q.elim) ho he hs hbase hline
/-- str(int) -/
def strM1 (ds : List D) : M D := fun s => match ds with
  | [.int i] => if i.natAbs.log2 < 1920 then .ok (.str (toString i)) s else .bad
  | _ => .bad
theorem m_strc : CallM X (fun xs H Q => ∃ i, xs = [.int i] ∧ i.natAbs.log2 < 1920 ∧ Q (.str (toString i)) H) strM1 := by
  intro dk Wx F H s vs ds Q st r q
  unfold strM1 at q
  split at q
  · split at q
    · rename_i hz
      cases r with
      | cons r1 r2 => cases r2; cases r1; exact ⟨_, rfl, hz, EPost.ok q st (.str _)⟩
    · exact q.elim
  · exact q.elim
/-- for .. in a text -/
def signs (z : Str) : List D := z.cps.toList.map fun c => .str ⟨#[c]⟩
def txtM : D → M (List D) := strR fun z s => .ok (signs z) s
theorem its_ok {K : PySem.W.Frag} {dk : Addr} {F0 : Hp} {z : Str} : ItD K dk F0 (Its z) (signs z) := by
  intro i F H s sm st
  have hl : (signs z).length = z.cps.size := by unfold signs; rw [List.length_map, Array.length_toList]
  refine ⟨fun hi => by rw [hl] at hi; exact hi, fun hi => by rw [hl] at hi; exact hi, fun x H' hi y => ?_⟩
  obtain ⟨rfl, c, hc, rfl⟩ := y
  refine ⟨F, .str ⟨#[c]⟩, ?_, Nxt.refl st, .str _⟩
  unfold signs
  rw [List.getElem?_map, Array.getElem?_toList, hc]
  rfl
theorem iv_txt (ha : EV X W a f) : IV X W tg a (fun δ s => (f δ s).bind txtM) := by
  refine pi_weak (pi_str ha) fun σ H RQ ⟨dk, δ, s, F, er, st, q⟩ => ?_
  refine ⟨dk, δ, s, F, er, st, EPost.bind q fun d s1 v F1 H1 n r q1 => ?_⟩
  unfold txtM strR at q1
  split at q1
  · cases r
    exact ⟨_, rfl, EPost.ok q1 n.st its_ok⟩
  · exact q1.elim
end
/-! ### is False, names of the module -/
def isBM (a b : D) : M D := match a, b with
  | .bl i, .bl j => fun s => .ok (.bl (decide (i = j))) s
  | _, _ => fun _ => .bad
section
variable {X : Cx} {W : WX}
theorem m_isB : OpM X rIsB isBM := by
  intro dk Wx F H s x y dx dy Q st rx ry q
  unfold isBM at q
  split at q
  · cases rx
    cases ry
    exact ⟨_, _, rfl, rfl, EPost.ok q st (.bl _)⟩
  · exact q.elim
theorem ev_glob {x : Str} {pos : Pos} {i : Int} (h : ∃ t, X.mg x = some (.int i t)) (hg : Gl X x) (hdb : (x == ("__debug__" : Str)) = false := by decide) : EV X W (.Name x pos) (cst (.int i)) := by
  obtain ⟨t, e⟩ := h
  exact pe_weak (pe_glob (v := .int i) hg e ⟨t, rfl⟩ hdb) fun σ H Q ⟨dk, δ, s, F, er, st, q⟩ => EPost.ok q st (.int i)
end
/-! ### f'..' -/
def fmtM (d : D) : M D := fun s => match d with
  | .str y => if y.length ≤ 16777216 then .ok (.str y) s else .bad
  | .int i => if i.natAbs.log2 < 1920 then .ok (.str (toString i)) s else .bad
  | _ => .bad
section
variable {X : Cx} {W : WX} {e : Expr} {es : List Expr} {f : FE} {pos : Pos}
theorem ev_fmt (he : EV X W e f) : EV X W (.FormattedValue e (-1) none pos) (un1 fmtM f) := by
  refine pe_weak (pe_fmt he) fun σ H Q ⟨dk, δ, s, F, er, st, q⟩ => ?_
  refine ⟨dk, δ, s, F, er, st, EPost.bind q fun d s1 v F1 H1 n r q1 => ?_⟩
  unfold fmtM at q1
  split at q1
  · split at q1
    · rename_i hz
      cases r
      exact .inl ⟨_, rfl, by rw [sizeLine_eq]; exact hz, EPost.ok q1 n.st (.str _)⟩
    · exact q1.elim
  · split at q1
    · rename_i hz
      cases r
      exact .inr ⟨_, rfl, hz, EPost.ok q1 n.st (.str _)⟩
    · exact q1.elim
  · exact q1.elim
abbrev FJ := Str → DEnv → M Str
def js0 : FJ := fun acc _ s => .ok acc s
def jsC (f : FE) (g : FJ) : FJ := fun acc δ s => (f δ s).bind (strR fun y s => if (acc ++ y).length ≤ 16777216 then g (acc ++ y) δ s else .bad)
def JV (X : Cx) (W : WX) (es : List Expr) (g : FJ) : Prop := ∃ ts, PJ X es ts ∧ ∀ acc σ H (Q : Str → Hp → Prop), (∃ dk δ s F, EnvR X.K dk F σ δ ∧ Stt X.K dk F H s ∧ EPost X.K X.mg dk (fun _ (a b : Str) => a = b) (WE W σ) F H Q (g acc δ s)) → tJs ts acc σ H Q
theorem jv_nil : JV X W [] js0 := ⟨[], .nil, fun acc σ H Q ⟨dk, δ, s, F, er, st, q⟩ => EPost.ok (v := acc) q st rfl⟩
theorem jv_cons {g : FJ} (he : EV X W e f) (hr : JV X W es g) : JV X W (e :: es) (jsC f g) := by
  obtain ⟨ts, P, k⟩ := hr
  refine ⟨_ :: ts, .cons he P, fun acc σ H Q ⟨dk, δ, s, F, er, st, q⟩ => ?_⟩
  refine ⟨dk, δ, s, F, er, st, EPost.bind q fun d s1 v F1 H1 n r q1 => ?_⟩
  unfold strR at q1
  split at q1
  · dsimp only at q1
    split at q1
    · rename_i hz
      cases r
      exact ⟨_, rfl, by rw [sizeLine_eq]; exact hz, k _ _ _ _ ⟨dk, δ, s1, F1, er.mono n.sm, n.st, q1⟩⟩
    · exact q1.elim
  · exact q1.elim
def joinD (g : FJ) : FE := fun δ s => (g Str.empty δ s).bind fun y s => .ok (.str y) s
theorem ev_joined {e2 : Expr} {g : FJ} (h : JV X W (e :: e2 :: es) g) : EV X W (.JoinedStr (e :: e2 :: es) pos) (joinD g) := by
  obtain ⟨ts, P, k⟩ := h
  refine pe_weak (pe_joined P) fun σ H Q ⟨dk, δ, s, F, er, st, q⟩ => ?_
  refine k _ _ _ _ ⟨dk, δ, s, F, er, st, EPost.bind q fun y s1 v F1 H1 n r q1 => ?_⟩
  have r : v = y := r
  subst r
  exact EPost.ok q1 n.st (.str _)
end
end FL

namespace FL
open PySem PySem.Spec L2
/-! ### error classes as the program's top has left them -/
def XAt (K : PySem.W.Frag) (x qual : Str) (fl : List Str) (ist : Stmt) (C : Addr) : Prop :=
  PySem.W.nsIn K mainGlobals x = some (some (.ref C)) ∧ OexC K C ∧ XfC K C ∧ (∀ f ∈ fl, PySem.W.findIn K (.ref C) f = some none) ∧
    ∃ (fI : Addr) (fd : FuncData), PySem.W.findIn K (.ref C) "__init__" = some (some (.ref fI)) ∧ PySem.W.typeIn K (.ref fI) = some (.type "function") ∧ Fun K "__init__" qual ist fI fd
section
variable {K : PySem.W.Frag} {x qual : Str} {ist : Stmt} {C N fI : Addr} {nm q : Str} {bs bm : List Value} {sn : List Str} {sub : List Value} {ab : Bool} {col : Option Bool} {dd : Option Addr} {k0 k1 k2 k3 k5 : Option Value} {od an : Option Addr} {sl : Array (Option Value)} {oc kV dc pm cd ct : Value} {f g : Str}
theorem XAt.mk1 (aC : PySem.W.nsIn K mainGlobals x = some (some (.ref C))) (xL : K.lookup C = some (excClassObj nm q C N bs bm true sn sub ab col dd k0 k1 k2 k3 k5 "ValueError.__new__")) (hb : PySem.HandSPX.refsVE bm = true)
    (sa : PySem.W.findIn K (.ref C) "__setattr__" = some (some (.builtin "object.__setattr__"))) (ga : PySem.W.findIn K (.ref C) "__getattribute__" = some (some (.builtin "BaseException.__getattribute__"))) (gg : PySem.W.findIn K (.ref C) "__getattr__" = some none)
    (n1 : PySem.W.findIn K (.ref C) f = some none) (i1 : PySem.W.findIn K (.ref C) "__init__" = some (some (.ref fI))) (t1 : PySem.W.typeIn K (.ref fI) = some (.type "function"))
    (l1 : K.lookup fI = some ⟨oc, od, .func (PySem.W.fnOf "__init__" qual (defArgs ist) (defBody ist) (defScope ist) .none kV dc pm an cd ct), sl⟩) (c1 : PySem.W.codeIn K cd qual = true) (kf : PySem.W.keepIn K (.ref fI) = true)
    (kC : PySem.W.keepIn K (.ref C) = true) (eC : PySem.W.subIn K (.ref C) (.type "BaseException") = some true) (tC : PySem.W.typeIn K (.ref C) = some (.type "type")) (hC : PySem.W.hasDictIn K C = true) : XAt K x qual [f] ist C :=
  ⟨aC, ⟨⟨nm, q, N, bs, bm, sn, sub, ab, col, dd, k0, k1, k2, k3, k5, xL, hb⟩, sa, eC, tC, kC⟩, ⟨ga, gg, eC, hC⟩, fun z hz => by
    obtain rfl : z = f := by simpa using hz
    exact n1, fI, _, i1, t1, fun_mk l1 c1 kf⟩
theorem XAt.mk2 (aC : PySem.W.nsIn K mainGlobals x = some (some (.ref C))) (xL : K.lookup C = some (excClassObj nm q C N bs bm true sn sub ab col dd k0 k1 k2 k3 k5 "ValueError.__new__")) (hb : PySem.HandSPX.refsVE bm = true)
    (sa : PySem.W.findIn K (.ref C) "__setattr__" = some (some (.builtin "object.__setattr__"))) (ga : PySem.W.findIn K (.ref C) "__getattribute__" = some (some (.builtin "BaseException.__getattribute__"))) (gg : PySem.W.findIn K (.ref C) "__getattr__" = some none)
    (n1 : PySem.W.findIn K (.ref C) f = some none) (n2 : PySem.W.findIn K (.ref C) g = some none) (i1 : PySem.W.findIn K (.ref C) "__init__" = some (some (.ref fI))) (t1 : PySem.W.typeIn K (.ref fI) = some (.type "function"))
    (l1 : K.lookup fI = some ⟨oc, od, .func (PySem.W.fnOf "__init__" qual (defArgs ist) (defBody ist) (defScope ist) .none kV dc pm an cd ct), sl⟩) (c1 : PySem.W.codeIn K cd qual = true) (kf : PySem.W.keepIn K (.ref fI) = true)
    (kC : PySem.W.keepIn K (.ref C) = true) (eC : PySem.W.subIn K (.ref C) (.type "BaseException") = some true) (tC : PySem.W.typeIn K (.ref C) = some (.type "type")) (hC : PySem.W.hasDictIn K C = true) : XAt K x qual [f, g] ist C :=
  ⟨aC, ⟨⟨nm, q, N, bs, bm, sn, sub, ab, col, dd, k0, k1, k2, k3, k5, xL, hb⟩, sa, eC, tC, kC⟩, ⟨ga, gg, eC, hC⟩, fun z hz => by
    have : z = f ∨ z = g := by simpa using hz
    rcases this with rfl | rfl
    · exact n1
    · exact n2, fI, _, i1, t1, fun_mk l1 c1 kf⟩
/-- what a clause's class must be, and which classes it takes -/
theorem exm_of {D0 : Addr} {b : Bool} (e : PySem.W.subIn K (.ref D0) (.type "BaseException") = some true) (i : PySem.W.isClsIn K D0 = true) (t : PySem.W.typeIn K (.ref D0) = some (.type "type")) (s : PySem.W.subIn K (.ref C) (.ref D0) = some b) : PySem.W.exmOne K (.ref C) (.ref D0) = some b := by
  have e1 : (PySem.W.subIn K (.ref D0) (.type "BaseException") == some true) = true := by rw [e] <;> rfl
  have e2 : ((PySem.W.clsIn K D0).isSome && PySem.W.typeIn K (.ref D0) == some (.type "type")) = true := by
    have i' : (PySem.W.clsIn K D0).isSome = true := i
    rw [i', t] <;> rfl
  show (if (PySem.W.subIn K (.ref D0) (.type "BaseException") == some true) = true then (if ((PySem.W.clsIn K D0).isSome && PySem.W.typeIn K (.ref D0) == some (.type "type")) = true then PySem.W.subIn K (.ref C) (.ref D0) else none) else none) = some b
  rw [if_pos e1, if_pos e2]
  exact s
end
end FL

namespace FL
open PySem PySem.Spec L2
/-! ### // by a number that is not 0, of either sign -/
def divA (j : Int) : Bool := decide (j ≠ 0 ∧ j.natAbs.log2 < 9000)
def fdvM : D → D → M D := intM (fun _ j => divA j) fun i j => .int (i.fdiv j)
section
variable {X : Cx}
theorem op_fdivA : OpR X (binaryOp .FloorDiv) (rI (fun _ j => j ≠ 0 ∧ j.natAbs.log2 < 9000) fun i j => .int (i.fdiv j)) := opI fun _ _ _ _ _ _ _ hc q => PyProof.Rows.floordiv_int hc.1 q (.inl (PyProof.noPylong_of_log2 hc.2))
theorem m_fdivA : OpM X (rI (fun _ j => j ≠ 0 ∧ j.natAbs.log2 < 9000) fun i j => .int (i.fdiv j)) fdvM := m_int (fun _ j h => (show j ≠ 0 ∧ j.natAbs.log2 < 9000 from of_decide_eq_true h)) fun _ _ _ _ _ => .int _
end
end FL

namespace FL
open PySem
/-! ### zip of a tuple and a list -/
section
variable {prog : Program} {w : World} {A : Around} {E : Value → Shared → Prop} {s : Shared} {z TI TO i1 i2 l1 l2 : Addr} {k1 k2 : Nat} {xs ys : Array Value} {x y a b : Value}
theorem mix_step {Q : Value → Shared → Prop} (D : ZipApart z TI TO i1 i2 l1 l2) (zz : IsZip s.heap z TI TO .none) (pin : IsPair s.heap TI (.ref i1) (.ref i2)) (pou : IsPair s.heap TO a b)
    (t1 : s.heap.IsTupleIter i1 l1 k1) (t2 : s.heap.IsListIter i2 l2 k2) (q1 : s.heap.IsTuple l1 xs) (q2 : s.heap.IsList l2 ys) (gx : xs[k1]? = some x) (gy : ys[k2]? = some y)
    (fin : ∀ h', IsZip h' z TI TO (rawInt s.heap.objs.size) → IsPair h' TO x y → h'.IsTupleIter i1 l1 (k1 + 1) → h'.IsListIter i2 l2 (k2 + 1) → IsPair h' s.heap.objs.size x y → h'.objs.size = s.heap.objs.size + 1 →
      (∀ c o, c ≠ z → c ≠ TO → c ≠ i1 → c ≠ i2 → s.heap.get? c = some o → h'.get? c = some o) → Q (.ref s.heap.objs.size) { s with heap := h' }) :
    wpAny (model prog w) A (Builtin.«zip.__next__» ⟨[.ref z], []⟩) (fun r s' => ∃ v, r = .done (.ret v) ∧ Q v s') E s := by
  show wpAny (model prog w) A (field (.ref z) 2 >>= _) _ E s
  refine wpAny_bind (wpAny_field zz rfl (x := .bool false) rfl ?_)
  show wpAny (model prog w) A (field (.ref z) 3 >>= _) _ E s
  refine wpAny_bind (wpAny_field zz rfl (x := .ref TI) rfl (wpAny_bind (wpAny_seqItems pin rfl ?_)))
  show wpAny (model prog w) A (Builtin.SmallTypes.ownedTupleIsFree (.ref z) >>= _) _ E s
  refine wpAny_bind ?_; unfold Builtin.SmallTypes.ownedTupleIsFree
  refine wpAny_bind (wpAny_field zz rfl (x := .none) rfl (wpAny_pure ?_)); simp only [if_true]
  refine wpAny_bind (wpAny_rule (wpAny_bind (wpAny_field zz rfl (x := .ref TO) rfl (wpAny_bind (wpAny_setField_rec zz (by simp) fun H1 Z1 S1 => ?_)))))
  replace Z1 : IsZip H1 z TI TO .ellipsis := Z1
  refine wpAny_bind ?_; simp only [List.zipIdx_cons, List.zipIdx_nil, List.forIn_cons, List.forIn_nil]
  refine wpAny_bind (wpAny_bind (wpAny_onRaise (wpAny_bind (RZ.nextOf_tuple_item (t1.extBut S1.extBut D.i1z) (q1.extBut S1.extBut D.l1z) gx fun H2 T2 S2 => wpAny_pure ?_))))
  have O2 : IsPair H2 TO a b := S2.extBut _ _ D.TOi1 (S1.extBut _ _ D.TOz pou)
  refine wpAny_bind (wpAny_seqItems O2 rfl (wpAny_bind (wpAny_updateSeq_pair O2 fun H3 O3 S3 => ?_)))
  replace O3 : IsPair H3 TO x b := O3
  refine wpAny_bind (wpAny_letGo (wpAny_pure (wpAny_bind (wpAny_bind (wpAny_onRaise ?_)))))
  have u3 : H3.IsListIter i2 l2 k2 := ((t2.extBut S1.extBut D.i2z).extBut S2.extBut D.i12.symm).extBut S3.extBut D.TOi2.symm
  have v3 : H3.IsList l2 ys := ((q2.extBut S1.extBut D.l2z).extBut S2.extBut D.l2i1).extBut S3.extBut D.l2TO
  refine wpAny_bind (wpAny_nextOf_list_item u3 v3 gy fun H4 T4 S4 => wpAny_pure ?_)
  have O4 : IsPair H4 TO x b := S4.extBut _ _ D.TOi2 O3
  refine wpAny_bind (wpAny_seqItems O4 rfl (wpAny_bind (wpAny_updateSeq_pair O4 fun H5 O5 S5 => ?_)))
  replace O5 : IsPair H5 TO x y := O5
  refine wpAny_bind (wpAny_letGo (wpAny_pure (wpAny_pure (wpAny_bind (wpAny_seqItems O5 rfl (wpAny_bind (wpAny_newTuple ?_)))))))
  have size5 : H5.objs.size = s.heap.objs.size := by rw [S5.1, S4.1, S3.1, S2.1, S1.1]
  have Z5 : IsZip H5 z TI TO .ellipsis := S5.extBut _ _ D.TOz.symm (S4.extBut _ _ D.i2z.symm (S3.extBut _ _ D.TOz.symm (S2.extBut _ _ D.i1z.symm Z1)))
  have old5 : ∀ c o, c ≠ z → c ≠ TO → c ≠ i1 → c ≠ i2 → s.heap.get? c = some o → H5.get? c = some o := fun c o n1 n2 n3 n4 g =>
    S5.extBut _ _ n2 (S4.extBut _ _ n4 (S3.extBut _ _ n2 (S2.extBut _ _ n3 (S1.extBut _ _ n1 g))))
  have u5 : H5.IsTupleIter i1 l1 (k1 + 1) := ((T2.extBut S3.extBut D.TOi1.symm).extBut S4.extBut D.i12).extBut S5.extBut D.TOi1.symm
  have v5 : H5.IsListIter i2 l2 (k2 + 1) := T4.extBut S5.extBut D.TOi2.symm
  have ltz : z < H5.objs.size := Heap.lt_size Z5
  show wpAny (model prog w) A (Builtin.SmallTypes.ownedTupleHandOut (.ref z) (.ref H5.objs.size) >>= _) _ E _
  refine wpAny_bind ?_; unfold Builtin.SmallTypes.ownedTupleHandOut
  have Z6 : IsZip (H5.push { cls := .type "tuple", data := .seq #[x, y] }) z TI TO .ellipsis := Heap.get?_push_of_some _ Z5
  refine wpAny_bind (wpAny_setField_rec Z6 (by simp) fun H7 Z7 S7 => ?_)
  replace Z7 : IsZip H7 z TI TO (rawInt H5.objs.size) := Z7
  refine wpAny_setField_rec Z7 (by simp) fun H8 Z8 S8 => ?_
  replace Z8 : IsZip H8 z TI TO (rawInt H5.objs.size) := Z8
  have on : ∀ c o, c ≠ z → H5.get? c = some o → H8.get? c = some o := fun c o n1 g => S8.extBut _ _ n1 (S7.extBut _ _ n1 (Heap.get?_push_of_some _ g))
  have P8 : IsPair H8 H5.objs.size x y := S8.extBut _ _ (Nat.ne_of_gt ltz) (S7.extBut _ _ (Nat.ne_of_gt ltz) (Heap.get?_push_size _ rfl))
  have size8 : H8.objs.size = H5.objs.size + 1 := by rw [S8.1, S7.1, Heap.size_push]
  rw [size5] at Z8 P8 size8
  refine wpAny_pure ⟨_, rfl, (?_ : Q (.ref H5.objs.size) _)⟩
  rw [size5]
  exact fin H8 Z8 (on _ _ D.TOz O5) (u5.at fun o g => on _ o D.i1z g) (v5.at fun o g => on _ o D.i2z g) P8 size8 fun c o n1 n2 n3 n4 g => on c o n1 (old5 c o n1 n2 n3 n4 g)
theorem mix_stop {Q : Fin → Shared → Prop} (free : A.handled = none) (D : ZipApart z TI TO i1 i2 l1 l2) (zz : IsZip s.heap z TI TO .none) (pin : IsPair s.heap TI (.ref i1) (.ref i2)) (pou : IsPair s.heap TO a b)
    (t1 : s.heap.IsTupleIter i1 l1 k1) (t2 : s.heap.IsListIter i2 l2 k2) (q1 : s.heap.IsTuple l1 xs) (q2 : s.heap.IsList l2 ys) (out : xs[k1]? = none ∨ ys[k2]? = none)
    (fin : ∀ h' e, (∀ c o, c ≠ z → c ≠ TO → c ≠ i1 → c ≠ i2 → s.heap.get? c = some o → h'.get? c = some o) → (∃ o, h'.get? e = some o ∧ o.cls = .type "StopIteration") → E (.ref e) { s with heap := h' }) :
    wpAny (model prog w) A (Builtin.«zip.__next__» ⟨[.ref z], []⟩) Q E s := by
  show wpAny (model prog w) A (field (.ref z) 2 >>= _) Q E s
  refine wpAny_bind (wpAny_field zz rfl (x := .bool false) rfl ?_)
  show wpAny (model prog w) A (field (.ref z) 3 >>= _) _ E s
  refine wpAny_bind (wpAny_field zz rfl (x := .ref TI) rfl (wpAny_bind (wpAny_seqItems pin rfl ?_)))
  show wpAny (model prog w) A (Builtin.SmallTypes.ownedTupleIsFree (.ref z) >>= _) _ E s
  refine wpAny_bind ?_; unfold Builtin.SmallTypes.ownedTupleIsFree
  refine wpAny_bind (wpAny_field zz rfl (x := .none) rfl (wpAny_pure ?_)); simp only [if_true]
  refine wpAny_bind (wpAny_rule (wpAny_bind (wpAny_field zz rfl (x := .ref TO) rfl (wpAny_bind (wpAny_setField_rec zz (by simp) fun H1 Z1 S1 => ?_)))))
  replace Z1 : IsZip H1 z TI TO .ellipsis := Z1
  refine wpAny_bind ?_; simp only [List.zipIdx_cons, List.zipIdx_nil, List.forIn_cons, List.forIn_nil]
  refine wpAny_bind (wpAny_bind (wpAny_onRaise ?_))
  show wpAny (model prog w) A (Builtin.SmallTypes.nextOf (.ref i1) >>= _) _ _ _
  cases gx : xs[k1]? with
  | none =>
    refine wpAny_bind (RZ.nextOf_tuple_end free (t1.extBut S1.extBut D.i1z) (q1.extBut S1.extBut D.l1z) gx fun H2 e S2 he => ?_)
    obtain ⟨oe, g, hc⟩ := he
    have Z2 : IsZip H2 z TI TO .ellipsis := S2 _ _ D.i1z.symm Z1
    have nz : e ≠ z := fun q => by subst q; rw [Z2] at g; cases g; simp at hc
    exact wpAny_setField_rec Z2 (by simp) fun H3 _ S3 => fin H3 e (fun c o n1 _ n3 _ q => S3.extBut _ _ n1 (S2 _ _ n3 (S1.extBut _ _ n1 q))) ⟨oe, S3.extBut _ _ nz g, hc⟩
  | some x =>
    have gy : ys[k2]? = none := out.resolve_left fun q => by rw [gx] at q; cases q
    refine wpAny_bind (RZ.nextOf_tuple_item (t1.extBut S1.extBut D.i1z) (q1.extBut S1.extBut D.l1z) gx fun H2 T2 S2 => wpAny_pure ?_)
    have O2 : IsPair H2 TO a b := S2.extBut _ _ D.TOi1 (S1.extBut _ _ D.TOz pou)
    refine wpAny_bind (wpAny_seqItems O2 rfl (wpAny_bind (wpAny_updateSeq_pair O2 fun H3 O3 S3 => ?_)))
    refine wpAny_bind (wpAny_letGo (wpAny_pure (wpAny_bind (wpAny_bind (wpAny_onRaise ?_)))))
    show wpAny (model prog w) A (Builtin.SmallTypes.nextOf (.ref i2) >>= _) _ _ _
    have u3 : H3.IsListIter i2 l2 k2 := ((t2.extBut S1.extBut D.i2z).extBut S2.extBut D.i12.symm).extBut S3.extBut D.TOi2.symm
    have v3 : H3.IsList l2 ys := ((q2.extBut S1.extBut D.l2z).extBut S2.extBut D.l2i1).extBut S3.extBut D.l2TO
    refine wpAny_bind (wpAny_nextOf_list_end free u3 v3 gy fun H4 e S4 he => ?_)
    obtain ⟨oe, g, hc⟩ := he
    have Z4 : IsZip H4 z TI TO .ellipsis := S4 _ _ D.i2z.symm (S3.extBut _ _ D.TOz.symm (S2.extBut _ _ D.i1z.symm Z1))
    have nz : e ≠ z := fun q => by subst q; rw [Z4] at g; cases g; simp at hc
    exact wpAny_setField_rec Z4 (by simp) fun H5 _ S5 => fin H5 e (fun c o n1 n2 n3 n4 q => S5.extBut _ _ n1 (S4 _ _ n4 (S3.extBut _ _ n2 (S2.extBut _ _ n3 (S1.extBut _ _ n1 q))))) ⟨oe, S5.extBut _ _ nz g, hc⟩
theorem mix_next {Q : Option Value → Shared → Prop} (D : ZipApart z TI TO i1 i2 l1 l2) (zz : IsZip s.heap z TI TO .none) (pin : IsPair s.heap TI (.ref i1) (.ref i2)) (pou : IsPair s.heap TO a b)
    (t1 : s.heap.IsTupleIter i1 l1 k1) (t2 : s.heap.IsListIter i2 l2 k2) (q1 : s.heap.IsTuple l1 xs) (q2 : s.heap.IsList l2 ys) (gx : xs[k1]? = some x) (gy : ys[k2]? = some y)
    (fin : ∀ h', IsZip h' z TI TO (rawInt s.heap.objs.size) → IsPair h' TO x y → h'.IsTupleIter i1 l1 (k1 + 1) → h'.IsListIter i2 l2 (k2 + 1) → IsPair h' s.heap.objs.size x y → h'.objs.size = s.heap.objs.size + 1 →
      (∀ c o, c ≠ z → c ≠ TO → c ≠ i1 → c ≠ i2 → s.heap.get? c = some o → h'.get? c = some o) → Q (some (.ref s.heap.objs.size)) { s with heap := h' }) : wpAny (model prog w) A (pyNext (.ref z)) Q E s := by
  have ty : s.TypeIs (.ref z) "zip" := ⟨_, zz, rfl⟩
  unfold pyNext
  exact wpAny_bind (wpAny_attempt (wpAny_callSpecial?_slot (name := Str.ofString "__next__") ty F.slot_zip_next (wpAny_call_entry F.slot_zip_next ty F.entry_zip_next
    (mix_step D zz pin pou t1 t2 q1 q2 gx gy fun h' c1 c2 c3 c4 c5 c6 c7 => wpAny_pure (fin h' c1 c2 c3 c4 c5 c6 c7)) (F.args_zip_next_1 _))))
theorem mix_last {Q : Option Value → Shared → Prop} (free : A.handled = none) (D : ZipApart z TI TO i1 i2 l1 l2) (zz : IsZip s.heap z TI TO .none) (pin : IsPair s.heap TI (.ref i1) (.ref i2)) (pou : IsPair s.heap TO a b)
    (t1 : s.heap.IsTupleIter i1 l1 k1) (t2 : s.heap.IsListIter i2 l2 k2) (q1 : s.heap.IsTuple l1 xs) (q2 : s.heap.IsList l2 ys) (out : xs[k1]? = none ∨ ys[k2]? = none)
    (fin : ∀ h', (∀ c o, c ≠ z → c ≠ TO → c ≠ i1 → c ≠ i2 → s.heap.get? c = some o → h'.get? c = some o) → Q none { s with heap := h' }) : wpAny (model prog w) A (pyNext (.ref z)) Q E s := by
  have ty : s.TypeIs (.ref z) "zip" := ⟨_, zz, rfl⟩
  unfold pyNext
  refine wpAny_bind (wpAny_attempt (wpAny_callSpecial?_slot (name := Str.ofString "__next__") ty F.slot_zip_next (wpAny_call_entry F.slot_zip_next ty F.entry_zip_next
    (mix_stop free D zz pin pou t1 t2 q1 q2 out fun h' e keep he => ?_) (F.args_zip_next_1 _))))
  obtain ⟨o, g, hc⟩ := he
  exact wpAny_bind (wpAny_isInstance (T := "StopIteration") (b := true) ⟨o, g, hc⟩ isSubtype_stop (wpAny_pure (fin _ keep)))
end
abbrev mxA (h : Heap) (l : Addr) : Heap := h.push { cls := .type "tuple_iterator", data := .fields #[.ref l, .int 0 0] }
abbrev mxB (h : Heap) (l m : Addr) : Heap := (mxA h l).push { cls := .type "list_iterator", data := .fields #[.ref m, .int 0 0] }
abbrev mxC (h : Heap) (l m : Addr) : Heap := (mxB h l m).push { cls := .type "tuple", data := .seq #[.ref h.objs.size, .ref (mxA h l).objs.size] }
abbrev mxD (h : Heap) (l m : Addr) : Heap := (mxC h l m).push { cls := .type "tuple", data := .seq #[.none, .none] }
abbrev mxE (h : Heap) (l m : Addr) : Heap := (mxD h l m).push { cls := .type "zip", data := .fields #[.none, .bool false, .bool false, .ref (mxB h l m).objs.size, .ref (mxC h l m).objs.size] }
theorem meets_mix (l m : Addr) (xs ys : Array Value) : Meets (Builtin.«zip.__new__» ⟨[.type "zip", .ref l, .ref m], []⟩) (fun _ R s => s.heap.IsTuple l xs ∧ s.heap.IsList m ys ∧ R (.ok (.ret (.ref (mxD s.heap l m).objs.size))) { s with heap := mxE s.heap l m }) :=
  .of_wp fun prog w A R s h => by
    obtain ⟨hp, g, d, tk, os⟩ := s; obtain ⟨a1, a2, h⟩ := h; have sz := sub_zip
    have b1 : Heap.IsTuple (Shared.heap ⟨hp, g, d, tk, os⟩) l xs := a1
    have b2 : Heap.IsList (Shared.heap ⟨hp.push { cls := .type "tuple_iterator", data := .fields #[.ref l, .int 0 0] }, g, d, tk, os⟩) m ys := Heap.IsList.push a2 _
    wp_walk using wpAny_pyIter_tuple b1, wpAny_pyIter_list b2
    exact ⟨_, rfl, h⟩
section
variable {prog : Program} {w : World} {A : Around} {E : Value → Shared → Prop} {s : Shared}
theorem call_mix {l m : Addr} {xs ys : Array Value} {Q : Value → Shared → Prop} (a1 : s.heap.IsTuple l xs) (a2 : s.heap.IsList m ys)
    (fin : ∀ h', IsZip h' (s.heap.objs.size + 4) (s.heap.objs.size + 2) (s.heap.objs.size + 3) .none → IsPair h' (s.heap.objs.size + 2) (.ref s.heap.objs.size) (.ref (s.heap.objs.size + 1)) →
      IsPair h' (s.heap.objs.size + 3) .none .none → h'.IsTupleIter s.heap.objs.size l 0 → h'.IsListIter (s.heap.objs.size + 1) m 0 → h'.objs.size = s.heap.objs.size + 5 → (∀ c o, s.heap.get? c = some o → h'.get? c = some o) → Q (.ref (s.heap.objs.size + 4)) { s with heap := h' }) :
    wpAny (model prog w) A (call (.type "zip") [.ref l, .ref m]) Q E s := by
  refine callType_new F.called_zip (by decide) (F.typeCall_zip_2 _ _) (F.newCall_zip_2 _ _) (fun obj => F.args_object_init_3 obj _ _) F.entry_zip_new (meets_mix l m xs ys) ⟨a1, a2, ?_⟩
  have sA : (mxA s.heap l).objs.size = s.heap.objs.size + 1 := Heap.size_push ..
  have sB : (mxB s.heap l m).objs.size = s.heap.objs.size + 2 := by rw [Heap.size_push, sA]
  have sC : (mxC s.heap l m).objs.size = s.heap.objs.size + 3 := by rw [Heap.size_push, sB]
  have sD : (mxD s.heap l m).objs.size = s.heap.objs.size + 4 := by rw [Heap.size_push, sC]
  have sE : (mxE s.heap l m).objs.size = s.heap.objs.size + 5 := by rw [Heap.size_push, sD]
  have gE : (mxE s.heap l m).get? (mxD s.heap l m).objs.size = some _ := Heap.get?_push_size _ rfl
  have gD : (mxE s.heap l m).get? (mxC s.heap l m).objs.size = some _ := Heap.get?_push_of_some _ (Heap.get?_push_size _ rfl)
  have gC : (mxE s.heap l m).get? (mxB s.heap l m).objs.size = some _ := Heap.get?_push_of_some _ (Heap.get?_push_of_some _ (Heap.get?_push_size _ rfl))
  have gB : (mxE s.heap l m).get? (mxA s.heap l).objs.size = some _ := Heap.get?_push_of_some _ (Heap.get?_push_of_some _ (Heap.get?_push_of_some _ (Heap.get?_push_size _ rfl)))
  have gA : (mxE s.heap l m).get? s.heap.objs.size = some _ := Heap.get?_push_of_some _ (Heap.get?_push_of_some _ (Heap.get?_push_of_some _ (Heap.get?_push_of_some _ (Heap.get?_push_size _ rfl))))
  show _ ∧ _
  rw [sB, sC, sD] at gE
  rw [sA, sB] at gC
  rw [sC] at gD
  rw [sA] at gB
  rw [sD]
  exact ⟨⟨_, gE, rfl⟩, fin _ gE gC gD ⟨_, gA, rfl, rfl⟩ ⟨_, gB, rfl, rfl⟩ sE fun c o q => Heap.get?_push_of_some _ (Heap.get?_push_of_some _ (Heap.get?_push_of_some _ (Heap.get?_push_of_some _ (Heap.get?_push_of_some _ q))))⟩
end
end FL

namespace FL
open PySem PySem.Spec PyProof.Rows L2
/-- a tuple at a, a list at b, the items in new pairs -/
def ItM (K : PySem.W.Frag) (a b : Addr) : It :=
  ⟨fun i H => ∃ (us vs : List V) (u v : V), SqT K H a us ∧ SqL K H b vs ∧ us[i]? = some u ∧ vs[i]? = some v,
   fun i H r H' => ∃ T u v, r = .ref T ∧ H T = none ∧ H' = upd H T (.tup [u, v]) ∧ (∀ us, SqT K H a us → us[i]? = some u) ∧ ∀ vs, SqL K H b vs → vs[i]? = some v,
   fun i H => ∃ us vs : List V, SqT K H a us ∧ SqL K H b vs ∧ (us.length ≤ i ∨ vs.length ≤ i)⟩
theorem five {z TI TO i1 i2 c : Addr} (h : c ∈ [z, TI, TO, i1, i2]) : c = z ∨ c = TI ∨ c = TO ∨ c = i1 ∨ c = i2 := by simpa using h
theorem turn_mix {P : Program} {w : World} {K : PySem.W.Frag} {elts : List Expr} {kk : Nat} {tpos : Pos} {a b z TI TO i1 i2 : Addr} (D : ZipApart z TI TO i1 i2 a b) :
    Turn P w K (.Tuple elts kk tpos) (ItM K a b) [z, TI, TO, i1, i2] z (fun i h => IsZip h z TI TO .none ∧ IsPair h TI (.ref i1) (.ref i2) ∧ (∃ x y, IsPair h TO x y) ∧ h.IsTupleIter i1 a i ∧ h.IsListIter i2 b i) where
  mem := List.mem_cons_self ..
  obj := fun i h st c hc => by
    obtain ⟨oz, oi, ⟨x, y, oo⟩, ⟨o1, g1, _, d1⟩, ⟨o2, g2, _, d2⟩⟩ := st
    rcases five hc with rfl | rfl | rfl | rfl | rfl
    · exact ⟨_, oz, fun v q => nomatch q⟩
    · exact ⟨_, oi, fun v q => nomatch q⟩
    · exact ⟨_, oo, fun v q => nomatch q⟩
    · exact ⟨o1, g1, fun v q => by rw [d1] at q; cases q⟩
    · exact ⟨o2, g2, fun v q => by rw [d2] at q; cases q⟩
  keep := fun i h h' ⟨oz, oi, ⟨x, y, oo⟩, t1, t2⟩ k =>
    ⟨k z (by simp) _ oz, k TI (by simp) _ oi, ⟨x, y, k TO (by simp) _ oo⟩, t1.at fun o q => k i1 (by simp) o q, t2.at fun o q => k i2 (by simp) o q⟩
  item := by
    intro X hP hw hK hc i pins s σ H E I fr st go
    subst hP hw hK
    obtain ⟨oz, oi, ⟨x0, y0, oo⟩, t1, t2⟩ := st
    obtain ⟨us, vs, u, v, qu, qv, gu, gv⟩ := go
    obtain ⟨its, r1, p1, _⟩ := I.tuple qu
    obtain ⟨jts, r2, p2, _⟩ := I.list qv
    obtain ⟨cu, eu, ru⟩ := r1.get gu
    obtain ⟨cv, ev, rv⟩ := r2.get gv
    have ltz : z < s.heap.objs.size := Heap.lt_size oz
    refine mix_next D oz oi oo t1 t2 p1 p2.isList (x := cu) (y := cv) (by simpa using eu) (by simpa using ev) fun h' z1 o1 n1 n2 pr sz old => ?_
    refine ⟨_, rfl, wpAny_letOwnedTupleGo_zip (s := { s with heap := h' }) z1 fun h2 z2 sb => ?_⟩
    have pr2 : h2.get? s.heap.objs.size = some { cls := .type "tuple", data := .seq #[cu, cv] } := (sb.2 _ (Nat.ne_of_gt ltz)).trans pr
    have fresh : ObjOk X.prog X.w (upd H s.heap.objs.size (.tup [u, v])) h2 s.heap.objs.size (.tup [u, v]) := ⟨by show 2 ≤ sizeLine; decide, [cu, cv], .cons ru (.cons rv .nil), ⟨_, pr2, rfl, _, rfl⟩⟩
    have J : Inv X pins σ (upd H s.heap.objs.size (.tup [u, v])) { s with heap := h2 } :=
      I.turnedNew (t' := s.toks) (ch := [z, TI, TO, i1, i2]) (fun c o no q => (sb.2 c (fun e => no (by simp [e]))).trans (old c o (fun e => no (by simp [e])) (fun e => no (by simp [e])) (fun e => no (by simp [e])) (fun e => no (by simp [e])) q)) fr (Nat.le_refl _) fresh
    refine ⟨.ref s.heap.objs.size, _, J, rfl, ⟨_, u, v, rfl, I.hok.fresh (Nat.le_refl _), rfl, fun l hl => by rw [I.tuple_inj hl qu]; exact gu, fun l hl => by rw [I.list_inj hl qv]; exact gv⟩, ⟨z2, (sb.2 _ D.TIz).trans (old _ _ D.TIz D.TITO D.TIi1 D.TIi2 oi), ⟨cu, cv, (sb.2 _ D.TOz).trans o1⟩, n1.at fun o q => (sb.2 _ D.i1z).trans q, n2.at fun o q => (sb.2 _ D.i2z).trans q⟩, fun c hcm => ?_⟩
    have lt : c < s.heap.objs.size := by
      rcases five hcm with rfl | rfl | rfl | rfl | rfl
      · exact ltz
      · exact Heap.lt_size oi
      · exact Heap.lt_size oo
      · obtain ⟨_, e, _⟩ := t1; exact Heap.lt_size e
      · obtain ⟨_, e, _⟩ := t2; exact Heap.lt_size e
    rw [upd_ne (Nat.ne_of_lt lt)]
    exact (fr c hcm).1
  done := by
    intro X hP hw hK hc i pins s σ H E I fr st go
    subst hP hw hK
    obtain ⟨oz, oi, ⟨x0, y0, oo⟩, t1, t2⟩ := st
    obtain ⟨us, vs, qu, qv, out⟩ := go
    obtain ⟨its, r1, p1, _⟩ := I.tuple qu
    obtain ⟨jts, r2, p2, _⟩ := I.list qv
    have e1 := r1.length
    have e2 := r2.length
    have none : its.toArray[i]? = none ∨ jts.toArray[i]? = none := out.imp (fun q => by simp; omega) (fun q => by simp; omega)
    exact mix_last (I.ok.hd hc) D oz oi oo t1 t2 p1 p2.isList none fun h' old => ⟨rfl, I.turnedL (t' := s.toks) (ch := [z, TI, TO, i1, i2]) (fun c o no q =>
      old c o (fun e => no (by simp [e])) (fun e => no (by simp [e])) (fun e => no (by simp [e])) (fun e => no (by simp [e])) q) fr⟩
  self := fun A i s Q E st h => wpAny_pyIter_zip st.1 h
def iMix (K : PySem.W.Frag) (ta : TA) : TI := fun σ H R => ta σ H fun ws H1 => ∃ a b us vs, ws = [.ref a, .ref b] ∧ SqT K H1 a us ∧ SqL K H1 b vs ∧ R (ItM K a b) H1
theorem pi_mix {X : Cx} {e e2 : Expr} {ta : TA} {p pos tpos : Pos} {elts : List Expr} {kk : Nat} (hg : Gl X "zip") (hm : X.mg "zip" = none) (ha : PA X [e, e2] ta)
    (hs : starEach [e, e2] X.env = (false, eval e X.env) :: starEach [e2] X.env := by rfl) (hpl : (backTo pos (starEach [e2] X.env)).any (·.1) = false := by rfl) : PI X (.Tuple elts kk tpos) (.Call (.Name "zip" p) [e, e2] [] pos) (iMix X.K ta) := by
  refine ⟨fun pins s σ H R I h => Call_ (ld_blt I hg hm PyProof.Rows.boot_zip (PyProof.Rows.callWith_type1 (thn (ha.run pos pins s σ H _ I h) fun ws s1 ⟨vs0, H1, I1, rr, q⟩ => ?_) hs hpl))⟩
  obtain ⟨a, b, us, vs, rfl, qu, qv, q⟩ := q
  cases rr with
  | cons r rr =>
    cases rr with
    | cons r' rr =>
      cases rr
      cases r
      cases r'
      obtain ⟨its, r1, p1, _⟩ := I1.tuple qu
      obtain ⟨jts, r2, p2, _⟩ := I1.list qv
      obtain ⟨o1, g1, _⟩ := id p1
      have new : ∀ c, c ∈ [s1.heap.objs.size + 4, s1.heap.objs.size + 2, s1.heap.objs.size + 3, s1.heap.objs.size, s1.heap.objs.size + 1] → FpOk X pins H1 c := fun c hcm => by
        have le : s1.heap.objs.size ≤ c := by rcases five hcm with e | e | e | e | e <;> rw [e] <;> omega
        exact I1.fpOk le (I1.hok.fresh le)
      refine call_mix (show s1.heap.IsTuple a its.toArray from p1) p2.isList fun h' oz oi oo t1 t2 sz old => wpAny_pyIter_zip oz ?_
      exact ⟨s1.heap.objs.size + 4, [s1.heap.objs.size + 4, s1.heap.objs.size + 2, s1.heap.objs.size + 3, s1.heap.objs.size, s1.heap.objs.size + 1], _, _, H1, rfl, I1.kept (t' := s1.toks) old, turn_mix (PySem.W.ktu_apart s1.heap.objs.size a b (Heap.lt_size g1) p2.lt), ⟨oz, oi, ⟨_, _, oo⟩, t1, t2⟩, new, q⟩
theorem itm_ok {K : PySem.W.Frag} {dk : Addr} {F0 : Hp} {a b : Addr} {xs ys : List V} {ds es : List D} (h : SqT K F0 a xs) (r : RpAll K dk F0 xs ds) (h' : SqL K F0 b ys) (r' : RpAll K dk F0 ys es) : ItD K dk F0 (ItM K a b) (pairsZ ds es) := by
  intro i F H s sm st
  have q1 : SqT K H a xs := seqT st.sub (seqT sm h)
  have q2 : SqL K H b ys := st.sub.seq (sm.seq h')
  have e1 := r.length
  have e2 := r'.length
  rw [pairsZ_len]
  refine ⟨fun hi => ⟨xs, ys, xs[i]'(by omega), ys[i]'(by omega), q1, q2, List.getElem?_eq_getElem (by omega), List.getElem?_eq_getElem (by omega)⟩, fun hi => ⟨xs, ys, q1, q2, by omega⟩, fun x H' hi y => ?_⟩
  obtain ⟨T, u, v, rfl, hT, rfl, f1, f2⟩ := y
  obtain ⟨d, hd, rd⟩ := r.getV (f1 xs q1)
  obtain ⟨e, he, re⟩ := r'.getV (f2 ys q2)
  obtain ⟨n, rt⟩ := tup2 st hT (rd.mono sm) (re.mono sm)
  exact ⟨_, _, pairsZ_get ds es i d e hd he, n, rt⟩
/-- zip of two rows, each a list or a tuple (but a list with a tuple behind it) -/
def zipA (ds : List D) : M (List D) := fun s => match ds with
  | [.lst xs, .lst ys] => .ok (pairsZ xs ys) s
  | [.tup xs, .tup ys] => .ok (pairsZ xs ys) s
  | [.tup xs, .lst ys] => .ok (pairsZ xs ys) s
  | _ => .bad
def isTL : List D → Bool
  | [.tup _, .lst _] => true
  | _ => false
theorem iv_zipA {X : Cx} {W : WX} {a b : Expr} {fs : FA} {elts : List Expr} {kk : Nat} {p pos tpos : Pos} (hg : Gl X "zip") (hm : X.mg "zip" = none) (ha : AV X W [a, b] fs) (hs : starEach [a, b] X.env = (false, eval a X.env) :: starEach [b] X.env := by rfl) (hpl : (backTo pos (starEach [b] X.env)).any (·.1) = false := by rfl) :
    IV X W (.Tuple elts kk tpos) (.Call (.Name "zip" p) [a, b] [] pos) (fun δ s => (fs δ s).bind zipA) := by
  refine pi_weak (pi_or (RZ.pi_zipA hg hm ha hs hpl) (pi_mix hg hm ha hs hpl)) fun σ H RQ ⟨dk, δ, s, F, er, st, q⟩ => ?_
  dsimp only at q
  cases hf : fs δ s with
  | bad => rw [hf] at q; exact q.elim
  | raise e s1 => rw [hf] at q; exact .inl ⟨dk, δ, s, F, er, st, by rw [hf]; exact q⟩
  | ok ds s1 =>
    rw [hf] at q
    cases t : isTL ds with
    | true =>
      refine .inr ⟨dk, δ, s, F, er, st, ?_⟩
      rw [hf]
      intro vs F1 H1 n r
      match ds, t with
      | [.tup xs, .lst ys], _ =>
        cases r with
        | cons r1 r2 =>
          cases r2 with
          | cons r3 r4 =>
            cases r4
            cases r1 with
            | tup h1 k1 =>
              cases r3 with
              | lst h2 k2 => exact ⟨_, _, _, _, rfl, seqT n.st.sub h1, SqL.of (n.st.sub _ _ h2), q _ F1 H1 n (itm_ok h1 k1 (SqL.of h2) k2)⟩
    | false =>
      refine .inl ⟨dk, δ, s, F, er, st, ?_⟩
      rw [hf]
      intro vs F1 H1 n r
      have q2 : EPost X.K X.mg dk (fun F J ds => ItD X.K dk F J ds) (WE W σ) F H RQ (zipA ds s1) := q
      unfold zipA at q2
      split at q2
      · cases r with
        | cons r1 r2 =>
          cases r2 with
          | cons r3 r4 =>
            cases r4
            cases r1 with
            | lst h1 k1 =>
              cases r3 with
              | lst h2 k2 => exact ⟨_, _, _, _, rfl, .inl ⟨SqL.of (n.st.sub _ _ h1), SqL.of (n.st.sub _ _ h2), q2 _ F1 H1 n (itz_ok (SqL.of h1) k1 (SqL.of h2) k2)⟩⟩
      · cases r with
        | cons r1 r2 =>
          cases r2 with
          | cons r3 r4 =>
            cases r4
            cases r1 with
            | tup h1 k1 =>
              cases r3 with
              | tup h2 k2 => exact ⟨_, _, _, _, rfl, .inr ⟨seqT n.st.sub h1, seqT n.st.sub h2, q2 _ F1 H1 n (itzT_ok h1 k1 h2 k2)⟩⟩
      · cases t
      · exact q2.elim
end FL

namespace K03
/-! ### numbers in their one form -/
theorem nat_form {A B C D : Nat} (hB : 0 < B) (hD : 0 < D) (h : A * D = C * B) : A / Nat.gcd A B = C / Nat.gcd C D ∧ B / Nat.gcd A B = D / Nat.gcd C D := by
  obtain ⟨g, hg⟩ : ∃ g, g = Nat.gcd A B := ⟨_, rfl⟩
  obtain ⟨k, hk⟩ : ∃ k, k = Nat.gcd C D := ⟨_, rfl⟩
  have g0 : 0 < g := by rw [hg]; exact Nat.gcd_pos_of_pos_right A hB
  have k0 : 0 < k := by rw [hk]; exact Nat.gcd_pos_of_pos_right C hD
  obtain ⟨a, ha⟩ : g ∣ A := by rw [hg]; exact Nat.gcd_dvd_left A B
  obtain ⟨b, hb⟩ : g ∣ B := by rw [hg]; exact Nat.gcd_dvd_right A B
  obtain ⟨c, hc⟩ : k ∣ C := by rw [hk]; exact Nat.gcd_dvd_left C D
  obtain ⟨d, hd⟩ : k ∣ D := by rw [hk]; exact Nat.gcd_dvd_right C D
  have cab : Nat.gcd a b = 1 := by
    have e : Nat.gcd (g * a) (g * b) = g := by rw [← ha, ← hb]; exact hg.symm
    rw [Nat.gcd_mul_left] at e
    exact Nat.eq_of_mul_eq_mul_left g0 (by rw [e, Nat.mul_one])
  have ccd : Nat.gcd c d = 1 := by
    have e : Nat.gcd (k * c) (k * d) = k := by rw [← hc, ← hd]; exact hk.symm
    rw [Nat.gcd_mul_left] at e
    exact Nat.eq_of_mul_eq_mul_left k0 (by rw [e, Nat.mul_one])
  have e : a * d = c * b := by
    have e1 : (g * k) * (a * d) = (g * k) * (c * b) := by
      have : g * a * (k * d) = k * c * (g * b) := by rw [← ha, ← hb, ← hc, ← hd]; exact h
      calc (g * k) * (a * d) = g * a * (k * d) := by ac_rfl
        _ = k * c * (g * b) := this
        _ = (g * k) * (c * b) := by ac_rfl
    exact Nat.eq_of_mul_eq_mul_left (Nat.mul_pos g0 k0) e1
  have bd : b ∣ d := Nat.Coprime.dvd_of_dvd_mul_left (show Nat.Coprime b a by unfold Nat.Coprime; rw [Nat.gcd_comm]; exact cab) (by rw [e]; exact Nat.dvd_mul_left b c)
  have db : d ∣ b := Nat.Coprime.dvd_of_dvd_mul_left (show Nat.Coprime d c by unfold Nat.Coprime; rw [Nat.gcd_comm]; exact ccd) (by rw [← e]; exact Nat.dvd_mul_left d a)
  have hbd : b = d := Nat.dvd_antisymm bd db
  have b0 : 0 < b := Nat.pos_of_ne_zero fun z => by rw [z] at hb; omega
  have hac : a = c := by
    rw [← hbd] at e
    exact Nat.eq_of_mul_eq_mul_right b0 e
  rw [← hg, ← hk, ha, hb, hc, hd, Nat.mul_div_cancel_left _ g0, Nat.mul_div_cancel_left _ g0, Nat.mul_div_cancel_left _ k0, Nat.mul_div_cancel_left _ k0]
  exact ⟨hac, hbd⟩
/-- a below b, above and below -/
def nfA (a b : Int) : Int := if (a < 0) = (b < 0) then ((a.natAbs / Nat.gcd a.natAbs b.natAbs : Nat) : Int) else -((a.natAbs / Nat.gcd a.natAbs b.natAbs : Nat) : Int)
def nfB (a b : Int) : Int := ((b.natAbs / Nat.gcd a.natAbs b.natAbs : Nat) : Int)
theorem nf_eq {a b c d : Int} (hb : b ≠ 0) (hd : d ≠ 0) (h : a * d = c * b) : nfA a b = nfA c d ∧ nfB a b = nfB c d := by
  have hn : a.natAbs * d.natAbs = c.natAbs * b.natAbs := by rw [← Int.natAbs_mul, ← Int.natAbs_mul, h]
  obtain ⟨e1, e2⟩ := nat_form (by omega) (by omega) hn
  refine ⟨?_, by unfold nfB; rw [e2]⟩
  unfold nfA
  rw [e1]
  by_cases z : c = 0
  · subst z
    have : a = 0 := by
      rw [Int.zero_mul] at h
      rcases Int.mul_eq_zero.mp h with q | q
      · exact q
      · exact absurd q hd
    subst this
    simp
  · have za : a ≠ 0 := fun q => by
      rw [q, Int.zero_mul] at h
      rcases Int.mul_eq_zero.mp h.symm with r | r
      · exact z r
      · exact hb r
    have sg : ((a < 0) = (b < 0)) = ((c < 0) = (d < 0)) := by
      have pos : ∀ x y : Int, x ≠ 0 → y ≠ 0 → (((x < 0) = (y < 0)) ↔ 0 < x * y) := by
        intro x y hx hy
        rcases Int.lt_or_gt_of_ne hx with p | p <;> rcases Int.lt_or_gt_of_ne hy with r | r
        · exact ⟨fun _ => Int.mul_pos_of_neg_of_neg p r, fun _ => by simp [p, r]⟩
        · refine ⟨fun q => ?_, fun q => ?_⟩
          · have : y < 0 := by rw [← q]; exact p
            omega
          · have := Int.mul_neg_of_neg_of_pos p r; omega
        · refine ⟨fun q => ?_, fun q => ?_⟩
          · have : x < 0 := by rw [q]; exact r
            omega
          · have := Int.mul_neg_of_pos_of_neg p r; omega
        · exact ⟨fun _ => Int.mul_pos p r, fun _ => by
            have h1 : ¬ x < 0 := by omega
            have h2 : ¬ y < 0 := by omega
            simp [h1, h2]⟩
      apply propext
      rw [pos a b za hb, pos c d z hd]
      -- a * b and c * d have one sign: (a * b) * (d * d) = (c * b) * (b * d)
      have k1 : (a * b) * (d * d) = (c * d) * (b * b) := by
        calc (a * b) * (d * d) = (a * d) * (b * d) := by ac_rfl
          _ = (c * b) * (b * d) := by rw [h]
          _ = (c * d) * (b * b) := by ac_rfl
      have dd : 0 < d * d := by rcases Int.lt_or_gt_of_ne hd with p | p; exact Int.mul_pos_of_neg_of_neg p p; exact Int.mul_pos p p
      have bb : 0 < b * b := by rcases Int.lt_or_gt_of_ne hb with p | p; exact Int.mul_pos_of_neg_of_neg p p; exact Int.mul_pos p p
      constructor
      · intro q
        have := Int.mul_pos q dd
        rw [k1] at this
        exact Int.pos_of_mul_pos_left this bb
      · intro q
        have := Int.mul_pos q bb
        rw [← k1] at this
        exact Int.pos_of_mul_pos_left this dd
    simp only [sg]
end K03

namespace K03
open PySem L2 FL
def top (i : Nat) : Stmt := PySem.Challenge.pw_planless_k03_numbers_reckoned.main.body.getD i (.Pass ⟨0, 0, 0, 0⟩)
def tbl (x y : Str) : Option Bool :=
  (if x = "PlayError" ∧ y = "PlayError" then some true else (if x = "PlayError" ∧ y = "BadNumber" then some false else (if x = "PlayError" ∧ y = "Misfit" then some false else (if x = "BadNumber" ∧ y = "PlayError" then some true else (if x = "BadNumber" ∧ y = "BadNumber" then some true else (if x = "BadNumber" ∧ y = "Misfit" then some false else (if x = "Misfit" ∧ y = "PlayError" then some true else (if x = "Misfit" ∧ y = "BadNumber" then some false else (if x = "Misfit" ∧ y = "Misfit" then some true else none)))))))))
def intE (δ : DEnv) (i : Nat) : Int := match δ[i]? with
  | some (some (.int n)) => n
  | _ => 0
abbrev s_is_integer : Stmt := top 2
abbrev N_is_integer : List Str := ["value"]
theorem sc_is_integer : FnScope N_is_integer ["value"] (defScope s_is_integer) := ⟨rfl, rfl, rfl, by decide +kernel, rfl, by decide +kernel, by decide +kernel⟩
abbrev s_is_within : Stmt := top 3
abbrev N_is_within : List Str := ["value", "least", "most", "bound"]
theorem sc_is_within : FnScope N_is_within ["value", "least", "most"] (defScope s_is_within) := ⟨rfl, rfl, rfl, by decide +kernel, rfl, by decide +kernel, by decide +kernel⟩
abbrev s_is_number : Stmt := top 4
abbrev N_is_number : List Str := ["value", "above", "below"]
theorem sc_is_number : FnScope N_is_number ["value"] (defScope s_is_number) := ⟨rfl, rfl, rfl, by decide +kernel, rfl, by decide +kernel, by decide +kernel⟩
abbrev s_is_list : Stmt := top 5
abbrev N_is_list : List Str := ["value"]
theorem sc_is_list : FnScope N_is_list ["value"] (defScope s_is_list) := ⟨rfl, rfl, rfl, by decide +kernel, rfl, by decide +kernel, by decide +kernel⟩
abbrev s_is_numbers : Stmt := top 6
abbrev N_is_numbers : List Str := ["value", ".0", "item"]
theorem sc_is_numbers : FnScope N_is_numbers ["value"] (defScope s_is_numbers) := ⟨rfl, rfl, rfl, by decide +kernel, rfl, by decide +kernel, by decide +kernel⟩
abbrev s_is_row : Stmt := top 7
abbrev N_is_row : List Str := ["value", "many"]
theorem sc_is_row : FnScope N_is_row ["value", "many"] (defScope s_is_row) := ⟨rfl, rfl, rfl, by decide +kernel, rfl, by decide +kernel, by decide +kernel⟩
abbrev s_fixed : Stmt := top 13
abbrev N_fixed : List Str := ["value", ".0", "item"]
theorem sc_fixed : FnScope N_fixed ["value"] (defScope s_fixed) := ⟨rfl, rfl, rfl, by decide +kernel, rfl, by decide +kernel, by decide +kernel⟩
abbrev s_above_below : Stmt := top 15
abbrev N_above_below : List Str := ["number"]
theorem sc_above_below : FnScope N_above_below ["number"] (defScope s_above_below) := ⟨rfl, rfl, rfl, by decide +kernel, rfl, by decide +kernel, by decide +kernel⟩
abbrev s_made : Stmt := top 16
abbrev N_made : List Str := ["above", "below", "common"]
theorem sc_made : FnScope N_made ["above", "below"] (defScope s_made) := ⟨rfl, rfl, rfl, by decide +kernel, rfl, by decide +kernel, by decide +kernel⟩
abbrev s_added : Stmt := top 17
abbrev N_added : List Str := ["numbers", "total", "line", "number", "above", "below", "common"]
theorem sc_added : FnScope N_added ["numbers"] (defScope s_added) := ⟨rfl, rfl, rfl, by decide +kernel, rfl, by decide +kernel, by decide +kernel⟩
abbrev s_multiplied : Stmt := top 18
abbrev N_multiplied : List Str := ["one", "other", "above", "below", "other_above", "other_below"]
theorem sc_multiplied : FnScope N_multiplied ["one", "other"] (defScope s_multiplied) := ⟨rfl, rfl, rfl, by decide +kernel, rfl, by decide +kernel, by decide +kernel⟩
abbrev s_precedes : Stmt := top 19
abbrev N_precedes : List Str := ["one", "other", "above", "below", "other_above", "other_below"]
theorem sc_precedes : FnScope N_precedes ["one", "other"] (defScope s_precedes) := ⟨rfl, rfl, rfl, by decide +kernel, rfl, by decide +kernel, by decide +kernel⟩
abbrev s_matched_sum : Stmt := top 20
abbrev N_matched_sum : List Str := ["row", "other", ".0", "here", "there"]
theorem sc_matched_sum : FnScope N_matched_sum ["row", "other"] (defScope s_matched_sum) := ⟨rfl, rfl, rfl, by decide +kernel, rfl, by decide +kernel, by decide +kernel⟩
abbrev s_check_two : Stmt := top 21
abbrev N_check_two : List Str := ["one", "other"]
theorem sc_check_two : FnScope N_check_two ["one", "other"] (defScope s_check_two) := ⟨rfl, rfl, rfl, by decide +kernel, rfl, by decide +kernel, by decide +kernel⟩
abbrev s_ratio : Stmt := top 22
abbrev N_ratio : List Str := ["above", "below"]
theorem sc_ratio : FnScope N_ratio ["above", "below"] (defScope s_ratio) := ⟨rfl, rfl, rfl, by decide +kernel, rfl, by decide +kernel, by decide +kernel⟩
abbrev s_plus : Stmt := top 23
abbrev N_plus : List Str := ["one", "other"]
theorem sc_plus : FnScope N_plus ["one", "other"] (defScope s_plus) := ⟨rfl, rfl, rfl, by decide +kernel, rfl, by decide +kernel, by decide +kernel⟩
abbrev s_minus : Stmt := top 24
abbrev N_minus : List Str := ["one", "other"]
theorem sc_minus : FnScope N_minus ["one", "other"] (defScope s_minus) := ⟨rfl, rfl, rfl, by decide +kernel, rfl, by decide +kernel, by decide +kernel⟩
abbrev s_times : Stmt := top 25
abbrev N_times : List Str := ["one", "other"]
theorem sc_times : FnScope N_times ["one", "other"] (defScope s_times) := ⟨rfl, rfl, rfl, by decide +kernel, rfl, by decide +kernel, by decide +kernel⟩
abbrev s_over : Stmt := top 26
abbrev N_over : List Str := ["one", "other", "above", "below"]
theorem sc_over : FnScope N_over ["one", "other"] (defScope s_over) := ⟨rfl, rfl, rfl, by decide +kernel, rfl, by decide +kernel, by decide +kernel⟩
abbrev s_is_less : Stmt := top 27
abbrev N_is_less : List Str := ["one", "other"]
theorem sc_is_less : FnScope N_is_less ["one", "other"] (defScope s_is_less) := ⟨rfl, rfl, rfl, by decide +kernel, rfl, by decide +kernel, by decide +kernel⟩
abbrev s_check_some : Stmt := top 28
abbrev N_check_some : List Str := ["values"]
theorem sc_check_some : FnScope N_check_some ["values"] (defScope s_check_some) := ⟨rfl, rfl, rfl, by decide +kernel, rfl, by decide +kernel, by decide +kernel⟩
abbrev s_least : Stmt := top 29
abbrev N_least : List Str := ["values", "found", "value"]
theorem sc_least : FnScope N_least ["values"] (defScope s_least) := ⟨rfl, rfl, rfl, by decide +kernel, rfl, by decide +kernel, by decide +kernel⟩
abbrev s_greatest : Stmt := top 30
abbrev N_greatest : List Str := ["values", "found", "value"]
theorem sc_greatest : FnScope N_greatest ["values"] (defScope s_greatest) := ⟨rfl, rfl, rfl, by decide +kernel, rfl, by decide +kernel, by decide +kernel⟩
abbrev s_sum_of : Stmt := top 31
abbrev N_sum_of : List Str := ["values"]
theorem sc_sum_of : FnScope N_sum_of ["values"] (defScope s_sum_of) := ⟨rfl, rfl, rfl, by decide +kernel, rfl, by decide +kernel, by decide +kernel⟩
abbrev s_product_sum : Stmt := top 32
abbrev N_product_sum : List Str := ["row", "other"]
theorem sc_product_sum : FnScope N_product_sum ["row", "other"] (defScope s_product_sum) := ⟨rfl, rfl, rfl, by decide +kernel, rfl, by decide +kernel, by decide +kernel⟩
abbrev s_law_well : Stmt := top 34
abbrev s_law_draw : Stmt := top 35
abbrev N_law_draw : List Str := ["well", "many", "left", "turn", "cell", "mixed"]
theorem sc_law_draw : FnScope N_law_draw ["well", "many"] (defScope s_law_draw) := ⟨rfl, rfl, rfl, by decide +kernel, rfl, by decide +kernel, by decide +kernel⟩
abbrev s_law_pick : Stmt := top 36
abbrev N_law_pick : List Str := ["well", "some"]
theorem sc_law_pick : FnScope N_law_pick ["well", "some"] (defScope s_law_pick) := ⟨rfl, rfl, rfl, by decide +kernel, rfl, by decide +kernel, by decide +kernel⟩
abbrev s_law_form : Stmt := top 37
abbrev N_law_form : List Str := ["above", "below", "one", "other"]
theorem sc_law_form : FnScope N_law_form ["above", "below"] (defScope s_law_form) := ⟨rfl, rfl, rfl, by decide +kernel, rfl, by decide +kernel, by decide +kernel⟩
abbrev s_law_two : Stmt := top 38
abbrev N_law_two : List Str := ["number"]
theorem sc_law_two : FnScope N_law_two ["number"] (defScope s_law_two) := ⟨rfl, rfl, rfl, by decide +kernel, rfl, by decide +kernel, by decide +kernel⟩
abbrev s_law_sum : Stmt := top 39
abbrev N_law_sum : List Str := ["numbers", "above", "below", "number", "pair"]
theorem sc_law_sum : FnScope N_law_sum ["numbers"] (defScope s_law_sum) := ⟨rfl, rfl, rfl, by decide +kernel, rfl, by decide +kernel, by decide +kernel⟩
abbrev s_law_times : Stmt := top 40
abbrev N_law_times : List Str := ["one", "other"]
theorem sc_law_times : FnScope N_law_times ["one", "other"] (defScope s_law_times) := ⟨rfl, rfl, rfl, by decide +kernel, rfl, by decide +kernel, by decide +kernel⟩
abbrev s_law_before : Stmt := top 41
abbrev N_law_before : List Str := ["one", "other"]
theorem sc_law_before : FnScope N_law_before ["one", "other"] (defScope s_law_before) := ⟨rfl, rfl, rfl, by decide +kernel, rfl, by decide +kernel, by decide +kernel⟩
abbrev s_law_value : Stmt := top 42
abbrev N_law_value : List Str := ["well", "most", "above"]
theorem sc_law_value : FnScope N_law_value ["well"] (defScope s_law_value) := ⟨rfl, rfl, rfl, by decide +kernel, rfl, by decide +kernel, by decide +kernel⟩
abbrev s_law_as : Stmt := top 43
abbrev N_law_as : List Str := ["well", "number"]
theorem sc_law_as : FnScope N_law_as ["well", "number"] (defScope s_law_as) := ⟨rfl, rfl, rfl, by decide +kernel, rfl, by decide +kernel, by decide +kernel⟩
abbrev s_law_bad : Stmt := top 44
abbrev N_law_bad : List Str := ["well"]
theorem sc_law_bad : FnScope N_law_bad ["well"] (defScope s_law_bad) := ⟨rfl, rfl, rfl, by decide +kernel, rfl, by decide +kernel, by decide +kernel⟩
abbrev s_law_asked : Stmt := top 45
abbrev N_law_asked : List Str := ["way", "one", "other", "told", "error"]
theorem sc_law_asked : FnScope N_law_asked ["way", "one", "other"] (defScope s_law_asked) := ⟨rfl, rfl, rfl, by decide +kernel, rfl, by decide +kernel, by decide +kernel⟩
abbrev s_law_pairs : Stmt := top 46
abbrev N_law_pairs : List Str := ["well", "one", "other", "due", "pair", "way", "bad", "above", "below"]
theorem sc_law_pairs : FnScope N_law_pairs ["well"] (defScope s_law_pairs) := ⟨rfl, rfl, rfl, by decide +kernel, rfl, by decide +kernel, by decide +kernel⟩
abbrev s_law_row_told : Stmt := top 47
abbrev N_law_row_told : List Str := ["way", "row", "other", "told", "error"]
theorem sc_law_row_told : FnScope N_law_row_told ["way", "row", "other"] (defScope s_law_row_told) := ⟨rfl, rfl, rfl, by decide +kernel, rfl, by decide +kernel, by decide +kernel⟩
abbrev s_law_rows : Stmt := top 48
abbrev N_law_rows : List Str := ["well", "row", "number", "other", "low", "high", "wrong", "due", "kept", "before", "way", "mine", "bad", ".0", "turn", "at"]
theorem sc_law_rows : FnScope N_law_rows ["well"] (defScope s_law_rows) := ⟨rfl, rfl, rfl, by decide +kernel, rfl, by decide +kernel, by decide +kernel⟩
abbrev s_law : Stmt := top 49
abbrev N_law : List Str := ["script", "well", "turn"]
theorem sc_law : FnScope N_law ["script"] (defScope s_law) := ⟨rfl, rfl, rfl, by decide +kernel, rfl, by decide +kernel, by decide +kernel⟩
theorem sc_law_well : FnScope ["script", "cell"] ["script"] (defScope s_law_well) := ⟨rfl, rfl, rfl, by decide +kernel, rfl, by decide +kernel, by decide +kernel⟩
def g_is_integer : FS :=
    (retS (andD (isiF (getE 0) "int") (notD (isiF (getE 0) "bool"))))
def m_is_integer : List D → M D := defM 1 g_is_integer
def g_is_within : FS :=
    (seqS (forS (fun δ s => ((withA (avC (getE 1) (avC (getE 2) av0)) mkTup) δ s).bind seqM) (.nm 3) (iteS (fAnd (fNotN (getE 3)) (fNot (fTru (withA (avC (getE 3) av0) (callN 1 m_is_integer))))) (retS (cst (.bl false))) (fun δ s => .nx δ s)))
    (seqS (iteS (fNot (fTru (withA (avC (getE 0) av0) (callN 1 m_is_integer)))) (retS (cst (.bl false))) (fun δ s => .nx δ s))
    (retS (andD (orD (isN (getE 1)) (lift2 leM (getE 1) (getE 0))) (orD (isN (getE 2)) (lift2 leM (getE 0) (getE 2)))))))
def m_is_within : List D → M D := defM 4 g_is_within
def g_is_list : FS :=
    (retS (isi2F (getE 0) "list" "tuple"))
def m_is_list : List D → M D := defM 1 g_is_list
def g_is_number : FS :=
    (seqS (iteS (fNot (fTru (withA (avC (getE 0) av0) (callN 1 m_is_list)))) (retS (withA (avC (getE 0) av0) (callN 1 m_is_integer))) (fun δ s => .nx δ s))
    (seqS (iteS (fBoo (lift2 neM (withA (avC (getE 0) av0) lenM) (cst (.int 2)))) (retS (cst (.bl false))) (fun δ s => .nx δ s))
    (seqS (asgS (.tp [(.nm 1), (.nm 2)]) (getE 0))
    (retS (andD (withA (avC (getE 1) av0) (callN 1 m_is_integer)) (andD (withA (avC (getE 2) (avC (cst (.int 2)) (avC (cst .non) av0))) (callN 3 m_is_within)) (lift2 eqM (withA (avC (getE 1) (avC (getE 2) av0)) gcdM) (cst (.int 1)))))))))
def m_is_number : List D → M D := defM 3 g_is_number
def g_is_numbers : FS :=
    (retS (andD (withA (avC (getE 0) av0) (callN 1 m_is_list)) (withA (avC (lcD (fun δ s => ((getE 0) δ s).bind seqM) (.nm 2) [1, 2] yesT (withA (avC (getE 2) av0) (callN 1 m_is_number))) av0) allM)))
def m_is_numbers : List D → M D := defM 3 g_is_numbers
def g_is_row : FS :=
    (retS (andD (withA (avC (getE 1) av0) (callN 1 m_is_integer)) (andD (withA (avC (getE 0) av0) (callN 1 m_is_list)) (andD (lift2 eqM (withA (avC (getE 0) av0) lenM) (getE 1)) (withA (avC (getE 0) av0) (callN 1 m_is_numbers))))))
def m_is_row : List D → M D := defM 2 g_is_row
def g_fixed (rec : List D → M D) : FS :=
    (seqS (iteS (fTru (isi2F (getE 0) "list" "tuple")) (retS (withA (avC (lcD (fun δ s => ((getE 0) δ s).bind seqM) (.nm 2) [1, 2] yesT (withA (avC (getE 2) av0) (callN 1 (rec)))) av0) tupM)) (fun δ s => .nx δ s))
    (retS (getE 0)))
def m_fixed : Nat → List D → M D
  | 0 => fun _ _ => .bad
  | n + 1 => defM 3 (g_fixed (m_fixed n))
def g_above_below : FS :=
    (seqS (iteS (fTru (withA (avC (getE 0) av0) (callN 1 m_is_integer))) (retS (withA (avC (getE 0) (avC (cst (.int 1)) av0)) mkTup)) (fun δ s => .nx δ s))
    (retS (withA (avC (lift2 getM (getE 0) (cst (.int 0))) (avC (lift2 getM (getE 0) (cst (.int 1))) av0)) mkTup)))
def m_above_below : List D → M D := defM 1 g_above_below
def g_made : FS :=
    (seqS (setS 2 (withA (avC (getE 0) (avC (getE 1) av0)) gcdM))
    (seqS (iteS (fBoo (lift2 ltM (getE 1) (cst (.int 0)))) (setS 2 (un1 negM (getE 2))) (fun δ s => .nx δ s))
    (seqS (parS 0 1 (avC (lift2 fdvM (getE 0) (getE 2)) (avC (lift2 fdvM (getE 1) (getE 2)) av0)))
    (retS (ifD (fBoo (lift2 eqM (getE 1) (cst (.int 1)))) (getE 0) (withA (avC (getE 0) (avC (getE 1) av0)) mkTup))))))
def m_made : List D → M D := defM 3 g_made
def g_added : FS :=
    (seqS (asgS (.tp [(.nm 1), (.nm 2)]) (withA (avC (cst (.int 0)) (avC (cst (.int 1)) av0)) mkTup))
    (seqS (forS (fun δ s => ((getE 0) δ s).bind seqM) (.nm 3) (seqS (asgS (.tp [(.nm 4), (.nm 5)]) (withA (avC (getE 3) av0) (callN 1 m_above_below)))
    (seqS (setS 6 (withA (avC (getE 2) (avC (getE 5) av0)) gcdM))
    (seqS (setS 1 (lift2 addM (lift2 mulM (getE 1) (lift2 fdvM (getE 5) (getE 6))) (lift2 mulM (getE 4) (lift2 fdvM (getE 2) (getE 6)))))
    (setS 2 (lift2 mulM (lift2 fdvM (getE 2) (getE 6)) (getE 5)))))))
    (retS (withA (avC (getE 1) (avC (getE 2) av0)) (callN 2 m_made)))))
def m_added : List D → M D := defM 7 g_added
def g_multiplied : FS :=
    (seqS (asgS (.tp [(.nm 2), (.nm 3)]) (withA (avC (getE 0) av0) (callN 1 m_above_below)))
    (seqS (asgS (.tp [(.nm 4), (.nm 5)]) (withA (avC (getE 1) av0) (callN 1 m_above_below)))
    (retS (withA (avC (lift2 mulM (getE 2) (getE 4)) (avC (lift2 mulM (getE 3) (getE 5)) av0)) (callN 2 m_made)))))
def m_multiplied : List D → M D := defM 6 g_multiplied
def g_precedes : FS :=
    (seqS (asgS (.tp [(.nm 2), (.nm 3)]) (withA (avC (getE 0) av0) (callN 1 m_above_below)))
    (seqS (asgS (.tp [(.nm 4), (.nm 5)]) (withA (avC (getE 1) av0) (callN 1 m_above_below)))
    (retS (lift2 ltM (lift2 mulM (getE 2) (getE 5)) (lift2 mulM (getE 4) (getE 3))))))
def m_precedes : List D → M D := defM 6 g_precedes
def g_matched_sum : FS :=
    (retS (withA (avC (lcD (fun δ s => ((avC (getE 0) (avC (getE 1) av0)) δ s).bind zipA) (.tp [(.nm 3), (.nm 4)]) [2, 3, 4] yesT (withA (avC (getE 3) (avC (getE 4) av0)) (callN 2 m_multiplied))) av0) (callN 1 m_added)))
def m_matched_sum : List D → M D := defM 5 g_matched_sum
def g_check_two : FS :=
    (seqS (iteS (fNot (fTru (withA (avC (getE 0) av0) (callN 1 m_is_number)))) (raiseS "BadNumber" ["part"] (avC (cst (.str "one")) av0)) (fun δ s => .nx δ s))
    (iteS (fNot (fTru (withA (avC (getE 1) av0) (callN 1 m_is_number)))) (raiseS "BadNumber" ["part"] (avC (cst (.str "other")) av0)) (fun δ s => .nx δ s)))
def m_check_two : List D → M D := defM 2 g_check_two
def g_ratio : FS :=
    (seqS (iteS (fNot (fTru (withA (avC (getE 0) av0) (callN 1 m_is_integer)))) (raiseS "BadNumber" ["part"] (avC (cst (.str "above")) av0)) (fun δ s => .nx δ s))
    (seqS (iteS (fOr (fNot (fTru (withA (avC (getE 1) av0) (callN 1 m_is_integer)))) (fBoo (lift2 eqM (getE 1) (cst (.int 0))))) (raiseS "BadNumber" ["part"] (avC (cst (.str "below")) av0)) (fun δ s => .nx δ s))
    (retS (withA (avC (getE 0) (avC (getE 1) av0)) (callN 2 m_made)))))
def m_ratio : List D → M D := defM 2 g_ratio
def g_plus : FS :=
    (seqS (dropS (withA (avC (getE 0) (avC (getE 1) av0)) (callN 2 m_check_two)))
    (retS (withA (avC (withA (avC (getE 0) (avC (getE 1) av0)) mkLst) av0) (callN 1 m_added))))
def m_plus : List D → M D := defM 2 g_plus
def g_minus : FS :=
    (seqS (dropS (withA (avC (getE 0) (avC (getE 1) av0)) (callN 2 m_check_two)))
    (retS (withA (avC (withA (avC (getE 0) (avC (withA (avC (un1 negM (cst (.int 1))) (avC (getE 1) av0)) (callN 2 m_multiplied)) av0)) mkLst) av0) (callN 1 m_added))))
def m_minus : List D → M D := defM 2 g_minus
def g_times : FS :=
    (seqS (dropS (withA (avC (getE 0) (avC (getE 1) av0)) (callN 2 m_check_two)))
    (retS (withA (avC (getE 0) (avC (getE 1) av0)) (callN 2 m_multiplied))))
def m_times : List D → M D := defM 2 g_times
def g_over : FS :=
    (seqS (dropS (withA (avC (getE 0) (avC (getE 1) av0)) (callN 2 m_check_two)))
    (seqS (asgS (.tp [(.nm 2), (.nm 3)]) (withA (avC (getE 1) av0) (callN 1 m_above_below)))
    (seqS (iteS (fBoo (lift2 eqM (getE 2) (cst (.int 0)))) (raiseS "Misfit" ["part"] (avC (cst (.str "other")) av0)) (fun δ s => .nx δ s))
    (retS (withA (avC (getE 0) (avC (withA (avC (getE 3) (avC (getE 2) av0)) (callN 2 m_made)) av0)) (callN 2 m_multiplied))))))
def m_over : List D → M D := defM 4 g_over
def g_is_less : FS :=
    (seqS (dropS (withA (avC (getE 0) (avC (getE 1) av0)) (callN 2 m_check_two)))
    (retS (withA (avC (getE 0) (avC (getE 1) av0)) (callN 2 m_precedes))))
def m_is_less : List D → M D := defM 2 g_is_less
def g_check_some : FS :=
    (iteS (fOr (fNot (fTru (withA (avC (getE 0) av0) (callN 1 m_is_numbers)))) (fBoo (lift2 eqM (withA (avC (getE 0) av0) lenM) (cst (.int 0))))) (raiseS "BadNumber" ["part"] (avC (cst (.str "values")) av0)) (fun δ s => .nx δ s))
def m_check_some : List D → M D := defM 1 g_check_some
def g_least : FS :=
    (seqS (dropS (withA (avC (getE 0) av0) (callN 1 m_check_some)))
    (seqS (setS 1 (lift2 getM (getE 0) (cst (.int 0))))
    (seqS (forS (fun δ s => ((getE 0) δ s).bind seqM) (.nm 2) (iteS (fTru (withA (avC (getE 2) (avC (getE 1) av0)) (callN 2 m_precedes))) (setS 1 (getE 2)) (fun δ s => .nx δ s)))
    (retS (withA (avC (getE 1) av0) (callN 1 (m_fixed 3)))))))
def m_least : List D → M D := defM 3 g_least
def g_greatest : FS :=
    (seqS (dropS (withA (avC (getE 0) av0) (callN 1 m_check_some)))
    (seqS (setS 1 (lift2 getM (getE 0) (cst (.int 0))))
    (seqS (forS (fun δ s => ((getE 0) δ s).bind seqM) (.nm 2) (iteS (fTru (withA (avC (getE 1) (avC (getE 2) av0)) (callN 2 m_precedes))) (setS 1 (getE 2)) (fun δ s => .nx δ s)))
    (retS (withA (avC (getE 1) av0) (callN 1 (m_fixed 3)))))))
def m_greatest : List D → M D := defM 3 g_greatest
def g_sum_of : FS :=
    (seqS (iteS (fNot (fTru (withA (avC (getE 0) av0) (callN 1 m_is_numbers)))) (raiseS "BadNumber" ["part"] (avC (cst (.str "values")) av0)) (fun δ s => .nx δ s))
    (retS (withA (avC (getE 0) av0) (callN 1 m_added))))
def m_sum_of : List D → M D := defM 1 g_sum_of
def g_product_sum : FS :=
    (seqS (iteS (fNot (fTru (withA (avC (getE 0) av0) (callN 1 m_is_numbers)))) (raiseS "BadNumber" ["part"] (avC (cst (.str "row")) av0)) (fun δ s => .nx δ s))
    (seqS (iteS (fNot (fTru (withA (avC (getE 1) (avC (withA (avC (getE 0) av0) lenM) av0)) (callN 2 m_is_row)))) (raiseS "BadNumber" ["part"] (avC (cst (.str "other")) av0)) (fun δ s => .nx δ s))
    (retS (withA (avC (getE 0) (avC (getE 1) av0)) (callN 2 m_matched_sum)))))
def m_product_sum : List D → M D := defM 2 g_product_sum
def g_law_draw : FS :=
    (seqS (iteS (fBoo (lift2 gtM (lift2 getM (getE 0) (cst (.int 2))) (cst (.int 0)))) (seqS (setS 2 (withA (avC (lift2 getM (getE 0) (cst (.int 2))) av0) intM1))
    (seqS (putS (lift2 fdvM (getE 2) (getE 1)) (getE 0) 2)
    (retS (lift2 modM (withA (avC (getE 2) av0) intM1) (getE 1))))) (fun δ s => .nx δ s))
    (seqS (setS 3 (lift2 getM (getE 0) (cst (.int 1))))
    (seqS (putS (lift2 addM (getE 3) (cst (.int 1))) (getE 0) 1)
    (seqS (setS 4 (lift2 addM (lift2 mulM (cst (.int 108191)) (getE 3)) (cst (.int 8171))))
    (seqS (iteS (fBoo (lift2 neM (lift2 getM (getE 0) (cst (.int 0))) (withA av0 mkLst))) (setS 4 (lift2 getM (lift2 getM (getE 0) (cst (.int 0))) (lift2 modM (withA (avC (getE 3) av0) intM1) (withA (avC (lift2 getM (getE 0) (cst (.int 0))) av0) lenM)))) (fun δ s => .nx δ s))
    (seqS (iteS (fAnd (fBoo (lift2 ltM (getE 3) (withA (avC (lift2 getM (getE 0) (cst (.int 0))) av0) lenM))) (fBoo (lift2 geM (withA (avC (getE 4) av0) absM) (lift2 powM (cst (.int 10)) (cst (.int 18)))))) (seqS (setS 2 (lift2 addM (lift2 mulM (cst (.int 2)) (lift2 subM (withA (avC (withA (avC (getE 4) av0) intM1) av0) absM) (lift2 powM (cst (.int 10)) (cst (.int 18))))) (withA (avC (lift2 ltM (getE 4) (cst (.int 0))) av0) intM1)))
    (seqS (putS (lift2 fdvM (getE 2) (getE 1)) (getE 0) 2)
    (retS (lift2 modM (withA (avC (getE 2) av0) intM1) (getE 1))))) (fun δ s => .nx δ s))
    (seqS (setS 5 (lift2 modM (withA (avC (lift2 powM (lift2 addM (lift2 addM (lift2 modM (withA (avC (getE 4) av0) intM1) (cst (.int 2147483563))) (lift2 mulM (cst (.int 85193)) (getE 3))) (cst (.int 8171))) (cst (.int 5))) av0) intM1) (cst (.int 2147483579))))
    (seqS (setS 5 (lift2 modM (withA (avC (lift2 powM (lift2 addM (lift2 addM (lift2 mulM (getE 5) (lift2 addM (lift2 mulM (cst (.int 2)) (getE 3)) (cst (.int 8171)))) (lift2 mulM (lift2 mulM (cst (.int 108191)) (getE 3)) (getE 3))) (cst (.int 85193))) (cst (.int 3))) av0) intM1) (cst (.int 2147483549))))
    (retS (lift2 modM (withA (avC (lift2 fdvM (getE 5) (cst (.int 64))) av0) intM1) (getE 1)))))))))))
def m_law_draw : List D → M D := defM 6 g_law_draw
def g_law_pick : FS :=
    (retS (lift2 getM (getE 1) (withA (avC (getE 0) (avC (withA (avC (getE 1) av0) lenM) av0)) (callN 2 m_law_draw))))
def m_law_pick : List D → M D := defM 2 g_law_pick
def g_law_form : FS :=
    (seqS (parS 2 3 (avC (withA (avC (getE 0) av0) absM) (avC (withA (avC (getE 1) av0) absM) av0)))
    (seqS (whileS (fun δ _ => (intE δ 3).natAbs + 1) (fBoo (lift2 gtM (getE 3) (cst (.int 0)))) (parS 2 3 (avC (getE 3) (avC (lift2 modM (withA (avC (getE 2) av0) intM1) (getE 3)) av0))))
    (seqS (parS 0 1 (avC (lift2 fdvM (getE 0) (getE 2)) (avC (lift2 fdvM (getE 1) (getE 2)) av0)))
    (seqS (iteS (fBoo (lift2 ltM (getE 1) (cst (.int 0)))) (parS 0 1 (avC (un1 negM (getE 0)) (avC (un1 negM (getE 1)) av0))) (fun δ s => .nx δ s))
    (retS (ifD (fBoo (lift2 eqM (getE 1) (cst (.int 1)))) (getE 0) (withA (avC (getE 0) (avC (getE 1) av0)) mkTup)))))))
def m_law_form : List D → M D := defM 4 g_law_form
def g_law_two : FS :=
    (retS (ifD (fTru (isiF (getE 0) "int")) (withA (avC (getE 0) (avC (cst (.int 1)) av0)) mkLst) (withA (avC (lift2 getM (getE 0) (cst (.int 0))) (avC (lift2 getM (getE 0) (cst (.int 1))) av0)) mkLst)))
def m_law_two : List D → M D := defM 1 g_law_two
def g_law_sum : FS :=
    (seqS (asgS (.tp [(.nm 1), (.nm 2)]) (withA (avC (cst (.int 0)) (avC (cst (.int 1)) av0)) mkTup))
    (seqS (forS (fun δ s => ((getE 0) δ s).bind seqM) (.nm 3) (seqS (setS 4 (withA (avC (getE 3) av0) (callN 1 m_law_two)))
    (parS 1 2 (avC (lift2 addM (lift2 mulM (getE 1) (lift2 getM (getE 4) (cst (.int 1)))) (lift2 mulM (lift2 getM (getE 4) (cst (.int 0))) (getE 2))) (avC (lift2 mulM (getE 2) (lift2 getM (getE 4) (cst (.int 1)))) av0)))))
    (retS (withA (avC (getE 1) (avC (getE 2) av0)) (callN 2 m_law_form)))))
def m_law_sum : List D → M D := defM 5 g_law_sum
def g_law_times : FS :=
    (retS (withA (avC (lift2 mulM (lift2 getM (withA (avC (getE 0) av0) (callN 1 m_law_two)) (cst (.int 0))) (lift2 getM (withA (avC (getE 1) av0) (callN 1 m_law_two)) (cst (.int 0)))) (avC (lift2 mulM (lift2 getM (withA (avC (getE 0) av0) (callN 1 m_law_two)) (cst (.int 1))) (lift2 getM (withA (avC (getE 1) av0) (callN 1 m_law_two)) (cst (.int 1)))) av0)) (callN 2 m_law_form)))
def m_law_times : List D → M D := defM 2 g_law_times
def g_law_before : FS :=
    (retS (lift2 ltM (lift2 mulM (lift2 getM (withA (avC (getE 0) av0) (callN 1 m_law_two)) (cst (.int 0))) (lift2 getM (withA (avC (getE 1) av0) (callN 1 m_law_two)) (cst (.int 1)))) (lift2 mulM (lift2 getM (withA (avC (getE 1) av0) (callN 1 m_law_two)) (cst (.int 0))) (lift2 getM (withA (avC (getE 0) av0) (callN 1 m_law_two)) (cst (.int 1))))))
def m_law_before : List D → M D := defM 2 g_law_before
def g_law_value : FS :=
    (seqS (setS 1 (withA (avC (getE 0) (avC (withA (avC (cst (.int 4)) (avC (cst (.int 9)) (avC (cst (.int 60)) (avC (lift2 powM (cst (.int 10)) (cst (.int 8))) (avC (lift2 powM (cst (.int 10)) (cst (.int 30))) av0))))) mkLst) av0)) (callN 2 m_law_pick)))
    (seqS (setS 2 (lift2 subM (withA (avC (getE 0) (avC (lift2 addM (lift2 mulM (cst (.int 2)) (getE 1)) (cst (.int 1))) av0)) (callN 2 m_law_draw)) (getE 1)))
    (retS (withA (avC (getE 2) (avC (withA (avC (getE 0) (avC (withA (avC (cst (.int 1)) (avC (cst (.int 1)) (avC (cst (.int 2)) (avC (cst (.int 3)) (avC (cst (.int 6)) (avC (lift2 addM (cst (.int 1)) (withA (avC (getE 0) (avC (getE 1) av0)) (callN 2 m_law_draw))) av0)))))) mkLst) av0)) (callN 2 m_law_pick)) av0)) (callN 2 m_law_form)))))
def m_law_value : List D → M D := defM 3 g_law_value
def g_law_as : FS :=
    (retS (ifD (fAnd (fTru (isiF (getE 1) "tuple")) (fBoo (lift2 eqM (withA (avC (getE 0) (avC (cst (.int 2)) av0)) (callN 2 m_law_draw)) (cst (.int 0))))) (withA (avC (getE 1) av0) lstM) (getE 1)))
def m_law_as : List D → M D := defM 2 g_law_as
def g_law_bad : FS :=
    (retS (withA (avC (getE 0) (avC (withA (avC (cst .non) (avC (cst (.bl true)) (avC (cst (.str "1")) (avC (withA (avC (cst (.int 4)) (avC (cst (.int 2)) av0)) mkTup) (avC (withA (avC (cst (.int 3)) (avC (cst (.int 1)) av0)) mkLst) (avC (withA (avC (cst (.int 1)) (avC (cst (.int 0)) av0)) mkTup) (avC (withA (avC (cst (.int 1)) (avC (un1 negM (cst (.int 2))) av0)) mkTup) (avC (withA (avC (cst (.int 1)) (avC (cst (.int 2)) (avC (cst (.int 3)) av0))) mkTup) (avC (withA (avC (cst (.bl true)) (avC (cst (.int 2)) av0)) mkTup) av0))))))))) mkLst) av0)) (callN 2 m_law_pick)))
def m_law_bad : List D → M D := defM 1 g_law_bad
def g_law_asked : FS :=
    (seqS (setS 3 (cst .non))
    (seqS (tryS tbl (iteS (fBoo (lift2 eqM (getE 0) (cst (.int 0)))) (setS 3 (withA (avC (withA (avC (getE 1) (avC (getE 2) av0)) (callN 2 m_plus)) av0) mkLst)) (iteS (fBoo (lift2 eqM (getE 0) (cst (.int 1)))) (setS 3 (withA (avC (withA (avC (getE 1) (avC (getE 2) av0)) (callN 2 m_minus)) av0) mkLst)) (iteS (fBoo (lift2 eqM (getE 0) (cst (.int 2)))) (setS 3 (withA (avC (withA (avC (getE 1) (avC (getE 2) av0)) (callN 2 m_times)) av0) mkLst)) (iteS (fBoo (lift2 eqM (getE 0) (cst (.int 3)))) (setS 3 (withA (avC (withA (avC (getE 1) (avC (getE 2) av0)) (callN 2 m_over)) av0) mkLst)) (iteS (fBoo (lift2 eqM (getE 0) (cst (.int 4)))) (setS 3 (withA (avC (withA (avC (getE 1) (avC (getE 2) av0)) (callN 2 m_is_less)) av0) mkLst)) (setS 3 (withA (avC (withA (avC (getE 1) (avC (getE 2) av0)) (callN 2 m_ratio)) av0) mkLst))))))) (("BadNumber", 4, (fun x => setS 3 ((fun x => withA ((fun x => avC ((fun _ => (cst (.str "BadNumber"))) x) ((fun x => avC ((fldH "BadNumber" "part") x) ((fun _ => av0) x)) x)) x) mkTup) x))) :: (("Misfit", 4, (fun x => setS 3 ((fun x => withA ((fun x => avC ((fun _ => (cst (.str "Misfit"))) x) ((fun x => avC ((fldH "Misfit" "part") x) ((fun _ => av0) x)) x)) x) mkTup) x))) :: (("PlayError", 4, (fun x => setS 3 ((fun x => withA ((fun x => avC ((fun _ => (cst (.str "other"))) x) ((fun _ => av0) x)) x) mkTup) x))) :: []))))
    (retS (getE 3))))
def m_law_asked : List D → M D := defM 5 g_law_asked
def g_law_pairs : FS :=
    (seqS (parS 1 2 (avC (withA (avC (getE 0) av0) (callN 1 m_law_value)) (avC (withA (avC (getE 0) av0) (callN 1 m_law_value)) av0)))
    (seqS (setS 2 (withA (avC (getE 0) (avC (withA (avC (getE 2) (avC (getE 1) (avC (withA (avC (getE 1) (avC (un1 negM (cst (.int 1))) av0)) (callN 2 m_law_times)) (avC (cst (.int 0)) (avC (getE 2) av0))))) mkLst) av0)) (callN 2 m_law_pick)))
    (seqS (setS 3 (withA (avC (withA (avC (withA (avC (withA (avC (getE 1) (avC (getE 2) av0)) mkLst) av0) (callN 1 m_law_sum)) av0) mkLst) (avC (withA (avC (withA (avC (withA (avC (getE 1) (avC (withA (avC (getE 2) (avC (un1 negM (cst (.int 1))) av0)) (callN 2 m_law_times)) av0)) mkLst) av0) (callN 1 m_law_sum)) av0) mkLst) (avC (withA (avC (withA (avC (getE 1) (avC (getE 2) av0)) (callN 2 m_law_times)) av0) mkLst) av0))) mkLst))
    (seqS (setS 4 (withA (avC (getE 2) av0) (callN 1 m_law_two)))
    (seqS (setS 3 (lift2 addM (getE 3) (withA (avC (ifD (fBoo (lift2 eqM (getE 2) (cst (.int 0)))) (withA (avC (cst (.str "Misfit")) (avC (cst (.str "other")) av0)) mkTup) (withA (avC (withA (avC (getE 1) (avC (withA (avC (lift2 getM (getE 4) (cst (.int 1))) (avC (lift2 getM (getE 4) (cst (.int 0))) av0)) (callN 2 m_law_form)) av0)) (callN 2 m_law_times)) av0) mkLst)) (avC (withA (avC (withA (avC (getE 1) (avC (getE 2) av0)) (callN 2 m_law_before)) av0) mkLst) av0)) mkLst)))
    (seqS (forS (fun δ s => ((avC (cst (.int 5)) av0) δ s).bind rng1M) (.nm 5) (iteS (fBoo (lift2 neM (withA (avC (withA (avC (getE 5) (avC (withA (avC (getE 0) (avC (getE 1) av0)) (callN 2 m_law_as)) (avC (withA (avC (getE 0) (avC (getE 2) av0)) (callN 2 m_law_as)) av0))) (callN 3 m_law_asked)) av0) reprM) (withA (avC (lift2 getM (getE 3) (getE 5)) av0) reprM))) (retS (cst (.bl false))) (fun δ s => .nx δ s)))
    (seqS (setS 6 (withA (avC (getE 0) av0) (callN 1 m_law_bad)))
    (seqS (setS 5 (withA (avC (getE 0) (avC (cst (.int 5)) av0)) (callN 2 m_law_draw)))
    (seqS (iteS (fOr (fBoo (lift2 neM (withA (avC (getE 5) (avC (getE 6) (avC (withA (avC (getE 0) (avC (withA (avC (getE 1) (avC (getE 6) av0)) mkLst) av0)) (callN 2 m_law_pick)) av0))) (callN 3 m_law_asked)) (withA (avC (cst (.str "BadNumber")) (avC (cst (.str "one")) av0)) mkTup))) (fBoo (lift2 neM (withA (avC (getE 5) (avC (getE 1) (avC (getE 6) av0))) (callN 3 m_law_asked)) (withA (avC (cst (.str "BadNumber")) (avC (cst (.str "other")) av0)) mkTup)))) (retS (cst (.bl false))) (fun δ s => .nx δ s))
    (seqS (parS 7 8 (avC (lift2 subM (withA (avC (getE 0) (avC (cst (.int 201)) av0)) (callN 2 m_law_draw)) (cst (.int 100))) (avC (lift2 subM (withA (avC (getE 0) (avC (cst (.int 41)) av0)) (callN 2 m_law_draw)) (cst (.int 20))) av0)))
    (seqS (setS 3 (ifD (fBoo (lift2 neM (getE 8) (cst (.int 0)))) (withA (avC (withA (avC (getE 7) (avC (getE 8) av0)) (callN 2 m_law_form)) av0) mkLst) (withA (avC (cst (.str "BadNumber")) (avC (cst (.str "below")) av0)) mkTup)))
    (seqS (iteS (fBoo (lift2 neM (withA (avC (withA (avC (cst (.int 5)) (avC (getE 7) (avC (getE 8) av0))) (callN 3 m_law_asked)) av0) reprM) (withA (avC (getE 3) av0) reprM))) (retS (cst (.bl false))) (fun δ s => .nx δ s))
    (retS (andD (lift2 eqM (withA (avC (cst (.int 5)) (avC (withA (avC (cst (.int 1)) (avC (cst (.int 2)) av0)) mkTup) (avC (cst (.int 0)) av0))) (callN 3 m_law_asked)) (withA (avC (cst (.str "BadNumber")) (avC (cst (.str "above")) av0)) mkTup)) (lift2 eqM (withA (avC (cst (.int 5)) (avC (getE 7) (avC (withA (avC (cst (.int 1)) (avC (cst (.int 2)) av0)) mkTup) av0))) (callN 3 m_law_asked)) (withA (avC (cst (.str "BadNumber")) (avC (cst (.str "below")) av0)) mkTup))))))))))))))))
def m_law_pairs : List D → M D := defM 9 g_law_pairs
def g_law_row_told : FS :=
    (seqS (setS 3 (cst .non))
    (seqS (tryS tbl (iteS (fBoo (lift2 eqM (getE 0) (cst (.int 0)))) (setS 3 (withA (avC (withA (avC (getE 1) av0) (callN 1 m_least)) av0) mkLst)) (iteS (fBoo (lift2 eqM (getE 0) (cst (.int 1)))) (setS 3 (withA (avC (withA (avC (getE 1) av0) (callKW 1 [0] 1 m_greatest)) av0) mkLst)) (iteS (fBoo (lift2 eqM (getE 0) (cst (.int 2)))) (setS 3 (withA (avC (withA (avC (getE 1) av0) (callKW 1 [0] 1 m_sum_of)) av0) mkLst)) (setS 3 (withA (avC (withA (avC (getE 2) (avC (getE 1) av0)) (callKW 2 [1, 0] 2 m_product_sum)) av0) mkLst))))) (("BadNumber", 4, (fun x => setS 3 ((fun x => withA ((fun x => avC ((fun _ => (cst (.str "BadNumber"))) x) ((fun x => avC ((fldH "BadNumber" "part") x) ((fun _ => av0) x)) x)) x) mkTup) x))) :: (("PlayError", 4, (fun x => setS 3 ((fun x => withA ((fun x => avC ((fun _ => (cst (.str "other"))) x) ((fun _ => av0) x)) x) mkTup) x))) :: [])))
    (retS (getE 3))))
def m_law_row_told : List D → M D := defM 5 g_law_row_told
def g_law_rows : FS :=
    (seqS (setS 1 (lcD (fun δ s => ((avC (withA (avC (getE 0) (avC (cst (.int 5)) av0)) (callN 2 m_law_draw)) av0) δ s).bind rng1M) (.nm 14) [13, 14] yesT (withA (avC (getE 0) av0) (callN 1 m_law_value))))
    (seqS (iteS (fAnd (fBoo (lift2 neM (getE 1) (withA av0 mkLst))) (fBoo (lift2 eqM (withA (avC (getE 0) (avC (cst (.int 3)) av0)) (callN 2 m_law_draw)) (cst (.int 0))))) (setS 1 (lift2 addM (getE 1) (withA (avC (lift2 getM (getE 1) (cst (.int 0))) av0) mkLst))) (fun δ s => .nx δ s))
    (seqS (setS 3 (lcD (fun δ s => ((getE 1) δ s).bind seqM) (.nm 2) [13, 2] yesT (withA (avC (getE 0) av0) (callN 1 m_law_value))))
    (seqS (asgS (.tp [(.nm 4), (.nm 5)]) (ifD (fBoo (lift2 neM (getE 1) (withA av0 mkLst))) (withA (avC (lift2 getM (getE 1) (cst (.int 0))) (avC (lift2 getM (getE 1) (cst (.int 0))) av0)) mkTup) (withA (avC (cst (.int 0)) (avC (cst (.int 0)) av0)) mkTup)))
    (seqS (forS (fun δ s => ((getE 1) δ s).bind seqM) (.nm 2) (seqS (setS 4 (ifD (fTru (withA (avC (getE 2) (avC (getE 4) av0)) (callN 2 m_law_before))) (getE 2) (getE 4)))
    (setS 5 (ifD (fTru (withA (avC (getE 5) (avC (getE 2) av0)) (callN 2 m_law_before))) (getE 2) (getE 5)))))
    (seqS (setS 6 (withA (avC (cst (.str "BadNumber")) (avC (cst (.str "values")) av0)) mkTup))
    (seqS (setS 7 (withA (avC (ifD (fBoo (lift2 neM (getE 1) (withA av0 mkLst))) (withA (avC (getE 4) av0) mkLst) (getE 6)) (avC (ifD (fBoo (lift2 neM (getE 1) (withA av0 mkLst))) (withA (avC (getE 5) av0) mkLst) (getE 6)) (avC (withA (avC (withA (avC (getE 1) av0) (callN 1 m_law_sum)) av0) mkLst) av0))) mkLst))
    (seqS (setS 7 (lift2 addM (getE 7) (withA (avC (withA (avC (withA (avC (lcD (fun δ s => ((avC (withA (avC (getE 1) av0) lenM) av0) δ s).bind rng1M) (.nm 15) [13, 15] yesT (withA (avC (lift2 getM (getE 1) (getE 15)) (avC (lift2 getM (getE 3) (getE 15)) av0)) (callN 2 m_law_times))) av0) (callN 1 m_law_sum)) av0) mkLst) av0) mkLst)))
    (seqS (setS 8 (withA (avC (lcD (fun δ s => ((getE 1) δ s).bind seqM) (.nm 2) [13, 2] yesT (withA (avC (getE 0) (avC (getE 2) av0)) (callN 2 m_law_as))) (avC (lcD (fun δ s => ((getE 3) δ s).bind seqM) (.nm 2) [13, 2] yesT (withA (avC (getE 0) (avC (getE 2) av0)) (callN 2 m_law_as))) av0)) mkLst))
    (seqS (setS 9 (withA (avC (getE 8) av0) reprM))
    (seqS (forS (fun δ s => ((avC (cst (.int 4)) av0) δ s).bind rng1M) (.nm 10) (seqS (setS 11 (ifD (fBoo (lift2 eqM (withA (avC (getE 0) (avC (cst (.int 2)) av0)) (callN 2 m_law_draw)) (cst (.int 0)))) (lift2 getM (getE 8) (cst (.int 0))) (withA (avC (lift2 getM (getE 8) (cst (.int 0))) av0) tupM)))
    (iteS (fBoo (lift2 neM (withA (avC (withA (avC (getE 10) (avC (getE 11) (avC (lift2 getM (getE 8) (cst (.int 1))) av0))) (callN 3 m_law_row_told)) av0) reprM) (withA (avC (lift2 getM (getE 7) (getE 10)) av0) reprM))) (retS (cst (.bl false))) (fun δ s => .nx δ s))))
    (seqS (setS 12 (lift2 addM (lift2 getM (getE 8) (cst (.int 0))) (withA (avC (withA (avC (getE 0) av0) (callN 1 m_law_bad)) av0) mkLst)))
    (seqS (iteS (fBoo (lift2 neM (lcD (fun δ s => ((withA (avC (cst (.int 0)) (avC (cst (.int 1)) (avC (cst (.int 2)) av0))) mkTup) δ s).bind seqM) (.nm 10) [13, 10] yesT (withA (avC (getE 10) (avC (getE 12) (avC (getE 3) av0))) (callN 3 m_law_row_told))) (withA (avC (getE 6) (avC (getE 6) (avC (getE 6) av0))) mkLst))) (retS (cst (.bl false))) (fun δ s => .nx δ s))
    (seqS (iteS (fOr (fBoo (lift2 neM (withA (avC (cst (.int 3)) (avC (getE 12) (avC (getE 12) av0))) (callN 3 m_law_row_told)) (withA (avC (cst (.str "BadNumber")) (avC (cst (.str "row")) av0)) mkTup))) (fBoo (lift2 neM (withA (avC (cst (.int 3)) (avC (getE 1) (avC (lift2 addM (getE 3) (withA (avC (cst (.int 1)) av0) mkLst)) av0))) (callN 3 m_law_row_told)) (withA (avC (cst (.str "BadNumber")) (avC (cst (.str "other")) av0)) mkTup)))) (retS (cst (.bl false))) (fun δ s => .nx δ s))
    (retS (andD (lift2 eqM (withA (avC (cst (.int 3)) (avC (getE 1) (avC (cst (.int 7)) av0))) (callN 3 m_law_row_told)) (withA (avC (cst (.str "BadNumber")) (avC (cst (.str "other")) av0)) mkTup)) (andD (lift2 eqM (withA (avC (cst (.int 2)) (avC (cst .non) (avC (cst .non) av0))) (callN 3 m_law_row_told)) (getE 6)) (lift2 eqM (withA (avC (getE 8) av0) reprM) (getE 9)))))))))))))))))))
def m_law_rows : List D → M D := defM 16 g_law_rows
def g_law : FS :=
    (seqS (forS (fun δ s => ((avC (cst (.int 3)) av0) δ s).bind rng1M) (.nm 2) (iteS (fOr (fNot (fTru (withA (avC (getE 1) av0) (callN 1 m_law_pairs)))) (fNot (fTru (withA (avC (getE 1) av0) (callN 1 m_law_rows))))) (retS (cst (.bl false))) (fun δ s => .nx δ s)))
    (retS (cst (.bl true))))
structure Blt (mg : Str → Option Value) : Prop where
  abs : mg "abs" = none
  all : mg "all" = none
  bool : mg "bool" = none
  int : mg "int" = none
  isinstance : mg "isinstance" = none
  len : mg "len" = none
  list : mg "list" = none
  range : mg "range" = none
  repr : mg "repr" = none
  tuple : mg "tuple" = none
  zip : mg "zip" = none
  gcd : mg "gcd" = some (.builtin "math.gcd")
section
variable {P : Program} {w : World} {K : PySem.W.Frag} {mg : Str → Option Value} {base : Heap}
theorem w_is_integer (B : Blt mg) (h : Here K mg "is_integer" s_is_integer)  : Worth P w K mg base 1 "is_integer" s_is_integer ["value"] 1 m_is_integer :=
  worth_mk (k := 0) h sc_is_integer (by decide) (fun cdv A outer s H E hr hgd =>
      (bv_one (sv_ret (ev_and (ev_isi rfl B.isinstance rfl B.int (by decide +kernel) (ev_var (pv 0))) (ev_one (ev_not (ev_isi rfl B.isinstance rfl B.bool (by decide +kernel) (ev_var (pv 0)))))))))
theorem w_is_within (B : Blt mg) (h : Here K mg "is_within" s_is_within) (W_is_integer : Worth P w K mg base 1 "is_integer" s_is_integer ["value"] 1 m_is_integer) : Worth P w K mg base 2 "is_within" s_is_within ["value", "least", "most"] 3 m_is_within :=
  worth_mk (k := 1) h sc_is_within (by decide) (fun cdv A outer s H E hr hgd =>
      (bv_cons (sv_for (passes_of rfl) rfl (iv_seq (ev_tup (av_cons (ev_var (pv 1)) (av_cons (ev_var (pv 2)) av_nil)))) (gv_name (pg_name (i := 3) sc_is_within.nd rfl (Or.inl rfl))) (bv_one (sv_if (tv_w (wv_and (tv_notN (ev_var (pv 3))) (wv_and1 (tv_not (tv_of (ev_callW W_is_integer (hr.mono (by decide)) hgd rfl (fun _ _ _ _ _ _ us hl => match us, hl with | [_], _ => rfl) (takes_of rfl rfl rfl rfl) (av_cons (ev_var (pv 3)) av_nil))))))) (bv_one (sv_ret ev_bl)) bv_nil)))
      (bv_cons (sv_if (tv_not (tv_of (ev_callW W_is_integer (hr.mono (by decide)) hgd rfl (fun _ _ _ _ _ _ us hl => match us, hl with | [_], _ => rfl) (takes_of rfl rfl rfl rfl) (av_cons (ev_var (pv 0)) av_nil)))) (bv_one (sv_ret ev_bl)) bv_nil)
      (bv_one (sv_ret (ev_and (ev_or (ev_isN (ev_var (pv 1))) (ev_one (ev_cmp op_le m_le (ev_var (pv 1)) (ev_var (pv 0))))) (ev_one (ev_or (ev_isN (ev_var (pv 2))) (ev_one (ev_cmp op_le m_le (ev_var (pv 0)) (ev_var (pv 2))))))))))))
theorem w_is_list (B : Blt mg) (h : Here K mg "is_list" s_is_list)  : Worth P w K mg base 1 "is_list" s_is_list ["value"] 1 m_is_list :=
  worth_mk (k := 0) h sc_is_list (by decide) (fun cdv A outer s H E hr hgd =>
      (bv_one (sv_ret (ev_isi2 rfl B.isinstance rfl B.list (by decide +kernel) rfl B.tuple (by decide +kernel) (ev_var (pv 0))))))
theorem w_is_number (B : Blt mg) (h : Here K mg "is_number" s_is_number) (W_is_integer : Worth P w K mg base 1 "is_integer" s_is_integer ["value"] 1 m_is_integer) (W_is_within : Worth P w K mg base 2 "is_within" s_is_within ["value", "least", "most"] 3 m_is_within) (W_is_list : Worth P w K mg base 1 "is_list" s_is_list ["value"] 1 m_is_list) : Worth P w K mg base 3 "is_number" s_is_number ["value"] 1 m_is_number :=
  worth_mk (k := 2) h sc_is_number (by decide) (fun cdv A outer s H E hr hgd =>
      (bv_cons (sv_if (tv_not (tv_of (ev_callW W_is_list (hr.mono (by decide)) hgd rfl (fun _ _ _ _ _ _ us hl => match us, hl with | [_], _ => rfl) (takes_of rfl rfl rfl rfl) (av_cons (ev_var (pv 0)) av_nil)))) (bv_one (sv_ret (ev_callW W_is_integer (hr.mono (by decide)) hgd rfl (fun _ _ _ _ _ _ us hl => match us, hl with | [_], _ => rfl) (takes_of rfl rfl rfl rfl) (av_cons (ev_var (pv 0)) av_nil)))) bv_nil)
      (bv_cons (sv_if (tv_cmp (op_neD (hu64 hr)) m_ne (ev_callB call_lenA m_len rfl B.len (by decide +kernel) (av_cons (ev_var (pv 0)) av_nil)) ev_int) (bv_one (sv_ret ev_bl)) bv_nil)
      (bv_cons (sv_asg (ev_var (pv 0)) (gv_tup rfl (gvs_cons (gv_name (pg_name (i := 1) sc_is_number.nd rfl (Or.inl rfl))) (gvs_cons (gv_name (pg_name (i := 2) sc_is_number.nd rfl (Or.inl rfl))) gvs_nil))))
      (bv_one (sv_ret (ev_and (ev_callW W_is_integer (hr.mono (by decide)) hgd rfl (fun _ _ _ _ _ _ us hl => match us, hl with | [_], _ => rfl) (takes_of rfl rfl rfl rfl) (av_cons (ev_var (pv 1)) av_nil)) (ev_and (ev_callW W_is_within (hr.mono (by decide)) hgd rfl (fun _ _ _ _ _ _ us hl => match us, hl with | [_, _, _], _ => rfl) (takes_of rfl rfl rfl rfl) (av_cons (ev_var (pv 2)) (av_cons ev_int (av_cons ev_non av_nil)))) (ev_one (ev_cmp (op_eqD (hu64 hr)) m_eq (ev_callF cr_gcd m_gcd rfl B.gcd (av_cons (ev_var (pv 1)) (av_cons (ev_var (pv 2)) av_nil))) ev_int))))))))))
theorem w_is_numbers (B : Blt mg) (h : Here K mg "is_numbers" s_is_numbers) (W_is_number : Worth P w K mg base 3 "is_number" s_is_number ["value"] 1 m_is_number) (W_is_list : Worth P w K mg base 1 "is_list" s_is_list ["value"] 1 m_is_list) : Worth P w K mg base 4 "is_numbers" s_is_numbers ["value"] 1 m_is_numbers :=
  worth_mk (k := 3) h sc_is_numbers (by decide) (fun cdv A outer s H E hr hgd =>
      (bv_one (sv_ret (ev_and (ev_callW W_is_list (hr.mono (by decide)) hgd rfl (fun _ _ _ _ _ _ us hl => match us, hl with | [_], _ => rfl) (takes_of rfl rfl rfl rfl) (av_cons (ev_var (pv 0)) av_nil)) (ev_one (ev_callB (cr_all rfl) m_all rfl B.all (by decide +kernel) (av_cons (ev_lc (own := [(".0", 1), ("item", 2)]) rfl sc_is_numbers.nd (iv_seq (ev_var (pv 0))) (blkOk_by (N := N_is_numbers) (sc := defScope s_is_numbers) (by decide +kernel)) (fun _ _ _ _ _ => (gv_name (pg_name (i := 2) sc_is_numbers.nd rfl (Or.inl rfl)))) (fun _ _ _ _ _ => tsv_nil) (fun _ _ _ _ _ => (ev_callW W_is_number (hr.mono (by decide)) hgd rfl (fun _ _ _ _ _ _ us hl => match us, hl with | [_], _ => rfl) takes0 (av_cons (ev_var (pv 2)) av_nil)))) av_nil)))))))
theorem w_is_row (B : Blt mg) (h : Here K mg "is_row" s_is_row) (W_is_integer : Worth P w K mg base 1 "is_integer" s_is_integer ["value"] 1 m_is_integer) (W_is_list : Worth P w K mg base 1 "is_list" s_is_list ["value"] 1 m_is_list) (W_is_numbers : Worth P w K mg base 4 "is_numbers" s_is_numbers ["value"] 1 m_is_numbers) : Worth P w K mg base 5 "is_row" s_is_row ["value", "many"] 2 m_is_row :=
  worth_mk (k := 4) h sc_is_row (by decide) (fun cdv A outer s H E hr hgd =>
      (bv_one (sv_ret (ev_and (ev_callW W_is_integer (hr.mono (by decide)) hgd rfl (fun _ _ _ _ _ _ us hl => match us, hl with | [_], _ => rfl) (takes_of rfl rfl rfl rfl) (av_cons (ev_var (pv 1)) av_nil)) (ev_and (ev_callW W_is_list (hr.mono (by decide)) hgd rfl (fun _ _ _ _ _ _ us hl => match us, hl with | [_], _ => rfl) (takes_of rfl rfl rfl rfl) (av_cons (ev_var (pv 0)) av_nil)) (ev_and (ev_cmp (op_eqD (hu64 hr)) m_eq (ev_callB call_lenA m_len rfl B.len (by decide +kernel) (av_cons (ev_var (pv 0)) av_nil)) (ev_var (pv 1))) (ev_one (ev_callW W_is_numbers (hr.mono (by decide)) hgd rfl (fun _ _ _ _ _ _ us hl => match us, hl with | [_], _ => rfl) (takes_of rfl rfl rfl rfl) (av_cons (ev_var (pv 0)) av_nil)))))))))
theorem w_fixed (B : Blt mg) (h : Here K mg "fixed" s_fixed)  : ∀ n : Nat, Worth P w K mg base (1 + n) "fixed" s_fixed ["value"] 1 (m_fixed n)
  | 0 => worth_zero h (m := fun _ _ => .bad) (fun _ _ => rfl)
  | n + 1 => by
    have W_fixed := w_fixed B h  n
    exact worth_mk (k := 1 + n) h sc_fixed (by decide) (fun cdv A outer s H E hr hgd =>
      (bv_cons (sv_if (tv_of (ev_isi2 rfl B.isinstance rfl B.list (by decide +kernel) rfl B.tuple (by decide +kernel) (ev_var (pv 0)))) (bv_one (sv_ret (ev_callTy call_tuple_of m_tup rfl B.tuple (by decide +kernel) (av_cons (ev_lc (own := [(".0", 1), ("item", 2)]) rfl sc_fixed.nd (iv_seq (ev_var (pv 0))) (blkOk_by (N := N_fixed) (sc := defScope s_fixed) (by decide +kernel)) (fun _ _ _ _ _ => (gv_name (pg_name (i := 2) sc_fixed.nd rfl (Or.inl rfl)))) (fun _ _ _ _ _ => tsv_nil) (fun _ _ _ _ _ => (ev_callW W_fixed (hr.mono (by omega)) hgd rfl (fun _ _ _ _ _ _ us hl => match us, hl with | [_], _ => rfl) takes0 (av_cons (ev_var (pv 2)) av_nil)))) av_nil)))) bv_nil)
      (bv_one (sv_ret (ev_var (pv 0))))))
theorem w_above_below (B : Blt mg) (h : Here K mg "above_below" s_above_below) (W_is_integer : Worth P w K mg base 1 "is_integer" s_is_integer ["value"] 1 m_is_integer) : Worth P w K mg base 2 "above_below" s_above_below ["number"] 1 m_above_below :=
  worth_mk (k := 1) h sc_above_below (by decide) (fun cdv A outer s H E hr hgd =>
      (bv_cons (sv_if (tv_of (ev_callW W_is_integer (hr.mono (by decide)) hgd rfl (fun _ _ _ _ _ _ us hl => match us, hl with | [_], _ => rfl) (takes_of rfl rfl rfl rfl) (av_cons (ev_var (pv 0)) av_nil))) (bv_one (sv_ret (ev_tup (av_cons (ev_var (pv 0)) (av_cons ev_int av_nil))))) bv_nil)
      (bv_one (sv_ret (ev_tup (av_cons (ev_get (ev_var (pv 0)) ev_int) (av_cons (ev_get (ev_var (pv 0)) ev_int) av_nil)))))))
theorem w_made (B : Blt mg) (h : Here K mg "made" s_made)  : Worth P w K mg base 1 "made" s_made ["above", "below"] 2 m_made :=
  worth_mk (k := 0) h sc_made (by decide) (fun cdv A outer s H E hr hgd =>
      (bv_cons (sv_name (i := 2) sc_made.nd rfl (Or.inl rfl) (ev_callF cr_gcd m_gcd rfl B.gcd (av_cons (ev_var (pv 0)) (av_cons (ev_var (pv 1)) av_nil))))
      (bv_cons (sv_if (tv_cmp op_lt m_lt (ev_var (pv 1)) ev_int) (bv_one (sv_name (i := 2) sc_made.nd rfl (Or.inl rfl) (ev_neg (ev_var (pv 2))))) bv_nil)
      (bv_cons (sv_par (i := 0) (j := 1) rfl sc_made.nd rfl rfl (by decide) rfl rfl (av_cons (ev_op op_fdivA m_fdivA (ev_var (pv 0)) (ev_var (pv 2))) (av_cons (ev_op op_fdivA m_fdivA (ev_var (pv 1)) (ev_var (pv 2))) av_nil)) rfl)
      (bv_one (sv_ret (ev_if (tv_cmp (op_eqD (hu64 hr)) m_eq (ev_var (pv 1)) ev_int) (ev_var (pv 0)) (ev_tup (av_cons (ev_var (pv 0)) (av_cons (ev_var (pv 1)) av_nil))))))))))
theorem w_added (B : Blt mg) (h : Here K mg "added" s_added) (W_above_below : Worth P w K mg base 2 "above_below" s_above_below ["number"] 1 m_above_below) (W_made : Worth P w K mg base 1 "made" s_made ["above", "below"] 2 m_made) : Worth P w K mg base 3 "added" s_added ["numbers"] 1 m_added :=
  worth_mk (k := 2) h sc_added (by decide) (fun cdv A outer s H E hr hgd =>
      (bv_cons (sv_asg (ev_tup (av_cons ev_int (av_cons ev_int av_nil))) (gv_tup rfl (gvs_cons (gv_name (pg_name (i := 1) sc_added.nd rfl (Or.inl rfl))) (gvs_cons (gv_name (pg_name (i := 2) sc_added.nd rfl (Or.inl rfl))) gvs_nil))))
      (bv_cons (sv_for (passes_of rfl) rfl (iv_seq (ev_var (pv 0))) (gv_name (pg_name (i := 3) sc_added.nd rfl (Or.inl rfl))) (bv_cons (sv_asg (ev_callW W_above_below (hr.mono (by decide)) hgd rfl (fun _ _ _ _ _ _ us hl => match us, hl with | [_], _ => rfl) (takes_of rfl rfl rfl rfl) (av_cons (ev_var (pv 3)) av_nil)) (gv_tup rfl (gvs_cons (gv_name (pg_name (i := 4) sc_added.nd rfl (Or.inl rfl))) (gvs_cons (gv_name (pg_name (i := 5) sc_added.nd rfl (Or.inl rfl))) gvs_nil))))
      (bv_cons (sv_name (i := 6) sc_added.nd rfl (Or.inl rfl) (ev_callF cr_gcd m_gcd rfl B.gcd (av_cons (ev_var (pv 2)) (av_cons (ev_var (pv 5)) av_nil))))
      (bv_cons (sv_name (i := 1) sc_added.nd rfl (Or.inl rfl) (ev_op op_addM m_add (ev_op op_mulA m_mul (ev_var (pv 1)) (ev_op op_fdivA m_fdivA (ev_var (pv 5)) (ev_var (pv 6)))) (ev_op op_mulA m_mul (ev_var (pv 4)) (ev_op op_fdivA m_fdivA (ev_var (pv 2)) (ev_var (pv 6))))))
      (bv_one (sv_name (i := 2) sc_added.nd rfl (Or.inl rfl) (ev_op op_mulA m_mul (ev_op op_fdivA m_fdivA (ev_var (pv 2)) (ev_var (pv 6))) (ev_var (pv 5)))))))))
      (bv_one (sv_ret (ev_callW W_made (hr.mono (by decide)) hgd rfl (fun _ _ _ _ _ _ us hl => match us, hl with | [_, _], _ => rfl) (takes_of rfl rfl rfl rfl) (av_cons (ev_var (pv 1)) (av_cons (ev_var (pv 2)) av_nil))))))))
theorem w_multiplied (B : Blt mg) (h : Here K mg "multiplied" s_multiplied) (W_above_below : Worth P w K mg base 2 "above_below" s_above_below ["number"] 1 m_above_below) (W_made : Worth P w K mg base 1 "made" s_made ["above", "below"] 2 m_made) : Worth P w K mg base 3 "multiplied" s_multiplied ["one", "other"] 2 m_multiplied :=
  worth_mk (k := 2) h sc_multiplied (by decide) (fun cdv A outer s H E hr hgd =>
      (bv_cons (sv_asg (ev_callW W_above_below (hr.mono (by decide)) hgd rfl (fun _ _ _ _ _ _ us hl => match us, hl with | [_], _ => rfl) (takes_of rfl rfl rfl rfl) (av_cons (ev_var (pv 0)) av_nil)) (gv_tup rfl (gvs_cons (gv_name (pg_name (i := 2) sc_multiplied.nd rfl (Or.inl rfl))) (gvs_cons (gv_name (pg_name (i := 3) sc_multiplied.nd rfl (Or.inl rfl))) gvs_nil))))
      (bv_cons (sv_asg (ev_callW W_above_below (hr.mono (by decide)) hgd rfl (fun _ _ _ _ _ _ us hl => match us, hl with | [_], _ => rfl) (takes_of rfl rfl rfl rfl) (av_cons (ev_var (pv 1)) av_nil)) (gv_tup rfl (gvs_cons (gv_name (pg_name (i := 4) sc_multiplied.nd rfl (Or.inl rfl))) (gvs_cons (gv_name (pg_name (i := 5) sc_multiplied.nd rfl (Or.inl rfl))) gvs_nil))))
      (bv_one (sv_ret (ev_callW W_made (hr.mono (by decide)) hgd rfl (fun _ _ _ _ _ _ us hl => match us, hl with | [_, _], _ => rfl) (takes_of rfl rfl rfl rfl) (av_cons (ev_op op_mulA m_mul (ev_var (pv 2)) (ev_var (pv 4))) (av_cons (ev_op op_mulA m_mul (ev_var (pv 3)) (ev_var (pv 5))) av_nil))))))))
theorem w_precedes (B : Blt mg) (h : Here K mg "precedes" s_precedes) (W_above_below : Worth P w K mg base 2 "above_below" s_above_below ["number"] 1 m_above_below) : Worth P w K mg base 3 "precedes" s_precedes ["one", "other"] 2 m_precedes :=
  worth_mk (k := 2) h sc_precedes (by decide) (fun cdv A outer s H E hr hgd =>
      (bv_cons (sv_asg (ev_callW W_above_below (hr.mono (by decide)) hgd rfl (fun _ _ _ _ _ _ us hl => match us, hl with | [_], _ => rfl) (takes_of rfl rfl rfl rfl) (av_cons (ev_var (pv 0)) av_nil)) (gv_tup rfl (gvs_cons (gv_name (pg_name (i := 2) sc_precedes.nd rfl (Or.inl rfl))) (gvs_cons (gv_name (pg_name (i := 3) sc_precedes.nd rfl (Or.inl rfl))) gvs_nil))))
      (bv_cons (sv_asg (ev_callW W_above_below (hr.mono (by decide)) hgd rfl (fun _ _ _ _ _ _ us hl => match us, hl with | [_], _ => rfl) (takes_of rfl rfl rfl rfl) (av_cons (ev_var (pv 1)) av_nil)) (gv_tup rfl (gvs_cons (gv_name (pg_name (i := 4) sc_precedes.nd rfl (Or.inl rfl))) (gvs_cons (gv_name (pg_name (i := 5) sc_precedes.nd rfl (Or.inl rfl))) gvs_nil))))
      (bv_one (sv_ret (ev_cmp op_lt m_lt (ev_op op_mulA m_mul (ev_var (pv 2)) (ev_var (pv 5))) (ev_op op_mulA m_mul (ev_var (pv 4)) (ev_var (pv 3)))))))))
theorem w_matched_sum (B : Blt mg) (h : Here K mg "matched_sum" s_matched_sum) (W_added : Worth P w K mg base 3 "added" s_added ["numbers"] 1 m_added) (W_multiplied : Worth P w K mg base 3 "multiplied" s_multiplied ["one", "other"] 2 m_multiplied) : Worth P w K mg base 4 "matched_sum" s_matched_sum ["row", "other"] 2 m_matched_sum :=
  worth_mk (k := 3) h sc_matched_sum (by decide) (fun cdv A outer s H E hr hgd =>
      (bv_one (sv_ret (ev_callW W_added (hr.mono (by decide)) hgd rfl (fun _ _ _ _ _ _ us hl => match us, hl with | [_], _ => rfl) (takes_of rfl rfl rfl rfl) (av_cons (ev_lc (own := [(".0", 2), ("here", 3), ("there", 4)]) rfl sc_matched_sum.nd (iv_zipA rfl B.zip (av_cons (ev_var (pv 0)) (av_cons (ev_var (pv 1)) av_nil))) (blkOk_by (N := N_matched_sum) (sc := defScope s_matched_sum) (by decide +kernel)) (fun _ _ _ _ _ => (gv_tup rfl (gvs_cons (gv_name (pg_name (i := 3) sc_matched_sum.nd rfl (Or.inl rfl))) (gvs_cons (gv_name (pg_name (i := 4) sc_matched_sum.nd rfl (Or.inl rfl))) gvs_nil)))) (fun _ _ _ _ _ => tsv_nil) (fun _ _ _ _ _ => (ev_callW W_multiplied (hr.mono (by decide)) hgd rfl (fun _ _ _ _ _ _ us hl => match us, hl with | [_, _], _ => rfl) takes0 (av_cons (ev_var (pv 3)) (av_cons (ev_var (pv 4)) av_nil))))) av_nil)))))
theorem w_check_two (B : Blt mg) (h : Here K mg "_check_two" s_check_two) (E_BadNumber : ExcW P w K mg base "BadNumber" ["part"]) (W_is_number : Worth P w K mg base 3 "is_number" s_is_number ["value"] 1 m_is_number) : Worth P w K mg base 4 "_check_two" s_check_two ["one", "other"] 2 m_check_two :=
  worth_mk (k := 3) h sc_check_two (by decide) (fun cdv A outer s H E hr hgd =>
      (bv_cons (sv_if (tv_not (tv_of (ev_callW W_is_number (hr.mono (by decide)) hgd rfl (fun _ _ _ _ _ _ us hl => match us, hl with | [_], _ => rfl) (takes_of rfl rfl rfl rfl) (av_cons (ev_var (pv 0)) av_nil)))) (bv_one (sv_raise E_BadNumber rfl (hr.mono (by decide)) (takes_of rfl rfl rfl rfl) rfl (by decide) (av_cons ev_str av_nil))) bv_nil)
      (bv_one (sv_if (tv_not (tv_of (ev_callW W_is_number (hr.mono (by decide)) hgd rfl (fun _ _ _ _ _ _ us hl => match us, hl with | [_], _ => rfl) (takes_of rfl rfl rfl rfl) (av_cons (ev_var (pv 1)) av_nil)))) (bv_one (sv_raise E_BadNumber rfl (hr.mono (by decide)) (takes_of rfl rfl rfl rfl) rfl (by decide) (av_cons ev_str av_nil))) bv_nil))))
theorem w_ratio (B : Blt mg) (h : Here K mg "ratio" s_ratio) (E_BadNumber : ExcW P w K mg base "BadNumber" ["part"]) (W_is_integer : Worth P w K mg base 1 "is_integer" s_is_integer ["value"] 1 m_is_integer) (W_made : Worth P w K mg base 1 "made" s_made ["above", "below"] 2 m_made) : Worth P w K mg base 3 "ratio" s_ratio ["above", "below"] 2 m_ratio :=
  worth_mk (k := 2) h sc_ratio (by decide) (fun cdv A outer s H E hr hgd =>
      (bv_cons (sv_if (tv_not (tv_of (ev_callW W_is_integer (hr.mono (by decide)) hgd rfl (fun _ _ _ _ _ _ us hl => match us, hl with | [_], _ => rfl) (takes_of rfl rfl rfl rfl) (av_cons (ev_var (pv 0)) av_nil)))) (bv_one (sv_raise E_BadNumber rfl (hr.mono (by decide)) (takes_of rfl rfl rfl rfl) rfl (by decide) (av_cons ev_str av_nil))) bv_nil)
      (bv_cons (sv_if (tv_w (wv_or (tv_not (tv_of (ev_callW W_is_integer (hr.mono (by decide)) hgd rfl (fun _ _ _ _ _ _ us hl => match us, hl with | [_], _ => rfl) (takes_of rfl rfl rfl rfl) (av_cons (ev_var (pv 1)) av_nil)))) (wv_or1 (tv_cmp (op_eqD (hu64 hr)) m_eq (ev_var (pv 1)) ev_int)))) (bv_one (sv_raise E_BadNumber rfl (hr.mono (by decide)) (takes_of rfl rfl rfl rfl) rfl (by decide) (av_cons ev_str av_nil))) bv_nil)
      (bv_one (sv_ret (ev_callW W_made (hr.mono (by decide)) hgd rfl (fun _ _ _ _ _ _ us hl => match us, hl with | [_, _], _ => rfl) (takes_of rfl rfl rfl rfl) (av_cons (ev_var (pv 0)) (av_cons (ev_var (pv 1)) av_nil))))))))
theorem w_plus (B : Blt mg) (h : Here K mg "plus" s_plus) (W_added : Worth P w K mg base 3 "added" s_added ["numbers"] 1 m_added) (W_check_two : Worth P w K mg base 4 "_check_two" s_check_two ["one", "other"] 2 m_check_two) : Worth P w K mg base 5 "plus" s_plus ["one", "other"] 2 m_plus :=
  worth_mk (k := 4) h sc_plus (by decide) (fun cdv A outer s H E hr hgd =>
      (bv_cons (sv_expr (ev_callW W_check_two (hr.mono (by decide)) hgd rfl (fun _ _ _ _ _ _ us hl => match us, hl with | [_, _], _ => rfl) (takes_of rfl rfl rfl rfl) (av_cons (ev_var (pv 0)) (av_cons (ev_var (pv 1)) av_nil))))
      (bv_one (sv_ret (ev_callW W_added (hr.mono (by decide)) hgd rfl (fun _ _ _ _ _ _ us hl => match us, hl with | [_], _ => rfl) (takes_of rfl rfl rfl rfl) (av_cons (ev_lst (av_cons (ev_var (pv 0)) (av_cons (ev_var (pv 1)) av_nil))) av_nil))))))
theorem w_minus (B : Blt mg) (h : Here K mg "minus" s_minus) (W_added : Worth P w K mg base 3 "added" s_added ["numbers"] 1 m_added) (W_multiplied : Worth P w K mg base 3 "multiplied" s_multiplied ["one", "other"] 2 m_multiplied) (W_check_two : Worth P w K mg base 4 "_check_two" s_check_two ["one", "other"] 2 m_check_two) : Worth P w K mg base 5 "minus" s_minus ["one", "other"] 2 m_minus :=
  worth_mk (k := 4) h sc_minus (by decide) (fun cdv A outer s H E hr hgd =>
      (bv_cons (sv_expr (ev_callW W_check_two (hr.mono (by decide)) hgd rfl (fun _ _ _ _ _ _ us hl => match us, hl with | [_, _], _ => rfl) (takes_of rfl rfl rfl rfl) (av_cons (ev_var (pv 0)) (av_cons (ev_var (pv 1)) av_nil))))
      (bv_one (sv_ret (ev_callW W_added (hr.mono (by decide)) hgd rfl (fun _ _ _ _ _ _ us hl => match us, hl with | [_], _ => rfl) (takes_of rfl rfl rfl rfl) (av_cons (ev_lst (av_cons (ev_var (pv 0)) (av_cons (ev_callW W_multiplied (hr.mono (by decide)) hgd rfl (fun _ _ _ _ _ _ us hl => match us, hl with | [_, _], _ => rfl) (takes_of rfl rfl rfl rfl) (av_cons (ev_neg ev_int) (av_cons (ev_var (pv 1)) av_nil))) av_nil))) av_nil))))))
theorem w_times (B : Blt mg) (h : Here K mg "times" s_times) (W_multiplied : Worth P w K mg base 3 "multiplied" s_multiplied ["one", "other"] 2 m_multiplied) (W_check_two : Worth P w K mg base 4 "_check_two" s_check_two ["one", "other"] 2 m_check_two) : Worth P w K mg base 5 "times" s_times ["one", "other"] 2 m_times :=
  worth_mk (k := 4) h sc_times (by decide) (fun cdv A outer s H E hr hgd =>
      (bv_cons (sv_expr (ev_callW W_check_two (hr.mono (by decide)) hgd rfl (fun _ _ _ _ _ _ us hl => match us, hl with | [_, _], _ => rfl) (takes_of rfl rfl rfl rfl) (av_cons (ev_var (pv 0)) (av_cons (ev_var (pv 1)) av_nil))))
      (bv_one (sv_ret (ev_callW W_multiplied (hr.mono (by decide)) hgd rfl (fun _ _ _ _ _ _ us hl => match us, hl with | [_, _], _ => rfl) (takes_of rfl rfl rfl rfl) (av_cons (ev_var (pv 0)) (av_cons (ev_var (pv 1)) av_nil)))))))
theorem w_over (B : Blt mg) (h : Here K mg "over" s_over) (E_Misfit : ExcW P w K mg base "Misfit" ["part"]) (W_above_below : Worth P w K mg base 2 "above_below" s_above_below ["number"] 1 m_above_below) (W_made : Worth P w K mg base 1 "made" s_made ["above", "below"] 2 m_made) (W_multiplied : Worth P w K mg base 3 "multiplied" s_multiplied ["one", "other"] 2 m_multiplied) (W_check_two : Worth P w K mg base 4 "_check_two" s_check_two ["one", "other"] 2 m_check_two) : Worth P w K mg base 5 "over" s_over ["one", "other"] 2 m_over :=
  worth_mk (k := 4) h sc_over (by decide) (fun cdv A outer s H E hr hgd =>
      (bv_cons (sv_expr (ev_callW W_check_two (hr.mono (by decide)) hgd rfl (fun _ _ _ _ _ _ us hl => match us, hl with | [_, _], _ => rfl) (takes_of rfl rfl rfl rfl) (av_cons (ev_var (pv 0)) (av_cons (ev_var (pv 1)) av_nil))))
      (bv_cons (sv_asg (ev_callW W_above_below (hr.mono (by decide)) hgd rfl (fun _ _ _ _ _ _ us hl => match us, hl with | [_], _ => rfl) (takes_of rfl rfl rfl rfl) (av_cons (ev_var (pv 1)) av_nil)) (gv_tup rfl (gvs_cons (gv_name (pg_name (i := 2) sc_over.nd rfl (Or.inl rfl))) (gvs_cons (gv_name (pg_name (i := 3) sc_over.nd rfl (Or.inl rfl))) gvs_nil))))
      (bv_cons (sv_if (tv_cmp (op_eqD (hu64 hr)) m_eq (ev_var (pv 2)) ev_int) (bv_one (sv_raise E_Misfit rfl (hr.mono (by decide)) (takes_of rfl rfl rfl rfl) rfl (by decide) (av_cons ev_str av_nil))) bv_nil)
      (bv_one (sv_ret (ev_callW W_multiplied (hr.mono (by decide)) hgd rfl (fun _ _ _ _ _ _ us hl => match us, hl with | [_, _], _ => rfl) (takes_of rfl rfl rfl rfl) (av_cons (ev_var (pv 0)) (av_cons (ev_callW W_made (hr.mono (by decide)) hgd rfl (fun _ _ _ _ _ _ us hl => match us, hl with | [_, _], _ => rfl) (takes_of rfl rfl rfl rfl) (av_cons (ev_var (pv 3)) (av_cons (ev_var (pv 2)) av_nil))) av_nil)))))))))
theorem w_is_less (B : Blt mg) (h : Here K mg "is_less" s_is_less) (W_precedes : Worth P w K mg base 3 "precedes" s_precedes ["one", "other"] 2 m_precedes) (W_check_two : Worth P w K mg base 4 "_check_two" s_check_two ["one", "other"] 2 m_check_two) : Worth P w K mg base 5 "is_less" s_is_less ["one", "other"] 2 m_is_less :=
  worth_mk (k := 4) h sc_is_less (by decide) (fun cdv A outer s H E hr hgd =>
      (bv_cons (sv_expr (ev_callW W_check_two (hr.mono (by decide)) hgd rfl (fun _ _ _ _ _ _ us hl => match us, hl with | [_, _], _ => rfl) (takes_of rfl rfl rfl rfl) (av_cons (ev_var (pv 0)) (av_cons (ev_var (pv 1)) av_nil))))
      (bv_one (sv_ret (ev_callW W_precedes (hr.mono (by decide)) hgd rfl (fun _ _ _ _ _ _ us hl => match us, hl with | [_, _], _ => rfl) (takes_of rfl rfl rfl rfl) (av_cons (ev_var (pv 0)) (av_cons (ev_var (pv 1)) av_nil)))))))
theorem w_check_some (B : Blt mg) (h : Here K mg "_check_some" s_check_some) (E_BadNumber : ExcW P w K mg base "BadNumber" ["part"]) (W_is_numbers : Worth P w K mg base 4 "is_numbers" s_is_numbers ["value"] 1 m_is_numbers) : Worth P w K mg base 5 "_check_some" s_check_some ["values"] 1 m_check_some :=
  worth_mk (k := 4) h sc_check_some (by decide) (fun cdv A outer s H E hr hgd =>
      (bv_one (sv_if (tv_w (wv_or (tv_not (tv_of (ev_callW W_is_numbers (hr.mono (by decide)) hgd rfl (fun _ _ _ _ _ _ us hl => match us, hl with | [_], _ => rfl) (takes_of rfl rfl rfl rfl) (av_cons (ev_var (pv 0)) av_nil)))) (wv_or1 (tv_cmp (op_eqD (hu64 hr)) m_eq (ev_callB call_lenA m_len rfl B.len (by decide +kernel) (av_cons (ev_var (pv 0)) av_nil)) ev_int)))) (bv_one (sv_raise E_BadNumber rfl (hr.mono (by decide)) (takes_of rfl rfl rfl rfl) rfl (by decide) (av_cons ev_str av_nil))) bv_nil)))
theorem w_least (B : Blt mg) (h : Here K mg "least" s_least) (W_fixed : Worth P w K mg base (1 + 3) "fixed" s_fixed ["value"] 1 (m_fixed 3)) (W_precedes : Worth P w K mg base 3 "precedes" s_precedes ["one", "other"] 2 m_precedes) (W_check_some : Worth P w K mg base 5 "_check_some" s_check_some ["values"] 1 m_check_some) : Worth P w K mg base 6 "least" s_least ["values"] 1 m_least :=
  worth_mk (k := 5) h sc_least (by decide) (fun cdv A outer s H E hr hgd =>
      (bv_cons (sv_expr (ev_callW W_check_some (hr.mono (by decide)) hgd rfl (fun _ _ _ _ _ _ us hl => match us, hl with | [_], _ => rfl) (takes_of rfl rfl rfl rfl) (av_cons (ev_var (pv 0)) av_nil)))
      (bv_cons (sv_name (i := 1) sc_least.nd rfl (Or.inl rfl) (ev_get (ev_var (pv 0)) ev_int))
      (bv_cons (sv_for (passes_of rfl) rfl (iv_seq (ev_var (pv 0))) (gv_name (pg_name (i := 2) sc_least.nd rfl (Or.inl rfl))) (bv_one (sv_if (tv_of (ev_callW W_precedes (hr.mono (by decide)) hgd rfl (fun _ _ _ _ _ _ us hl => match us, hl with | [_, _], _ => rfl) (takes_of rfl rfl rfl rfl) (av_cons (ev_var (pv 2)) (av_cons (ev_var (pv 1)) av_nil)))) (bv_one (sv_name (i := 1) sc_least.nd rfl (Or.inl rfl) (ev_var (pv 2)))) bv_nil)))
      (bv_one (sv_ret (ev_callW W_fixed (hr.mono (by omega)) hgd rfl (fun _ _ _ _ _ _ us hl => match us, hl with | [_], _ => rfl) (takes_of rfl rfl rfl rfl) (av_cons (ev_var (pv 1)) av_nil))))))))
theorem w_greatest (B : Blt mg) (h : Here K mg "greatest" s_greatest) (W_fixed : Worth P w K mg base (1 + 3) "fixed" s_fixed ["value"] 1 (m_fixed 3)) (W_precedes : Worth P w K mg base 3 "precedes" s_precedes ["one", "other"] 2 m_precedes) (W_check_some : Worth P w K mg base 5 "_check_some" s_check_some ["values"] 1 m_check_some) : Worth P w K mg base 6 "greatest" s_greatest ["values"] 1 m_greatest :=
  worth_mk (k := 5) h sc_greatest (by decide) (fun cdv A outer s H E hr hgd =>
      (bv_cons (sv_expr (ev_callW W_check_some (hr.mono (by decide)) hgd rfl (fun _ _ _ _ _ _ us hl => match us, hl with | [_], _ => rfl) (takes_of rfl rfl rfl rfl) (av_cons (ev_var (pv 0)) av_nil)))
      (bv_cons (sv_name (i := 1) sc_greatest.nd rfl (Or.inl rfl) (ev_get (ev_var (pv 0)) ev_int))
      (bv_cons (sv_for (passes_of rfl) rfl (iv_seq (ev_var (pv 0))) (gv_name (pg_name (i := 2) sc_greatest.nd rfl (Or.inl rfl))) (bv_one (sv_if (tv_of (ev_callW W_precedes (hr.mono (by decide)) hgd rfl (fun _ _ _ _ _ _ us hl => match us, hl with | [_, _], _ => rfl) (takes_of rfl rfl rfl rfl) (av_cons (ev_var (pv 1)) (av_cons (ev_var (pv 2)) av_nil)))) (bv_one (sv_name (i := 1) sc_greatest.nd rfl (Or.inl rfl) (ev_var (pv 2)))) bv_nil)))
      (bv_one (sv_ret (ev_callW W_fixed (hr.mono (by omega)) hgd rfl (fun _ _ _ _ _ _ us hl => match us, hl with | [_], _ => rfl) (takes_of rfl rfl rfl rfl) (av_cons (ev_var (pv 1)) av_nil))))))))
theorem w_sum_of (B : Blt mg) (h : Here K mg "sum_of" s_sum_of) (E_BadNumber : ExcW P w K mg base "BadNumber" ["part"]) (W_is_numbers : Worth P w K mg base 4 "is_numbers" s_is_numbers ["value"] 1 m_is_numbers) (W_added : Worth P w K mg base 3 "added" s_added ["numbers"] 1 m_added) : Worth P w K mg base 5 "sum_of" s_sum_of ["values"] 1 m_sum_of :=
  worth_mk (k := 4) h sc_sum_of (by decide) (fun cdv A outer s H E hr hgd =>
      (bv_cons (sv_if (tv_not (tv_of (ev_callW W_is_numbers (hr.mono (by decide)) hgd rfl (fun _ _ _ _ _ _ us hl => match us, hl with | [_], _ => rfl) (takes_of rfl rfl rfl rfl) (av_cons (ev_var (pv 0)) av_nil)))) (bv_one (sv_raise E_BadNumber rfl (hr.mono (by decide)) (takes_of rfl rfl rfl rfl) rfl (by decide) (av_cons ev_str av_nil))) bv_nil)
      (bv_one (sv_ret (ev_callW W_added (hr.mono (by decide)) hgd rfl (fun _ _ _ _ _ _ us hl => match us, hl with | [_], _ => rfl) (takes_of rfl rfl rfl rfl) (av_cons (ev_var (pv 0)) av_nil))))))
theorem w_product_sum (B : Blt mg) (h : Here K mg "product_sum" s_product_sum) (E_BadNumber : ExcW P w K mg base "BadNumber" ["part"]) (W_is_numbers : Worth P w K mg base 4 "is_numbers" s_is_numbers ["value"] 1 m_is_numbers) (W_is_row : Worth P w K mg base 5 "is_row" s_is_row ["value", "many"] 2 m_is_row) (W_matched_sum : Worth P w K mg base 4 "matched_sum" s_matched_sum ["row", "other"] 2 m_matched_sum) : Worth P w K mg base 6 "product_sum" s_product_sum ["row", "other"] 2 m_product_sum :=
  worth_mk (k := 5) h sc_product_sum (by decide) (fun cdv A outer s H E hr hgd =>
      (bv_cons (sv_if (tv_not (tv_of (ev_callW W_is_numbers (hr.mono (by decide)) hgd rfl (fun _ _ _ _ _ _ us hl => match us, hl with | [_], _ => rfl) (takes_of rfl rfl rfl rfl) (av_cons (ev_var (pv 0)) av_nil)))) (bv_one (sv_raise E_BadNumber rfl (hr.mono (by decide)) (takes_of rfl rfl rfl rfl) rfl (by decide) (av_cons ev_str av_nil))) bv_nil)
      (bv_cons (sv_if (tv_not (tv_of (ev_callW W_is_row (hr.mono (by decide)) hgd rfl (fun _ _ _ _ _ _ us hl => match us, hl with | [_, _], _ => rfl) (takes_of rfl rfl rfl rfl) (av_cons (ev_var (pv 1)) (av_cons (ev_callB call_lenA m_len rfl B.len (by decide +kernel) (av_cons (ev_var (pv 0)) av_nil)) av_nil))))) (bv_one (sv_raise E_BadNumber rfl (hr.mono (by decide)) (takes_of rfl rfl rfl rfl) rfl (by decide) (av_cons ev_str av_nil))) bv_nil)
      (bv_one (sv_ret (ev_callW W_matched_sum (hr.mono (by decide)) hgd rfl (fun _ _ _ _ _ _ us hl => match us, hl with | [_, _], _ => rfl) (takes_of rfl rfl rfl rfl) (av_cons (ev_var (pv 0)) (av_cons (ev_var (pv 1)) av_nil))))))))
theorem w_law_draw (B : Blt mg) (h : Here K mg "_law_draw" s_law_draw)  : Worth P w K mg base 1 "_law_draw" s_law_draw ["well", "many"] 2 m_law_draw :=
  worth_mk (k := 0) h sc_law_draw (by decide) (fun cdv A outer s H E hr hgd =>
      (bv_cons (sv_if (tv_cmp op_gt m_gt (ev_get (ev_var (pv 0)) ev_int) ev_int) (bv_cons (sv_name (i := 2) sc_law_draw.nd rfl (Or.inl rfl) (ev_callTy call_intA m_intc rfl B.int (by decide +kernel) (av_cons (ev_get (ev_var (pv 0)) ev_int) av_nil)))
      (bv_cons (sv_put (ev_op op_fdivA m_fdivA (ev_var (pv 2)) (ev_var (pv 1))) (ev_var (pv 0)))
      (bv_one (sv_ret (ev_op op_mod m_mod (ev_callTy call_intA m_intc rfl B.int (by decide +kernel) (av_cons (ev_var (pv 2)) av_nil)) (ev_var (pv 1))))))) bv_nil)
      (bv_cons (sv_name (i := 3) sc_law_draw.nd rfl (Or.inl rfl) (ev_get (ev_var (pv 0)) ev_int))
      (bv_cons (sv_put (ev_op op_addM m_add (ev_var (pv 3)) ev_int) (ev_var (pv 0)))
      (bv_cons (sv_name (i := 4) sc_law_draw.nd rfl (Or.inl rfl) (ev_op op_addM m_add (ev_op op_mulA m_mul ev_int (ev_var (pv 3))) ev_int))
      (bv_cons (sv_if (tv_cmp (op_neD (hu64 hr)) m_ne (ev_get (ev_var (pv 0)) ev_int) (ev_lst av_nil)) (bv_one (sv_name (i := 4) sc_law_draw.nd rfl (Or.inl rfl) (ev_get (ev_get (ev_var (pv 0)) ev_int) (ev_op op_mod m_mod (ev_callTy call_intA m_intc rfl B.int (by decide +kernel) (av_cons (ev_var (pv 3)) av_nil)) (ev_callB call_lenA m_len rfl B.len (by decide +kernel) (av_cons (ev_get (ev_var (pv 0)) ev_int) av_nil)))))) bv_nil)
      (bv_cons (sv_if (tv_w (wv_and (tv_cmp op_lt m_lt (ev_var (pv 3)) (ev_callB call_lenA m_len rfl B.len (by decide +kernel) (av_cons (ev_get (ev_var (pv 0)) ev_int) av_nil))) (wv_and1 (tv_cmp op_ge m_ge (ev_callB call_abs m_abs rfl B.abs (by decide +kernel) (av_cons (ev_var (pv 4)) av_nil)) (ev_op op_pow m_pow ev_int ev_int))))) (bv_cons (sv_name (i := 2) sc_law_draw.nd rfl (Or.inl rfl) (ev_op op_addM m_add (ev_op op_mulA m_mul ev_int (ev_op op_sub m_sub (ev_callB call_abs m_abs rfl B.abs (by decide +kernel) (av_cons (ev_callTy call_intA m_intc rfl B.int (by decide +kernel) (av_cons (ev_var (pv 4)) av_nil)) av_nil)) (ev_op op_pow m_pow ev_int ev_int))) (ev_callTy call_intA m_intc rfl B.int (by decide +kernel) (av_cons (ev_cmp op_lt m_lt (ev_var (pv 4)) ev_int) av_nil))))
      (bv_cons (sv_put (ev_op op_fdivA m_fdivA (ev_var (pv 2)) (ev_var (pv 1))) (ev_var (pv 0)))
      (bv_one (sv_ret (ev_op op_mod m_mod (ev_callTy call_intA m_intc rfl B.int (by decide +kernel) (av_cons (ev_var (pv 2)) av_nil)) (ev_var (pv 1))))))) bv_nil)
      (bv_cons (sv_name (i := 5) sc_law_draw.nd rfl (Or.inl rfl) (ev_op op_mod m_mod (ev_callTy call_intA m_intc rfl B.int (by decide +kernel) (av_cons (ev_op op_pow m_pow (ev_op op_addM m_add (ev_op op_addM m_add (ev_op op_mod m_mod (ev_callTy call_intA m_intc rfl B.int (by decide +kernel) (av_cons (ev_var (pv 4)) av_nil)) ev_int) (ev_op op_mulA m_mul ev_int (ev_var (pv 3)))) ev_int) ev_int) av_nil)) ev_int))
      (bv_cons (sv_name (i := 5) sc_law_draw.nd rfl (Or.inl rfl) (ev_op op_mod m_mod (ev_callTy call_intA m_intc rfl B.int (by decide +kernel) (av_cons (ev_op op_pow m_pow (ev_op op_addM m_add (ev_op op_addM m_add (ev_op op_mulA m_mul (ev_var (pv 5)) (ev_op op_addM m_add (ev_op op_mulA m_mul ev_int (ev_var (pv 3))) ev_int)) (ev_op op_mulA m_mul (ev_op op_mulA m_mul ev_int (ev_var (pv 3))) (ev_var (pv 3)))) ev_int) ev_int) av_nil)) ev_int))
      (bv_one (sv_ret (ev_op op_mod m_mod (ev_callTy call_intA m_intc rfl B.int (by decide +kernel) (av_cons (ev_op op_fdivA m_fdivA (ev_var (pv 5)) ev_int) av_nil)) (ev_var (pv 1))))))))))))))
theorem w_law_pick (B : Blt mg) (h : Here K mg "_law_pick" s_law_pick) (W_law_draw : Worth P w K mg base 1 "_law_draw" s_law_draw ["well", "many"] 2 m_law_draw) : Worth P w K mg base 2 "_law_pick" s_law_pick ["well", "some"] 2 m_law_pick :=
  worth_mk (k := 1) h sc_law_pick (by decide) (fun cdv A outer s H E hr hgd =>
      (bv_one (sv_ret (ev_get (ev_var (pv 1)) (ev_callW W_law_draw (hr.mono (by decide)) hgd rfl (fun _ _ _ _ _ _ us hl => match us, hl with | [_, _], _ => rfl) (takes_of rfl rfl rfl rfl) (av_cons (ev_var (pv 0)) (av_cons (ev_callB call_lenA m_len rfl B.len (by decide +kernel) (av_cons (ev_var (pv 1)) av_nil)) av_nil)))))))
theorem w_law_form (B : Blt mg) (h : Here K mg "_law_form" s_law_form)  : Worth P w K mg base 1 "_law_form" s_law_form ["above", "below"] 2 m_law_form :=
  worth_mk (k := 0) h sc_law_form (by decide) (fun cdv A outer s H E hr hgd =>
      (bv_cons (sv_par (i := 2) (j := 3) rfl sc_law_form.nd rfl rfl (by decide) rfl rfl (av_cons (ev_callB call_abs m_abs rfl B.abs (by decide +kernel) (av_cons (ev_var (pv 0)) av_nil)) (av_cons (ev_callB call_abs m_abs rfl B.abs (by decide +kernel) (av_cons (ev_var (pv 1)) av_nil)) av_nil)) rfl)
      (bv_cons (sv_while (fuel := (fun δ _ => (intE δ 3).natAbs + 1)) (passes_of rfl) (tv_cmp op_gt m_gt (ev_var (pv 3)) ev_int) (bv_one (sv_par (i := 2) (j := 3) rfl sc_law_form.nd rfl rfl (by decide) rfl rfl (av_cons (ev_var (pv 3)) (av_cons (ev_op op_mod m_mod (ev_callTy call_intA m_intc rfl B.int (by decide +kernel) (av_cons (ev_var (pv 2)) av_nil)) (ev_var (pv 3))) av_nil)) rfl)))
      (bv_cons (sv_par (i := 0) (j := 1) rfl sc_law_form.nd rfl rfl (by decide) rfl rfl (av_cons (ev_op op_fdivA m_fdivA (ev_var (pv 0)) (ev_var (pv 2))) (av_cons (ev_op op_fdivA m_fdivA (ev_var (pv 1)) (ev_var (pv 2))) av_nil)) rfl)
      (bv_cons (sv_if (tv_cmp op_lt m_lt (ev_var (pv 1)) ev_int) (bv_one (sv_par (i := 0) (j := 1) rfl sc_law_form.nd rfl rfl (by decide) rfl rfl (av_cons (ev_neg (ev_var (pv 0))) (av_cons (ev_neg (ev_var (pv 1))) av_nil)) rfl)) bv_nil)
      (bv_one (sv_ret (ev_if (tv_cmp (op_eqD (hu64 hr)) m_eq (ev_var (pv 1)) ev_int) (ev_var (pv 0)) (ev_tup (av_cons (ev_var (pv 0)) (av_cons (ev_var (pv 1)) av_nil)))))))))))
theorem w_law_two (B : Blt mg) (h : Here K mg "_law_two" s_law_two)  : Worth P w K mg base 1 "_law_two" s_law_two ["number"] 1 m_law_two :=
  worth_mk (k := 0) h sc_law_two (by decide) (fun cdv A outer s H E hr hgd =>
      (bv_one (sv_ret (ev_if (tv_of (ev_isi rfl B.isinstance rfl B.int (by decide +kernel) (ev_var (pv 0)))) (ev_lst (av_cons (ev_var (pv 0)) (av_cons ev_int av_nil))) (ev_lst (av_cons (ev_get (ev_var (pv 0)) ev_int) (av_cons (ev_get (ev_var (pv 0)) ev_int) av_nil)))))))
theorem w_law_sum (B : Blt mg) (h : Here K mg "_law_sum" s_law_sum) (W_law_form : Worth P w K mg base 1 "_law_form" s_law_form ["above", "below"] 2 m_law_form) (W_law_two : Worth P w K mg base 1 "_law_two" s_law_two ["number"] 1 m_law_two) : Worth P w K mg base 2 "_law_sum" s_law_sum ["numbers"] 1 m_law_sum :=
  worth_mk (k := 1) h sc_law_sum (by decide) (fun cdv A outer s H E hr hgd =>
      (bv_cons (sv_asg (ev_tup (av_cons ev_int (av_cons ev_int av_nil))) (gv_tup rfl (gvs_cons (gv_name (pg_name (i := 1) sc_law_sum.nd rfl (Or.inl rfl))) (gvs_cons (gv_name (pg_name (i := 2) sc_law_sum.nd rfl (Or.inl rfl))) gvs_nil))))
      (bv_cons (sv_for (passes_of rfl) rfl (iv_seq (ev_var (pv 0))) (gv_name (pg_name (i := 3) sc_law_sum.nd rfl (Or.inl rfl))) (bv_cons (sv_name (i := 4) sc_law_sum.nd rfl (Or.inl rfl) (ev_callW W_law_two (hr.mono (by decide)) hgd rfl (fun _ _ _ _ _ _ us hl => match us, hl with | [_], _ => rfl) (takes_of rfl rfl rfl rfl) (av_cons (ev_var (pv 3)) av_nil)))
      (bv_one (sv_par (i := 1) (j := 2) rfl sc_law_sum.nd rfl rfl (by decide) rfl rfl (av_cons (ev_op op_addM m_add (ev_op op_mulA m_mul (ev_var (pv 1)) (ev_get (ev_var (pv 4)) ev_int)) (ev_op op_mulA m_mul (ev_get (ev_var (pv 4)) ev_int) (ev_var (pv 2)))) (av_cons (ev_op op_mulA m_mul (ev_var (pv 2)) (ev_get (ev_var (pv 4)) ev_int)) av_nil)) rfl))))
      (bv_one (sv_ret (ev_callW W_law_form (hr.mono (by decide)) hgd rfl (fun _ _ _ _ _ _ us hl => match us, hl with | [_, _], _ => rfl) (takes_of rfl rfl rfl rfl) (av_cons (ev_var (pv 1)) (av_cons (ev_var (pv 2)) av_nil))))))))
theorem w_law_times (B : Blt mg) (h : Here K mg "_law_times" s_law_times) (W_law_form : Worth P w K mg base 1 "_law_form" s_law_form ["above", "below"] 2 m_law_form) (W_law_two : Worth P w K mg base 1 "_law_two" s_law_two ["number"] 1 m_law_two) : Worth P w K mg base 2 "_law_times" s_law_times ["one", "other"] 2 m_law_times :=
  worth_mk (k := 1) h sc_law_times (by decide) (fun cdv A outer s H E hr hgd =>
      (bv_one (sv_ret (ev_callW W_law_form (hr.mono (by decide)) hgd rfl (fun _ _ _ _ _ _ us hl => match us, hl with | [_, _], _ => rfl) (takes_of rfl rfl rfl rfl) (av_cons (ev_op op_mulA m_mul (ev_get (ev_callW W_law_two (hr.mono (by decide)) hgd rfl (fun _ _ _ _ _ _ us hl => match us, hl with | [_], _ => rfl) (takes_of rfl rfl rfl rfl) (av_cons (ev_var (pv 0)) av_nil)) ev_int) (ev_get (ev_callW W_law_two (hr.mono (by decide)) hgd rfl (fun _ _ _ _ _ _ us hl => match us, hl with | [_], _ => rfl) (takes_of rfl rfl rfl rfl) (av_cons (ev_var (pv 1)) av_nil)) ev_int)) (av_cons (ev_op op_mulA m_mul (ev_get (ev_callW W_law_two (hr.mono (by decide)) hgd rfl (fun _ _ _ _ _ _ us hl => match us, hl with | [_], _ => rfl) (takes_of rfl rfl rfl rfl) (av_cons (ev_var (pv 0)) av_nil)) ev_int) (ev_get (ev_callW W_law_two (hr.mono (by decide)) hgd rfl (fun _ _ _ _ _ _ us hl => match us, hl with | [_], _ => rfl) (takes_of rfl rfl rfl rfl) (av_cons (ev_var (pv 1)) av_nil)) ev_int)) av_nil))))))
theorem w_law_before (B : Blt mg) (h : Here K mg "_law_before" s_law_before) (W_law_two : Worth P w K mg base 1 "_law_two" s_law_two ["number"] 1 m_law_two) : Worth P w K mg base 2 "_law_before" s_law_before ["one", "other"] 2 m_law_before :=
  worth_mk (k := 1) h sc_law_before (by decide) (fun cdv A outer s H E hr hgd =>
      (bv_one (sv_ret (ev_cmp op_lt m_lt (ev_op op_mulA m_mul (ev_get (ev_callW W_law_two (hr.mono (by decide)) hgd rfl (fun _ _ _ _ _ _ us hl => match us, hl with | [_], _ => rfl) (takes_of rfl rfl rfl rfl) (av_cons (ev_var (pv 0)) av_nil)) ev_int) (ev_get (ev_callW W_law_two (hr.mono (by decide)) hgd rfl (fun _ _ _ _ _ _ us hl => match us, hl with | [_], _ => rfl) (takes_of rfl rfl rfl rfl) (av_cons (ev_var (pv 1)) av_nil)) ev_int)) (ev_op op_mulA m_mul (ev_get (ev_callW W_law_two (hr.mono (by decide)) hgd rfl (fun _ _ _ _ _ _ us hl => match us, hl with | [_], _ => rfl) (takes_of rfl rfl rfl rfl) (av_cons (ev_var (pv 1)) av_nil)) ev_int) (ev_get (ev_callW W_law_two (hr.mono (by decide)) hgd rfl (fun _ _ _ _ _ _ us hl => match us, hl with | [_], _ => rfl) (takes_of rfl rfl rfl rfl) (av_cons (ev_var (pv 0)) av_nil)) ev_int))))))
theorem w_law_value (B : Blt mg) (h : Here K mg "_law_value" s_law_value) (W_law_draw : Worth P w K mg base 1 "_law_draw" s_law_draw ["well", "many"] 2 m_law_draw) (W_law_pick : Worth P w K mg base 2 "_law_pick" s_law_pick ["well", "some"] 2 m_law_pick) (W_law_form : Worth P w K mg base 1 "_law_form" s_law_form ["above", "below"] 2 m_law_form) : Worth P w K mg base 3 "_law_value" s_law_value ["well"] 1 m_law_value :=
  worth_mk (k := 2) h sc_law_value (by decide) (fun cdv A outer s H E hr hgd =>
      (bv_cons (sv_name (i := 1) sc_law_value.nd rfl (Or.inl rfl) (ev_callW W_law_pick (hr.mono (by decide)) hgd rfl (fun _ _ _ _ _ _ us hl => match us, hl with | [_, _], _ => rfl) (takes_of rfl rfl rfl rfl) (av_cons (ev_var (pv 0)) (av_cons (ev_lst (av_cons ev_int (av_cons ev_int (av_cons ev_int (av_cons (ev_op op_pow m_pow ev_int ev_int) (av_cons (ev_op op_pow m_pow ev_int ev_int) av_nil)))))) av_nil))))
      (bv_cons (sv_name (i := 2) sc_law_value.nd rfl (Or.inl rfl) (ev_op op_sub m_sub (ev_callW W_law_draw (hr.mono (by decide)) hgd rfl (fun _ _ _ _ _ _ us hl => match us, hl with | [_, _], _ => rfl) (takes_of rfl rfl rfl rfl) (av_cons (ev_var (pv 0)) (av_cons (ev_op op_addM m_add (ev_op op_mulA m_mul ev_int (ev_var (pv 1))) ev_int) av_nil))) (ev_var (pv 1))))
      (bv_one (sv_ret (ev_callW W_law_form (hr.mono (by decide)) hgd rfl (fun _ _ _ _ _ _ us hl => match us, hl with | [_, _], _ => rfl) (takes_of rfl rfl rfl rfl) (av_cons (ev_var (pv 2)) (av_cons (ev_callW W_law_pick (hr.mono (by decide)) hgd rfl (fun _ _ _ _ _ _ us hl => match us, hl with | [_, _], _ => rfl) (takes_of rfl rfl rfl rfl) (av_cons (ev_var (pv 0)) (av_cons (ev_lst (av_cons ev_int (av_cons ev_int (av_cons ev_int (av_cons ev_int (av_cons ev_int (av_cons (ev_op op_addM m_add ev_int (ev_callW W_law_draw (hr.mono (by decide)) hgd rfl (fun _ _ _ _ _ _ us hl => match us, hl with | [_, _], _ => rfl) (takes_of rfl rfl rfl rfl) (av_cons (ev_var (pv 0)) (av_cons (ev_var (pv 1)) av_nil)))) av_nil))))))) av_nil))) av_nil))))))))
theorem w_law_as (B : Blt mg) (h : Here K mg "_law_as" s_law_as) (W_law_draw : Worth P w K mg base 1 "_law_draw" s_law_draw ["well", "many"] 2 m_law_draw) : Worth P w K mg base 2 "_law_as" s_law_as ["well", "number"] 2 m_law_as :=
  worth_mk (k := 1) h sc_law_as (by decide) (fun cdv A outer s H E hr hgd =>
      (bv_one (sv_ret (ev_if (tv_w (wv_and (tv_of (ev_isi rfl B.isinstance rfl B.tuple (by decide +kernel) (ev_var (pv 1)))) (wv_and1 (tv_cmp (op_eqD (hu64 hr)) m_eq (ev_callW W_law_draw (hr.mono (by decide)) hgd rfl (fun _ _ _ _ _ _ us hl => match us, hl with | [_, _], _ => rfl) (takes_of rfl rfl rfl rfl) (av_cons (ev_var (pv 0)) (av_cons ev_int av_nil))) ev_int)))) (ev_callTy call_list_of m_lst rfl B.list (by decide +kernel) (av_cons (ev_var (pv 1)) av_nil)) (ev_var (pv 1))))))
theorem w_law_bad (B : Blt mg) (h : Here K mg "_law_bad" s_law_bad) (W_law_pick : Worth P w K mg base 2 "_law_pick" s_law_pick ["well", "some"] 2 m_law_pick) : Worth P w K mg base 3 "_law_bad" s_law_bad ["well"] 1 m_law_bad :=
  worth_mk (k := 2) h sc_law_bad (by decide) (fun cdv A outer s H E hr hgd =>
      (bv_one (sv_ret (ev_callW W_law_pick (hr.mono (by decide)) hgd rfl (fun _ _ _ _ _ _ us hl => match us, hl with | [_, _], _ => rfl) (takes_of rfl rfl rfl rfl) (av_cons (ev_var (pv 0)) (av_cons (ev_lst (av_cons ev_non (av_cons ev_bl (av_cons ev_str (av_cons (ev_tup (av_cons ev_int (av_cons ev_int av_nil))) (av_cons (ev_lst (av_cons ev_int (av_cons ev_int av_nil))) (av_cons (ev_tup (av_cons ev_int (av_cons ev_int av_nil))) (av_cons (ev_tup (av_cons ev_int (av_cons (ev_neg ev_int) av_nil))) (av_cons (ev_tup (av_cons ev_int (av_cons ev_int (av_cons ev_int av_nil)))) (av_cons (ev_tup (av_cons ev_bl (av_cons ev_int av_nil))) av_nil)))))))))) av_nil))))))
theorem w_law_asked (B : Blt mg) (h : Here K mg "_law_asked" s_law_asked) (E_BadNumber : ExcW P w K mg base "BadNumber" ["part"]) (E_Misfit : ExcW P w K mg base "Misfit" ["part"]) (M_BadNumber : ∃ C, mg "BadNumber" = some (.ref C)) (M_Misfit : ∃ C, mg "Misfit" = some (.ref C)) (M_PlayError : ∃ C, mg "PlayError" = some (.ref C)) (HT : TblOk K mg tbl) (W_ratio : Worth P w K mg base 3 "ratio" s_ratio ["above", "below"] 2 m_ratio) (W_plus : Worth P w K mg base 5 "plus" s_plus ["one", "other"] 2 m_plus) (W_minus : Worth P w K mg base 5 "minus" s_minus ["one", "other"] 2 m_minus) (W_times : Worth P w K mg base 5 "times" s_times ["one", "other"] 2 m_times) (W_over : Worth P w K mg base 5 "over" s_over ["one", "other"] 2 m_over) (W_is_less : Worth P w K mg base 5 "is_less" s_is_less ["one", "other"] 2 m_is_less) : Worth P w K mg base 6 "_law_asked" s_law_asked ["way", "one", "other"] 3 m_law_asked :=
  worth_mk (k := 5) h sc_law_asked (by decide) (fun cdv A outer s H E hr hgd =>
      (bv_cons (sv_name (i := 3) sc_law_asked.nd rfl (Or.inl rfl) ev_non)
      (bv_cons (sv_try HT rfl rfl sc_law_asked.nd (takes_of rfl rfl rfl rfl) (fun _ _ _ tk hp => (bv_one (sv_if (tv_cmp (op_eqD (hu64 hr)) m_eq (ev_var (pv 0)) ev_int) (bv_one (sv_name (i := 3) sc_law_asked.nd rfl (Or.inl rfl) (ev_lst (av_cons (ev_callW W_plus (hr.mono (by decide)) hgd rfl (fun _ _ _ _ _ _ us hl => match us, hl with | [_, _], _ => rfl) tk (av_cons (ev_var (pv 1)) (av_cons (ev_var (pv 2)) av_nil))) av_nil)))) (bv_one (sv_if (tv_cmp (op_eqD (hu64 hr)) m_eq (ev_var (pv 0)) ev_int) (bv_one (sv_name (i := 3) sc_law_asked.nd rfl (Or.inl rfl) (ev_lst (av_cons (ev_callW W_minus (hr.mono (by decide)) hgd rfl (fun _ _ _ _ _ _ us hl => match us, hl with | [_, _], _ => rfl) tk (av_cons (ev_var (pv 1)) (av_cons (ev_var (pv 2)) av_nil))) av_nil)))) (bv_one (sv_if (tv_cmp (op_eqD (hu64 hr)) m_eq (ev_var (pv 0)) ev_int) (bv_one (sv_name (i := 3) sc_law_asked.nd rfl (Or.inl rfl) (ev_lst (av_cons (ev_callW W_times (hr.mono (by decide)) hgd rfl (fun _ _ _ _ _ _ us hl => match us, hl with | [_, _], _ => rfl) tk (av_cons (ev_var (pv 1)) (av_cons (ev_var (pv 2)) av_nil))) av_nil)))) (bv_one (sv_if (tv_cmp (op_eqD (hu64 hr)) m_eq (ev_var (pv 0)) ev_int) (bv_one (sv_name (i := 3) sc_law_asked.nd rfl (Or.inl rfl) (ev_lst (av_cons (ev_callW W_over (hr.mono (by decide)) hgd rfl (fun _ _ _ _ _ _ us hl => match us, hl with | [_, _], _ => rfl) tk (av_cons (ev_var (pv 1)) (av_cons (ev_var (pv 2)) av_nil))) av_nil)))) (bv_one (sv_if (tv_cmp (op_eqD (hu64 hr)) m_eq (ev_var (pv 0)) ev_int) (bv_one (sv_name (i := 3) sc_law_asked.nd rfl (Or.inl rfl) (ev_lst (av_cons (ev_callW W_is_less (hr.mono (by decide)) hgd rfl (fun _ _ _ _ _ _ us hl => match us, hl with | [_, _], _ => rfl) tk (av_cons (ev_var (pv 1)) (av_cons (ev_var (pv 2)) av_nil))) av_nil)))) (bv_one (sv_name (i := 3) sc_law_asked.nd rfl (Or.inl rfl) (ev_lst (av_cons (ev_callW W_ratio (hr.mono (by decide)) hgd rfl (fun _ _ _ _ _ _ us hl => match us, hl with | [_, _], _ => rfl) tk (av_cons (ev_var (pv 1)) (av_cons (ev_var (pv 2)) av_nil))) av_nil))))))))))))))) (HdsD.cons rfl (by decide) M_BadNumber rfl rfl (sh_set (j := 3) sc_law_asked.nd rfl (Or.inl rfl) (eh_tup (ah_cons (eh_of (fun _ _ => ev_str)) (ah_cons (eh_fld E_BadNumber (by decide) (i := 4) rfl (Or.inl rfl)) ah_nil)))) (HdsD.cons rfl (by decide) M_Misfit rfl rfl (sh_set (j := 3) sc_law_asked.nd rfl (Or.inl rfl) (eh_tup (ah_cons (eh_of (fun _ _ => ev_str)) (ah_cons (eh_fld E_Misfit (by decide) (i := 4) rfl (Or.inl rfl)) ah_nil)))) (HdsD.cons rfl (by decide) M_PlayError rfl rfl (sh_set (j := 3) sc_law_asked.nd rfl (Or.inl rfl) (eh_tup (ah_cons (eh_of (fun _ _ => ev_str)) ah_nil))) HdsD.nil))))
      (bv_one (sv_ret (ev_var (pv 3)))))))
theorem w_law_pairs (B : Blt mg) (h : Here K mg "_law_pairs" s_law_pairs) (W_law_draw : Worth P w K mg base 1 "_law_draw" s_law_draw ["well", "many"] 2 m_law_draw) (W_law_pick : Worth P w K mg base 2 "_law_pick" s_law_pick ["well", "some"] 2 m_law_pick) (W_law_form : Worth P w K mg base 1 "_law_form" s_law_form ["above", "below"] 2 m_law_form) (W_law_two : Worth P w K mg base 1 "_law_two" s_law_two ["number"] 1 m_law_two) (W_law_sum : Worth P w K mg base 2 "_law_sum" s_law_sum ["numbers"] 1 m_law_sum) (W_law_times : Worth P w K mg base 2 "_law_times" s_law_times ["one", "other"] 2 m_law_times) (W_law_before : Worth P w K mg base 2 "_law_before" s_law_before ["one", "other"] 2 m_law_before) (W_law_value : Worth P w K mg base 3 "_law_value" s_law_value ["well"] 1 m_law_value) (W_law_as : Worth P w K mg base 2 "_law_as" s_law_as ["well", "number"] 2 m_law_as) (W_law_bad : Worth P w K mg base 3 "_law_bad" s_law_bad ["well"] 1 m_law_bad) (W_law_asked : Worth P w K mg base 6 "_law_asked" s_law_asked ["way", "one", "other"] 3 m_law_asked) : Worth P w K mg base 7 "_law_pairs" s_law_pairs ["well"] 1 m_law_pairs :=
  worth_mk (k := 6) h sc_law_pairs (by decide) (fun cdv A outer s H E hr hgd =>
      (bv_cons (sv_par (i := 1) (j := 2) rfl sc_law_pairs.nd rfl rfl (by decide) rfl rfl (av_cons (ev_callW W_law_value (hr.mono (by decide)) hgd rfl (fun _ _ _ _ _ _ us hl => match us, hl with | [_], _ => rfl) (takes_of rfl rfl rfl rfl) (av_cons (ev_var (pv 0)) av_nil)) (av_cons (ev_callW W_law_value (hr.mono (by decide)) hgd rfl (fun _ _ _ _ _ _ us hl => match us, hl with | [_], _ => rfl) (takes_of rfl rfl rfl rfl) (av_cons (ev_var (pv 0)) av_nil)) av_nil)) rfl)
      (bv_cons (sv_name (i := 2) sc_law_pairs.nd rfl (Or.inl rfl) (ev_callW W_law_pick (hr.mono (by decide)) hgd rfl (fun _ _ _ _ _ _ us hl => match us, hl with | [_, _], _ => rfl) (takes_of rfl rfl rfl rfl) (av_cons (ev_var (pv 0)) (av_cons (ev_lst (av_cons (ev_var (pv 2)) (av_cons (ev_var (pv 1)) (av_cons (ev_callW W_law_times (hr.mono (by decide)) hgd rfl (fun _ _ _ _ _ _ us hl => match us, hl with | [_, _], _ => rfl) (takes_of rfl rfl rfl rfl) (av_cons (ev_var (pv 1)) (av_cons (ev_neg ev_int) av_nil))) (av_cons ev_int (av_cons (ev_var (pv 2)) av_nil)))))) av_nil))))
      (bv_cons (sv_name (i := 3) sc_law_pairs.nd rfl (Or.inl rfl) (ev_lst (av_cons (ev_lst (av_cons (ev_callW W_law_sum (hr.mono (by decide)) hgd rfl (fun _ _ _ _ _ _ us hl => match us, hl with | [_], _ => rfl) (takes_of rfl rfl rfl rfl) (av_cons (ev_lst (av_cons (ev_var (pv 1)) (av_cons (ev_var (pv 2)) av_nil))) av_nil)) av_nil)) (av_cons (ev_lst (av_cons (ev_callW W_law_sum (hr.mono (by decide)) hgd rfl (fun _ _ _ _ _ _ us hl => match us, hl with | [_], _ => rfl) (takes_of rfl rfl rfl rfl) (av_cons (ev_lst (av_cons (ev_var (pv 1)) (av_cons (ev_callW W_law_times (hr.mono (by decide)) hgd rfl (fun _ _ _ _ _ _ us hl => match us, hl with | [_, _], _ => rfl) (takes_of rfl rfl rfl rfl) (av_cons (ev_var (pv 2)) (av_cons (ev_neg ev_int) av_nil))) av_nil))) av_nil)) av_nil)) (av_cons (ev_lst (av_cons (ev_callW W_law_times (hr.mono (by decide)) hgd rfl (fun _ _ _ _ _ _ us hl => match us, hl with | [_, _], _ => rfl) (takes_of rfl rfl rfl rfl) (av_cons (ev_var (pv 1)) (av_cons (ev_var (pv 2)) av_nil))) av_nil)) av_nil)))))
      (bv_cons (sv_name (i := 4) sc_law_pairs.nd rfl (Or.inl rfl) (ev_callW W_law_two (hr.mono (by decide)) hgd rfl (fun _ _ _ _ _ _ us hl => match us, hl with | [_], _ => rfl) (takes_of rfl rfl rfl rfl) (av_cons (ev_var (pv 2)) av_nil)))
      (bv_cons (sv_name (i := 3) sc_law_pairs.nd rfl (Or.inl rfl) (ev_op op_addM m_add (ev_var (pv 3)) (ev_lst (av_cons (ev_if (tv_cmp (op_eqD (hu64 hr)) m_eq (ev_var (pv 2)) ev_int) (ev_tup (av_cons ev_str (av_cons ev_str av_nil))) (ev_lst (av_cons (ev_callW W_law_times (hr.mono (by decide)) hgd rfl (fun _ _ _ _ _ _ us hl => match us, hl with | [_, _], _ => rfl) (takes_of rfl rfl rfl rfl) (av_cons (ev_var (pv 1)) (av_cons (ev_callW W_law_form (hr.mono (by decide)) hgd rfl (fun _ _ _ _ _ _ us hl => match us, hl with | [_, _], _ => rfl) (takes_of rfl rfl rfl rfl) (av_cons (ev_get (ev_var (pv 4)) ev_int) (av_cons (ev_get (ev_var (pv 4)) ev_int) av_nil))) av_nil))) av_nil))) (av_cons (ev_lst (av_cons (ev_callW W_law_before (hr.mono (by decide)) hgd rfl (fun _ _ _ _ _ _ us hl => match us, hl with | [_, _], _ => rfl) (takes_of rfl rfl rfl rfl) (av_cons (ev_var (pv 1)) (av_cons (ev_var (pv 2)) av_nil))) av_nil)) av_nil)))))
      (bv_cons (sv_for (passes_of rfl) rfl (iv_range1 rfl B.range (av_cons ev_int av_nil)) (gv_name (pg_name (i := 5) sc_law_pairs.nd rfl (Or.inl rfl))) (bv_one (sv_if (tv_cmp (op_neD (hu64 hr)) m_ne (ev_callB (call_repr hgd (hu64 hr)) m_repr rfl B.repr (by decide +kernel) (av_cons (ev_callW W_law_asked (hr.mono (by decide)) hgd rfl (fun _ _ _ _ _ _ us hl => match us, hl with | [_, _, _], _ => rfl) (takes_of rfl rfl rfl rfl) (av_cons (ev_var (pv 5)) (av_cons (ev_callW W_law_as (hr.mono (by decide)) hgd rfl (fun _ _ _ _ _ _ us hl => match us, hl with | [_, _], _ => rfl) (takes_of rfl rfl rfl rfl) (av_cons (ev_var (pv 0)) (av_cons (ev_var (pv 1)) av_nil))) (av_cons (ev_callW W_law_as (hr.mono (by decide)) hgd rfl (fun _ _ _ _ _ _ us hl => match us, hl with | [_, _], _ => rfl) (takes_of rfl rfl rfl rfl) (av_cons (ev_var (pv 0)) (av_cons (ev_var (pv 2)) av_nil))) av_nil)))) av_nil)) (ev_callB (call_repr hgd (hu64 hr)) m_repr rfl B.repr (by decide +kernel) (av_cons (ev_get (ev_var (pv 3)) (ev_var (pv 5))) av_nil))) (bv_one (sv_ret ev_bl)) bv_nil)))
      (bv_cons (sv_name (i := 6) sc_law_pairs.nd rfl (Or.inl rfl) (ev_callW W_law_bad (hr.mono (by decide)) hgd rfl (fun _ _ _ _ _ _ us hl => match us, hl with | [_], _ => rfl) (takes_of rfl rfl rfl rfl) (av_cons (ev_var (pv 0)) av_nil)))
      (bv_cons (sv_name (i := 5) sc_law_pairs.nd rfl (Or.inl rfl) (ev_callW W_law_draw (hr.mono (by decide)) hgd rfl (fun _ _ _ _ _ _ us hl => match us, hl with | [_, _], _ => rfl) (takes_of rfl rfl rfl rfl) (av_cons (ev_var (pv 0)) (av_cons ev_int av_nil))))
      (bv_cons (sv_if (tv_w (wv_or (tv_cmp (op_neD (hu64 hr)) m_ne (ev_callW W_law_asked (hr.mono (by decide)) hgd rfl (fun _ _ _ _ _ _ us hl => match us, hl with | [_, _, _], _ => rfl) (takes_of rfl rfl rfl rfl) (av_cons (ev_var (pv 5)) (av_cons (ev_var (pv 6)) (av_cons (ev_callW W_law_pick (hr.mono (by decide)) hgd rfl (fun _ _ _ _ _ _ us hl => match us, hl with | [_, _], _ => rfl) (takes_of rfl rfl rfl rfl) (av_cons (ev_var (pv 0)) (av_cons (ev_lst (av_cons (ev_var (pv 1)) (av_cons (ev_var (pv 6)) av_nil))) av_nil))) av_nil)))) (ev_tup (av_cons ev_str (av_cons ev_str av_nil)))) (wv_or1 (tv_cmp (op_neD (hu64 hr)) m_ne (ev_callW W_law_asked (hr.mono (by decide)) hgd rfl (fun _ _ _ _ _ _ us hl => match us, hl with | [_, _, _], _ => rfl) (takes_of rfl rfl rfl rfl) (av_cons (ev_var (pv 5)) (av_cons (ev_var (pv 1)) (av_cons (ev_var (pv 6)) av_nil)))) (ev_tup (av_cons ev_str (av_cons ev_str av_nil))))))) (bv_one (sv_ret ev_bl)) bv_nil)
      (bv_cons (sv_par (i := 7) (j := 8) rfl sc_law_pairs.nd rfl rfl (by decide) rfl rfl (av_cons (ev_op op_sub m_sub (ev_callW W_law_draw (hr.mono (by decide)) hgd rfl (fun _ _ _ _ _ _ us hl => match us, hl with | [_, _], _ => rfl) (takes_of rfl rfl rfl rfl) (av_cons (ev_var (pv 0)) (av_cons ev_int av_nil))) ev_int) (av_cons (ev_op op_sub m_sub (ev_callW W_law_draw (hr.mono (by decide)) hgd rfl (fun _ _ _ _ _ _ us hl => match us, hl with | [_, _], _ => rfl) (takes_of rfl rfl rfl rfl) (av_cons (ev_var (pv 0)) (av_cons ev_int av_nil))) ev_int) av_nil)) rfl)
      (bv_cons (sv_name (i := 3) sc_law_pairs.nd rfl (Or.inl rfl) (ev_if (tv_cmp (op_neD (hu64 hr)) m_ne (ev_var (pv 8)) ev_int) (ev_lst (av_cons (ev_callW W_law_form (hr.mono (by decide)) hgd rfl (fun _ _ _ _ _ _ us hl => match us, hl with | [_, _], _ => rfl) (takes_of rfl rfl rfl rfl) (av_cons (ev_var (pv 7)) (av_cons (ev_var (pv 8)) av_nil))) av_nil)) (ev_tup (av_cons ev_str (av_cons ev_str av_nil)))))
      (bv_cons (sv_if (tv_cmp (op_neD (hu64 hr)) m_ne (ev_callB (call_repr hgd (hu64 hr)) m_repr rfl B.repr (by decide +kernel) (av_cons (ev_callW W_law_asked (hr.mono (by decide)) hgd rfl (fun _ _ _ _ _ _ us hl => match us, hl with | [_, _, _], _ => rfl) (takes_of rfl rfl rfl rfl) (av_cons ev_int (av_cons (ev_var (pv 7)) (av_cons (ev_var (pv 8)) av_nil)))) av_nil)) (ev_callB (call_repr hgd (hu64 hr)) m_repr rfl B.repr (by decide +kernel) (av_cons (ev_var (pv 3)) av_nil))) (bv_one (sv_ret ev_bl)) bv_nil)
      (bv_one (sv_ret (ev_and (ev_cmp (op_eqD (hu64 hr)) m_eq (ev_callW W_law_asked (hr.mono (by decide)) hgd rfl (fun _ _ _ _ _ _ us hl => match us, hl with | [_, _, _], _ => rfl) (takes_of rfl rfl rfl rfl) (av_cons ev_int (av_cons (ev_tup (av_cons ev_int (av_cons ev_int av_nil))) (av_cons ev_int av_nil)))) (ev_tup (av_cons ev_str (av_cons ev_str av_nil)))) (ev_one (ev_cmp (op_eqD (hu64 hr)) m_eq (ev_callW W_law_asked (hr.mono (by decide)) hgd rfl (fun _ _ _ _ _ _ us hl => match us, hl with | [_, _, _], _ => rfl) (takes_of rfl rfl rfl rfl) (av_cons ev_int (av_cons (ev_var (pv 7)) (av_cons (ev_tup (av_cons ev_int (av_cons ev_int av_nil))) av_nil)))) (ev_tup (av_cons ev_str (av_cons ev_str av_nil)))))))))))))))))))))
theorem w_law_row_told (B : Blt mg) (h : Here K mg "_law_row_told" s_law_row_told) (E_BadNumber : ExcW P w K mg base "BadNumber" ["part"]) (M_BadNumber : ∃ C, mg "BadNumber" = some (.ref C)) (M_PlayError : ∃ C, mg "PlayError" = some (.ref C)) (HT : TblOk K mg tbl) (W_least : Worth P w K mg base 6 "least" s_least ["values"] 1 m_least) (W_greatest : Worth P w K mg base 6 "greatest" s_greatest ["values"] 1 m_greatest) (W_sum_of : Worth P w K mg base 5 "sum_of" s_sum_of ["values"] 1 m_sum_of) (W_product_sum : Worth P w K mg base 6 "product_sum" s_product_sum ["row", "other"] 2 m_product_sum) : Worth P w K mg base 7 "_law_row_told" s_law_row_told ["way", "row", "other"] 3 m_law_row_told :=
  worth_mk (k := 6) h sc_law_row_told (by decide) (fun cdv A outer s H E hr hgd =>
      (bv_cons (sv_name (i := 3) sc_law_row_told.nd rfl (Or.inl rfl) ev_non)
      (bv_cons (sv_try HT rfl rfl sc_law_row_told.nd (takes_of rfl rfl rfl rfl) (fun _ _ _ tk hp => (bv_one (sv_if (tv_cmp (op_eqD (hu64 hr)) m_eq (ev_var (pv 0)) ev_int) (bv_one (sv_name (i := 3) sc_law_row_told.nd rfl (Or.inl rfl) (ev_lst (av_cons (ev_callW W_least (hr.mono (by decide)) hgd rfl (fun _ _ _ _ _ _ us hl => match us, hl with | [_], _ => rfl) tk (av_cons (ev_var (pv 1)) av_nil)) av_nil)))) (bv_one (sv_if (tv_cmp (op_eqD (hu64 hr)) m_eq (ev_var (pv 0)) ev_int) (bv_one (sv_name (i := 3) sc_law_row_told.nd rfl (Or.inl rfl) (ev_lst (av_cons (ev_callKW (perm := [0]) (ks := ["values"]) W_greatest (hr.mono (by decide)) hgd rfl (fun _ _ _ _ _ _ ws hl => match ws, hl with | [_], _ => rfl) tk (kv_cons (ev_var (pv 1)) kv_nil)) av_nil)))) (bv_one (sv_if (tv_cmp (op_eqD (hu64 hr)) m_eq (ev_var (pv 0)) ev_int) (bv_one (sv_name (i := 3) sc_law_row_told.nd rfl (Or.inl rfl) (ev_lst (av_cons (ev_callKW (perm := [0]) (ks := ["values"]) W_sum_of (hr.mono (by decide)) hgd rfl (fun _ _ _ _ _ _ ws hl => match ws, hl with | [_], _ => rfl) tk (kv_cons (ev_var (pv 1)) kv_nil)) av_nil)))) (bv_one (sv_name (i := 3) sc_law_row_told.nd rfl (Or.inl rfl) (ev_lst (av_cons (ev_callKW (perm := [1, 0]) (ks := ["other", "row"]) W_product_sum (hr.mono (by decide)) hgd rfl (fun _ _ _ _ _ _ ws hl => match ws, hl with | [_, _], _ => rfl) tk (kv_cons (ev_var (pv 2)) (kv_cons (ev_var (pv 1)) kv_nil))) av_nil))))))))))) (HdsD.cons rfl (by decide) M_BadNumber rfl rfl (sh_set (j := 3) sc_law_row_told.nd rfl (Or.inl rfl) (eh_tup (ah_cons (eh_of (fun _ _ => ev_str)) (ah_cons (eh_fld E_BadNumber (by decide) (i := 4) rfl (Or.inl rfl)) ah_nil)))) (HdsD.cons rfl (by decide) M_PlayError rfl rfl (sh_set (j := 3) sc_law_row_told.nd rfl (Or.inl rfl) (eh_tup (ah_cons (eh_of (fun _ _ => ev_str)) ah_nil))) HdsD.nil)))
      (bv_one (sv_ret (ev_var (pv 3)))))))
theorem w_law_rows (B : Blt mg) (h : Here K mg "_law_rows" s_law_rows) (W_law_draw : Worth P w K mg base 1 "_law_draw" s_law_draw ["well", "many"] 2 m_law_draw) (W_law_sum : Worth P w K mg base 2 "_law_sum" s_law_sum ["numbers"] 1 m_law_sum) (W_law_times : Worth P w K mg base 2 "_law_times" s_law_times ["one", "other"] 2 m_law_times) (W_law_before : Worth P w K mg base 2 "_law_before" s_law_before ["one", "other"] 2 m_law_before) (W_law_value : Worth P w K mg base 3 "_law_value" s_law_value ["well"] 1 m_law_value) (W_law_as : Worth P w K mg base 2 "_law_as" s_law_as ["well", "number"] 2 m_law_as) (W_law_bad : Worth P w K mg base 3 "_law_bad" s_law_bad ["well"] 1 m_law_bad) (W_law_row_told : Worth P w K mg base 7 "_law_row_told" s_law_row_told ["way", "row", "other"] 3 m_law_row_told) : Worth P w K mg base 8 "_law_rows" s_law_rows ["well"] 1 m_law_rows :=
  worth_mk (k := 7) h sc_law_rows (by decide) (fun cdv A outer s H E hr hgd =>
      (bv_cons (sv_name (i := 1) sc_law_rows.nd rfl (Or.inr rfl) (ev_lc (own := [(".0", 13), ("turn", 14)]) rfl sc_law_rows.nd (iv_range1 rfl B.range (av_cons (ev_callW W_law_draw (hr.mono (by decide)) hgd rfl (fun _ _ _ _ _ _ us hl => match us, hl with | [_, _], _ => rfl) (takes_of rfl rfl rfl rfl) (av_cons (ev_var (pv 0)) (av_cons ev_int av_nil))) av_nil)) (blkOk_by (N := N_law_rows) (sc := defScope s_law_rows) (by decide +kernel)) (fun _ _ _ _ _ => (gv_name (pg_name (i := 14) sc_law_rows.nd rfl (Or.inl rfl)))) (fun _ _ _ _ _ => tsv_nil) (fun _ _ _ _ _ => (ev_callW W_law_value (hr.mono (by decide)) hgd rfl (fun _ _ _ _ _ _ us hl => match us, hl with | [_], _ => rfl) takes0 (av_cons (ev_var (pv 0)) av_nil)))))
      (bv_cons (sv_if (tv_w (wv_and (tv_cmp (op_neD (hu64 hr)) m_ne (ev_var (pv 1)) (ev_lst av_nil)) (wv_and1 (tv_cmp (op_eqD (hu64 hr)) m_eq (ev_callW W_law_draw (hr.mono (by decide)) hgd rfl (fun _ _ _ _ _ _ us hl => match us, hl with | [_, _], _ => rfl) (takes_of rfl rfl rfl rfl) (av_cons (ev_var (pv 0)) (av_cons ev_int av_nil))) ev_int)))) (bv_one (sv_name (i := 1) sc_law_rows.nd rfl (Or.inr rfl) (ev_op op_addM m_add (ev_var (pv 1)) (ev_lst (av_cons (ev_get (ev_var (pv 1)) ev_int) av_nil))))) bv_nil)
      (bv_cons (sv_name (i := 3) sc_law_rows.nd rfl (Or.inr rfl) (ev_lc (own := [(".0", 13), ("number", 2)]) rfl sc_law_rows.nd (iv_seq (ev_var (pv 1))) (blkOk_by (N := N_law_rows) (sc := defScope s_law_rows) (by decide +kernel)) (fun _ _ _ _ _ => (gv_name (pg_name (i := 2) sc_law_rows.nd rfl (Or.inl rfl)))) (fun _ _ _ _ _ => tsv_nil) (fun _ _ _ _ _ => (ev_callW W_law_value (hr.mono (by decide)) hgd rfl (fun _ _ _ _ _ _ us hl => match us, hl with | [_], _ => rfl) takes0 (av_cons (ev_var (pv 0)) av_nil)))))
      (bv_cons (sv_asg (ev_if (tv_cmp (op_neD (hu64 hr)) m_ne (ev_var (pv 1)) (ev_lst av_nil)) (ev_tup (av_cons (ev_get (ev_var (pv 1)) ev_int) (av_cons (ev_get (ev_var (pv 1)) ev_int) av_nil))) (ev_tup (av_cons ev_int (av_cons ev_int av_nil)))) (gv_tup rfl (gvs_cons (gv_name (pg_name (i := 4) sc_law_rows.nd rfl (Or.inl rfl))) (gvs_cons (gv_name (pg_name (i := 5) sc_law_rows.nd rfl (Or.inl rfl))) gvs_nil))))
      (bv_cons (sv_for (passes_of rfl) rfl (iv_seq (ev_var (pv 1))) (gv_name (pg_name (i := 2) sc_law_rows.nd rfl (Or.inl rfl))) (bv_cons (sv_name (i := 4) sc_law_rows.nd rfl (Or.inl rfl) (ev_if (tv_of (ev_callW W_law_before (hr.mono (by decide)) hgd rfl (fun _ _ _ _ _ _ us hl => match us, hl with | [_, _], _ => rfl) (takes_of rfl rfl rfl rfl) (av_cons (ev_var (pv 2)) (av_cons (ev_var (pv 4)) av_nil)))) (ev_var (pv 2)) (ev_var (pv 4))))
      (bv_one (sv_name (i := 5) sc_law_rows.nd rfl (Or.inl rfl) (ev_if (tv_of (ev_callW W_law_before (hr.mono (by decide)) hgd rfl (fun _ _ _ _ _ _ us hl => match us, hl with | [_, _], _ => rfl) (takes_of rfl rfl rfl rfl) (av_cons (ev_var (pv 5)) (av_cons (ev_var (pv 2)) av_nil)))) (ev_var (pv 2)) (ev_var (pv 5)))))))
      (bv_cons (sv_name (i := 6) sc_law_rows.nd rfl (Or.inl rfl) (ev_tup (av_cons ev_str (av_cons ev_str av_nil))))
      (bv_cons (sv_name (i := 7) sc_law_rows.nd rfl (Or.inl rfl) (ev_lst (av_cons (ev_if (tv_cmp (op_neD (hu64 hr)) m_ne (ev_var (pv 1)) (ev_lst av_nil)) (ev_lst (av_cons (ev_var (pv 4)) av_nil)) (ev_var (pv 6))) (av_cons (ev_if (tv_cmp (op_neD (hu64 hr)) m_ne (ev_var (pv 1)) (ev_lst av_nil)) (ev_lst (av_cons (ev_var (pv 5)) av_nil)) (ev_var (pv 6))) (av_cons (ev_lst (av_cons (ev_callW W_law_sum (hr.mono (by decide)) hgd rfl (fun _ _ _ _ _ _ us hl => match us, hl with | [_], _ => rfl) (takes_of rfl rfl rfl rfl) (av_cons (ev_var (pv 1)) av_nil)) av_nil)) av_nil)))))
      (bv_cons (sv_name (i := 7) sc_law_rows.nd rfl (Or.inl rfl) (ev_op op_addM m_add (ev_var (pv 7)) (ev_lst (av_cons (ev_lst (av_cons (ev_callW W_law_sum (hr.mono (by decide)) hgd rfl (fun _ _ _ _ _ _ us hl => match us, hl with | [_], _ => rfl) (takes_of rfl rfl rfl rfl) (av_cons (ev_lc (own := [(".0", 13), ("at", 15)]) rfl sc_law_rows.nd (iv_range1 rfl B.range (av_cons (ev_callB call_lenA m_len rfl B.len (by decide +kernel) (av_cons (ev_var (pv 1)) av_nil)) av_nil)) (blkOk_by (N := N_law_rows) (sc := defScope s_law_rows) (by decide +kernel)) (fun _ _ _ _ _ => (gv_name (pg_name (i := 15) sc_law_rows.nd rfl (Or.inl rfl)))) (fun _ _ _ _ _ => tsv_nil) (fun _ _ _ _ _ => (ev_callW W_law_times (hr.mono (by decide)) hgd rfl (fun _ _ _ _ _ _ us hl => match us, hl with | [_, _], _ => rfl) takes0 (av_cons (ev_get (ev_var (pv 1)) (ev_var (pv 15))) (av_cons (ev_get (ev_var (pv 3)) (ev_var (pv 15))) av_nil))))) av_nil)) av_nil)) av_nil))))
      (bv_cons (sv_name (i := 8) sc_law_rows.nd rfl (Or.inl rfl) (ev_lst (av_cons (ev_lc (own := [(".0", 13), ("number", 2)]) rfl sc_law_rows.nd (iv_seq (ev_var (pv 1))) (blkOk_by (N := N_law_rows) (sc := defScope s_law_rows) (by decide +kernel)) (fun _ _ _ _ _ => (gv_name (pg_name (i := 2) sc_law_rows.nd rfl (Or.inl rfl)))) (fun _ _ _ _ _ => tsv_nil) (fun _ _ _ _ _ => (ev_callW W_law_as (hr.mono (by decide)) hgd rfl (fun _ _ _ _ _ _ us hl => match us, hl with | [_, _], _ => rfl) takes0 (av_cons (ev_var (pv 0)) (av_cons (ev_var (pv 2)) av_nil))))) (av_cons (ev_lc (own := [(".0", 13), ("number", 2)]) rfl sc_law_rows.nd (iv_seq (ev_var (pv 3))) (blkOk_by (N := N_law_rows) (sc := defScope s_law_rows) (by decide +kernel)) (fun _ _ _ _ _ => (gv_name (pg_name (i := 2) sc_law_rows.nd rfl (Or.inl rfl)))) (fun _ _ _ _ _ => tsv_nil) (fun _ _ _ _ _ => (ev_callW W_law_as (hr.mono (by decide)) hgd rfl (fun _ _ _ _ _ _ us hl => match us, hl with | [_, _], _ => rfl) takes0 (av_cons (ev_var (pv 0)) (av_cons (ev_var (pv 2)) av_nil))))) av_nil))))
      (bv_cons (sv_name (i := 9) sc_law_rows.nd rfl (Or.inl rfl) (ev_callB (call_repr hgd (hu64 hr)) m_repr rfl B.repr (by decide +kernel) (av_cons (ev_var (pv 8)) av_nil)))
      (bv_cons (sv_for (passes_of rfl) rfl (iv_range1 rfl B.range (av_cons ev_int av_nil)) (gv_name (pg_name (i := 10) sc_law_rows.nd rfl (Or.inl rfl))) (bv_cons (sv_name (i := 11) sc_law_rows.nd rfl (Or.inl rfl) (ev_if (tv_cmp (op_eqD (hu64 hr)) m_eq (ev_callW W_law_draw (hr.mono (by decide)) hgd rfl (fun _ _ _ _ _ _ us hl => match us, hl with | [_, _], _ => rfl) (takes_of rfl rfl rfl rfl) (av_cons (ev_var (pv 0)) (av_cons ev_int av_nil))) ev_int) (ev_get (ev_var (pv 8)) ev_int) (ev_callTy call_tuple_of m_tup rfl B.tuple (by decide +kernel) (av_cons (ev_get (ev_var (pv 8)) ev_int) av_nil))))
      (bv_one (sv_if (tv_cmp (op_neD (hu64 hr)) m_ne (ev_callB (call_repr hgd (hu64 hr)) m_repr rfl B.repr (by decide +kernel) (av_cons (ev_callW W_law_row_told (hr.mono (by decide)) hgd rfl (fun _ _ _ _ _ _ us hl => match us, hl with | [_, _, _], _ => rfl) (takes_of rfl rfl rfl rfl) (av_cons (ev_var (pv 10)) (av_cons (ev_var (pv 11)) (av_cons (ev_get (ev_var (pv 8)) ev_int) av_nil)))) av_nil)) (ev_callB (call_repr hgd (hu64 hr)) m_repr rfl B.repr (by decide +kernel) (av_cons (ev_get (ev_var (pv 7)) (ev_var (pv 10))) av_nil))) (bv_one (sv_ret ev_bl)) bv_nil))))
      (bv_cons (sv_name (i := 12) sc_law_rows.nd rfl (Or.inr rfl) (ev_op op_addM m_add (ev_get (ev_var (pv 8)) ev_int) (ev_lst (av_cons (ev_callW W_law_bad (hr.mono (by decide)) hgd rfl (fun _ _ _ _ _ _ us hl => match us, hl with | [_], _ => rfl) (takes_of rfl rfl rfl rfl) (av_cons (ev_var (pv 0)) av_nil)) av_nil))))
      (bv_cons (sv_if (tv_cmp (op_neD (hu64 hr)) m_ne (ev_lc (own := [(".0", 13), ("way", 10)]) rfl sc_law_rows.nd (iv_seq (ev_tup (av_cons ev_int (av_cons ev_int (av_cons ev_int av_nil))))) (blkOk_by (N := N_law_rows) (sc := defScope s_law_rows) (by decide +kernel)) (fun _ _ _ _ _ => (gv_name (pg_name (i := 10) sc_law_rows.nd rfl (Or.inl rfl)))) (fun _ _ _ _ _ => tsv_nil) (fun _ _ _ _ _ => (ev_callW W_law_row_told (hr.mono (by decide)) hgd rfl (fun _ _ _ _ _ _ us hl => match us, hl with | [_, _, _], _ => rfl) takes0 (av_cons (ev_var (pv 10)) (av_cons (ev_var (pv 12)) (av_cons (ev_var (pv 3)) av_nil)))))) (ev_lst (av_cons (ev_var (pv 6)) (av_cons (ev_var (pv 6)) (av_cons (ev_var (pv 6)) av_nil))))) (bv_one (sv_ret ev_bl)) bv_nil)
      (bv_cons (sv_if (tv_w (wv_or (tv_cmp (op_neD (hu64 hr)) m_ne (ev_callW W_law_row_told (hr.mono (by decide)) hgd rfl (fun _ _ _ _ _ _ us hl => match us, hl with | [_, _, _], _ => rfl) (takes_of rfl rfl rfl rfl) (av_cons ev_int (av_cons (ev_var (pv 12)) (av_cons (ev_var (pv 12)) av_nil)))) (ev_tup (av_cons ev_str (av_cons ev_str av_nil)))) (wv_or1 (tv_cmp (op_neD (hu64 hr)) m_ne (ev_callW W_law_row_told (hr.mono (by decide)) hgd rfl (fun _ _ _ _ _ _ us hl => match us, hl with | [_, _, _], _ => rfl) (takes_of rfl rfl rfl rfl) (av_cons ev_int (av_cons (ev_var (pv 1)) (av_cons (ev_op op_addM m_add (ev_var (pv 3)) (ev_lst (av_cons ev_int av_nil))) av_nil)))) (ev_tup (av_cons ev_str (av_cons ev_str av_nil))))))) (bv_one (sv_ret ev_bl)) bv_nil)
      (bv_one (sv_ret (ev_and (ev_cmp (op_eqD (hu64 hr)) m_eq (ev_callW W_law_row_told (hr.mono (by decide)) hgd rfl (fun _ _ _ _ _ _ us hl => match us, hl with | [_, _, _], _ => rfl) (takes_of rfl rfl rfl rfl) (av_cons ev_int (av_cons (ev_var (pv 1)) (av_cons ev_int av_nil)))) (ev_tup (av_cons ev_str (av_cons ev_str av_nil)))) (ev_and (ev_cmp (op_eqD (hu64 hr)) m_eq (ev_callW W_law_row_told (hr.mono (by decide)) hgd rfl (fun _ _ _ _ _ _ us hl => match us, hl with | [_, _, _], _ => rfl) (takes_of rfl rfl rfl rfl) (av_cons ev_int (av_cons ev_non (av_cons ev_non av_nil)))) (ev_var (pv 6))) (ev_one (ev_cmp (op_eqD (hu64 hr)) m_eq (ev_callB (call_repr hgd (hu64 hr)) m_repr rfl B.repr (by decide +kernel) (av_cons (ev_var (pv 8)) av_nil)) (ev_var (pv 9)))))))))))))))))))))))
theorem w_law_well (B : Blt mg) (h : Here K mg "_law_well" s_law_well) : DeckOk P w K mg base 1 "_law_well" s_law_well ["script"] 60 :=
  deck_mk (k := 0) h sc_law_well (fun cdv A outer s H E hr hgd =>
    pss_one (ps_ret (pe_lst (pa_cons (pe_lc (own := [("cell", 1)]) (g := gName 1) (tt := tYes) rfl sc_law_well.nd (pi_list (pe_slice sl_list (pv 0) po_none (po_some pe_int)))
      (blkOk_by (N := ["script", "cell"]) (sc := defScope s_law_well) (by decide +kernel)) (fun _ _ _ _ _ => pg_name (i := 1) sc_law_well.nd rfl (Or.inl rfl)) (fun _ _ _ _ _ => pts_nil) (fun _ _ _ _ _ => pe_callTy call_int1 rfl B.int (by decide +kernel) (pa_cons (pv 1) pa_nil)))
      (pa_cons pe_int (pa_cons pe_int pa_nil))))))
theorem w_law (B : Blt mg) (h : Here K mg "law" s_law) (Wd : DeckOk P w K mg base 1 "_law_well" s_law_well ["script"] 60)  (W_law_pairs : Worth P w K mg base 7 "_law_pairs" s_law_pairs ["well"] 1 m_law_pairs) (W_law_rows : Worth P w K mg base 8 "_law_rows" s_law_rows ["well"] 1 m_law_rows)
    (hm : ∀ cells : List Int, cells.length ≤ 63 → ∃ s', g_law (deck0 N_law.length) ⟨cells, 0, 0⟩ = .rt (.bl true) s') :
    ∃ f fd, FnG P w K mg base 9 f fd ["script"] (spLawG K) ∧ Fun K "law" "law" s_law f fd ∧ mg "law" = some (.ref f) :=
  law_mk (k := 8) (N := 60) h sc_law (by decide) hm (fun cdv A outer s H E hr hgd =>
    pss_cons (ps_deck Wd (hr.mono (by decide)) hgd rfl (fun _ _ _ _ _ _ us hl => match us, hl with | [_], _ => rfl) (takes_of rfl rfl rfl rfl) sc_law.nd rfl (Or.inl rfl) (pv 0))
      (bv_cons (sv_for (passes_of rfl) rfl (iv_range1 rfl B.range (av_cons ev_int av_nil)) (gv_name (pg_name (i := 2) sc_law.nd rfl (Or.inl rfl))) (bv_one (sv_if (tv_w (wv_or (tv_not (tv_of (ev_callW W_law_pairs (hr.mono (by decide)) hgd rfl (fun _ _ _ _ _ _ us hl => match us, hl with | [_], _ => rfl) (takes_of rfl rfl rfl rfl) (av_cons (ev_var (pv 1)) av_nil)))) (wv_or1 (tv_not (tv_of (ev_callW W_law_rows (hr.mono (by decide)) hgd rfl (fun _ _ _ _ _ _ us hl => match us, hl with | [_], _ => rfl) (takes_of rfl rfl rfl rfl) (av_cons (ev_var (pv 1)) av_nil))))))) (bv_one (sv_ret ev_bl)) bv_nil)))
      (bv_one (sv_ret ev_bl))))
end
end K03

namespace K03
open PySem L2 FL
/-! ### the checks, plainly -/
def whole : D → Bool
  | .int _ => true
  | _ => false
def intD : D → Int
  | .int i => i
  | _ => 0
theorem whole_or (d : D) : (∃ i, d = .int i) ∨ whole d = false := by cases d <;> simp [whole]
theorem is_integer_eq (d : D) (s : Deck) : m_is_integer [d] s = .ok (.bl (whole d)) s := by cases d <;> rfl
def isSome : D → Bool
  | .lst _ => true
  | .tup _ => true
  | .deck => true
  | _ => false
theorem is_list_eq (d : D) (s : Deck) : m_is_list [d] s = .ok (.bl (isSome d)) s := by cases d <;> rfl
theorem q_is2 {f : FE} {δ : DEnv} {s : Deck} : isi2F f "list" "tuple" δ s = (f δ s).bind fun x s => .ok (.bl (isSome x)) s := by
  rw [q_isi2]; congr 1; funext x s; cases x <;> rfl
@[simp] theorem w_int {i : Int} : whole (.int i) = true := rfl
@[simp] theorem i_int {i : Int} : intD (.int i) = i := rfl
@[simp] theorem l_lst {x : List D} : isSome (.lst x) = true := rfl
@[simp] theorem l_int {i : Int} : isSome (.int i) = false := rfl
@[simp] theorem l_tup {x : List D} : isSome (.tup x) = true := rfl
@[simp] theorem w_lst {x : List D} : whole (.lst x) = false := rfl
@[simp] theorem w_tup {x : List D} : whole (.tup x) = false := rfl
def numP (a b : D) : Bool := whole a && (whole b && (decide (2 ≤ intD b) && decide (Nat.gcd (intD a).natAbs (intD b).natAbs = 1)))
def num : D → Bool
  | .int _ => true
  | .lst [a, b] => numP a b
  | .tup [a, b] => numP a b
  | _ => false
def leO : Option Int → Int → Bool
  | none, _ => true
  | some a, i => decide (a ≤ i)
def geO : Option Int → Int → Bool
  | none, _ => true
  | some a, i => decide (i ≤ a)
def within (d : D) (lo hi : Option Int) : Bool := whole d && (leO lo (intD d) && geO hi (intD d))
def ofO : Option Int → D
  | none => .non
  | some i => .int i
theorem is_within_eq (d : D) (lo hi : Option Int) (s : Deck) : m_is_within [d, ofO lo, ofO hi] s = .ok (.bl (within d lo hi)) s := by
  unfold m_is_within g_is_within within
  rcases whole_or d with ⟨i, rfl⟩ | h
  · cases lo <;> cases hi <;> simp only [ofO, leO, geO, i_int] <;> simp only [q_def, q_seq, q_ite, q_ret, q_set, q_drop, q_asg, q_for, q_for0, q_fc, q_frd_nx, q_frd_rt, q_frd_ct, q_frd_bk, q_turn, q_mkLst, q_mkTup, Nat.reduceLeDiff, q_and_bl, q_or_bl, q_c0, q_c1, q_c2, q_c3, q_c4, q_c5, q_c6, q_c9, q_c13, decide_true, decide_false, Int.reduceEq, Int.reduceLT, Int.reduceLE, Int.reduceAdd, Int.reduceSub, Int.reduceMul, Int.reduceNeg, Int.reducePow, Int.reduceToNat, Int.reduceBNe, Int.reduceNe, Nat.zero_le, q_get, q_cst, q_lift, q_un, q_with, q_av0, q_avC, q_callN, q_callKW, q_andD, q_orD, q_notD, q_fAnd, q_fOr, q_fNot, q_fTru, q_fBoo, q_ifD, q_isN, q_fIsN, q_fNotN, startD, q_bind, q_toS, q_rt, q_nx, q_thn_nx, q_thn_rt, q_okO, q_nxO, q_pure, q_none0, q_none1, q_none2, q_none3, q_none4, q_tru_bl, q_tru_int, q_tru_lst, q_tru_tup, q_tru_non, q_boo, q_seqL, q_seqT, q_lenL, q_lenT, q_eqI, q_neI, q_lt, q_le, q_gt, q_ge, q_add, q_addL, q_sub, q_neg, q_abs, q_int, q_intB, q_max, q_gcd, q_tupL, q_gL, q_gT, q_g0, q_g1, q_g2, q_lc, q_par, q_parO, q_whS, q_slc, q_prt0, q_prt1, q_intR, q_slcL, q_slcT, q_zipL, q_zipT, q_allp, List.length_map, wipeE, List.map_cons, List.map_nil, List.length_cons, List.length_nil, List.replicate, List.cons_append, List.nil_append, List.getElem?_cons_zero, List.getElem?_cons_succ, List.set_cons_zero, List.set_cons_succ, Nat.reduceSub, Nat.reduceAdd, if_true, Bool.not_true, Bool.not_false, Bool.false_eq_true, if_false, reduceIte, setD, List.foldl_cons, List.foldl_nil, q_asgN, q_asgT, q_asgL, q_asgs0, q_asgsC, Option.bind_some, List.append_nil, is_integer_eq, is_list_eq, q_is2, w_int, i_int, w_lst, w_tup, l_lst, l_tup, l_int, Bool.true_and, Bool.false_and, Bool.and_true, Bool.and_false, *]
    all_goals first | rfl | (split <;> simp_all)
  · cases lo <;> cases hi <;> simp only [ofO, leO, geO] <;> simp only [q_def, q_seq, q_ite, q_ret, q_set, q_drop, q_asg, q_for, q_for0, q_fc, q_frd_nx, q_frd_rt, q_frd_ct, q_frd_bk, q_turn, q_mkLst, q_mkTup, Nat.reduceLeDiff, q_and_bl, q_or_bl, q_c0, q_c1, q_c2, q_c3, q_c4, q_c5, q_c6, q_c9, q_c13, decide_true, decide_false, Int.reduceEq, Int.reduceLT, Int.reduceLE, Int.reduceAdd, Int.reduceSub, Int.reduceMul, Int.reduceNeg, Int.reducePow, Int.reduceToNat, Int.reduceBNe, Int.reduceNe, Nat.zero_le, q_get, q_cst, q_lift, q_un, q_with, q_av0, q_avC, q_callN, q_callKW, q_andD, q_orD, q_notD, q_fAnd, q_fOr, q_fNot, q_fTru, q_fBoo, q_ifD, q_isN, q_fIsN, q_fNotN, startD, q_bind, q_toS, q_rt, q_nx, q_thn_nx, q_thn_rt, q_okO, q_nxO, q_pure, q_none0, q_none1, q_none2, q_none3, q_none4, q_tru_bl, q_tru_int, q_tru_lst, q_tru_tup, q_tru_non, q_boo, q_seqL, q_seqT, q_lenL, q_lenT, q_eqI, q_neI, q_lt, q_le, q_gt, q_ge, q_add, q_addL, q_sub, q_neg, q_abs, q_int, q_intB, q_max, q_gcd, q_tupL, q_gL, q_gT, q_g0, q_g1, q_g2, q_lc, q_par, q_parO, q_whS, q_slc, q_prt0, q_prt1, q_intR, q_slcL, q_slcT, q_zipL, q_zipT, q_allp, List.length_map, wipeE, List.map_cons, List.map_nil, List.length_cons, List.length_nil, List.replicate, List.cons_append, List.nil_append, List.getElem?_cons_zero, List.getElem?_cons_succ, List.set_cons_zero, List.set_cons_succ, Nat.reduceSub, Nat.reduceAdd, if_true, Bool.not_true, Bool.not_false, Bool.false_eq_true, if_false, reduceIte, setD, List.foldl_cons, List.foldl_nil, q_asgN, q_asgT, q_asgL, q_asgs0, q_asgsC, Option.bind_some, List.append_nil, is_integer_eq, is_list_eq, q_is2, w_int, i_int, w_lst, w_tup, l_lst, l_tup, l_int, Bool.true_and, Bool.false_and, Bool.and_true, Bool.and_false, *]
theorem within2_eq (d : D) (s : Deck) : m_is_within [d, .int 2, .non] s = .ok (.bl (whole d && decide (2 ≤ intD d))) s := by
  have h := is_within_eq d (some 2) none s
  rw [show within d (some 2) none = (whole d && decide (2 ≤ intD d)) from by unfold within leO geO; simp] at h
  exact h
/-- none of the mixer -/
def nodk : D → Bool
  | .deck => false
  | _ => true
theorem is_number_lt (x y : D) (d : D) (hd : d = .lst [x, y] ∨ d = .tup [x, y]) (s : Deck) : m_is_number [d] s = .ok (.bl (numP x y)) s := by
  unfold m_is_number g_is_number numP
  have e1 : ((Nat.gcd (0:Int).natAbs 0 : Nat) : Int) = 0 := rfl
  rcases whole_or x with ⟨i, rfl⟩ | hx
  · rcases whole_or y with ⟨j, rfl⟩ | hy
    · have e : decide (((Nat.gcd i.natAbs j.natAbs : Nat) : Int) = 1) = decide (Nat.gcd i.natAbs j.natAbs = 1) := by
        congr 1; exact propext ⟨fun h => by exact_mod_cast h, fun h => by exact_mod_cast h⟩
      by_cases c : (2 : Int) ≤ j
      · rcases hd with rfl | rfl <;> simp only [q_def, q_seq, q_ite, q_ret, q_set, q_drop, q_asg, q_for, q_for0, q_fc, q_frd_nx, q_frd_rt, q_frd_ct, q_frd_bk, q_turn, q_mkLst, q_mkTup, Nat.reduceLeDiff, q_and_bl, q_or_bl, q_c0, q_c1, q_c2, q_c3, q_c4, q_c5, q_c6, q_c9, q_c13, decide_true, decide_false, Int.reduceEq, Int.reduceLT, Int.reduceLE, Int.reduceAdd, Int.reduceSub, Int.reduceMul, Int.reduceNeg, Int.reducePow, Int.reduceToNat, Int.reduceBNe, Int.reduceNe, Nat.zero_le, q_get, q_cst, q_lift, q_un, q_with, q_av0, q_avC, q_callN, q_callKW, q_andD, q_orD, q_notD, q_fAnd, q_fOr, q_fNot, q_fTru, q_fBoo, q_ifD, q_isN, q_fIsN, q_fNotN, startD, q_bind, q_toS, q_rt, q_nx, q_thn_nx, q_thn_rt, q_okO, q_nxO, q_pure, q_none0, q_none1, q_none2, q_none3, q_none4, q_tru_bl, q_tru_int, q_tru_lst, q_tru_tup, q_tru_non, q_boo, q_seqL, q_seqT, q_lenL, q_lenT, q_eqI, q_neI, q_lt, q_le, q_gt, q_ge, q_add, q_addL, q_sub, q_neg, q_abs, q_int, q_intB, q_max, q_gcd, q_tupL, q_gL, q_gT, q_g0, q_g1, q_g2, q_lc, q_par, q_parO, q_whS, q_slc, q_prt0, q_prt1, q_intR, q_slcL, q_slcT, q_zipL, q_zipT, q_allp, List.length_map, wipeE, List.map_cons, List.map_nil, List.length_cons, List.length_nil, List.replicate, List.cons_append, List.nil_append, List.getElem?_cons_zero, List.getElem?_cons_succ, List.set_cons_zero, List.set_cons_succ, Nat.reduceSub, Nat.reduceAdd, if_true, Bool.not_true, Bool.not_false, Bool.false_eq_true, if_false, reduceIte, setD, List.foldl_cons, List.foldl_nil, q_asgN, q_asgT, q_asgL, q_asgs0, q_asgsC, Option.bind_some, List.append_nil, is_integer_eq, is_list_eq, q_is2, w_int, i_int, w_lst, w_tup, l_lst, l_tup, l_int, Bool.true_and, Bool.false_and, Bool.and_true, Bool.and_false, within2_eq, *] <;> rfl
      · rcases hd with rfl | rfl <;> simp only [q_def, q_seq, q_ite, q_ret, q_set, q_drop, q_asg, q_for, q_for0, q_fc, q_frd_nx, q_frd_rt, q_frd_ct, q_frd_bk, q_turn, q_mkLst, q_mkTup, Nat.reduceLeDiff, q_and_bl, q_or_bl, q_c0, q_c1, q_c2, q_c3, q_c4, q_c5, q_c6, q_c9, q_c13, decide_true, decide_false, Int.reduceEq, Int.reduceLT, Int.reduceLE, Int.reduceAdd, Int.reduceSub, Int.reduceMul, Int.reduceNeg, Int.reducePow, Int.reduceToNat, Int.reduceBNe, Int.reduceNe, Nat.zero_le, q_get, q_cst, q_lift, q_un, q_with, q_av0, q_avC, q_callN, q_callKW, q_andD, q_orD, q_notD, q_fAnd, q_fOr, q_fNot, q_fTru, q_fBoo, q_ifD, q_isN, q_fIsN, q_fNotN, startD, q_bind, q_toS, q_rt, q_nx, q_thn_nx, q_thn_rt, q_okO, q_nxO, q_pure, q_none0, q_none1, q_none2, q_none3, q_none4, q_tru_bl, q_tru_int, q_tru_lst, q_tru_tup, q_tru_non, q_boo, q_seqL, q_seqT, q_lenL, q_lenT, q_eqI, q_neI, q_lt, q_le, q_gt, q_ge, q_add, q_addL, q_sub, q_neg, q_abs, q_int, q_intB, q_max, q_gcd, q_tupL, q_gL, q_gT, q_g0, q_g1, q_g2, q_lc, q_par, q_parO, q_whS, q_slc, q_prt0, q_prt1, q_intR, q_slcL, q_slcT, q_zipL, q_zipT, q_allp, List.length_map, wipeE, List.map_cons, List.map_nil, List.length_cons, List.length_nil, List.replicate, List.cons_append, List.nil_append, List.getElem?_cons_zero, List.getElem?_cons_succ, List.set_cons_zero, List.set_cons_succ, Nat.reduceSub, Nat.reduceAdd, if_true, Bool.not_true, Bool.not_false, Bool.false_eq_true, if_false, reduceIte, setD, List.foldl_cons, List.foldl_nil, q_asgN, q_asgT, q_asgL, q_asgs0, q_asgsC, Option.bind_some, List.append_nil, is_integer_eq, is_list_eq, q_is2, w_int, i_int, w_lst, w_tup, l_lst, l_tup, l_int, Bool.true_and, Bool.false_and, Bool.and_true, Bool.and_false, within2_eq, decide_false, *]
    · rcases hd with rfl | rfl <;> simp only [q_def, q_seq, q_ite, q_ret, q_set, q_drop, q_asg, q_for, q_for0, q_fc, q_frd_nx, q_frd_rt, q_frd_ct, q_frd_bk, q_turn, q_mkLst, q_mkTup, Nat.reduceLeDiff, q_and_bl, q_or_bl, q_c0, q_c1, q_c2, q_c3, q_c4, q_c5, q_c6, q_c9, q_c13, decide_true, decide_false, Int.reduceEq, Int.reduceLT, Int.reduceLE, Int.reduceAdd, Int.reduceSub, Int.reduceMul, Int.reduceNeg, Int.reducePow, Int.reduceToNat, Int.reduceBNe, Int.reduceNe, Nat.zero_le, q_get, q_cst, q_lift, q_un, q_with, q_av0, q_avC, q_callN, q_callKW, q_andD, q_orD, q_notD, q_fAnd, q_fOr, q_fNot, q_fTru, q_fBoo, q_ifD, q_isN, q_fIsN, q_fNotN, startD, q_bind, q_toS, q_rt, q_nx, q_thn_nx, q_thn_rt, q_okO, q_nxO, q_pure, q_none0, q_none1, q_none2, q_none3, q_none4, q_tru_bl, q_tru_int, q_tru_lst, q_tru_tup, q_tru_non, q_boo, q_seqL, q_seqT, q_lenL, q_lenT, q_eqI, q_neI, q_lt, q_le, q_gt, q_ge, q_add, q_addL, q_sub, q_neg, q_abs, q_int, q_intB, q_max, q_gcd, q_tupL, q_gL, q_gT, q_g0, q_g1, q_g2, q_lc, q_par, q_parO, q_whS, q_slc, q_prt0, q_prt1, q_intR, q_slcL, q_slcT, q_zipL, q_zipT, q_allp, List.length_map, wipeE, List.map_cons, List.map_nil, List.length_cons, List.length_nil, List.replicate, List.cons_append, List.nil_append, List.getElem?_cons_zero, List.getElem?_cons_succ, List.set_cons_zero, List.set_cons_succ, Nat.reduceSub, Nat.reduceAdd, if_true, Bool.not_true, Bool.not_false, Bool.false_eq_true, if_false, reduceIte, setD, List.foldl_cons, List.foldl_nil, q_asgN, q_asgT, q_asgL, q_asgs0, q_asgsC, Option.bind_some, List.append_nil, is_integer_eq, is_list_eq, q_is2, w_int, i_int, w_lst, w_tup, l_lst, l_tup, l_int, Bool.true_and, Bool.false_and, Bool.and_true, Bool.and_false, within2_eq, *]
  · rcases hd with rfl | rfl <;> simp only [q_def, q_seq, q_ite, q_ret, q_set, q_drop, q_asg, q_for, q_for0, q_fc, q_frd_nx, q_frd_rt, q_frd_ct, q_frd_bk, q_turn, q_mkLst, q_mkTup, Nat.reduceLeDiff, q_and_bl, q_or_bl, q_c0, q_c1, q_c2, q_c3, q_c4, q_c5, q_c6, q_c9, q_c13, decide_true, decide_false, Int.reduceEq, Int.reduceLT, Int.reduceLE, Int.reduceAdd, Int.reduceSub, Int.reduceMul, Int.reduceNeg, Int.reducePow, Int.reduceToNat, Int.reduceBNe, Int.reduceNe, Nat.zero_le, q_get, q_cst, q_lift, q_un, q_with, q_av0, q_avC, q_callN, q_callKW, q_andD, q_orD, q_notD, q_fAnd, q_fOr, q_fNot, q_fTru, q_fBoo, q_ifD, q_isN, q_fIsN, q_fNotN, startD, q_bind, q_toS, q_rt, q_nx, q_thn_nx, q_thn_rt, q_okO, q_nxO, q_pure, q_none0, q_none1, q_none2, q_none3, q_none4, q_tru_bl, q_tru_int, q_tru_lst, q_tru_tup, q_tru_non, q_boo, q_seqL, q_seqT, q_lenL, q_lenT, q_eqI, q_neI, q_lt, q_le, q_gt, q_ge, q_add, q_addL, q_sub, q_neg, q_abs, q_int, q_intB, q_max, q_gcd, q_tupL, q_gL, q_gT, q_g0, q_g1, q_g2, q_lc, q_par, q_parO, q_whS, q_slc, q_prt0, q_prt1, q_intR, q_slcL, q_slcT, q_zipL, q_zipT, q_allp, List.length_map, wipeE, List.map_cons, List.map_nil, List.length_cons, List.length_nil, List.replicate, List.cons_append, List.nil_append, List.getElem?_cons_zero, List.getElem?_cons_succ, List.set_cons_zero, List.set_cons_succ, Nat.reduceSub, Nat.reduceAdd, if_true, Bool.not_true, Bool.not_false, Bool.false_eq_true, if_false, reduceIte, setD, List.foldl_cons, List.foldl_nil, q_asgN, q_asgT, q_asgL, q_asgs0, q_asgsC, Option.bind_some, List.append_nil, is_integer_eq, is_list_eq, q_is2, w_int, i_int, w_lst, w_tup, l_lst, l_tup, l_int, Bool.true_and, Bool.false_and, Bool.and_true, Bool.and_false, *]
theorem is_number_eq (d : D) (h : nodk d = true) (s : Deck) : m_is_number [d] s = .ok (.bl (num d)) s := by
  have two : ∀ x y z : D, ∀ r : List D, decide (((x :: y :: z :: r).length : Int) = 2) = false := fun x y z r => decide_eq_false (by simp; omega)
  cases d with
  | deck => cases h
  | lst xs =>
    match xs with
    | [] => unfold m_is_number g_is_number num; simp only [q_def, q_seq, q_ite, q_ret, q_set, q_drop, q_asg, q_for, q_for0, q_fc, q_frd_nx, q_frd_rt, q_frd_ct, q_frd_bk, q_turn, q_mkLst, q_mkTup, Nat.reduceLeDiff, q_and_bl, q_or_bl, q_c0, q_c1, q_c2, q_c3, q_c4, q_c5, q_c6, q_c9, q_c13, decide_true, decide_false, Int.reduceEq, Int.reduceLT, Int.reduceLE, Int.reduceAdd, Int.reduceSub, Int.reduceMul, Int.reduceNeg, Int.reducePow, Int.reduceToNat, Int.reduceBNe, Int.reduceNe, Nat.zero_le, q_get, q_cst, q_lift, q_un, q_with, q_av0, q_avC, q_callN, q_callKW, q_andD, q_orD, q_notD, q_fAnd, q_fOr, q_fNot, q_fTru, q_fBoo, q_ifD, q_isN, q_fIsN, q_fNotN, startD, q_bind, q_toS, q_rt, q_nx, q_thn_nx, q_thn_rt, q_okO, q_nxO, q_pure, q_none0, q_none1, q_none2, q_none3, q_none4, q_tru_bl, q_tru_int, q_tru_lst, q_tru_tup, q_tru_non, q_boo, q_seqL, q_seqT, q_lenL, q_lenT, q_eqI, q_neI, q_lt, q_le, q_gt, q_ge, q_add, q_addL, q_sub, q_neg, q_abs, q_int, q_intB, q_max, q_gcd, q_tupL, q_gL, q_gT, q_g0, q_g1, q_g2, q_lc, q_par, q_parO, q_whS, q_slc, q_prt0, q_prt1, q_intR, q_slcL, q_slcT, q_zipL, q_zipT, q_allp, List.length_map, wipeE, List.map_cons, List.map_nil, List.length_cons, List.length_nil, List.replicate, List.cons_append, List.nil_append, List.getElem?_cons_zero, List.getElem?_cons_succ, List.set_cons_zero, List.set_cons_succ, Nat.reduceSub, Nat.reduceAdd, if_true, Bool.not_true, Bool.not_false, Bool.false_eq_true, if_false, reduceIte, setD, List.foldl_cons, List.foldl_nil, q_asgN, q_asgT, q_asgL, q_asgs0, q_asgsC, Option.bind_some, List.append_nil, is_integer_eq, is_list_eq, q_is2, w_int, i_int, w_lst, w_tup, l_lst, l_tup, l_int, Bool.true_and, Bool.false_and, Bool.and_true, Bool.and_false, *]
    | [x] => unfold m_is_number g_is_number num; simp only [q_def, q_seq, q_ite, q_ret, q_set, q_drop, q_asg, q_for, q_for0, q_fc, q_frd_nx, q_frd_rt, q_frd_ct, q_frd_bk, q_turn, q_mkLst, q_mkTup, Nat.reduceLeDiff, q_and_bl, q_or_bl, q_c0, q_c1, q_c2, q_c3, q_c4, q_c5, q_c6, q_c9, q_c13, decide_true, decide_false, Int.reduceEq, Int.reduceLT, Int.reduceLE, Int.reduceAdd, Int.reduceSub, Int.reduceMul, Int.reduceNeg, Int.reducePow, Int.reduceToNat, Int.reduceBNe, Int.reduceNe, Nat.zero_le, q_get, q_cst, q_lift, q_un, q_with, q_av0, q_avC, q_callN, q_callKW, q_andD, q_orD, q_notD, q_fAnd, q_fOr, q_fNot, q_fTru, q_fBoo, q_ifD, q_isN, q_fIsN, q_fNotN, startD, q_bind, q_toS, q_rt, q_nx, q_thn_nx, q_thn_rt, q_okO, q_nxO, q_pure, q_none0, q_none1, q_none2, q_none3, q_none4, q_tru_bl, q_tru_int, q_tru_lst, q_tru_tup, q_tru_non, q_boo, q_seqL, q_seqT, q_lenL, q_lenT, q_eqI, q_neI, q_lt, q_le, q_gt, q_ge, q_add, q_addL, q_sub, q_neg, q_abs, q_int, q_intB, q_max, q_gcd, q_tupL, q_gL, q_gT, q_g0, q_g1, q_g2, q_lc, q_par, q_parO, q_whS, q_slc, q_prt0, q_prt1, q_intR, q_slcL, q_slcT, q_zipL, q_zipT, q_allp, List.length_map, wipeE, List.map_cons, List.map_nil, List.length_cons, List.length_nil, List.replicate, List.cons_append, List.nil_append, List.getElem?_cons_zero, List.getElem?_cons_succ, List.set_cons_zero, List.set_cons_succ, Nat.reduceSub, Nat.reduceAdd, if_true, Bool.not_true, Bool.not_false, Bool.false_eq_true, if_false, reduceIte, setD, List.foldl_cons, List.foldl_nil, q_asgN, q_asgT, q_asgL, q_asgs0, q_asgsC, Option.bind_some, List.append_nil, is_integer_eq, is_list_eq, q_is2, w_int, i_int, w_lst, w_tup, l_lst, l_tup, l_int, Bool.true_and, Bool.false_and, Bool.and_true, Bool.and_false, *]
    | x :: y :: z :: r =>
      have := two x y z r
      simp only [List.length_cons] at this
      unfold m_is_number g_is_number num; simp only [q_def, q_seq, q_ite, q_ret, q_set, q_drop, q_asg, q_for, q_for0, q_fc, q_frd_nx, q_frd_rt, q_frd_ct, q_frd_bk, q_turn, q_mkLst, q_mkTup, Nat.reduceLeDiff, q_and_bl, q_or_bl, q_c0, q_c1, q_c2, q_c3, q_c4, q_c5, q_c6, q_c9, q_c13, decide_true, decide_false, Int.reduceEq, Int.reduceLT, Int.reduceLE, Int.reduceAdd, Int.reduceSub, Int.reduceMul, Int.reduceNeg, Int.reducePow, Int.reduceToNat, Int.reduceBNe, Int.reduceNe, Nat.zero_le, q_get, q_cst, q_lift, q_un, q_with, q_av0, q_avC, q_callN, q_callKW, q_andD, q_orD, q_notD, q_fAnd, q_fOr, q_fNot, q_fTru, q_fBoo, q_ifD, q_isN, q_fIsN, q_fNotN, startD, q_bind, q_toS, q_rt, q_nx, q_thn_nx, q_thn_rt, q_okO, q_nxO, q_pure, q_none0, q_none1, q_none2, q_none3, q_none4, q_tru_bl, q_tru_int, q_tru_lst, q_tru_tup, q_tru_non, q_boo, q_seqL, q_seqT, q_lenL, q_lenT, q_eqI, q_neI, q_lt, q_le, q_gt, q_ge, q_add, q_addL, q_sub, q_neg, q_abs, q_int, q_intB, q_max, q_gcd, q_tupL, q_gL, q_gT, q_g0, q_g1, q_g2, q_lc, q_par, q_parO, q_whS, q_slc, q_prt0, q_prt1, q_intR, q_slcL, q_slcT, q_zipL, q_zipT, q_allp, List.length_map, wipeE, List.map_cons, List.map_nil, List.length_cons, List.length_nil, List.replicate, List.cons_append, List.nil_append, List.getElem?_cons_zero, List.getElem?_cons_succ, List.set_cons_zero, List.set_cons_succ, Nat.reduceSub, Nat.reduceAdd, if_true, Bool.not_true, Bool.not_false, Bool.false_eq_true, if_false, reduceIte, setD, List.foldl_cons, List.foldl_nil, q_asgN, q_asgT, q_asgL, q_asgs0, q_asgsC, Option.bind_some, List.append_nil, is_integer_eq, is_list_eq, q_is2, w_int, i_int, w_lst, w_tup, l_lst, l_tup, l_int, Bool.true_and, Bool.false_and, Bool.and_true, Bool.and_false, *]
    | [x, y] => exact is_number_lt x y _ (.inl rfl) s
  | tup xs =>
    match xs with
    | [] => unfold m_is_number g_is_number num; simp only [q_def, q_seq, q_ite, q_ret, q_set, q_drop, q_asg, q_for, q_for0, q_fc, q_frd_nx, q_frd_rt, q_frd_ct, q_frd_bk, q_turn, q_mkLst, q_mkTup, Nat.reduceLeDiff, q_and_bl, q_or_bl, q_c0, q_c1, q_c2, q_c3, q_c4, q_c5, q_c6, q_c9, q_c13, decide_true, decide_false, Int.reduceEq, Int.reduceLT, Int.reduceLE, Int.reduceAdd, Int.reduceSub, Int.reduceMul, Int.reduceNeg, Int.reducePow, Int.reduceToNat, Int.reduceBNe, Int.reduceNe, Nat.zero_le, q_get, q_cst, q_lift, q_un, q_with, q_av0, q_avC, q_callN, q_callKW, q_andD, q_orD, q_notD, q_fAnd, q_fOr, q_fNot, q_fTru, q_fBoo, q_ifD, q_isN, q_fIsN, q_fNotN, startD, q_bind, q_toS, q_rt, q_nx, q_thn_nx, q_thn_rt, q_okO, q_nxO, q_pure, q_none0, q_none1, q_none2, q_none3, q_none4, q_tru_bl, q_tru_int, q_tru_lst, q_tru_tup, q_tru_non, q_boo, q_seqL, q_seqT, q_lenL, q_lenT, q_eqI, q_neI, q_lt, q_le, q_gt, q_ge, q_add, q_addL, q_sub, q_neg, q_abs, q_int, q_intB, q_max, q_gcd, q_tupL, q_gL, q_gT, q_g0, q_g1, q_g2, q_lc, q_par, q_parO, q_whS, q_slc, q_prt0, q_prt1, q_intR, q_slcL, q_slcT, q_zipL, q_zipT, q_allp, List.length_map, wipeE, List.map_cons, List.map_nil, List.length_cons, List.length_nil, List.replicate, List.cons_append, List.nil_append, List.getElem?_cons_zero, List.getElem?_cons_succ, List.set_cons_zero, List.set_cons_succ, Nat.reduceSub, Nat.reduceAdd, if_true, Bool.not_true, Bool.not_false, Bool.false_eq_true, if_false, reduceIte, setD, List.foldl_cons, List.foldl_nil, q_asgN, q_asgT, q_asgL, q_asgs0, q_asgsC, Option.bind_some, List.append_nil, is_integer_eq, is_list_eq, q_is2, w_int, i_int, w_lst, w_tup, l_lst, l_tup, l_int, Bool.true_and, Bool.false_and, Bool.and_true, Bool.and_false, *]
    | [x] => unfold m_is_number g_is_number num; simp only [q_def, q_seq, q_ite, q_ret, q_set, q_drop, q_asg, q_for, q_for0, q_fc, q_frd_nx, q_frd_rt, q_frd_ct, q_frd_bk, q_turn, q_mkLst, q_mkTup, Nat.reduceLeDiff, q_and_bl, q_or_bl, q_c0, q_c1, q_c2, q_c3, q_c4, q_c5, q_c6, q_c9, q_c13, decide_true, decide_false, Int.reduceEq, Int.reduceLT, Int.reduceLE, Int.reduceAdd, Int.reduceSub, Int.reduceMul, Int.reduceNeg, Int.reducePow, Int.reduceToNat, Int.reduceBNe, Int.reduceNe, Nat.zero_le, q_get, q_cst, q_lift, q_un, q_with, q_av0, q_avC, q_callN, q_callKW, q_andD, q_orD, q_notD, q_fAnd, q_fOr, q_fNot, q_fTru, q_fBoo, q_ifD, q_isN, q_fIsN, q_fNotN, startD, q_bind, q_toS, q_rt, q_nx, q_thn_nx, q_thn_rt, q_okO, q_nxO, q_pure, q_none0, q_none1, q_none2, q_none3, q_none4, q_tru_bl, q_tru_int, q_tru_lst, q_tru_tup, q_tru_non, q_boo, q_seqL, q_seqT, q_lenL, q_lenT, q_eqI, q_neI, q_lt, q_le, q_gt, q_ge, q_add, q_addL, q_sub, q_neg, q_abs, q_int, q_intB, q_max, q_gcd, q_tupL, q_gL, q_gT, q_g0, q_g1, q_g2, q_lc, q_par, q_parO, q_whS, q_slc, q_prt0, q_prt1, q_intR, q_slcL, q_slcT, q_zipL, q_zipT, q_allp, List.length_map, wipeE, List.map_cons, List.map_nil, List.length_cons, List.length_nil, List.replicate, List.cons_append, List.nil_append, List.getElem?_cons_zero, List.getElem?_cons_succ, List.set_cons_zero, List.set_cons_succ, Nat.reduceSub, Nat.reduceAdd, if_true, Bool.not_true, Bool.not_false, Bool.false_eq_true, if_false, reduceIte, setD, List.foldl_cons, List.foldl_nil, q_asgN, q_asgT, q_asgL, q_asgs0, q_asgsC, Option.bind_some, List.append_nil, is_integer_eq, is_list_eq, q_is2, w_int, i_int, w_lst, w_tup, l_lst, l_tup, l_int, Bool.true_and, Bool.false_and, Bool.and_true, Bool.and_false, *]
    | x :: y :: z :: r =>
      have := two x y z r
      simp only [List.length_cons] at this
      unfold m_is_number g_is_number num; simp only [q_def, q_seq, q_ite, q_ret, q_set, q_drop, q_asg, q_for, q_for0, q_fc, q_frd_nx, q_frd_rt, q_frd_ct, q_frd_bk, q_turn, q_mkLst, q_mkTup, Nat.reduceLeDiff, q_and_bl, q_or_bl, q_c0, q_c1, q_c2, q_c3, q_c4, q_c5, q_c6, q_c9, q_c13, decide_true, decide_false, Int.reduceEq, Int.reduceLT, Int.reduceLE, Int.reduceAdd, Int.reduceSub, Int.reduceMul, Int.reduceNeg, Int.reducePow, Int.reduceToNat, Int.reduceBNe, Int.reduceNe, Nat.zero_le, q_get, q_cst, q_lift, q_un, q_with, q_av0, q_avC, q_callN, q_callKW, q_andD, q_orD, q_notD, q_fAnd, q_fOr, q_fNot, q_fTru, q_fBoo, q_ifD, q_isN, q_fIsN, q_fNotN, startD, q_bind, q_toS, q_rt, q_nx, q_thn_nx, q_thn_rt, q_okO, q_nxO, q_pure, q_none0, q_none1, q_none2, q_none3, q_none4, q_tru_bl, q_tru_int, q_tru_lst, q_tru_tup, q_tru_non, q_boo, q_seqL, q_seqT, q_lenL, q_lenT, q_eqI, q_neI, q_lt, q_le, q_gt, q_ge, q_add, q_addL, q_sub, q_neg, q_abs, q_int, q_intB, q_max, q_gcd, q_tupL, q_gL, q_gT, q_g0, q_g1, q_g2, q_lc, q_par, q_parO, q_whS, q_slc, q_prt0, q_prt1, q_intR, q_slcL, q_slcT, q_zipL, q_zipT, q_allp, List.length_map, wipeE, List.map_cons, List.map_nil, List.length_cons, List.length_nil, List.replicate, List.cons_append, List.nil_append, List.getElem?_cons_zero, List.getElem?_cons_succ, List.set_cons_zero, List.set_cons_succ, Nat.reduceSub, Nat.reduceAdd, if_true, Bool.not_true, Bool.not_false, Bool.false_eq_true, if_false, reduceIte, setD, List.foldl_cons, List.foldl_nil, q_asgN, q_asgT, q_asgL, q_asgs0, q_asgsC, Option.bind_some, List.append_nil, is_integer_eq, is_list_eq, q_is2, w_int, i_int, w_lst, w_tup, l_lst, l_tup, l_int, Bool.true_and, Bool.false_and, Bool.and_true, Bool.and_false, *]
    | [x, y] => exact is_number_lt x y _ (.inr rfl) s
  | _ => rfl
theorem at0 {x : D} {r : List D} : atI (x :: r) 0 = some x := by unfold atI ixN; simp
theorem at1 {x y : D} {r : List D} : atI (x :: y :: r) 1 = some y := by
  unfold atI ixN
  simp
  rw [if_pos (by omega)]
  rfl
def okD (d : D) : Bool := match d with
  | .deck => false
  | .lst xs => decide (xs.length ≤ 1000) && xs.all nodk
  | .tup xs => decide (xs.length ≤ 1000) && xs.all nodk
  | _ => true
def items : D → List D
  | .lst xs => xs
  | .tup xs => xs
  | _ => []
theorem seq_or {d : D} (h : okD d = true) : (∃ xs : List D, d = .lst xs ∧ xs.length ≤ 16777216 ∧ ∀ x ∈ xs, nodk x = true) ∨ (∃ xs : List D, d = .tup xs ∧ xs.length ≤ 16777216 ∧ ∀ x ∈ xs, nodk x = true) ∨ (isSome d = false ∧ items d = []) := by
  cases d with
  | deck => cases h
  | lst xs =>
    simp only [okD, Bool.and_eq_true, decide_eq_true_eq, List.all_eq_true] at h
    exact .inl ⟨xs, rfl, by omega, h.2⟩
  | tup xs =>
    simp only [okD, Bool.and_eq_true, decide_eq_true_eq, List.all_eq_true] at h
    exact .inr (.inl ⟨xs, rfl, by omega, h.2⟩)
  | _ => exact .inr (.inr ⟨rfl, rfl⟩)
@[simp] theorem i_lst {x : List D} : items (.lst x) = x := rfl
@[simp] theorem i_tup {x : List D} : items (.tup x) = x := rfl
theorem elem1 {i : Nat} {vs : List Nat} {f : FE} {δ : DEnv} {x : D} {s : Deck} {y : D} (h2 : vs.contains i = true) (h : f ((wipeE δ vs).set i (some x)) s = .ok y s) : elemD (.nm i) vs yesT f δ x s = .ok (some y) s := by
  rw [q_elem rfl (by simpa [patIn] using h2)]
  show (f ((wipeE δ vs).set i (some x)) s).bind _ = _
  rw [h]
  rfl
def nums (d : D) : Bool := isSome d && (items d).all num
theorem numbers_comp (d : D) (xs : List D) (hx : ∀ x ∈ xs, nodk x = true) (s : Deck) : compD (elemD (.nm 2) [1, 2] yesT (withA (avC (getE 2) av0) (callN 1 m_is_number)) [some d, none, none]) xs s = R.ok (xs.map fun x => .bl (num x)) s :=
  q_comp fun x hm => elem1 rfl (by simp only [q_def, q_seq, q_ite, q_ret, q_set, q_drop, q_asg, q_for, q_for0, q_fc, q_frd_nx, q_frd_rt, q_frd_ct, q_frd_bk, q_turn, q_mkLst, q_mkTup, Nat.reduceLeDiff, q_and_bl, q_or_bl, q_c0, q_c1, q_c2, q_c3, q_c4, q_c5, q_c6, q_c9, q_c13, decide_true, decide_false, Int.reduceEq, Int.reduceLT, Int.reduceLE, Int.reduceAdd, Int.reduceSub, Int.reduceMul, Int.reduceNeg, Int.reducePow, Int.reduceToNat, Int.reduceBNe, Int.reduceNe, Nat.zero_le, q_get, q_cst, q_lift, q_un, q_with, q_av0, q_avC, q_callN, q_callKW, q_andD, q_orD, q_notD, q_fAnd, q_fOr, q_fNot, q_fTru, q_fBoo, q_ifD, q_isN, q_fIsN, q_fNotN, startD, q_bind, q_toS, q_rt, q_nx, q_thn_nx, q_thn_rt, q_okO, q_nxO, q_pure, q_none0, q_none1, q_none2, q_none3, q_none4, q_tru_bl, q_tru_int, q_tru_lst, q_tru_tup, q_tru_non, q_boo, q_seqL, q_seqT, q_lenL, q_lenT, q_eqI, q_neI, q_lt, q_le, q_gt, q_ge, q_add, q_addL, q_sub, q_neg, q_abs, q_int, q_intB, q_max, q_gcd, q_tupL, q_gL, q_gT, q_g0, q_g1, q_g2, q_lc, q_par, q_parO, q_whS, q_slc, q_prt0, q_prt1, q_intR, q_slcL, q_slcT, q_zipL, q_zipT, q_allp, List.length_map, wipeE, List.map_cons, List.map_nil, List.length_cons, List.length_nil, List.replicate, List.cons_append, List.nil_append, List.getElem?_cons_zero, List.getElem?_cons_succ, List.set_cons_zero, List.set_cons_succ, Nat.reduceSub, Nat.reduceAdd, if_true, Bool.not_true, Bool.not_false, Bool.false_eq_true, if_false, reduceIte, setD, List.foldl_cons, List.foldl_nil, q_asgN, q_asgT, q_asgL, q_asgs0, q_asgsC, Option.bind_some, List.append_nil, is_integer_eq, is_list_eq, q_is2, w_int, i_int, w_lst, w_tup, l_lst, l_tup, l_int, Bool.true_and, Bool.false_and, Bool.and_true, Bool.and_false, is_number_eq x (hx x hm), *])
theorem is_numbers_eq (d : D) (h : okD d = true) (s : Deck) : m_is_numbers [d] s = .ok (.bl (nums d)) s := by
  unfold m_is_numbers g_is_numbers nums
  rcases seq_or h with ⟨xs, rfl, hl, hx⟩ | ⟨xs, rfl, hl, hx⟩ | ⟨h1, h2⟩
  · simp only [q_def, q_seq, q_ite, q_ret, q_set, q_drop, q_asg, q_for, q_for0, q_fc, q_frd_nx, q_frd_rt, q_frd_ct, q_frd_bk, q_turn, q_mkLst, q_mkTup, Nat.reduceLeDiff, q_and_bl, q_or_bl, q_c0, q_c1, q_c2, q_c3, q_c4, q_c5, q_c6, q_c9, q_c13, decide_true, decide_false, Int.reduceEq, Int.reduceLT, Int.reduceLE, Int.reduceAdd, Int.reduceSub, Int.reduceMul, Int.reduceNeg, Int.reducePow, Int.reduceToNat, Int.reduceBNe, Int.reduceNe, Nat.zero_le, q_get, q_cst, q_lift, q_un, q_with, q_av0, q_avC, q_callN, q_callKW, q_andD, q_orD, q_notD, q_fAnd, q_fOr, q_fNot, q_fTru, q_fBoo, q_ifD, q_isN, q_fIsN, q_fNotN, startD, q_bind, q_toS, q_rt, q_nx, q_thn_nx, q_thn_rt, q_okO, q_nxO, q_pure, q_none0, q_none1, q_none2, q_none3, q_none4, q_tru_bl, q_tru_int, q_tru_lst, q_tru_tup, q_tru_non, q_boo, q_seqL, q_seqT, q_lenL, q_lenT, q_eqI, q_neI, q_lt, q_le, q_gt, q_ge, q_add, q_addL, q_sub, q_neg, q_abs, q_int, q_intB, q_max, q_gcd, q_tupL, q_gL, q_gT, q_g0, q_g1, q_g2, q_lc, q_par, q_parO, q_whS, q_slc, q_prt0, q_prt1, q_intR, q_slcL, q_slcT, q_zipL, q_zipT, q_allp, List.length_map, wipeE, List.map_cons, List.map_nil, List.length_cons, List.length_nil, List.replicate, List.cons_append, List.nil_append, List.getElem?_cons_zero, List.getElem?_cons_succ, List.set_cons_zero, List.set_cons_succ, Nat.reduceSub, Nat.reduceAdd, if_true, Bool.not_true, Bool.not_false, Bool.false_eq_true, if_false, reduceIte, setD, List.foldl_cons, List.foldl_nil, q_asgN, q_asgT, q_asgL, q_asgs0, q_asgsC, Option.bind_some, List.append_nil, is_integer_eq, is_list_eq, q_is2, w_int, i_int, w_lst, w_tup, l_lst, l_tup, l_int, Bool.true_and, Bool.false_and, Bool.and_true, Bool.and_false, numbers_comp (.lst xs) xs hx s, i_lst, *]
  · simp only [q_def, q_seq, q_ite, q_ret, q_set, q_drop, q_asg, q_for, q_for0, q_fc, q_frd_nx, q_frd_rt, q_frd_ct, q_frd_bk, q_turn, q_mkLst, q_mkTup, Nat.reduceLeDiff, q_and_bl, q_or_bl, q_c0, q_c1, q_c2, q_c3, q_c4, q_c5, q_c6, q_c9, q_c13, decide_true, decide_false, Int.reduceEq, Int.reduceLT, Int.reduceLE, Int.reduceAdd, Int.reduceSub, Int.reduceMul, Int.reduceNeg, Int.reducePow, Int.reduceToNat, Int.reduceBNe, Int.reduceNe, Nat.zero_le, q_get, q_cst, q_lift, q_un, q_with, q_av0, q_avC, q_callN, q_callKW, q_andD, q_orD, q_notD, q_fAnd, q_fOr, q_fNot, q_fTru, q_fBoo, q_ifD, q_isN, q_fIsN, q_fNotN, startD, q_bind, q_toS, q_rt, q_nx, q_thn_nx, q_thn_rt, q_okO, q_nxO, q_pure, q_none0, q_none1, q_none2, q_none3, q_none4, q_tru_bl, q_tru_int, q_tru_lst, q_tru_tup, q_tru_non, q_boo, q_seqL, q_seqT, q_lenL, q_lenT, q_eqI, q_neI, q_lt, q_le, q_gt, q_ge, q_add, q_addL, q_sub, q_neg, q_abs, q_int, q_intB, q_max, q_gcd, q_tupL, q_gL, q_gT, q_g0, q_g1, q_g2, q_lc, q_par, q_parO, q_whS, q_slc, q_prt0, q_prt1, q_intR, q_slcL, q_slcT, q_zipL, q_zipT, q_allp, List.length_map, wipeE, List.map_cons, List.map_nil, List.length_cons, List.length_nil, List.replicate, List.cons_append, List.nil_append, List.getElem?_cons_zero, List.getElem?_cons_succ, List.set_cons_zero, List.set_cons_succ, Nat.reduceSub, Nat.reduceAdd, if_true, Bool.not_true, Bool.not_false, Bool.false_eq_true, if_false, reduceIte, setD, List.foldl_cons, List.foldl_nil, q_asgN, q_asgT, q_asgL, q_asgs0, q_asgsC, Option.bind_some, List.append_nil, is_integer_eq, is_list_eq, q_is2, w_int, i_int, w_lst, w_tup, l_lst, l_tup, l_int, Bool.true_and, Bool.false_and, Bool.and_true, Bool.and_false, numbers_comp (.tup xs) xs hx s, i_tup, *]
  · simp only [q_def, q_seq, q_ite, q_ret, q_set, q_drop, q_asg, q_for, q_for0, q_fc, q_frd_nx, q_frd_rt, q_frd_ct, q_frd_bk, q_turn, q_mkLst, q_mkTup, Nat.reduceLeDiff, q_and_bl, q_or_bl, q_c0, q_c1, q_c2, q_c3, q_c4, q_c5, q_c6, q_c9, q_c13, decide_true, decide_false, Int.reduceEq, Int.reduceLT, Int.reduceLE, Int.reduceAdd, Int.reduceSub, Int.reduceMul, Int.reduceNeg, Int.reducePow, Int.reduceToNat, Int.reduceBNe, Int.reduceNe, Nat.zero_le, q_get, q_cst, q_lift, q_un, q_with, q_av0, q_avC, q_callN, q_callKW, q_andD, q_orD, q_notD, q_fAnd, q_fOr, q_fNot, q_fTru, q_fBoo, q_ifD, q_isN, q_fIsN, q_fNotN, startD, q_bind, q_toS, q_rt, q_nx, q_thn_nx, q_thn_rt, q_okO, q_nxO, q_pure, q_none0, q_none1, q_none2, q_none3, q_none4, q_tru_bl, q_tru_int, q_tru_lst, q_tru_tup, q_tru_non, q_boo, q_seqL, q_seqT, q_lenL, q_lenT, q_eqI, q_neI, q_lt, q_le, q_gt, q_ge, q_add, q_addL, q_sub, q_neg, q_abs, q_int, q_intB, q_max, q_gcd, q_tupL, q_gL, q_gT, q_g0, q_g1, q_g2, q_lc, q_par, q_parO, q_whS, q_slc, q_prt0, q_prt1, q_intR, q_slcL, q_slcT, q_zipL, q_zipT, q_allp, List.length_map, wipeE, List.map_cons, List.map_nil, List.length_cons, List.length_nil, List.replicate, List.cons_append, List.nil_append, List.getElem?_cons_zero, List.getElem?_cons_succ, List.set_cons_zero, List.set_cons_succ, Nat.reduceSub, Nat.reduceAdd, if_true, Bool.not_true, Bool.not_false, Bool.false_eq_true, if_false, reduceIte, setD, List.foldl_cons, List.foldl_nil, q_asgN, q_asgT, q_asgL, q_asgs0, q_asgsC, Option.bind_some, List.append_nil, is_integer_eq, is_list_eq, q_is2, w_int, i_int, w_lst, w_tup, l_lst, l_tup, l_int, Bool.true_and, Bool.false_and, Bool.and_true, Bool.and_false, *]
def lenD (d : D) : Nat := (items d).length
def row (d : D) (n : Int) : Bool := isSome d && (decide ((lenD d : Int) = n) && nums d)
theorem is_row_eq (d : D) (n : Int) (h : okD d = true) (s : Deck) : m_is_row [d, .int n] s = .ok (.bl (row d n)) s := by
  unfold m_is_row g_is_row row lenD
  rcases seq_or h with ⟨xs, rfl, hl, hx⟩ | ⟨xs, rfl, hl, hx⟩ | ⟨h1, h2⟩
  · simp only [q_def, q_seq, q_ite, q_ret, q_set, q_drop, q_asg, q_for, q_for0, q_fc, q_frd_nx, q_frd_rt, q_frd_ct, q_frd_bk, q_turn, q_mkLst, q_mkTup, Nat.reduceLeDiff, q_and_bl, q_or_bl, q_c0, q_c1, q_c2, q_c3, q_c4, q_c5, q_c6, q_c9, q_c13, decide_true, decide_false, Int.reduceEq, Int.reduceLT, Int.reduceLE, Int.reduceAdd, Int.reduceSub, Int.reduceMul, Int.reduceNeg, Int.reducePow, Int.reduceToNat, Int.reduceBNe, Int.reduceNe, Nat.zero_le, q_get, q_cst, q_lift, q_un, q_with, q_av0, q_avC, q_callN, q_callKW, q_andD, q_orD, q_notD, q_fAnd, q_fOr, q_fNot, q_fTru, q_fBoo, q_ifD, q_isN, q_fIsN, q_fNotN, startD, q_bind, q_toS, q_rt, q_nx, q_thn_nx, q_thn_rt, q_okO, q_nxO, q_pure, q_none0, q_none1, q_none2, q_none3, q_none4, q_tru_bl, q_tru_int, q_tru_lst, q_tru_tup, q_tru_non, q_boo, q_seqL, q_seqT, q_lenL, q_lenT, q_eqI, q_neI, q_lt, q_le, q_gt, q_ge, q_add, q_addL, q_sub, q_neg, q_abs, q_int, q_intB, q_max, q_gcd, q_tupL, q_gL, q_gT, q_g0, q_g1, q_g2, q_lc, q_par, q_parO, q_whS, q_slc, q_prt0, q_prt1, q_intR, q_slcL, q_slcT, q_zipL, q_zipT, q_allp, List.length_map, wipeE, List.map_cons, List.map_nil, List.length_cons, List.length_nil, List.replicate, List.cons_append, List.nil_append, List.getElem?_cons_zero, List.getElem?_cons_succ, List.set_cons_zero, List.set_cons_succ, Nat.reduceSub, Nat.reduceAdd, if_true, Bool.not_true, Bool.not_false, Bool.false_eq_true, if_false, reduceIte, setD, List.foldl_cons, List.foldl_nil, q_asgN, q_asgT, q_asgL, q_asgs0, q_asgsC, Option.bind_some, List.append_nil, is_integer_eq, is_list_eq, q_is2, w_int, i_int, w_lst, w_tup, l_lst, l_tup, l_int, Bool.true_and, Bool.false_and, Bool.and_true, Bool.and_false, is_numbers_eq _ h, i_lst, *] <;> rfl
  · simp only [q_def, q_seq, q_ite, q_ret, q_set, q_drop, q_asg, q_for, q_for0, q_fc, q_frd_nx, q_frd_rt, q_frd_ct, q_frd_bk, q_turn, q_mkLst, q_mkTup, Nat.reduceLeDiff, q_and_bl, q_or_bl, q_c0, q_c1, q_c2, q_c3, q_c4, q_c5, q_c6, q_c9, q_c13, decide_true, decide_false, Int.reduceEq, Int.reduceLT, Int.reduceLE, Int.reduceAdd, Int.reduceSub, Int.reduceMul, Int.reduceNeg, Int.reducePow, Int.reduceToNat, Int.reduceBNe, Int.reduceNe, Nat.zero_le, q_get, q_cst, q_lift, q_un, q_with, q_av0, q_avC, q_callN, q_callKW, q_andD, q_orD, q_notD, q_fAnd, q_fOr, q_fNot, q_fTru, q_fBoo, q_ifD, q_isN, q_fIsN, q_fNotN, startD, q_bind, q_toS, q_rt, q_nx, q_thn_nx, q_thn_rt, q_okO, q_nxO, q_pure, q_none0, q_none1, q_none2, q_none3, q_none4, q_tru_bl, q_tru_int, q_tru_lst, q_tru_tup, q_tru_non, q_boo, q_seqL, q_seqT, q_lenL, q_lenT, q_eqI, q_neI, q_lt, q_le, q_gt, q_ge, q_add, q_addL, q_sub, q_neg, q_abs, q_int, q_intB, q_max, q_gcd, q_tupL, q_gL, q_gT, q_g0, q_g1, q_g2, q_lc, q_par, q_parO, q_whS, q_slc, q_prt0, q_prt1, q_intR, q_slcL, q_slcT, q_zipL, q_zipT, q_allp, List.length_map, wipeE, List.map_cons, List.map_nil, List.length_cons, List.length_nil, List.replicate, List.cons_append, List.nil_append, List.getElem?_cons_zero, List.getElem?_cons_succ, List.set_cons_zero, List.set_cons_succ, Nat.reduceSub, Nat.reduceAdd, if_true, Bool.not_true, Bool.not_false, Bool.false_eq_true, if_false, reduceIte, setD, List.foldl_cons, List.foldl_nil, q_asgN, q_asgT, q_asgL, q_asgs0, q_asgsC, Option.bind_some, List.append_nil, is_integer_eq, is_list_eq, q_is2, w_int, i_int, w_lst, w_tup, l_lst, l_tup, l_int, Bool.true_and, Bool.false_and, Bool.and_true, Bool.and_false, is_numbers_eq _ h, i_tup, *] <;> rfl
  · simp only [q_def, q_seq, q_ite, q_ret, q_set, q_drop, q_asg, q_for, q_for0, q_fc, q_frd_nx, q_frd_rt, q_frd_ct, q_frd_bk, q_turn, q_mkLst, q_mkTup, Nat.reduceLeDiff, q_and_bl, q_or_bl, q_c0, q_c1, q_c2, q_c3, q_c4, q_c5, q_c6, q_c9, q_c13, decide_true, decide_false, Int.reduceEq, Int.reduceLT, Int.reduceLE, Int.reduceAdd, Int.reduceSub, Int.reduceMul, Int.reduceNeg, Int.reducePow, Int.reduceToNat, Int.reduceBNe, Int.reduceNe, Nat.zero_le, q_get, q_cst, q_lift, q_un, q_with, q_av0, q_avC, q_callN, q_callKW, q_andD, q_orD, q_notD, q_fAnd, q_fOr, q_fNot, q_fTru, q_fBoo, q_ifD, q_isN, q_fIsN, q_fNotN, startD, q_bind, q_toS, q_rt, q_nx, q_thn_nx, q_thn_rt, q_okO, q_nxO, q_pure, q_none0, q_none1, q_none2, q_none3, q_none4, q_tru_bl, q_tru_int, q_tru_lst, q_tru_tup, q_tru_non, q_boo, q_seqL, q_seqT, q_lenL, q_lenT, q_eqI, q_neI, q_lt, q_le, q_gt, q_ge, q_add, q_addL, q_sub, q_neg, q_abs, q_int, q_intB, q_max, q_gcd, q_tupL, q_gL, q_gT, q_g0, q_g1, q_g2, q_lc, q_par, q_parO, q_whS, q_slc, q_prt0, q_prt1, q_intR, q_slcL, q_slcT, q_zipL, q_zipT, q_allp, List.length_map, wipeE, List.map_cons, List.map_nil, List.length_cons, List.length_nil, List.replicate, List.cons_append, List.nil_append, List.getElem?_cons_zero, List.getElem?_cons_succ, List.set_cons_zero, List.set_cons_succ, Nat.reduceSub, Nat.reduceAdd, if_true, Bool.not_true, Bool.not_false, Bool.false_eq_true, if_false, reduceIte, setD, List.foldl_cons, List.foldl_nil, q_asgN, q_asgT, q_asgL, q_asgs0, q_asgsC, Option.bind_some, List.append_nil, is_integer_eq, is_list_eq, q_is2, w_int, i_int, w_lst, w_tup, l_lst, l_tup, l_int, Bool.true_and, Bool.false_and, Bool.and_true, Bool.and_false, *]
theorem gcd_step (x y : Int) (hx : 0 ≤ x) (hy : 0 < y) : Nat.gcd y.natAbs (x % y).natAbs = Nat.gcd x.natAbs y.natAbs := by
  have e : (x % y).natAbs = x.natAbs % y.natAbs := by
    obtain ⟨a, rfl⟩ := Int.eq_ofNat_of_zero_le hx
    obtain ⟨b, rfl⟩ := Int.eq_ofNat_of_zero_le (Int.le_of_lt hy)
    rfl
  rw [e, Nat.gcd_comm x.natAbs, Nat.gcd_rec y.natAbs x.natAbs]
  exact Nat.gcd_comm _ _
theorem q_fdv {i j : Int} {s : Deck} (h : 0 < j) (h2 : j.natAbs.log2 < 9000) : fdvM (.int i) (.int j) s = .ok (.int (i / j)) s := by
  unfold fdvM intM
  simp only []
  rw [if_pos (show divA j = true from decide_eq_true ⟨by omega, h2⟩), Int.fdiv_eq_ediv_of_nonneg i (by omega)]
theorem q_fdvA {i j : Int} {s : Deck} (h : j ≠ 0) (h2 : j.natAbs.log2 < 9000) : fdvM (.int i) (.int j) s = .ok (.int (i.fdiv j)) s := by
  unfold fdvM intM
  simp only []
  rw [if_pos (show divA j = true from decide_eq_true ⟨h, h2⟩)]
end K03

namespace K03
open PySem L2 FL
/-! ### the mixer -/
structure Good (b : Int) (s : Deck) : Prop where
  t0 : 0 ≤ s.turn
  t1 : s.turn ≤ b
  l0 : 0 ≤ s.left
theorem Good.mono {b c : Int} {s : Deck} (h : Good b s) (k : b ≤ c) : Good c s := ⟨h.t0, Int.le_trans h.t1 k, h.l0⟩
theorem q_put {k : Int} {f g : FE} {δ : DEnv} {s : Deck} : putS f g k δ s = (f δ s).toS δ fun v s => (g δ s).toS δ fun d s => (match d with
  | .deck => match putM k v s with
    | some s' => RS.nx δ s'
    | none => .bad
  | _ => .bad) := rfl
def putO (k : Int) (v d : D) (δ : DEnv) (s : Deck) : RS := match d with
  | .deck => match putM k v s with
    | some s' => RS.nx δ s'
    | none => .bad
  | _ => .bad
theorem q_put' {k : Int} {f g : FE} {δ : DEnv} {s : Deck} : putS f g k δ s = (f δ s).toS δ fun v s => (g δ s).toS δ fun d s => putO k v d δ s := rfl
theorem q_putO1 {i : Int} {δ : DEnv} {s : Deck} : putO 1 (.int i) .deck δ s = .nx δ { s with turn := i } := rfl
theorem q_putO2 {i : Int} {δ : DEnv} {s : Deck} : putO 2 (.int i) .deck δ s = .nx δ { s with left := i } := rfl
theorem q_neL0 {s : Deck} : neM (.lst []) (.lst []) s = .ok (.bl false) s := rfl
theorem pys_ints : ∀ ns : List Int, pys (ns.map .int) = some (ns.map .int)
  | [] => rfl
  | n :: ns => by simp only [List.map_cons, pys, py, pys_ints ns]; rfl
theorem lay_ints : ∀ ns : List Int, PyData.canLayAll0 (ns.map .int) = true
  | [] => rfl
  | n :: ns => by simp only [List.map_cons, PyData.canLayAll0, PyData.canLay0, lay_ints ns]; rfl
theorem deep_ints : ∀ ns : List Int, PyData.depthAll (ns.map .int) ≤ 1
  | [] => by simp [PyData.depthAll]
  | n :: ns => by
    have h := deep_ints ns
    simp only [List.map_cons, PyData.depthAll, PyData.depth]
    omega
theorem q_neL1 {c : Int} {cs : List Int} {s : Deck} : neM (.lst (.int c :: cs.map .int)) (.lst []) s = .ok (.bl true) s := by
  have h := pys_ints (c :: cs)
  rw [List.map_cons] at h
  have h2 := lay_ints (c :: cs)
  have h3 := deep_ints (c :: cs)
  have h4 : SeqAt.shaped (PyData.list ((c :: cs).map .int)) = true := by
    unfold SeqAt.shaped
    simp only [PyData.canLay0, PyData.depth, h2, Bool.true_and]
    exact decide_eq_true (Nat.le_trans (Nat.add_le_add_right h3 1) (by decide))
  have h5 : SeqAt.shaped (PyData.list []) = true := rfl
  have h6 : py (.lst (.int c :: cs.map .int)) = some (.list ((c :: cs).map .int)) := by
    show (pys (.int c :: cs.map .int)).map _ = _
    rw [h]
    rfl
  unfold neM eqO
  rw [h6, show py (.lst []) = some (.list []) from rfl]
  simp only [h4, h5, if_true, Option.map_some]
  rfl
theorem sift_left (many : Int) (s : Deck) (hm : 0 < many) (hl : many.natAbs.log2 < 9000) (h : 0 < s.left) : m_law_draw [.deck, .int many] s = .ok (.int (s.left % many)) { s with left := s.left / many } := by
  unfold m_law_draw g_law_draw
  simp only [q_def, q_seq, q_ite, q_ret, q_set, q_drop, q_asg, q_for, q_for0, q_fc, q_frd_nx, q_frd_rt, q_frd_ct, q_frd_bk, q_turn, q_mkLst, q_mkTup, Nat.reduceLeDiff, q_and_bl, q_or_bl, q_c0, q_c1, q_c2, q_c3, q_c4, q_c5, q_c6, q_c9, q_c13, decide_true, decide_false, Int.reduceEq, Int.reduceLT, Int.reduceLE, Int.reduceAdd, Int.reduceSub, Int.reduceMul, Int.reduceNeg, Int.reducePow, Int.reduceToNat, Int.reduceBNe, Int.reduceNe, Nat.zero_le, q_get, q_cst, q_lift, q_un, q_with, q_av0, q_avC, q_callN, q_callKW, q_andD, q_orD, q_notD, q_fAnd, q_fOr, q_fNot, q_fTru, q_fBoo, q_ifD, q_isN, q_fIsN, q_fNotN, startD, q_bind, q_toS, q_rt, q_nx, q_thn_nx, q_thn_rt, q_okO, q_nxO, q_pure, q_none0, q_none1, q_none2, q_none3, q_none4, q_tru_bl, q_tru_int, q_tru_lst, q_tru_tup, q_tru_non, q_boo, q_seqL, q_seqT, q_lenL, q_lenT, q_eqI, q_neI, q_lt, q_le, q_gt, q_ge, q_add, q_addL, q_sub, q_neg, q_abs, q_int, q_intB, q_max, q_gcd, q_tupL, q_gL, q_gT, q_g0, q_g1, q_g2, q_lc, q_par, q_parO, q_whS, q_slc, q_prt0, q_prt1, q_intR, q_slcL, q_slcT, q_zipL, q_zipT, q_allp, List.length_map, wipeE, List.map_cons, List.map_nil, List.length_cons, List.length_nil, List.replicate, List.cons_append, List.nil_append, List.getElem?_cons_zero, List.getElem?_cons_succ, List.set_cons_zero, List.set_cons_succ, Nat.reduceSub, Nat.reduceAdd, if_true, Bool.not_true, Bool.not_false, Bool.false_eq_true, if_false, reduceIte, setD, List.foldl_cons, List.foldl_nil, q_asgN, q_asgT, q_asgL, q_asgs0, q_asgsC, Option.bind_some, List.append_nil, is_integer_eq, is_list_eq, q_is2, w_int, i_int, w_lst, w_tup, l_lst, l_tup, l_int, Bool.true_and, Bool.false_and, Bool.and_true, Bool.and_false, q_put', q_putO2, q_mod, q_fdv, *]
def mix (c T : Int) : Int :=
  (((c % 2147483563 + 85193 * T + 8171) ^ 5 % 2147483579 * (2 * T + 8171) + 108191 * T * T + 85193) ^ 3 % 2147483549) / 64
def tailS : FS :=
    (seqS (setS 5 (lift2 modM (withA (avC (lift2 powM (lift2 addM (lift2 addM (lift2 modM (withA (avC (getE 4) av0) intM1) (cst (.int 2147483563))) (lift2 mulM (cst (.int 85193)) (getE 3))) (cst (.int 8171))) (cst (.int 5))) av0) intM1) (cst (.int 2147483579))))
    (seqS (setS 5 (lift2 modM (withA (avC (lift2 powM (lift2 addM (lift2 addM (lift2 mulM (getE 5) (lift2 addM (lift2 mulM (cst (.int 2)) (getE 3)) (cst (.int 8171)))) (lift2 mulM (lift2 mulM (cst (.int 108191)) (getE 3)) (getE 3))) (cst (.int 85193))) (cst (.int 3))) av0) intM1) (cst (.int 2147483549))))
    (retS (lift2 modM (withA (avC (lift2 fdvM (getE 5) (cst (.int 64))) av0) intM1) (getE 1)))))
theorem sift_fold : g_law_draw =
    (seqS (iteS (fBoo (lift2 gtM (lift2 getM (getE 0) (cst (.int 2))) (cst (.int 0)))) (seqS (setS 2 (withA (avC (lift2 getM (getE 0) (cst (.int 2))) av0) intM1))
    (seqS (putS (lift2 fdvM (getE 2) (getE 1)) (getE 0) 2)
    (retS (lift2 modM (withA (avC (getE 2) av0) intM1) (getE 1))))) (fun δ s => .nx δ s))
    (seqS (setS 3 (lift2 getM (getE 0) (cst (.int 1))))
    (seqS (putS (lift2 addM (getE 3) (cst (.int 1))) (getE 0) 1)
    (seqS (setS 4 (lift2 addM (lift2 mulM (cst (.int 108191)) (getE 3)) (cst (.int 8171))))
    (seqS (iteS (fBoo (lift2 neM (lift2 getM (getE 0) (cst (.int 0))) (withA av0 mkLst))) (setS 4 (lift2 getM (lift2 getM (getE 0) (cst (.int 0))) (lift2 modM (withA (avC (getE 3) av0) intM1) (withA (avC (lift2 getM (getE 0) (cst (.int 0))) av0) lenM)))) (fun δ s => .nx δ s))
    (seqS (iteS (fAnd (fBoo (lift2 ltM (getE 3) (withA (avC (lift2 getM (getE 0) (cst (.int 0))) av0) lenM))) (fBoo (lift2 geM (withA (avC (getE 4) av0) absM) (lift2 powM (cst (.int 10)) (cst (.int 18)))))) (seqS (setS 2 (lift2 addM (lift2 mulM (cst (.int 2)) (lift2 subM (withA (avC (withA (avC (getE 4) av0) intM1) av0) absM) (lift2 powM (cst (.int 10)) (cst (.int 18))))) (withA (avC (lift2 ltM (getE 4) (cst (.int 0))) av0) intM1)))
    (seqS (putS (lift2 fdvM (getE 2) (getE 1)) (getE 0) 2)
    (retS (lift2 modM (withA (avC (getE 2) av0) intM1) (getE 1))))) (fun δ s => .nx δ s))
    tailS)))))) := rfl
theorem mul0 {n : Int} (T : Int) (s : Deck) (h : -18446744073709551616 < n ∧ n < 18446744073709551616) : mulM (.int n) (.int T) s = .ok (.int (n * T)) s := q_mul (by simpa using h)
theorem mul1 {n : Int} (T : Int) (s : Deck) (h : -18446744073709551616 < T ∧ T < 18446744073709551616) : mulM (.int n) (.int T) s = .ok (.int (n * T)) s := q_mulR (by simpa using h)
theorem tail_eq (c T many : Int) (s : Deck) (h0 : 0 ≤ T) (h1 : T ≤ 1000000) (hm : 0 < many) (x2 x5 : Option D) : tailS [some .deck, some (.int many), x2, some (.int T), some (.int c), x5] s = .rt (.int (mix c T % many)) s := by
  unfold tailS mix
  have p1 : powM (.int (c % 2147483563 + 85193 * T + 8171)) (.int 5) s = .ok (.int ((c % 2147483563 + 85193 * T + 8171) ^ 5)) s := q_pow ⟨by decide, by decide, by omega⟩
  obtain ⟨a, ha⟩ : ∃ a, a = (c % 2147483563 + 85193 * T + 8171) ^ 5 % 2147483579 := ⟨_, rfl⟩
  have a0 : 0 ≤ a := by omega
  have a1 : a < 2147483579 := by omega
  have m1 := mul0 T s (n := 85193) (by decide)
  have m2 := mul0 T s (n := 2) (by decide)
  have m3 := mul0 T s (n := 108191) (by decide)
  have m4 := mul1 (n := 108191 * T) T s (by omega)
  have m5 := mul1 (n := a) (2 * T + 8171) s (by omega)
  have b1 : a * (2 * T + 8171) ≤ 2147483579 * 2008171 := Int.mul_le_mul (by omega) (by omega) (by omega) (by omega)
  have b2 : 0 ≤ a * (2 * T + 8171) := Int.mul_nonneg a0 (by omega)
  have b3 : 108191 * T * T ≤ 108191000000 * 1000000 := Int.mul_le_mul (by omega) (by omega) (by omega) (by omega)
  have b4 : 0 ≤ 108191 * T * T := Int.mul_nonneg (by omega) h0
  have p2 : powM (.int (a * (2 * T + 8171) + 108191 * T * T + 85193)) (.int 3) s = .ok (.int ((a * (2 * T + 8171) + 108191 * T * T + 85193) ^ 3)) s := q_pow ⟨by decide, by decide, by omega⟩
  have d1 : ∀ x : Int, fdvM (.int x) (.int 64) s = .ok (.int (x / 64)) s := fun x => q_fdv (by decide) (by decide +kernel)
  have k1 : ∀ x : Int, modM (.int x) (.int 2147483563) s = .ok (.int (x % 2147483563)) s := fun x => q_mod (by decide)
  have k2 : ∀ x : Int, modM (.int x) (.int 2147483579) s = .ok (.int (x % 2147483579)) s := fun x => q_mod (by decide)
  have k3 : ∀ x : Int, modM (.int x) (.int 2147483549) s = .ok (.int (x % 2147483549)) s := fun x => q_mod (by decide)
  have k4 : ∀ x : Int, modM (.int x) (.int many) s = .ok (.int (x % many)) s := fun x => q_mod hm
  clear a0 a1 b1 b2 b3 b4 h0 h1 hm
  rw [← ha]
  have hb := ha.symm
  clear ha
  simp only [q_def, q_seq, q_ite, q_ret, q_set, q_drop, q_asg, q_for, q_for0, q_fc, q_frd_nx, q_frd_rt, q_frd_ct, q_frd_bk, q_turn, q_mkLst, q_mkTup, Nat.reduceLeDiff, q_and_bl, q_or_bl, q_c0, q_c1, q_c2, q_c3, q_c4, q_c5, q_c6, q_c9, q_c13, decide_true, decide_false, Int.reduceEq, Int.reduceLT, Int.reduceLE, Int.reduceAdd, Int.reduceSub, Int.reduceMul, Int.reduceNeg, Int.reducePow, Int.reduceToNat, Int.reduceBNe, Int.reduceNe, Nat.zero_le, q_get, q_cst, q_lift, q_un, q_with, q_av0, q_avC, q_callN, q_callKW, q_andD, q_orD, q_notD, q_fAnd, q_fOr, q_fNot, q_fTru, q_fBoo, q_ifD, q_isN, q_fIsN, q_fNotN, startD, q_bind, q_toS, q_rt, q_nx, q_thn_nx, q_thn_rt, q_okO, q_nxO, q_pure, q_none0, q_none1, q_none2, q_none3, q_none4, q_tru_bl, q_tru_int, q_tru_lst, q_tru_tup, q_tru_non, q_boo, q_seqL, q_seqT, q_lenL, q_lenT, q_eqI, q_neI, q_lt, q_le, q_gt, q_ge, q_add, q_addL, q_sub, q_neg, q_abs, q_int, q_intB, q_max, q_gcd, q_tupL, q_gL, q_gT, q_g0, q_g1, q_g2, q_lc, q_par, q_parO, q_whS, q_slc, q_prt0, q_prt1, q_intR, q_slcL, q_slcT, q_zipL, q_zipT, q_allp, List.length_map, wipeE, List.map_cons, List.map_nil, List.length_cons, List.length_nil, List.replicate, List.cons_append, List.nil_append, List.getElem?_cons_zero, List.getElem?_cons_succ, List.set_cons_zero, List.set_cons_succ, Nat.reduceSub, Nat.reduceAdd, if_true, Bool.not_true, Bool.not_false, Bool.false_eq_true, if_false, reduceIte, setD, List.foldl_cons, List.foldl_nil, q_asgN, q_asgT, q_asgL, q_asgs0, q_asgsC, Option.bind_some, List.append_nil, is_integer_eq, is_list_eq, q_is2, w_int, i_int, w_lst, w_tup, l_lst, l_tup, l_int, Bool.true_and, Bool.false_and, Bool.and_true, Bool.and_false, *]
theorem atI_in {xs : List D} {i : Int} (h0 : 0 ≤ i) (h1 : i < xs.length) : ∃ x, x ∈ xs ∧ atI xs i = some x := by
  obtain ⟨n, rfl⟩ := Int.eq_ofNat_of_zero_le h0
  have hn : n < xs.length := by omega
  refine ⟨xs[n], List.getElem_mem _, ?_⟩
  unfold atI ixN
  simp [hn]
theorem ten18 (s : Deck) : powM (.int 10) (.int 18) s = .ok (.int 1000000000000000000) s := q_pow (by decide)
theorem at_ints {cs : List Int} {i : Int} (h0 : 0 ≤ i) (h1 : i < (cs.length : Int)) : ∃ c : Int, atI (cs.map D.int) i = some (.int c) := by
  obtain ⟨x, hx, e⟩ := atI_in (xs := cs.map D.int) h0 (by simpa using h1)
  obtain ⟨c, _, rfl⟩ := List.mem_map.mp hx
  exact ⟨c, e⟩
theorem sift_new (many : Int) (s : Deck) (hm : 0 < many) (hl : many.natAbs.log2 < 9000) (hc : ¬ 0 < s.left) (h0 : 0 ≤ s.turn) (h1 : s.turn ≤ 1000000) (hl0 : 0 ≤ s.left) :
    ∃ r s', m_law_draw [.deck, .int many] s = .ok (.int r) s' ∧ 0 ≤ r ∧ r < many ∧ s'.turn = s.turn + 1 ∧ 0 ≤ s'.left := by
  unfold m_law_draw
  rw [sift_fold]
  have tl : ∀ (c : Int) (x2 x5 : Option D) (s' : Deck), tailS [some .deck, some (.int many), x2, some (.int s.turn), some (.int c), x5] s' = .rt (.int (mix c s.turn % many)) s' := fun c x2 x5 s' => tail_eq c s.turn many s' h0 h1 hm x2 x5
  have c0 := decide_eq_false hc
  have mm := mul0 s.turn { s with turn := s.turn + 1 } (n := 108191) (by decide)
  obtain ⟨cells, turn, left⟩ := s
  simp only at *
  have r0 : ∀ x : Int, 0 ≤ x % many := fun x => Int.emod_nonneg _ (by omega)
  have r1 : ∀ x : Int, x % many < many := fun x => Int.emod_lt_of_pos _ hm
  cases cells with
  | nil =>
    have z : decide (turn < 0) = false := decide_eq_false (by omega)
    refine ⟨mix (108191 * turn + 8171) turn % many, ⟨[], turn + 1, left⟩, ?_, r0 _, r1 _, rfl, hl0⟩
    clear h0 h1 hm hl hc hl0 r0 r1
    simp only [q_def, q_seq, q_ite, q_ret, q_set, q_drop, q_asg, q_for, q_for0, q_fc, q_frd_nx, q_frd_rt, q_frd_ct, q_frd_bk, q_turn, q_mkLst, q_mkTup, Nat.reduceLeDiff, q_and_bl, q_or_bl, q_c0, q_c1, q_c2, q_c3, q_c4, q_c5, q_c6, q_c9, q_c13, decide_true, decide_false, Int.reduceEq, Int.reduceLT, Int.reduceLE, Int.reduceAdd, Int.reduceSub, Int.reduceMul, Int.reduceNeg, Int.reducePow, Int.reduceToNat, Int.reduceBNe, Int.reduceNe, Nat.zero_le, q_get, q_cst, q_lift, q_un, q_with, q_av0, q_avC, q_callN, q_callKW, q_andD, q_orD, q_notD, q_fAnd, q_fOr, q_fNot, q_fTru, q_fBoo, q_ifD, q_isN, q_fIsN, q_fNotN, startD, q_bind, q_toS, q_rt, q_nx, q_thn_nx, q_thn_rt, q_okO, q_nxO, q_pure, q_none0, q_none1, q_none2, q_none3, q_none4, q_tru_bl, q_tru_int, q_tru_lst, q_tru_tup, q_tru_non, q_boo, q_seqL, q_seqT, q_lenL, q_lenT, q_eqI, q_neI, q_lt, q_le, q_gt, q_ge, q_add, q_addL, q_sub, q_neg, q_abs, q_int, q_intB, q_max, q_gcd, q_tupL, q_gL, q_gT, q_g0, q_g1, q_g2, q_lc, q_par, q_parO, q_whS, q_slc, q_prt0, q_prt1, q_intR, q_slcL, q_slcT, q_zipL, q_zipT, q_allp, List.length_map, wipeE, List.map_cons, List.map_nil, List.length_cons, List.length_nil, List.replicate, List.cons_append, List.nil_append, List.getElem?_cons_zero, List.getElem?_cons_succ, List.set_cons_zero, List.set_cons_succ, Nat.reduceSub, Nat.reduceAdd, if_true, Bool.not_true, Bool.not_false, Bool.false_eq_true, if_false, reduceIte, setD, List.foldl_cons, List.foldl_nil, q_asgN, q_asgT, q_asgL, q_asgs0, q_asgsC, Option.bind_some, List.append_nil, is_integer_eq, is_list_eq, q_is2, w_int, i_int, w_lst, w_tup, l_lst, l_tup, l_int, Bool.true_and, Bool.false_and, Bool.and_true, Bool.and_false, q_put', q_putO1, q_neL0, *]
  | cons c cs =>
    have hlen : (0 : Int) < ((c :: cs).length : Int) := by simp only [List.length_cons]; omega
    obtain ⟨e, he⟩ := at_ints (cs := c :: cs) (i := turn % ((c :: cs).length : Int)) (Int.emod_nonneg _ (by omega)) (Int.emod_lt_of_pos _ hlen)
    have md : ∀ s : Deck, modM (.int turn) (.int ((c :: cs).length : Int)) s = .ok (.int (turn % ((c :: cs).length : Int))) s := fun s => q_mod hlen
    simp only [List.length_cons, List.map_cons] at he md hlen
    have t18 := ten18
    have ms : ∀ (x : Int) (s : Deck), modM (.int x) (.int many) s = .ok (.int (x % many)) s := fun x s => q_mod hm
    have ds : ∀ (x : Int) (s : Deck), fdvM (.int x) (.int many) s = .ok (.int (x / many)) s := fun x s => q_fdv hm hl
    by_cases b1 : turn < ((cs.length + 1 : Nat) : Int)
    · by_cases b2 : (1000000000000000000 : Int) ≤ if e < 0 then -e else e
      · obtain ⟨v, hv⟩ : ∃ v, v = 2 * ((if e < 0 then -e else e) - 1000000000000000000) + (if decide (e < 0) = true then 1 else 0) := ⟨_, rfl⟩
        have v0 : 0 ≤ v := by
          rw [hv]
          have : (0 : Int) ≤ if decide (e < 0) = true then 1 else 0 := by split <;> decide
          omega
        have m2 : ∀ (x : Int) (s : Deck), mulM (.int 2) (.int x) s = .ok (.int (2 * x)) s := fun x s => mul0 x s (by decide)
        refine ⟨v % many, ⟨c :: cs, turn + 1, v / many⟩, ?_, r0 _, r1 _, rfl, Int.ediv_nonneg v0 (by omega)⟩
        have b1 := decide_eq_true b1
        have b2 := decide_eq_true b2
        subst hv
        clear h0 h1 hm hl hc hl0 r0 r1 tl v0 hlen
        simp only [q_def, q_seq, q_ite, q_ret, q_set, q_drop, q_asg, q_for, q_for0, q_fc, q_frd_nx, q_frd_rt, q_frd_ct, q_frd_bk, q_turn, q_mkLst, q_mkTup, Nat.reduceLeDiff, q_and_bl, q_or_bl, q_c0, q_c1, q_c2, q_c3, q_c4, q_c5, q_c6, q_c9, q_c13, decide_true, decide_false, Int.reduceEq, Int.reduceLT, Int.reduceLE, Int.reduceAdd, Int.reduceSub, Int.reduceMul, Int.reduceNeg, Int.reducePow, Int.reduceToNat, Int.reduceBNe, Int.reduceNe, Nat.zero_le, q_get, q_cst, q_lift, q_un, q_with, q_av0, q_avC, q_callN, q_callKW, q_andD, q_orD, q_notD, q_fAnd, q_fOr, q_fNot, q_fTru, q_fBoo, q_ifD, q_isN, q_fIsN, q_fNotN, startD, q_bind, q_toS, q_rt, q_nx, q_thn_nx, q_thn_rt, q_okO, q_nxO, q_pure, q_none0, q_none1, q_none2, q_none3, q_none4, q_tru_bl, q_tru_int, q_tru_lst, q_tru_tup, q_tru_non, q_boo, q_seqL, q_seqT, q_lenL, q_lenT, q_eqI, q_neI, q_lt, q_le, q_gt, q_ge, q_add, q_addL, q_sub, q_neg, q_abs, q_int, q_intB, q_max, q_gcd, q_tupL, q_gL, q_gT, q_g0, q_g1, q_g2, q_lc, q_par, q_parO, q_whS, q_slc, q_prt0, q_prt1, q_intR, q_slcL, q_slcT, q_zipL, q_zipT, q_allp, List.length_map, wipeE, List.map_cons, List.map_nil, List.length_cons, List.length_nil, List.replicate, List.cons_append, List.nil_append, List.getElem?_cons_zero, List.getElem?_cons_succ, List.set_cons_zero, List.set_cons_succ, Nat.reduceSub, Nat.reduceAdd, if_true, Bool.not_true, Bool.not_false, Bool.false_eq_true, if_false, reduceIte, setD, List.foldl_cons, List.foldl_nil, q_asgN, q_asgT, q_asgL, q_asgs0, q_asgsC, Option.bind_some, List.append_nil, is_integer_eq, is_list_eq, q_is2, w_int, i_int, w_lst, w_tup, l_lst, l_tup, l_int, Bool.true_and, Bool.false_and, Bool.and_true, Bool.and_false, q_put', q_putO1, q_putO2, q_neL1, *]
      · refine ⟨mix e turn % many, ⟨c :: cs, turn + 1, left⟩, ?_, r0 _, r1 _, rfl, hl0⟩
        have b1 := decide_eq_true b1
        have b2 := decide_eq_false b2
        clear h0 h1 hm hl hc hl0 r0 r1 hlen
        simp only [q_def, q_seq, q_ite, q_ret, q_set, q_drop, q_asg, q_for, q_for0, q_fc, q_frd_nx, q_frd_rt, q_frd_ct, q_frd_bk, q_turn, q_mkLst, q_mkTup, Nat.reduceLeDiff, q_and_bl, q_or_bl, q_c0, q_c1, q_c2, q_c3, q_c4, q_c5, q_c6, q_c9, q_c13, decide_true, decide_false, Int.reduceEq, Int.reduceLT, Int.reduceLE, Int.reduceAdd, Int.reduceSub, Int.reduceMul, Int.reduceNeg, Int.reducePow, Int.reduceToNat, Int.reduceBNe, Int.reduceNe, Nat.zero_le, q_get, q_cst, q_lift, q_un, q_with, q_av0, q_avC, q_callN, q_callKW, q_andD, q_orD, q_notD, q_fAnd, q_fOr, q_fNot, q_fTru, q_fBoo, q_ifD, q_isN, q_fIsN, q_fNotN, startD, q_bind, q_toS, q_rt, q_nx, q_thn_nx, q_thn_rt, q_okO, q_nxO, q_pure, q_none0, q_none1, q_none2, q_none3, q_none4, q_tru_bl, q_tru_int, q_tru_lst, q_tru_tup, q_tru_non, q_boo, q_seqL, q_seqT, q_lenL, q_lenT, q_eqI, q_neI, q_lt, q_le, q_gt, q_ge, q_add, q_addL, q_sub, q_neg, q_abs, q_int, q_intB, q_max, q_gcd, q_tupL, q_gL, q_gT, q_g0, q_g1, q_g2, q_lc, q_par, q_parO, q_whS, q_slc, q_prt0, q_prt1, q_intR, q_slcL, q_slcT, q_zipL, q_zipT, q_allp, List.length_map, wipeE, List.map_cons, List.map_nil, List.length_cons, List.length_nil, List.replicate, List.cons_append, List.nil_append, List.getElem?_cons_zero, List.getElem?_cons_succ, List.set_cons_zero, List.set_cons_succ, Nat.reduceSub, Nat.reduceAdd, if_true, Bool.not_true, Bool.not_false, Bool.false_eq_true, if_false, reduceIte, setD, List.foldl_cons, List.foldl_nil, q_asgN, q_asgT, q_asgL, q_asgs0, q_asgsC, Option.bind_some, List.append_nil, is_integer_eq, is_list_eq, q_is2, w_int, i_int, w_lst, w_tup, l_lst, l_tup, l_int, Bool.true_and, Bool.false_and, Bool.and_true, Bool.and_false, q_put', q_putO1, q_neL1, *]
    · refine ⟨mix e turn % many, ⟨c :: cs, turn + 1, left⟩, ?_, r0 _, r1 _, rfl, hl0⟩
      have b1 := decide_eq_false b1
      clear h0 h1 hm hl hc hl0 r0 r1 hlen
      simp only [q_def, q_seq, q_ite, q_ret, q_set, q_drop, q_asg, q_for, q_for0, q_fc, q_frd_nx, q_frd_rt, q_frd_ct, q_frd_bk, q_turn, q_mkLst, q_mkTup, Nat.reduceLeDiff, q_and_bl, q_or_bl, q_c0, q_c1, q_c2, q_c3, q_c4, q_c5, q_c6, q_c9, q_c13, decide_true, decide_false, Int.reduceEq, Int.reduceLT, Int.reduceLE, Int.reduceAdd, Int.reduceSub, Int.reduceMul, Int.reduceNeg, Int.reducePow, Int.reduceToNat, Int.reduceBNe, Int.reduceNe, Nat.zero_le, q_get, q_cst, q_lift, q_un, q_with, q_av0, q_avC, q_callN, q_callKW, q_andD, q_orD, q_notD, q_fAnd, q_fOr, q_fNot, q_fTru, q_fBoo, q_ifD, q_isN, q_fIsN, q_fNotN, startD, q_bind, q_toS, q_rt, q_nx, q_thn_nx, q_thn_rt, q_okO, q_nxO, q_pure, q_none0, q_none1, q_none2, q_none3, q_none4, q_tru_bl, q_tru_int, q_tru_lst, q_tru_tup, q_tru_non, q_boo, q_seqL, q_seqT, q_lenL, q_lenT, q_eqI, q_neI, q_lt, q_le, q_gt, q_ge, q_add, q_addL, q_sub, q_neg, q_abs, q_int, q_intB, q_max, q_gcd, q_tupL, q_gL, q_gT, q_g0, q_g1, q_g2, q_lc, q_par, q_parO, q_whS, q_slc, q_prt0, q_prt1, q_intR, q_slcL, q_slcT, q_zipL, q_zipT, q_allp, List.length_map, wipeE, List.map_cons, List.map_nil, List.length_cons, List.length_nil, List.replicate, List.cons_append, List.nil_append, List.getElem?_cons_zero, List.getElem?_cons_succ, List.set_cons_zero, List.set_cons_succ, Nat.reduceSub, Nat.reduceAdd, if_true, Bool.not_true, Bool.not_false, Bool.false_eq_true, if_false, reduceIte, setD, List.foldl_cons, List.foldl_nil, q_asgN, q_asgT, q_asgL, q_asgs0, q_asgsC, Option.bind_some, List.append_nil, is_integer_eq, is_list_eq, q_is2, w_int, i_int, w_lst, w_tup, l_lst, l_tup, l_int, Bool.true_and, Bool.false_and, Bool.and_true, Bool.and_false, q_put', q_putO1, q_neL1, *]
theorem sift_eq {b : Int} {s : Deck} (G : Good b s) (hb : b ≤ 1000000) {many : Int} (hm : 0 < many) (hl : many.natAbs.log2 < 9000) :
    ∃ r s', m_law_draw [.deck, .int many] s = .ok (.int r) s' ∧ 0 ≤ r ∧ r < many ∧ Good (b + 1) s' := by
  have t1 := G.t1
  by_cases h : 0 < s.left
  · exact ⟨_, _, sift_left many s hm hl h, Int.emod_nonneg _ (by omega), Int.emod_lt_of_pos _ hm, G.t0, by show s.turn ≤ b + 1; omega, Int.ediv_nonneg G.l0 (by omega)⟩
  · obtain ⟨r, s', e, h0, h1, ht, hl⟩ := sift_new many s hm hl h G.t0 (by omega) G.l0
    have t0 := G.t0
    exact ⟨r, s', e, h0, h1, by omega, by omega, hl⟩
end K03

namespace K03
open PySem L2 FL
/-! ### both makers of the one form -/
def numD (a b : Int) : D := if nfB a b = 1 then .int (nfA a b) else .tup [.int (nfA a b), .int (nfB a b)]
def gI (a b : Int) : Int := ((Nat.gcd a.natAbs b.natAbs : Nat) : Int)
theorem gI_pos {a b : Int} (h : b ≠ 0) : 0 < gI a b := by
  have := Nat.gcd_pos_of_pos_right a.natAbs (show 0 < b.natAbs by omega)
  unfold gI
  omega
theorem fd_exact {x g : Int} (h : 0 < g) (d : g ∣ x) : x.fdiv g = x / g ∧ x.fdiv (-g) = -(x / g) := by
  obtain ⟨k, rfl⟩ := d
  have h0 : g ≠ 0 := by omega
  constructor
  · rw [Int.mul_fdiv_cancel_left _ h0, Int.mul_ediv_cancel_left _ h0]
  · rw [Int.mul_ediv_cancel_left _ h0, show g * k = (-g) * (-k) by rw [Int.neg_mul_neg], Int.mul_fdiv_cancel_left _ (by omega)]
theorem abs_div (x : Int) (n : Nat) (hn : 0 < n) (d : n ∣ x.natAbs) : x / (n : Int) = if x < 0 then -((x.natAbs / n : Nat) : Int) else ((x.natAbs / n : Nat) : Int) := by
  obtain ⟨k, hk⟩ := d
  have hn0 : (n : Int) ≠ 0 := by omega
  rw [hk, Nat.mul_div_cancel_left _ hn]
  by_cases h : x < 0
  · rw [if_pos h]
    have e : x = (n : Int) * (-(k : Int)) := by
      have : x = -((x.natAbs : Nat) : Int) := by omega
      rw [this, hk]
      push_cast
      rw [Int.mul_neg]
    rw [e, Int.mul_ediv_cancel_left _ hn0]
  · rw [if_neg h]
    have e : x = (n : Int) * (k : Int) := by
      have : x = ((x.natAbs : Nat) : Int) := by omega
      rw [this, hk]
      push_cast
      rfl
    rw [e, Int.mul_ediv_cancel_left _ hn0]
theorem form_div {a b : Int} (h : b ≠ 0) : (0 < b → a / gI a b = nfA a b ∧ b / gI a b = nfB a b) ∧ (b < 0 → -(a / gI a b) = nfA a b ∧ -(b / gI a b) = nfB a b) := by
  have hg := Nat.gcd_pos_of_pos_right a.natAbs (show 0 < b.natAbs by omega)
  have ea := abs_div a _ hg (Nat.gcd_dvd_left a.natAbs b.natAbs)
  have eb := abs_div b _ hg (Nat.gcd_dvd_right a.natAbs b.natAbs)
  unfold gI nfA nfB
  rw [ea, eb]
  constructor
  · intro hb
    have nb : ¬ b < 0 := by omega
    simp only [nb, eq_iff_iff, iff_false, if_false]
    by_cases ha : a < 0
    · simp [ha]
    · simp [ha]
  · intro hb
    simp only [hb, eq_iff_iff, iff_true, if_true]
    by_cases ha : a < 0
    · simp [ha]
    · simp [ha]
theorem gI_dvd (a b : Int) : gI a b ∣ a ∧ gI a b ∣ b := by
  unfold gI
  exact ⟨Int.ofNat_dvd_left.mpr (Nat.gcd_dvd_left ..), Int.ofNat_dvd_left.mpr (Nat.gcd_dvd_right ..)⟩
def fits (b : Int) : Prop := b.natAbs < 2 ^ 8000
theorem gI_log {a b : Int} (h : b ≠ 0) (f : fits b) : (gI a b).natAbs.log2 < 9000 := by
  have h0 := gI_pos (a := a) h
  have le : (gI a b).natAbs ≤ b.natAbs := Nat.le_of_dvd (by omega) (by unfold gI; exact Nat.gcd_dvd_right ..)
  exact Nat.lt_trans ((Nat.log2_lt (by omega)).mpr (Nat.lt_of_le_of_lt le f)) (by decide)
theorem made_eq {a b : Int} (h : b ≠ 0) (f : fits b) (s : Deck) : m_made [.int a, .int b] s = .ok (numD a b) s := by
  unfold m_made g_made
  have g0 := gI_pos (a := a) h
  have lg := gI_log (a := a) h f
  obtain ⟨da, db⟩ := gI_dvd a b
  obtain ⟨fa, fa'⟩ := fd_exact g0 da
  obtain ⟨fb, fb'⟩ := fd_exact g0 db
  obtain ⟨pp, pn⟩ := form_div (a := a) h
  have gg : ∀ s : Deck, gcdM [.int a, .int b] s = .ok (.int (gI a b)) s := fun s => rfl
  by_cases hb : b < 0
  · obtain ⟨e1, e2⟩ := pn hb
    have q1 : ∀ s : Deck, fdvM (.int a) (.int (-gI a b)) s = .ok (.int (nfA a b)) s := fun s => by
      rw [q_fdvA (by omega) (by rw [Int.natAbs_neg]; exact lg), fa', e1]
    have q2 : ∀ s : Deck, fdvM (.int b) (.int (-gI a b)) s = .ok (.int (nfB a b)) s := fun s => by
      rw [q_fdvA (by omega) (by rw [Int.natAbs_neg]; exact lg), fb', e2]
    have hb := decide_eq_true hb
    clear fa fa' fb fb' pp pn da db g0 lg h f e1 e2
    unfold numD
    by_cases c : nfB a b = 1
    · rw [if_pos c]
      have c := decide_eq_true c
      simp only [q_def, q_seq, q_ite, q_ret, q_set, q_drop, q_asg, q_for, q_for0, q_fc, q_frd_nx, q_frd_rt, q_frd_ct, q_frd_bk, q_turn, q_mkLst, q_mkTup, Nat.reduceLeDiff, q_and_bl, q_or_bl, q_c0, q_c1, q_c2, q_c3, q_c4, q_c5, q_c6, q_c9, q_c13, decide_true, decide_false, Int.reduceEq, Int.reduceLT, Int.reduceLE, Int.reduceAdd, Int.reduceSub, Int.reduceMul, Int.reduceNeg, Int.reducePow, Int.reduceToNat, Int.reduceBNe, Int.reduceNe, Nat.zero_le, q_get, q_cst, q_lift, q_un, q_with, q_av0, q_avC, q_callN, q_callKW, q_andD, q_orD, q_notD, q_fAnd, q_fOr, q_fNot, q_fTru, q_fBoo, q_ifD, q_isN, q_fIsN, q_fNotN, startD, q_bind, q_toS, q_rt, q_nx, q_thn_nx, q_thn_rt, q_okO, q_nxO, q_pure, q_none0, q_none1, q_none2, q_none3, q_none4, q_tru_bl, q_tru_int, q_tru_lst, q_tru_tup, q_tru_non, q_boo, q_seqL, q_seqT, q_lenL, q_lenT, q_eqI, q_neI, q_lt, q_le, q_gt, q_ge, q_add, q_addL, q_sub, q_neg, q_abs, q_int, q_intB, q_max, q_gcd, q_tupL, q_gL, q_gT, q_g0, q_g1, q_g2, q_lc, q_par, q_parO, q_whS, q_slc, q_prt0, q_prt1, q_intR, q_slcL, q_slcT, q_zipL, q_zipT, q_allp, List.length_map, wipeE, List.map_cons, List.map_nil, List.length_cons, List.length_nil, List.replicate, List.cons_append, List.nil_append, List.getElem?_cons_zero, List.getElem?_cons_succ, List.set_cons_zero, List.set_cons_succ, Nat.reduceSub, Nat.reduceAdd, if_true, Bool.not_true, Bool.not_false, Bool.false_eq_true, if_false, reduceIte, setD, List.foldl_cons, List.foldl_nil, q_asgN, q_asgT, q_asgL, q_asgs0, q_asgsC, Option.bind_some, List.append_nil, *]
    · rw [if_neg c]
      have c := decide_eq_false c
      simp only [q_def, q_seq, q_ite, q_ret, q_set, q_drop, q_asg, q_for, q_for0, q_fc, q_frd_nx, q_frd_rt, q_frd_ct, q_frd_bk, q_turn, q_mkLst, q_mkTup, Nat.reduceLeDiff, q_and_bl, q_or_bl, q_c0, q_c1, q_c2, q_c3, q_c4, q_c5, q_c6, q_c9, q_c13, decide_true, decide_false, Int.reduceEq, Int.reduceLT, Int.reduceLE, Int.reduceAdd, Int.reduceSub, Int.reduceMul, Int.reduceNeg, Int.reducePow, Int.reduceToNat, Int.reduceBNe, Int.reduceNe, Nat.zero_le, q_get, q_cst, q_lift, q_un, q_with, q_av0, q_avC, q_callN, q_callKW, q_andD, q_orD, q_notD, q_fAnd, q_fOr, q_fNot, q_fTru, q_fBoo, q_ifD, q_isN, q_fIsN, q_fNotN, startD, q_bind, q_toS, q_rt, q_nx, q_thn_nx, q_thn_rt, q_okO, q_nxO, q_pure, q_none0, q_none1, q_none2, q_none3, q_none4, q_tru_bl, q_tru_int, q_tru_lst, q_tru_tup, q_tru_non, q_boo, q_seqL, q_seqT, q_lenL, q_lenT, q_eqI, q_neI, q_lt, q_le, q_gt, q_ge, q_add, q_addL, q_sub, q_neg, q_abs, q_int, q_intB, q_max, q_gcd, q_tupL, q_gL, q_gT, q_g0, q_g1, q_g2, q_lc, q_par, q_parO, q_whS, q_slc, q_prt0, q_prt1, q_intR, q_slcL, q_slcT, q_zipL, q_zipT, q_allp, List.length_map, wipeE, List.map_cons, List.map_nil, List.length_cons, List.length_nil, List.replicate, List.cons_append, List.nil_append, List.getElem?_cons_zero, List.getElem?_cons_succ, List.set_cons_zero, List.set_cons_succ, Nat.reduceSub, Nat.reduceAdd, if_true, Bool.not_true, Bool.not_false, Bool.false_eq_true, if_false, reduceIte, setD, List.foldl_cons, List.foldl_nil, q_asgN, q_asgT, q_asgL, q_asgs0, q_asgsC, Option.bind_some, List.append_nil, *]
  · obtain ⟨e1, e2⟩ := pp (by omega)
    have q1 : ∀ s : Deck, fdvM (.int a) (.int (gI a b)) s = .ok (.int (nfA a b)) s := fun s => by
      rw [q_fdvA (by omega) lg, fa, e1]
    have q2 : ∀ s : Deck, fdvM (.int b) (.int (gI a b)) s = .ok (.int (nfB a b)) s := fun s => by
      rw [q_fdvA (by omega) lg, fb, e2]
    have hb := decide_eq_false hb
    clear fa fa' fb fb' pp pn da db g0 lg h f e1 e2
    unfold numD
    by_cases c : nfB a b = 1
    · rw [if_pos c]
      have c := decide_eq_true c
      simp only [q_def, q_seq, q_ite, q_ret, q_set, q_drop, q_asg, q_for, q_for0, q_fc, q_frd_nx, q_frd_rt, q_frd_ct, q_frd_bk, q_turn, q_mkLst, q_mkTup, Nat.reduceLeDiff, q_and_bl, q_or_bl, q_c0, q_c1, q_c2, q_c3, q_c4, q_c5, q_c6, q_c9, q_c13, decide_true, decide_false, Int.reduceEq, Int.reduceLT, Int.reduceLE, Int.reduceAdd, Int.reduceSub, Int.reduceMul, Int.reduceNeg, Int.reducePow, Int.reduceToNat, Int.reduceBNe, Int.reduceNe, Nat.zero_le, q_get, q_cst, q_lift, q_un, q_with, q_av0, q_avC, q_callN, q_callKW, q_andD, q_orD, q_notD, q_fAnd, q_fOr, q_fNot, q_fTru, q_fBoo, q_ifD, q_isN, q_fIsN, q_fNotN, startD, q_bind, q_toS, q_rt, q_nx, q_thn_nx, q_thn_rt, q_okO, q_nxO, q_pure, q_none0, q_none1, q_none2, q_none3, q_none4, q_tru_bl, q_tru_int, q_tru_lst, q_tru_tup, q_tru_non, q_boo, q_seqL, q_seqT, q_lenL, q_lenT, q_eqI, q_neI, q_lt, q_le, q_gt, q_ge, q_add, q_addL, q_sub, q_neg, q_abs, q_int, q_intB, q_max, q_gcd, q_tupL, q_gL, q_gT, q_g0, q_g1, q_g2, q_lc, q_par, q_parO, q_whS, q_slc, q_prt0, q_prt1, q_intR, q_slcL, q_slcT, q_zipL, q_zipT, q_allp, List.length_map, wipeE, List.map_cons, List.map_nil, List.length_cons, List.length_nil, List.replicate, List.cons_append, List.nil_append, List.getElem?_cons_zero, List.getElem?_cons_succ, List.set_cons_zero, List.set_cons_succ, Nat.reduceSub, Nat.reduceAdd, if_true, Bool.not_true, Bool.not_false, Bool.false_eq_true, if_false, reduceIte, setD, List.foldl_cons, List.foldl_nil, q_asgN, q_asgT, q_asgL, q_asgs0, q_asgsC, Option.bind_some, List.append_nil, *]
    · rw [if_neg c]
      have c := decide_eq_false c
      simp only [q_def, q_seq, q_ite, q_ret, q_set, q_drop, q_asg, q_for, q_for0, q_fc, q_frd_nx, q_frd_rt, q_frd_ct, q_frd_bk, q_turn, q_mkLst, q_mkTup, Nat.reduceLeDiff, q_and_bl, q_or_bl, q_c0, q_c1, q_c2, q_c3, q_c4, q_c5, q_c6, q_c9, q_c13, decide_true, decide_false, Int.reduceEq, Int.reduceLT, Int.reduceLE, Int.reduceAdd, Int.reduceSub, Int.reduceMul, Int.reduceNeg, Int.reducePow, Int.reduceToNat, Int.reduceBNe, Int.reduceNe, Nat.zero_le, q_get, q_cst, q_lift, q_un, q_with, q_av0, q_avC, q_callN, q_callKW, q_andD, q_orD, q_notD, q_fAnd, q_fOr, q_fNot, q_fTru, q_fBoo, q_ifD, q_isN, q_fIsN, q_fNotN, startD, q_bind, q_toS, q_rt, q_nx, q_thn_nx, q_thn_rt, q_okO, q_nxO, q_pure, q_none0, q_none1, q_none2, q_none3, q_none4, q_tru_bl, q_tru_int, q_tru_lst, q_tru_tup, q_tru_non, q_boo, q_seqL, q_seqT, q_lenL, q_lenT, q_eqI, q_neI, q_lt, q_le, q_gt, q_ge, q_add, q_addL, q_sub, q_neg, q_abs, q_int, q_intB, q_max, q_gcd, q_tupL, q_gL, q_gT, q_g0, q_g1, q_g2, q_lc, q_par, q_parO, q_whS, q_slc, q_prt0, q_prt1, q_intR, q_slcL, q_slcT, q_zipL, q_zipT, q_allp, List.length_map, wipeE, List.map_cons, List.map_nil, List.length_cons, List.length_nil, List.replicate, List.cons_append, List.nil_append, List.getElem?_cons_zero, List.getElem?_cons_succ, List.set_cons_zero, List.set_cons_succ, Nat.reduceSub, Nat.reduceAdd, if_true, Bool.not_true, Bool.not_false, Bool.false_eq_true, if_false, reduceIte, setD, List.foldl_cons, List.foldl_nil, q_asgN, q_asgT, q_asgL, q_asgs0, q_asgsC, Option.bind_some, List.append_nil, *]
theorem form_loop (s : Deck) (p q : Option D) : ∀ (n : Nat) (x y : Int), 0 ≤ x → 0 ≤ y → y.natAbs < n →
    whileD (fBoo (lift2 gtM (getE 3) (cst (.int 0)))) (parS 2 3 (avC (getE 3) (avC (lift2 modM (withA (avC (getE 2) av0) intM1) (getE 3)) av0))) n [p, q, some (.int x), some (.int y)] s = .nx [p, q, some (.int (Nat.gcd x.natAbs y.natAbs : Nat)), some (.int 0)] s
  | 0, x, y, _, _, h => absurd h (Nat.not_lt_zero _)
  | n + 1, x, y, hx, hy, h => by
    rw [q_whD]
    by_cases c : 0 < y
    · have r0 := Int.emod_nonneg x (by omega : y ≠ 0)
      have r1 := Int.emod_lt_of_pos x c
      have ih := form_loop s p q n y (x % y) hy r0 (by omega)
      rw [gcd_step x y hx c] at ih
      simp only [q_def, q_seq, q_ite, q_ret, q_set, q_drop, q_asg, q_for, q_for0, q_fc, q_frd_nx, q_frd_rt, q_frd_ct, q_frd_bk, q_turn, q_mkLst, q_mkTup, Nat.reduceLeDiff, q_and_bl, q_or_bl, q_c0, q_c1, q_c2, q_c3, q_c4, q_c5, q_c6, q_c9, q_c13, decide_true, decide_false, Int.reduceEq, Int.reduceLT, Int.reduceLE, Int.reduceAdd, Int.reduceSub, Int.reduceMul, Int.reduceNeg, Int.reducePow, Int.reduceToNat, Int.reduceBNe, Int.reduceNe, Nat.zero_le, q_get, q_cst, q_lift, q_un, q_with, q_av0, q_avC, q_callN, q_callKW, q_andD, q_orD, q_notD, q_fAnd, q_fOr, q_fNot, q_fTru, q_fBoo, q_ifD, q_isN, q_fIsN, q_fNotN, startD, q_bind, q_toS, q_rt, q_nx, q_thn_nx, q_thn_rt, q_okO, q_nxO, q_pure, q_none0, q_none1, q_none2, q_none3, q_none4, q_tru_bl, q_tru_int, q_tru_lst, q_tru_tup, q_tru_non, q_boo, q_seqL, q_seqT, q_lenL, q_lenT, q_eqI, q_neI, q_lt, q_le, q_gt, q_ge, q_add, q_addL, q_sub, q_neg, q_abs, q_int, q_intB, q_max, q_gcd, q_tupL, q_gL, q_gT, q_g0, q_g1, q_g2, q_lc, q_par, q_parO, q_whS, q_slc, q_prt0, q_prt1, q_intR, q_slcL, q_slcT, q_zipL, q_zipT, q_allp, List.length_map, wipeE, List.map_cons, List.map_nil, List.length_cons, List.length_nil, List.replicate, List.cons_append, List.nil_append, List.getElem?_cons_zero, List.getElem?_cons_succ, List.set_cons_zero, List.set_cons_succ, Nat.reduceSub, Nat.reduceAdd, if_true, Bool.not_true, Bool.not_false, Bool.false_eq_true, if_false, reduceIte, setD, List.foldl_cons, List.foldl_nil, q_asgN, q_asgT, q_asgL, q_asgs0, q_asgsC, Option.bind_some, List.append_nil, q_mod, *]
    · have e : y = 0 := by omega
      subst e
      clear h hy
      have e2 : ((Nat.gcd x.natAbs (0:Int).natAbs : Nat) : Int) = x := by simp; omega
      rw [e2]
      simp only [q_def, q_seq, q_ite, q_ret, q_set, q_drop, q_asg, q_for, q_for0, q_fc, q_frd_nx, q_frd_rt, q_frd_ct, q_frd_bk, q_turn, q_mkLst, q_mkTup, Nat.reduceLeDiff, q_and_bl, q_or_bl, q_c0, q_c1, q_c2, q_c3, q_c4, q_c5, q_c6, q_c9, q_c13, decide_true, decide_false, Int.reduceEq, Int.reduceLT, Int.reduceLE, Int.reduceAdd, Int.reduceSub, Int.reduceMul, Int.reduceNeg, Int.reducePow, Int.reduceToNat, Int.reduceBNe, Int.reduceNe, Nat.zero_le, q_get, q_cst, q_lift, q_un, q_with, q_av0, q_avC, q_callN, q_callKW, q_andD, q_orD, q_notD, q_fAnd, q_fOr, q_fNot, q_fTru, q_fBoo, q_ifD, q_isN, q_fIsN, q_fNotN, startD, q_bind, q_toS, q_rt, q_nx, q_thn_nx, q_thn_rt, q_okO, q_nxO, q_pure, q_none0, q_none1, q_none2, q_none3, q_none4, q_tru_bl, q_tru_int, q_tru_lst, q_tru_tup, q_tru_non, q_boo, q_seqL, q_seqT, q_lenL, q_lenT, q_eqI, q_neI, q_lt, q_le, q_gt, q_ge, q_add, q_addL, q_sub, q_neg, q_abs, q_int, q_intB, q_max, q_gcd, q_tupL, q_gL, q_gT, q_g0, q_g1, q_g2, q_lc, q_par, q_parO, q_whS, q_slc, q_prt0, q_prt1, q_intR, q_slcL, q_slcT, q_zipL, q_zipT, q_allp, List.length_map, wipeE, List.map_cons, List.map_nil, List.length_cons, List.length_nil, List.replicate, List.cons_append, List.nil_append, List.getElem?_cons_zero, List.getElem?_cons_succ, List.set_cons_zero, List.set_cons_succ, Nat.reduceSub, Nat.reduceAdd, if_true, Bool.not_true, Bool.not_false, Bool.false_eq_true, if_false, reduceIte, setD, List.foldl_cons, List.foldl_nil, q_asgN, q_asgT, q_asgL, q_asgs0, q_asgsC, Option.bind_some, List.append_nil, *]
theorem form_eq {a b : Int} (h : b ≠ 0) (f : fits b) (s : Deck) : m_law_form [.int a, .int b] s = .ok (numD a b) s := by
  unfold m_law_form g_law_form
  have g0 := gI_pos (a := a) h
  have lg := gI_log (a := a) h f
  obtain ⟨pp, pn⟩ := form_div (a := a) h
  have lp := form_loop s (some (.int a)) (some (.int b)) ((if b < 0 then -b else b).natAbs + 1) (if a < 0 then -a else a) (if b < 0 then -b else b) (by split <;> omega) (by split <;> omega) (by omega)
  have n1 : (if a < 0 then -a else a).natAbs = a.natAbs := by split <;> omega
  have n2 : (if b < 0 then -b else b).natAbs = b.natAbs := by split <;> omega
  rw [n1, n2] at lp
  have e4 : intE [some (.int a), some (.int b), some (.int (if a < 0 then -a else a)), some (.int (if b < 0 then -b else b))] 3 = (if b < 0 then -b else b) := rfl
  have q1 : ∀ s : Deck, fdvM (.int a) (.int ((Nat.gcd a.natAbs b.natAbs : Nat) : Int)) s = .ok (.int (a / gI a b)) s := fun s => q_fdv g0 lg
  have q2 : ∀ s : Deck, fdvM (.int b) (.int ((Nat.gcd a.natAbs b.natAbs : Nat) : Int)) s = .ok (.int (b / gI a b)) s := fun s => q_fdv g0 lg
  have bpos : 0 < nfB a b := by
    unfold nfB
    have := Nat.div_pos (Nat.gcd_le_right a.natAbs (show 0 < b.natAbs by omega)) (Nat.gcd_pos_of_pos_right a.natAbs (show 0 < b.natAbs by omega))
    omega
  by_cases hb : b < 0
  · obtain ⟨e1, e2⟩ := pn hb
    have hx : decide (b / gI a b < 0) = true := decide_eq_true (by omega)
    clear pp pn g0 lg h f hb
    unfold numD
    by_cases c : nfB a b = 1
    · rw [if_pos c]
      have c := decide_eq_true c
      simp only [q_def, q_seq, q_ite, q_ret, q_set, q_drop, q_asg, q_for, q_for0, q_fc, q_frd_nx, q_frd_rt, q_frd_ct, q_frd_bk, q_turn, q_mkLst, q_mkTup, Nat.reduceLeDiff, q_and_bl, q_or_bl, q_c0, q_c1, q_c2, q_c3, q_c4, q_c5, q_c6, q_c9, q_c13, decide_true, decide_false, Int.reduceEq, Int.reduceLT, Int.reduceLE, Int.reduceAdd, Int.reduceSub, Int.reduceMul, Int.reduceNeg, Int.reducePow, Int.reduceToNat, Int.reduceBNe, Int.reduceNe, Nat.zero_le, q_get, q_cst, q_lift, q_un, q_with, q_av0, q_avC, q_callN, q_callKW, q_andD, q_orD, q_notD, q_fAnd, q_fOr, q_fNot, q_fTru, q_fBoo, q_ifD, q_isN, q_fIsN, q_fNotN, startD, q_bind, q_toS, q_rt, q_nx, q_thn_nx, q_thn_rt, q_okO, q_nxO, q_pure, q_none0, q_none1, q_none2, q_none3, q_none4, q_tru_bl, q_tru_int, q_tru_lst, q_tru_tup, q_tru_non, q_boo, q_seqL, q_seqT, q_lenL, q_lenT, q_eqI, q_neI, q_lt, q_le, q_gt, q_ge, q_add, q_addL, q_sub, q_neg, q_abs, q_int, q_intB, q_max, q_gcd, q_tupL, q_gL, q_gT, q_g0, q_g1, q_g2, q_lc, q_par, q_parO, q_whS, q_slc, q_prt0, q_prt1, q_intR, q_slcL, q_slcT, q_zipL, q_zipT, q_allp, List.length_map, wipeE, List.map_cons, List.map_nil, List.length_cons, List.length_nil, List.replicate, List.cons_append, List.nil_append, List.getElem?_cons_zero, List.getElem?_cons_succ, List.set_cons_zero, List.set_cons_succ, Nat.reduceSub, Nat.reduceAdd, if_true, Bool.not_true, Bool.not_false, Bool.false_eq_true, if_false, reduceIte, setD, List.foldl_cons, List.foldl_nil, q_asgN, q_asgT, q_asgL, q_asgs0, q_asgsC, Option.bind_some, List.append_nil, *]
    · rw [if_neg c]
      have c := decide_eq_false c
      simp only [q_def, q_seq, q_ite, q_ret, q_set, q_drop, q_asg, q_for, q_for0, q_fc, q_frd_nx, q_frd_rt, q_frd_ct, q_frd_bk, q_turn, q_mkLst, q_mkTup, Nat.reduceLeDiff, q_and_bl, q_or_bl, q_c0, q_c1, q_c2, q_c3, q_c4, q_c5, q_c6, q_c9, q_c13, decide_true, decide_false, Int.reduceEq, Int.reduceLT, Int.reduceLE, Int.reduceAdd, Int.reduceSub, Int.reduceMul, Int.reduceNeg, Int.reducePow, Int.reduceToNat, Int.reduceBNe, Int.reduceNe, Nat.zero_le, q_get, q_cst, q_lift, q_un, q_with, q_av0, q_avC, q_callN, q_callKW, q_andD, q_orD, q_notD, q_fAnd, q_fOr, q_fNot, q_fTru, q_fBoo, q_ifD, q_isN, q_fIsN, q_fNotN, startD, q_bind, q_toS, q_rt, q_nx, q_thn_nx, q_thn_rt, q_okO, q_nxO, q_pure, q_none0, q_none1, q_none2, q_none3, q_none4, q_tru_bl, q_tru_int, q_tru_lst, q_tru_tup, q_tru_non, q_boo, q_seqL, q_seqT, q_lenL, q_lenT, q_eqI, q_neI, q_lt, q_le, q_gt, q_ge, q_add, q_addL, q_sub, q_neg, q_abs, q_int, q_intB, q_max, q_gcd, q_tupL, q_gL, q_gT, q_g0, q_g1, q_g2, q_lc, q_par, q_parO, q_whS, q_slc, q_prt0, q_prt1, q_intR, q_slcL, q_slcT, q_zipL, q_zipT, q_allp, List.length_map, wipeE, List.map_cons, List.map_nil, List.length_cons, List.length_nil, List.replicate, List.cons_append, List.nil_append, List.getElem?_cons_zero, List.getElem?_cons_succ, List.set_cons_zero, List.set_cons_succ, Nat.reduceSub, Nat.reduceAdd, if_true, Bool.not_true, Bool.not_false, Bool.false_eq_true, if_false, reduceIte, setD, List.foldl_cons, List.foldl_nil, q_asgN, q_asgT, q_asgL, q_asgs0, q_asgsC, Option.bind_some, List.append_nil, *]
  · obtain ⟨e1, e2⟩ := pp (by omega)
    have hx : decide (nfB a b < 0) = false := decide_eq_false (by omega)
    clear pp pn g0 lg h f hb
    unfold numD
    by_cases c : nfB a b = 1
    · rw [if_pos c]
      have c := decide_eq_true c
      simp only [q_def, q_seq, q_ite, q_ret, q_set, q_drop, q_asg, q_for, q_for0, q_fc, q_frd_nx, q_frd_rt, q_frd_ct, q_frd_bk, q_turn, q_mkLst, q_mkTup, Nat.reduceLeDiff, q_and_bl, q_or_bl, q_c0, q_c1, q_c2, q_c3, q_c4, q_c5, q_c6, q_c9, q_c13, decide_true, decide_false, Int.reduceEq, Int.reduceLT, Int.reduceLE, Int.reduceAdd, Int.reduceSub, Int.reduceMul, Int.reduceNeg, Int.reducePow, Int.reduceToNat, Int.reduceBNe, Int.reduceNe, Nat.zero_le, q_get, q_cst, q_lift, q_un, q_with, q_av0, q_avC, q_callN, q_callKW, q_andD, q_orD, q_notD, q_fAnd, q_fOr, q_fNot, q_fTru, q_fBoo, q_ifD, q_isN, q_fIsN, q_fNotN, startD, q_bind, q_toS, q_rt, q_nx, q_thn_nx, q_thn_rt, q_okO, q_nxO, q_pure, q_none0, q_none1, q_none2, q_none3, q_none4, q_tru_bl, q_tru_int, q_tru_lst, q_tru_tup, q_tru_non, q_boo, q_seqL, q_seqT, q_lenL, q_lenT, q_eqI, q_neI, q_lt, q_le, q_gt, q_ge, q_add, q_addL, q_sub, q_neg, q_abs, q_int, q_intB, q_max, q_gcd, q_tupL, q_gL, q_gT, q_g0, q_g1, q_g2, q_lc, q_par, q_parO, q_whS, q_slc, q_prt0, q_prt1, q_intR, q_slcL, q_slcT, q_zipL, q_zipT, q_allp, List.length_map, wipeE, List.map_cons, List.map_nil, List.length_cons, List.length_nil, List.replicate, List.cons_append, List.nil_append, List.getElem?_cons_zero, List.getElem?_cons_succ, List.set_cons_zero, List.set_cons_succ, Nat.reduceSub, Nat.reduceAdd, if_true, Bool.not_true, Bool.not_false, Bool.false_eq_true, if_false, reduceIte, setD, List.foldl_cons, List.foldl_nil, q_asgN, q_asgT, q_asgL, q_asgs0, q_asgsC, Option.bind_some, List.append_nil, *]
    · rw [if_neg c]
      have c := decide_eq_false c
      simp only [q_def, q_seq, q_ite, q_ret, q_set, q_drop, q_asg, q_for, q_for0, q_fc, q_frd_nx, q_frd_rt, q_frd_ct, q_frd_bk, q_turn, q_mkLst, q_mkTup, Nat.reduceLeDiff, q_and_bl, q_or_bl, q_c0, q_c1, q_c2, q_c3, q_c4, q_c5, q_c6, q_c9, q_c13, decide_true, decide_false, Int.reduceEq, Int.reduceLT, Int.reduceLE, Int.reduceAdd, Int.reduceSub, Int.reduceMul, Int.reduceNeg, Int.reducePow, Int.reduceToNat, Int.reduceBNe, Int.reduceNe, Nat.zero_le, q_get, q_cst, q_lift, q_un, q_with, q_av0, q_avC, q_callN, q_callKW, q_andD, q_orD, q_notD, q_fAnd, q_fOr, q_fNot, q_fTru, q_fBoo, q_ifD, q_isN, q_fIsN, q_fNotN, startD, q_bind, q_toS, q_rt, q_nx, q_thn_nx, q_thn_rt, q_okO, q_nxO, q_pure, q_none0, q_none1, q_none2, q_none3, q_none4, q_tru_bl, q_tru_int, q_tru_lst, q_tru_tup, q_tru_non, q_boo, q_seqL, q_seqT, q_lenL, q_lenT, q_eqI, q_neI, q_lt, q_le, q_gt, q_ge, q_add, q_addL, q_sub, q_neg, q_abs, q_int, q_intB, q_max, q_gcd, q_tupL, q_gL, q_gT, q_g0, q_g1, q_g2, q_lc, q_par, q_parO, q_whS, q_slc, q_prt0, q_prt1, q_intR, q_slcL, q_slcT, q_zipL, q_zipT, q_allp, List.length_map, wipeE, List.map_cons, List.map_nil, List.length_cons, List.length_nil, List.replicate, List.cons_append, List.nil_append, List.getElem?_cons_zero, List.getElem?_cons_succ, List.set_cons_zero, List.set_cons_succ, Nat.reduceSub, Nat.reduceAdd, if_true, Bool.not_true, Bool.not_false, Bool.false_eq_true, if_false, reduceIte, setD, List.foldl_cons, List.foldl_nil, q_asgN, q_asgT, q_asgL, q_asgs0, q_asgsC, Option.bind_some, List.append_nil, *]
end K03

namespace K03
open PySem L2 FL
/-! ### sums -/
def Sz (k : Nat) (x : Int) : Prop := x.natAbs < 2 ^ k
theorem Sz.mono {j k : Nat} {x : Int} (h : Sz j x) (l : j ≤ k) : Sz k x := Nat.lt_of_lt_of_le h (Nat.pow_le_pow_right (by decide) l)
theorem Sz.mul {j k : Nat} {x y : Int} (h : Sz j x) (l : Sz k y) : Sz (j + k) (x * y) := by
  unfold Sz at *
  rw [Int.natAbs_mul, Nat.pow_add]
  exact Nat.mul_lt_mul'' h l
theorem Sz.add {k : Nat} {x y : Int} (h : Sz k x) (l : Sz k y) : Sz (k + 1) (x + y) := by
  unfold Sz at *
  have := Int.natAbs_add_le x y
  rw [Nat.pow_succ]
  omega
theorem Sz.log {k : Nat} {x : Int} (h : Sz k x) : x.natAbs.log2 ≤ k := by
  by_cases z : x.natAbs = 0
  · rw [z]; exact Nat.zero_le _
  · exact Nat.le_of_lt ((Nat.log2_lt z).mpr h)
theorem q_mulS {j k : Nat} {x y : Int} {s : Deck} (h : Sz j x) (l : Sz k y) (b : j + k < 1000000) : mulM (.int x) (.int y) s = .ok (.int (x * y)) s := by
  unfold mulM intM
  simp only []
  rw [if_pos]
  refine Bool.or_eq_true_iff.mpr (.inl (decide_eq_true ?_))
  have := h.log
  have := l.log
  omega
/-- a number as the text has it -/
inductive NV : D → Int → Int → Prop
  | int (a : Int) : NV (.int a) a 1
  | tup {a b : Int} (h : 2 ≤ b) : NV (.tup [.int a, .int b]) a b
  | lst {a b : Int} (h : 2 ≤ b) : NV (.lst [.int a, .int b]) a b
theorem NV.pos {d : D} {a b : Int} (n : NV d a b) : 0 < b := by cases n <;> omega
theorem ab_eq {d : D} {a b : Int} (n : NV d a b) (s : Deck) : m_above_below [d] s = .ok (.tup [.int a, .int b]) s := by
  unfold m_above_below g_above_below
  cases n <;> simp only [q_def, q_seq, q_ite, q_ret, q_set, q_drop, q_asg, q_for, q_for0, q_fc, q_frd_nx, q_frd_rt, q_frd_ct, q_frd_bk, q_turn, q_mkLst, q_mkTup, Nat.reduceLeDiff, q_and_bl, q_or_bl, q_c0, q_c1, q_c2, q_c3, q_c4, q_c5, q_c6, q_c9, q_c13, decide_true, decide_false, Int.reduceEq, Int.reduceLT, Int.reduceLE, Int.reduceAdd, Int.reduceSub, Int.reduceMul, Int.reduceNeg, Int.reducePow, Int.reduceToNat, Int.reduceBNe, Int.reduceNe, Nat.zero_le, q_get, q_cst, q_lift, q_un, q_with, q_av0, q_avC, q_callN, q_callKW, q_andD, q_orD, q_notD, q_fAnd, q_fOr, q_fNot, q_fTru, q_fBoo, q_ifD, q_isN, q_fIsN, q_fNotN, startD, q_bind, q_toS, q_rt, q_nx, q_thn_nx, q_thn_rt, q_okO, q_nxO, q_pure, q_none0, q_none1, q_none2, q_none3, q_none4, q_tru_bl, q_tru_int, q_tru_lst, q_tru_tup, q_tru_non, q_boo, q_seqL, q_seqT, q_lenL, q_lenT, q_eqI, q_neI, q_lt, q_le, q_gt, q_ge, q_add, q_addL, q_sub, q_neg, q_abs, q_int, q_intB, q_max, q_gcd, q_tupL, q_gL, q_gT, q_g0, q_g1, q_g2, q_lc, q_par, q_parO, q_whS, q_slc, q_prt0, q_prt1, q_intR, q_slcL, q_slcT, q_zipL, q_zipT, q_allp, List.length_map, wipeE, List.map_cons, List.map_nil, List.length_cons, List.length_nil, List.replicate, List.cons_append, List.nil_append, List.getElem?_cons_zero, List.getElem?_cons_succ, List.set_cons_zero, List.set_cons_succ, Nat.reduceSub, Nat.reduceAdd, if_true, Bool.not_true, Bool.not_false, Bool.false_eq_true, if_false, reduceIte, setD, List.foldl_cons, List.foldl_nil, q_asgN, q_asgT, q_asgL, q_asgs0, q_asgsC, Option.bind_some, List.append_nil, is_integer_eq, is_list_eq, q_is2, w_int, i_int, w_lst, w_tup, l_lst, l_tup, l_int, Bool.true_and, Bool.false_and, Bool.and_true, Bool.and_false, at0, at1, *]
theorem q_isInt {f : FE} {δ : DEnv} {s : Deck} : isiF f "int" δ s = (f δ s).bind fun x s => .ok (.bl (match x with | .int _ => true | .bl _ => true | _ => false)) s := by
  rw [q_isi]; congr 1; funext x s; cases x <;> rfl
theorem two_eq {d : D} {a b : Int} (n : NV d a b) (s : Deck) : m_law_two [d] s = .ok (.lst [.int a, .int b]) s := by
  unfold m_law_two g_law_two
  cases n <;> simp only [q_def, q_seq, q_ite, q_ret, q_set, q_drop, q_asg, q_for, q_for0, q_fc, q_frd_nx, q_frd_rt, q_frd_ct, q_frd_bk, q_turn, q_mkLst, q_mkTup, Nat.reduceLeDiff, q_and_bl, q_or_bl, q_c0, q_c1, q_c2, q_c3, q_c4, q_c5, q_c6, q_c9, q_c13, decide_true, decide_false, Int.reduceEq, Int.reduceLT, Int.reduceLE, Int.reduceAdd, Int.reduceSub, Int.reduceMul, Int.reduceNeg, Int.reducePow, Int.reduceToNat, Int.reduceBNe, Int.reduceNe, Nat.zero_le, q_get, q_cst, q_lift, q_un, q_with, q_av0, q_avC, q_callN, q_callKW, q_andD, q_orD, q_notD, q_fAnd, q_fOr, q_fNot, q_fTru, q_fBoo, q_ifD, q_isN, q_fIsN, q_fNotN, startD, q_bind, q_toS, q_rt, q_nx, q_thn_nx, q_thn_rt, q_okO, q_nxO, q_pure, q_none0, q_none1, q_none2, q_none3, q_none4, q_tru_bl, q_tru_int, q_tru_lst, q_tru_tup, q_tru_non, q_boo, q_seqL, q_seqT, q_lenL, q_lenT, q_eqI, q_neI, q_lt, q_le, q_gt, q_ge, q_add, q_addL, q_sub, q_neg, q_abs, q_int, q_intB, q_max, q_gcd, q_tupL, q_gL, q_gT, q_g0, q_g1, q_g2, q_lc, q_par, q_parO, q_whS, q_slc, q_prt0, q_prt1, q_intR, q_slcL, q_slcT, q_zipL, q_zipT, q_allp, List.length_map, wipeE, List.map_cons, List.map_nil, List.length_cons, List.length_nil, List.replicate, List.cons_append, List.nil_append, List.getElem?_cons_zero, List.getElem?_cons_succ, List.set_cons_zero, List.set_cons_succ, Nat.reduceSub, Nat.reduceAdd, if_true, Bool.not_true, Bool.not_false, Bool.false_eq_true, if_false, reduceIte, setD, List.foldl_cons, List.foldl_nil, q_asgN, q_asgT, q_asgL, q_asgs0, q_asgsC, Option.bind_some, List.append_nil, is_integer_eq, is_list_eq, q_is2, w_int, i_int, w_lst, w_tup, l_lst, l_tup, l_int, Bool.true_and, Bool.false_and, Bool.and_true, Bool.and_false, at0, at1, q_isInt, *]
abbrev It3 := D × Int × Int
def OkI (w : Nat) (t : It3) : Prop := NV t.1 t.2.1 t.2.2 ∧ Sz w t.2.1 ∧ Sz w t.2.2
def stepL (p : Int × Int) (t : It3) : Int × Int := (p.1 * t.2.2 + t.2.1 * p.2, p.2 * t.2.2)
def sumP (l : List It3) (p : Int × Int) : Int × Int := l.foldl stepL p
theorem law_loop (w : Nat) (s : Deck) : ∀ (l : List It3) (k : Nat) (x y : Int) (x0 x3 x4 : Option D), (∀ t ∈ l, OkI w t) → Sz k x → Sz k y → k + (w + 1) * (l.length + 1) < 400000 →
    ∃ y3 y4, forD (turnS (.nm 3) (seqS (setS 4 (withA (avC (getE 3) av0) (callN 1 m_law_two)))
      (parS 1 2 (avC (lift2 addM (lift2 mulM (getE 1) (lift2 getM (getE 4) (cst (.int 1)))) (lift2 mulM (lift2 getM (getE 4) (cst (.int 0))) (getE 2))) (avC (lift2 mulM (getE 2) (lift2 getM (getE 4) (cst (.int 1)))) av0)))))
      (l.map (·.1)) [x0, some (.int x), some (.int y), x3, x4] s = .nx [x0, some (.int (sumP l (x, y)).1), some (.int (sumP l (x, y)).2), y3, y4] s
  | [], _, x, y, x0, x3, x4, _, _, _, _ => ⟨x3, x4, rfl⟩
  | t :: l, k, x, y, x0, x3, x4, h, hx, hy, hk => by
    obtain ⟨n, sa, sb⟩ := h t (List.mem_cons_self ..)
    rw [List.length_cons] at hk
    have hw : (w + 1) * (l.length + 1 + 1) = (w + 1) * (l.length + 1) + (w + 1) := by rw [Nat.mul_succ]
    have tw := fun s => two_eq n s
    have m1 := fun (s : Deck) => q_mulS (s := s) hx sb (by omega)
    have m2 := fun (s : Deck) => q_mulS (s := s) sa hy (by omega)
    have m3 := fun (s : Deck) => q_mulS (s := s) hy sb (by omega)
    obtain ⟨y3, y4, ih⟩ := law_loop w s l (k + w + 1) (x * t.2.2 + t.2.1 * y) (y * t.2.2) x0 (some t.1) (some (.lst [.int t.2.1, .int t.2.2])) (fun z hz => h z (List.mem_cons_of_mem _ hz))
      (Sz.add (hx.mul sb) ((sa.mul hy).mono (by omega))) ((hy.mul sb).mono (by omega)) (by omega)
    refine ⟨y3, y4, ?_⟩
    rw [List.map_cons, q_fc]
    show _ = RS.nx [x0, some (.int (sumP l (stepL (x, y) t)).1), some (.int (sumP l (stepL (x, y) t)).2), y3, y4] s
    rw [show stepL (x, y) t = (x * t.2.2 + t.2.1 * y, y * t.2.2) from rfl, ← ih]
    clear ih n sa sb hx hy hk hw h
    simp only [q_def, q_seq, q_ite, q_ret, q_set, q_drop, q_asg, q_for, q_for0, q_fc, q_frd_nx, q_frd_rt, q_frd_ct, q_frd_bk, q_turn, q_mkLst, q_mkTup, Nat.reduceLeDiff, q_and_bl, q_or_bl, q_c0, q_c1, q_c2, q_c3, q_c4, q_c5, q_c6, q_c9, q_c13, decide_true, decide_false, Int.reduceEq, Int.reduceLT, Int.reduceLE, Int.reduceAdd, Int.reduceSub, Int.reduceMul, Int.reduceNeg, Int.reducePow, Int.reduceToNat, Int.reduceBNe, Int.reduceNe, Nat.zero_le, q_get, q_cst, q_lift, q_un, q_with, q_av0, q_avC, q_callN, q_callKW, q_andD, q_orD, q_notD, q_fAnd, q_fOr, q_fNot, q_fTru, q_fBoo, q_ifD, q_isN, q_fIsN, q_fNotN, startD, q_bind, q_toS, q_rt, q_nx, q_thn_nx, q_thn_rt, q_okO, q_nxO, q_pure, q_none0, q_none1, q_none2, q_none3, q_none4, q_tru_bl, q_tru_int, q_tru_lst, q_tru_tup, q_tru_non, q_boo, q_seqL, q_seqT, q_lenL, q_lenT, q_eqI, q_neI, q_lt, q_le, q_gt, q_ge, q_add, q_addL, q_sub, q_neg, q_abs, q_int, q_intB, q_max, q_gcd, q_tupL, q_gL, q_gT, q_g0, q_g1, q_g2, q_lc, q_par, q_parO, q_whS, q_slc, q_prt0, q_prt1, q_intR, q_slcL, q_slcT, q_zipL, q_zipT, q_allp, List.length_map, wipeE, List.map_cons, List.map_nil, List.length_cons, List.length_nil, List.replicate, List.cons_append, List.nil_append, List.getElem?_cons_zero, List.getElem?_cons_succ, List.set_cons_zero, List.set_cons_succ, Nat.reduceSub, Nat.reduceAdd, if_true, Bool.not_true, Bool.not_false, Bool.false_eq_true, if_false, reduceIte, setD, List.foldl_cons, List.foldl_nil, q_asgN, q_asgT, q_asgL, q_asgs0, q_asgsC, Option.bind_some, List.append_nil, is_integer_eq, is_list_eq, q_is2, w_int, i_int, w_lst, w_tup, l_lst, l_tup, l_int, Bool.true_and, Bool.false_and, Bool.and_true, Bool.and_false, at0, at1, *]
theorem sum_eq (w : Nat) (l : List It3) (h : ∀ t ∈ l, OkI w t) (hk : 1 + (w + 1) * (l.length + 1) < 7000) (s : Deck) (hb : (sumP l (0, 1)).2 ≠ 0) (hf : fits (sumP l (0, 1)).2) : m_law_sum [.lst (l.map (·.1))] s = .ok (numD (sumP l (0, 1)).1 (sumP l (0, 1)).2) s := by
  unfold m_law_sum g_law_sum
  obtain ⟨y3, y4, e⟩ := law_loop w s l 1 0 1 (some (.lst (l.map (·.1)))) none none h (by unfold Sz; decide) (by unfold Sz; decide) (by omega)
  have fe := fun s => form_eq (a := (sumP l (0, 1)).1) hb hf s
  clear h hk hb hf
  simp only [q_def, q_seq, q_ite, q_ret, q_set, q_drop, q_asg, q_for, q_for0, q_fc, q_frd_nx, q_frd_rt, q_frd_ct, q_frd_bk, q_turn, q_mkLst, q_mkTup, Nat.reduceLeDiff, q_and_bl, q_or_bl, q_c0, q_c1, q_c2, q_c3, q_c4, q_c5, q_c6, q_c9, q_c13, decide_true, decide_false, Int.reduceEq, Int.reduceLT, Int.reduceLE, Int.reduceAdd, Int.reduceSub, Int.reduceMul, Int.reduceNeg, Int.reducePow, Int.reduceToNat, Int.reduceBNe, Int.reduceNe, Nat.zero_le, q_get, q_cst, q_lift, q_un, q_with, q_av0, q_avC, q_callN, q_callKW, q_andD, q_orD, q_notD, q_fAnd, q_fOr, q_fNot, q_fTru, q_fBoo, q_ifD, q_isN, q_fIsN, q_fNotN, startD, q_bind, q_toS, q_rt, q_nx, q_thn_nx, q_thn_rt, q_okO, q_nxO, q_pure, q_none0, q_none1, q_none2, q_none3, q_none4, q_tru_bl, q_tru_int, q_tru_lst, q_tru_tup, q_tru_non, q_boo, q_seqL, q_seqT, q_lenL, q_lenT, q_eqI, q_neI, q_lt, q_le, q_gt, q_ge, q_add, q_addL, q_sub, q_neg, q_abs, q_int, q_intB, q_max, q_gcd, q_tupL, q_gL, q_gT, q_g0, q_g1, q_g2, q_lc, q_par, q_parO, q_whS, q_slc, q_prt0, q_prt1, q_intR, q_slcL, q_slcT, q_zipL, q_zipT, q_allp, List.length_map, wipeE, List.map_cons, List.map_nil, List.length_cons, List.length_nil, List.replicate, List.cons_append, List.nil_append, List.getElem?_cons_zero, List.getElem?_cons_succ, List.set_cons_zero, List.set_cons_succ, Nat.reduceSub, Nat.reduceAdd, if_true, Bool.not_true, Bool.not_false, Bool.false_eq_true, if_false, reduceIte, setD, List.foldl_cons, List.foldl_nil, q_asgN, q_asgT, q_asgL, q_asgs0, q_asgsC, Option.bind_some, List.append_nil, is_integer_eq, is_list_eq, q_is2, w_int, i_int, w_lst, w_tup, l_lst, l_tup, l_int, Bool.true_and, Bool.false_and, Bool.and_true, Bool.and_false, *]
theorem Sz.div {k : Nat} {x y g : Int} (h : Sz k x) (e : x = g * y) (g0 : 0 < g) : Sz k y := by
  unfold Sz at *
  have : x.natAbs = g.natAbs * y.natAbs := by rw [e, Int.natAbs_mul]
  have h1 : 1 ≤ g.natAbs := by omega
  have h2 : y.natAbs ≤ g.natAbs * y.natAbs := Nat.le_mul_of_pos_left _ h1
  omega
theorem Sz.log9 {k : Nat} {x : Int} (h : Sz k x) (hk : k ≤ 8000) : fits x := Nat.lt_of_lt_of_le h (Nat.pow_le_pow_right (by decide) hk)
def addB : FS := (seqS (asgS (.tp [(.nm 4), (.nm 5)]) (withA (avC (getE 3) av0) (callN 1 m_above_below)))
    (seqS (setS 6 (withA (avC (getE 2) (avC (getE 5) av0)) gcdM))
    (seqS (setS 1 (lift2 addM (lift2 mulM (getE 1) (lift2 fdvM (getE 5) (getE 6))) (lift2 mulM (getE 4) (lift2 fdvM (getE 2) (getE 6)))))
    (setS 2 (lift2 mulM (lift2 fdvM (getE 2) (getE 6)) (getE 5))))))
theorem added_fold : g_added = (seqS (asgS (.tp [(.nm 1), (.nm 2)]) (withA (avC (cst (.int 0)) (avC (cst (.int 1)) av0)) mkTup))
    (seqS (forS (fun δ s => ((getE 0) δ s).bind seqM) (.nm 3) addB)
    (retS (withA (avC (getE 1) (avC (getE 2) av0)) (callN 2 m_made))))) := rfl
theorem add_loop (w : Nat) (s : Deck) : ∀ (L : List It3) (k : Nat) (t l x y : Int) (x0 x3 x4 x5 x6 : Option D), (∀ z ∈ L, OkI w z) → Sz k t → Sz k l → 0 < l → 0 < y → t * y = x * l → k + (w + 1) * (L.length + 1) < 8000 →
    ∃ t' l' y3 y4 y5 y6, forD (turnS (.nm 3) addB) (L.map (·.1)) [x0, some (.int t), some (.int l), x3, x4, x5, x6] s = .nx [x0, some (.int t'), some (.int l'), y3, y4, y5, y6] s ∧
      0 < l' ∧ 0 < (sumP L (x, y)).2 ∧ t' * (sumP L (x, y)).2 = (sumP L (x, y)).1 * l' ∧ fits l'
  | [], k, t, l, x, y, x0, x3, x4, x5, x6, _, _, hl, l0, y0, e, hk => ⟨t, l, x3, x4, x5, x6, rfl, l0, y0, e, hl.log9 (by omega)⟩
  | z :: L, k, t, l, x, y, x0, x3, x4, x5, x6, h, ht, hl, l0, y0, e, hk => by
    obtain ⟨n, sa, sb⟩ := h z (List.mem_cons_self ..)
    have b0 := n.pos
    rw [List.length_cons] at hk
    have hw : (w + 1) * (L.length + 1 + 1) = (w + 1) * (L.length + 1) + (w + 1) := by rw [Nat.mul_succ]
    have g0 : 0 < gI l z.2.2 := gI_pos (by omega)
    have lg : (gI l z.2.2).natAbs.log2 < 9000 := gI_log (by omega) (sb.log9 (by omega))
    obtain ⟨dl, db⟩ := gI_dvd l z.2.2
    obtain ⟨l1, el⟩ := dl
    obtain ⟨b1, eb⟩ := db
    have ql : l / gI l z.2.2 = l1 := by
      have := Int.mul_ediv_cancel_left l1 (show gI l z.2.2 ≠ 0 by omega)
      rw [← el] at this; exact this
    have qb : z.2.2 / gI l z.2.2 = b1 := by
      have := Int.mul_ediv_cancel_left b1 (show gI l z.2.2 ≠ 0 by omega)
      rw [← eb] at this; exact this
    have f1 : ∀ s : Deck, fdvM (.int z.2.2) (.int ((Nat.gcd l.natAbs z.2.2.natAbs : Nat) : Int)) s = .ok (.int b1) s := fun s => by
      have := q_fdv (i := z.2.2) (s := s) g0 lg
      rw [qb] at this; exact this
    have f2 : ∀ s : Deck, fdvM (.int l) (.int ((Nat.gcd l.natAbs z.2.2.natAbs : Nat) : Int)) s = .ok (.int l1) s := fun s => by
      have := q_fdv (i := l) (s := s) g0 lg
      rw [ql] at this; exact this
    have sl1 := hl.div el g0
    have sb1 := sb.div eb g0
    have ab := fun s => ab_eq n s
    have m1 := fun (s : Deck) => q_mulS (s := s) ht sb1 (by omega)
    have m2 := fun (s : Deck) => q_mulS (s := s) sa sl1 (by omega)
    have m3 := fun (s : Deck) => q_mulS (s := s) sl1 sb (by omega)
    have l1p : 0 < l1 := Int.pos_of_mul_pos_left (by rw [Int.mul_comm, ← el]; exact l0) g0
    have b1p : 0 < b1 := Int.pos_of_mul_pos_left (by rw [Int.mul_comm, ← eb]; exact b0) g0
    have inv : (t * b1 + z.2.1 * l1) * (y * z.2.2) = (x * z.2.2 + z.2.1 * y) * (l1 * z.2.2) := by
      obtain ⟨g, hg⟩ : ∃ g, g = gI l z.2.2 := ⟨_, rfl⟩
      rw [← hg] at el eb
      have k1 : t * b1 * (y * z.2.2) = x * z.2.2 * (l1 * z.2.2) := by
        have e1 : t * y * (b1 * z.2.2) = x * l * (b1 * z.2.2) := by rw [e]
        calc t * b1 * (y * z.2.2) = t * y * (b1 * z.2.2) := by ac_rfl
          _ = x * l * (b1 * z.2.2) := e1
          _ = x * (g * l1) * (b1 * z.2.2) := by rw [el]
          _ = x * (g * b1) * (l1 * z.2.2) := by ac_rfl
          _ = x * z.2.2 * (l1 * z.2.2) := by rw [← eb]
      rw [Int.add_mul, Int.add_mul, k1]
      congr 1
      ac_rfl
    obtain ⟨t', l', y3, y4, y5, y6, ih, p1, p2, p3, p4⟩ := add_loop w s L (k + w + 1) (t * b1 + z.2.1 * l1) (l1 * z.2.2) (x * z.2.2 + z.2.1 * y) (y * z.2.2) x0 (some z.1) (some (.int z.2.1)) (some (.int z.2.2)) (some (.int ((Nat.gcd l.natAbs z.2.2.natAbs : Nat) : Int)))
      (fun q hq => h q (List.mem_cons_of_mem _ hq)) (Sz.add (ht.mul sb1) ((sa.mul sl1).mono (by omega))) ((sl1.mul sb).mono (by omega)) (Int.mul_pos l1p b0) (Int.mul_pos y0 b0) inv (by omega)
    refine ⟨t', l', y3, y4, y5, y6, ?_, p1, p2, p3, p4⟩
    rw [List.map_cons, q_fc]
    rw [← ih]
    unfold addB
    clear ih p1 p2 p3 p4 inv n sa sb ht hl l0 y0 e hk h b0 hw g0 lg el eb ql qb sl1 sb1 l1p b1p
    simp only [q_def, q_seq, q_ite, q_ret, q_set, q_drop, q_asg, q_for, q_for0, q_fc, q_frd_nx, q_frd_rt, q_frd_ct, q_frd_bk, q_turn, q_mkLst, q_mkTup, Nat.reduceLeDiff, q_and_bl, q_or_bl, q_c0, q_c1, q_c2, q_c3, q_c4, q_c5, q_c6, q_c9, q_c13, decide_true, decide_false, Int.reduceEq, Int.reduceLT, Int.reduceLE, Int.reduceAdd, Int.reduceSub, Int.reduceMul, Int.reduceNeg, Int.reducePow, Int.reduceToNat, Int.reduceBNe, Int.reduceNe, Nat.zero_le, q_get, q_cst, q_lift, q_un, q_with, q_av0, q_avC, q_callN, q_callKW, q_andD, q_orD, q_notD, q_fAnd, q_fOr, q_fNot, q_fTru, q_fBoo, q_ifD, q_isN, q_fIsN, q_fNotN, startD, q_bind, q_toS, q_rt, q_nx, q_thn_nx, q_thn_rt, q_okO, q_nxO, q_pure, q_none0, q_none1, q_none2, q_none3, q_none4, q_tru_bl, q_tru_int, q_tru_lst, q_tru_tup, q_tru_non, q_boo, q_seqL, q_seqT, q_lenL, q_lenT, q_eqI, q_neI, q_lt, q_le, q_gt, q_ge, q_add, q_addL, q_sub, q_neg, q_abs, q_int, q_intB, q_max, q_gcd, q_tupL, q_gL, q_gT, q_g0, q_g1, q_g2, q_lc, q_par, q_parO, q_whS, q_slc, q_prt0, q_prt1, q_intR, q_slcL, q_slcT, q_zipL, q_zipT, q_allp, List.length_map, wipeE, List.map_cons, List.map_nil, List.length_cons, List.length_nil, List.replicate, List.cons_append, List.nil_append, List.getElem?_cons_zero, List.getElem?_cons_succ, List.set_cons_zero, List.set_cons_succ, Nat.reduceSub, Nat.reduceAdd, if_true, Bool.not_true, Bool.not_false, Bool.false_eq_true, if_false, reduceIte, setD, List.foldl_cons, List.foldl_nil, q_asgN, q_asgT, q_asgL, q_asgs0, q_asgsC, Option.bind_some, List.append_nil, *]
end K03

set_option exponentiation.threshold 10000
namespace K03
open PySem L2 FL
theorem numD_eq {a b c d : Int} (hb : b ≠ 0) (hd : d ≠ 0) (h : a * d = c * b) : numD a b = numD c d := by
  obtain ⟨e1, e2⟩ := nf_eq hb hd h
  unfold numD
  rw [e1, e2]
theorem sum_sz (w : Nat) : ∀ (L : List It3) (k : Nat) (x y : Int), (∀ z ∈ L, OkI w z) → Sz k x → Sz k y → 0 < y → Sz (k + (w + 1) * L.length) (sumP L (x, y)).2 ∧ 0 < (sumP L (x, y)).2
  | [], k, x, y, _, _, hy, y0 => ⟨hy, y0⟩
  | z :: L, k, x, y, h, hx, hy, y0 => by
    obtain ⟨n, sa, sb⟩ := h z (List.mem_cons_self ..)
    have b0 := n.pos
    have ih := sum_sz w L (k + w + 1) (x * z.2.2 + z.2.1 * y) (y * z.2.2) (fun q hq => h q (List.mem_cons_of_mem _ hq)) (Sz.add (hx.mul sb) ((sa.mul hy).mono (by omega))) ((hy.mul sb).mono (by omega)) (Int.mul_pos y0 b0)
    refine ⟨ih.1.mono ?_, ih.2⟩
    rw [List.length_cons, Nat.mul_succ]
    omega
theorem added_eq (w : Nat) (L : List It3) (h : ∀ z ∈ L, OkI w z) (hk : 1 + (w + 1) * (L.length + 1) < 7000) (d : D) (hd : d = .lst (L.map (·.1)) ∨ d = .tup (L.map (·.1))) (s : Deck) : m_added [d] s = .ok (numD (sumP L (0, 1)).1 (sumP L (0, 1)).2) s := by
  unfold m_added
  rw [added_fold]
  obtain ⟨t', l', y3, y4, y5, y6, e, p1, p2, p3, p4⟩ := add_loop w s L 1 0 1 0 1 (some d) none none none none h (by unfold Sz; decide) (by unfold Sz; decide) (by decide) (by decide) (by decide) (by omega)
  have me := fun s => made_eq (a := t') (b := l') (by omega) p4 s
  rw [← numD_eq (a := t') (b := l') (c := (sumP L (0, 1)).1) (d := (sumP L (0, 1)).2) (by omega) (by omega) p3]
  clear h hk p1 p2 p3 p4
  rcases hd with rfl | rfl <;> simp only [q_def, q_seq, q_ite, q_ret, q_set, q_drop, q_asg, q_for, q_for0, q_fc, q_frd_nx, q_frd_rt, q_frd_ct, q_frd_bk, q_turn, q_mkLst, q_mkTup, Nat.reduceLeDiff, q_and_bl, q_or_bl, q_c0, q_c1, q_c2, q_c3, q_c4, q_c5, q_c6, q_c9, q_c13, decide_true, decide_false, Int.reduceEq, Int.reduceLT, Int.reduceLE, Int.reduceAdd, Int.reduceSub, Int.reduceMul, Int.reduceNeg, Int.reducePow, Int.reduceToNat, Int.reduceBNe, Int.reduceNe, Nat.zero_le, q_get, q_cst, q_lift, q_un, q_with, q_av0, q_avC, q_callN, q_callKW, q_andD, q_orD, q_notD, q_fAnd, q_fOr, q_fNot, q_fTru, q_fBoo, q_ifD, q_isN, q_fIsN, q_fNotN, startD, q_bind, q_toS, q_rt, q_nx, q_thn_nx, q_thn_rt, q_okO, q_nxO, q_pure, q_none0, q_none1, q_none2, q_none3, q_none4, q_tru_bl, q_tru_int, q_tru_lst, q_tru_tup, q_tru_non, q_boo, q_seqL, q_seqT, q_lenL, q_lenT, q_eqI, q_neI, q_lt, q_le, q_gt, q_ge, q_add, q_addL, q_sub, q_neg, q_abs, q_int, q_intB, q_max, q_gcd, q_tupL, q_gL, q_gT, q_g0, q_g1, q_g2, q_lc, q_par, q_parO, q_whS, q_slc, q_prt0, q_prt1, q_intR, q_slcL, q_slcT, q_zipL, q_zipT, q_allp, List.length_map, wipeE, List.map_cons, List.map_nil, List.length_cons, List.length_nil, List.replicate, List.cons_append, List.nil_append, List.getElem?_cons_zero, List.getElem?_cons_succ, List.set_cons_zero, List.set_cons_succ, Nat.reduceSub, Nat.reduceAdd, if_true, Bool.not_true, Bool.not_false, Bool.false_eq_true, if_false, reduceIte, setD, List.foldl_cons, List.foldl_nil, q_asgN, q_asgT, q_asgL, q_asgs0, q_asgsC, Option.bind_some, List.append_nil, is_integer_eq, is_list_eq, q_is2, w_int, i_int, w_lst, w_tup, l_lst, l_tup, l_int, Bool.true_and, Bool.false_and, Bool.and_true, Bool.and_false, *]
theorem law_sum_eq (w : Nat) (L : List It3) (h : ∀ z ∈ L, OkI w z) (hk : 1 + (w + 1) * (L.length + 1) < 7000) (s : Deck) : m_law_sum [.lst (L.map (·.1))] s = .ok (numD (sumP L (0, 1)).1 (sumP L (0, 1)).2) s := by
  obtain ⟨z, p⟩ := sum_sz w L 1 0 1 h (by unfold Sz; decide) (by unfold Sz; decide) (by decide)
  refine sum_eq w L h hk s (by omega) (z.log9 ?_)
  rw [Nat.mul_succ] at hk
  omega
theorem mult_eq {x y : D} {a b c d : Int} {j k : Nat} (n : NV x a b) (m : NV y c d) (ha : Sz j a) (hb : Sz j b) (hc : Sz k c) (hd : Sz k d) (hk : j + k < 7000) (s : Deck) : m_multiplied [x, y] s = .ok (numD (a * c) (b * d)) s := by
  unfold m_multiplied g_multiplied
  have e1 := fun s => ab_eq n s
  have e2 := fun s => ab_eq m s
  have m1 := fun (s : Deck) => q_mulS (s := s) ha hc (by omega)
  have m2 := fun (s : Deck) => q_mulS (s := s) hb hd (by omega)
  have me := fun s => made_eq (a := a * c) (b := b * d) (by have := Int.mul_pos n.pos m.pos; omega) ((hb.mul hd).log9 (by omega)) s
  clear n m ha hb hc hd hk
  simp only [q_def, q_seq, q_ite, q_ret, q_set, q_drop, q_asg, q_for, q_for0, q_fc, q_frd_nx, q_frd_rt, q_frd_ct, q_frd_bk, q_turn, q_mkLst, q_mkTup, Nat.reduceLeDiff, q_and_bl, q_or_bl, q_c0, q_c1, q_c2, q_c3, q_c4, q_c5, q_c6, q_c9, q_c13, decide_true, decide_false, Int.reduceEq, Int.reduceLT, Int.reduceLE, Int.reduceAdd, Int.reduceSub, Int.reduceMul, Int.reduceNeg, Int.reducePow, Int.reduceToNat, Int.reduceBNe, Int.reduceNe, Nat.zero_le, q_get, q_cst, q_lift, q_un, q_with, q_av0, q_avC, q_callN, q_callKW, q_andD, q_orD, q_notD, q_fAnd, q_fOr, q_fNot, q_fTru, q_fBoo, q_ifD, q_isN, q_fIsN, q_fNotN, startD, q_bind, q_toS, q_rt, q_nx, q_thn_nx, q_thn_rt, q_okO, q_nxO, q_pure, q_none0, q_none1, q_none2, q_none3, q_none4, q_tru_bl, q_tru_int, q_tru_lst, q_tru_tup, q_tru_non, q_boo, q_seqL, q_seqT, q_lenL, q_lenT, q_eqI, q_neI, q_lt, q_le, q_gt, q_ge, q_add, q_addL, q_sub, q_neg, q_abs, q_int, q_intB, q_max, q_gcd, q_tupL, q_gL, q_gT, q_g0, q_g1, q_g2, q_lc, q_par, q_parO, q_whS, q_slc, q_prt0, q_prt1, q_intR, q_slcL, q_slcT, q_zipL, q_zipT, q_allp, List.length_map, wipeE, List.map_cons, List.map_nil, List.length_cons, List.length_nil, List.replicate, List.cons_append, List.nil_append, List.getElem?_cons_zero, List.getElem?_cons_succ, List.set_cons_zero, List.set_cons_succ, Nat.reduceSub, Nat.reduceAdd, if_true, Bool.not_true, Bool.not_false, Bool.false_eq_true, if_false, reduceIte, setD, List.foldl_cons, List.foldl_nil, q_asgN, q_asgT, q_asgL, q_asgs0, q_asgsC, Option.bind_some, List.append_nil, is_integer_eq, is_list_eq, q_is2, w_int, i_int, w_lst, w_tup, l_lst, l_tup, l_int, Bool.true_and, Bool.false_and, Bool.and_true, Bool.and_false, *]
theorem law_times_eq {x y : D} {a b c d : Int} {j k : Nat} (n : NV x a b) (m : NV y c d) (ha : Sz j a) (hb : Sz j b) (hc : Sz k c) (hd : Sz k d) (hk : j + k < 7000) (s : Deck) : m_law_times [x, y] s = .ok (numD (a * c) (b * d)) s := by
  unfold m_law_times g_law_times
  have e1 := fun s => two_eq n s
  have e2 := fun s => two_eq m s
  have m1 := fun (s : Deck) => q_mulS (s := s) ha hc (by omega)
  have m2 := fun (s : Deck) => q_mulS (s := s) hb hd (by omega)
  have me := fun s => form_eq (a := a * c) (b := b * d) (by have := Int.mul_pos n.pos m.pos; omega) ((hb.mul hd).log9 (by omega)) s
  clear n m ha hb hc hd hk
  simp only [q_def, q_seq, q_ite, q_ret, q_set, q_drop, q_asg, q_for, q_for0, q_fc, q_frd_nx, q_frd_rt, q_frd_ct, q_frd_bk, q_turn, q_mkLst, q_mkTup, Nat.reduceLeDiff, q_and_bl, q_or_bl, q_c0, q_c1, q_c2, q_c3, q_c4, q_c5, q_c6, q_c9, q_c13, decide_true, decide_false, Int.reduceEq, Int.reduceLT, Int.reduceLE, Int.reduceAdd, Int.reduceSub, Int.reduceMul, Int.reduceNeg, Int.reducePow, Int.reduceToNat, Int.reduceBNe, Int.reduceNe, Nat.zero_le, q_get, q_cst, q_lift, q_un, q_with, q_av0, q_avC, q_callN, q_callKW, q_andD, q_orD, q_notD, q_fAnd, q_fOr, q_fNot, q_fTru, q_fBoo, q_ifD, q_isN, q_fIsN, q_fNotN, startD, q_bind, q_toS, q_rt, q_nx, q_thn_nx, q_thn_rt, q_okO, q_nxO, q_pure, q_none0, q_none1, q_none2, q_none3, q_none4, q_tru_bl, q_tru_int, q_tru_lst, q_tru_tup, q_tru_non, q_boo, q_seqL, q_seqT, q_lenL, q_lenT, q_eqI, q_neI, q_lt, q_le, q_gt, q_ge, q_add, q_addL, q_sub, q_neg, q_abs, q_int, q_intB, q_max, q_gcd, q_tupL, q_gL, q_gT, q_g0, q_g1, q_g2, q_lc, q_par, q_parO, q_whS, q_slc, q_prt0, q_prt1, q_intR, q_slcL, q_slcT, q_zipL, q_zipT, q_allp, List.length_map, wipeE, List.map_cons, List.map_nil, List.length_cons, List.length_nil, List.replicate, List.cons_append, List.nil_append, List.getElem?_cons_zero, List.getElem?_cons_succ, List.set_cons_zero, List.set_cons_succ, Nat.reduceSub, Nat.reduceAdd, if_true, Bool.not_true, Bool.not_false, Bool.false_eq_true, if_false, reduceIte, setD, List.foldl_cons, List.foldl_nil, q_asgN, q_asgT, q_asgL, q_asgs0, q_asgsC, Option.bind_some, List.append_nil, is_integer_eq, is_list_eq, q_is2, w_int, i_int, w_lst, w_tup, l_lst, l_tup, l_int, Bool.true_and, Bool.false_and, Bool.and_true, Bool.and_false, at0, at1, *]
theorem prec_eq {x y : D} {a b c d : Int} {j k : Nat} (n : NV x a b) (m : NV y c d) (ha : Sz j a) (hb : Sz j b) (hc : Sz k c) (hd : Sz k d) (hk : j + k < 7000) (s : Deck) : m_precedes [x, y] s = .ok (.bl (decide (a * d < c * b))) s := by
  unfold m_precedes g_precedes
  have e1 := fun s => ab_eq n s
  have e2 := fun s => ab_eq m s
  have m1 := fun (s : Deck) => q_mulS (s := s) ha hd (by omega)
  have m2 := fun (s : Deck) => q_mulS (s := s) hc hb (by omega)
  clear n m ha hb hc hd hk
  simp only [q_def, q_seq, q_ite, q_ret, q_set, q_drop, q_asg, q_for, q_for0, q_fc, q_frd_nx, q_frd_rt, q_frd_ct, q_frd_bk, q_turn, q_mkLst, q_mkTup, Nat.reduceLeDiff, q_and_bl, q_or_bl, q_c0, q_c1, q_c2, q_c3, q_c4, q_c5, q_c6, q_c9, q_c13, decide_true, decide_false, Int.reduceEq, Int.reduceLT, Int.reduceLE, Int.reduceAdd, Int.reduceSub, Int.reduceMul, Int.reduceNeg, Int.reducePow, Int.reduceToNat, Int.reduceBNe, Int.reduceNe, Nat.zero_le, q_get, q_cst, q_lift, q_un, q_with, q_av0, q_avC, q_callN, q_callKW, q_andD, q_orD, q_notD, q_fAnd, q_fOr, q_fNot, q_fTru, q_fBoo, q_ifD, q_isN, q_fIsN, q_fNotN, startD, q_bind, q_toS, q_rt, q_nx, q_thn_nx, q_thn_rt, q_okO, q_nxO, q_pure, q_none0, q_none1, q_none2, q_none3, q_none4, q_tru_bl, q_tru_int, q_tru_lst, q_tru_tup, q_tru_non, q_boo, q_seqL, q_seqT, q_lenL, q_lenT, q_eqI, q_neI, q_lt, q_le, q_gt, q_ge, q_add, q_addL, q_sub, q_neg, q_abs, q_int, q_intB, q_max, q_gcd, q_tupL, q_gL, q_gT, q_g0, q_g1, q_g2, q_lc, q_par, q_parO, q_whS, q_slc, q_prt0, q_prt1, q_intR, q_slcL, q_slcT, q_zipL, q_zipT, q_allp, List.length_map, wipeE, List.map_cons, List.map_nil, List.length_cons, List.length_nil, List.replicate, List.cons_append, List.nil_append, List.getElem?_cons_zero, List.getElem?_cons_succ, List.set_cons_zero, List.set_cons_succ, Nat.reduceSub, Nat.reduceAdd, if_true, Bool.not_true, Bool.not_false, Bool.false_eq_true, if_false, reduceIte, setD, List.foldl_cons, List.foldl_nil, q_asgN, q_asgT, q_asgL, q_asgs0, q_asgsC, Option.bind_some, List.append_nil, is_integer_eq, is_list_eq, q_is2, w_int, i_int, w_lst, w_tup, l_lst, l_tup, l_int, Bool.true_and, Bool.false_and, Bool.and_true, Bool.and_false, *]
theorem before_eq {x y : D} {a b c d : Int} {j k : Nat} (n : NV x a b) (m : NV y c d) (ha : Sz j a) (hb : Sz j b) (hc : Sz k c) (hd : Sz k d) (hk : j + k < 7000) (s : Deck) : m_law_before [x, y] s = .ok (.bl (decide (a * d < c * b))) s := by
  unfold m_law_before g_law_before
  have e1 := fun s => two_eq n s
  have e2 := fun s => two_eq m s
  have m1 := fun (s : Deck) => q_mulS (s := s) ha hd (by omega)
  have m2 := fun (s : Deck) => q_mulS (s := s) hc hb (by omega)
  clear n m ha hb hc hd hk
  simp only [q_def, q_seq, q_ite, q_ret, q_set, q_drop, q_asg, q_for, q_for0, q_fc, q_frd_nx, q_frd_rt, q_frd_ct, q_frd_bk, q_turn, q_mkLst, q_mkTup, Nat.reduceLeDiff, q_and_bl, q_or_bl, q_c0, q_c1, q_c2, q_c3, q_c4, q_c5, q_c6, q_c9, q_c13, decide_true, decide_false, Int.reduceEq, Int.reduceLT, Int.reduceLE, Int.reduceAdd, Int.reduceSub, Int.reduceMul, Int.reduceNeg, Int.reducePow, Int.reduceToNat, Int.reduceBNe, Int.reduceNe, Nat.zero_le, q_get, q_cst, q_lift, q_un, q_with, q_av0, q_avC, q_callN, q_callKW, q_andD, q_orD, q_notD, q_fAnd, q_fOr, q_fNot, q_fTru, q_fBoo, q_ifD, q_isN, q_fIsN, q_fNotN, startD, q_bind, q_toS, q_rt, q_nx, q_thn_nx, q_thn_rt, q_okO, q_nxO, q_pure, q_none0, q_none1, q_none2, q_none3, q_none4, q_tru_bl, q_tru_int, q_tru_lst, q_tru_tup, q_tru_non, q_boo, q_seqL, q_seqT, q_lenL, q_lenT, q_eqI, q_neI, q_lt, q_le, q_gt, q_ge, q_add, q_addL, q_sub, q_neg, q_abs, q_int, q_intB, q_max, q_gcd, q_tupL, q_gL, q_gT, q_g0, q_g1, q_g2, q_lc, q_par, q_parO, q_whS, q_slc, q_prt0, q_prt1, q_intR, q_slcL, q_slcT, q_zipL, q_zipT, q_allp, List.length_map, wipeE, List.map_cons, List.map_nil, List.length_cons, List.length_nil, List.replicate, List.cons_append, List.nil_append, List.getElem?_cons_zero, List.getElem?_cons_succ, List.set_cons_zero, List.set_cons_succ, Nat.reduceSub, Nat.reduceAdd, if_true, Bool.not_true, Bool.not_false, Bool.false_eq_true, if_false, reduceIte, setD, List.foldl_cons, List.foldl_nil, q_asgN, q_asgT, q_asgL, q_asgs0, q_asgsC, Option.bind_some, List.append_nil, is_integer_eq, is_list_eq, q_is2, w_int, i_int, w_lst, w_tup, l_lst, l_tup, l_int, Bool.true_and, Bool.false_and, Bool.and_true, Bool.and_false, at0, at1, *]
theorem nf_facts {a b : Int} (h : b ≠ 0) : 0 < nfB a b ∧ (nfA a b).natAbs ≤ a.natAbs ∧ (nfB a b).natAbs ≤ b.natAbs ∧ Nat.gcd (nfA a b).natAbs (nfB a b).natAbs = 1 := by
  have g0 := Nat.gcd_pos_of_pos_right a.natAbs (show 0 < b.natAbs by omega)
  have hB : (nfB a b).natAbs = b.natAbs / Nat.gcd a.natAbs b.natAbs := by unfold nfB; exact Int.natAbs_natCast _
  have hA : (nfA a b).natAbs = a.natAbs / Nat.gcd a.natAbs b.natAbs := by
    unfold nfA
    split
    · exact Int.natAbs_natCast _
    · rw [Int.natAbs_neg]; exact Int.natAbs_natCast _
  refine ⟨?_, ?_, ?_, ?_⟩
  · have := Nat.div_pos (Nat.gcd_le_right a.natAbs (show 0 < b.natAbs by omega)) g0
    unfold nfB
    omega
  · rw [hA]; exact Nat.div_le_self _ _
  · rw [hB]; exact Nat.div_le_self _ _
  · rw [hA, hB]
    rw [Nat.gcd_div (Nat.gcd_dvd_left ..) (Nat.gcd_dvd_right ..)]; exact Nat.div_self g0
theorem numD_nv {a b : Int} (h : b ≠ 0) : NV (numD a b) (nfA a b) (nfB a b) := by
  obtain ⟨p, _, _, _⟩ := nf_facts (a := a) h
  unfold numD
  split
  · rename_i e
    rw [e]
    exact .int _
  · exact .tup (by omega)
theorem numD_num {a b : Int} (h : b ≠ 0) : num (numD a b) = true ∧ nodk (numD a b) = true := by
  obtain ⟨p, _, _, g⟩ := nf_facts (a := a) h
  unfold numD
  split
  · exact ⟨rfl, rfl⟩
  · refine ⟨?_, rfl⟩
    show numP _ _ = true
    unfold numP
    rw [w_int, w_int, i_int, i_int, Bool.true_and, Bool.true_and]
    exact Bool.and_eq_true_iff.mpr ⟨decide_eq_true (by omega), decide_eq_true g⟩
end K03

set_option exponentiation.threshold 10000
namespace K03
open PySem L2 FL
/-! ### errors, reckoned -/
theorem q_rs {x : Str} {fl : List Str} {fs : FA} {δ : DEnv} {s : Deck} : raiseS x fl fs δ s = (fs δ s).toS δ fun ds s => if ds.length = fl.length then .raise ⟨x, fl.zip ds⟩ δ s else .bad := rfl
def tryR (r : RS) (k : Ex → FS) : RS := match r with
  | .raise e δ s => k e δ s
  | r => r
theorem q_try {tb : Str → Str → Option Bool} {g : FS} {l : List (Str × Nat × HS)} {δ : DEnv} {s : Deck} : tryS tb g l δ s = tryR (g δ s) (catchS tb l) := by
  unfold tryS tryR
  cases g δ s <;> rfl
theorem q_try_nx {k : Ex → FS} {δ : DEnv} {s : Deck} : tryR (.nx δ s) k = .nx δ s := rfl
theorem q_try_raise {k : Ex → FS} {e : Ex} {δ : DEnv} {s : Deck} : tryR (.raise e δ s) k = k e δ s := rfl
theorem q_catch {tb : Str → Str → Option Bool} {y : Str} {i : Nat} {h : HS} {r : List (Str × Nat × HS)} {e : Ex} {δ : DEnv} {s : Deck} (ht : tb e.cls y = some true) (hl : i < δ.length) : catchS tb ((y, i, h) :: r) e δ s = unS i (h e (δ.set i none) s) := by
  unfold catchS
  rw [if_pos hl, ht]
theorem q_catchNo {tb : Str → Str → Option Bool} {y : Str} {i : Nat} {h : HS} {r : List (Str × Nat × HS)} {e : Ex} {δ : DEnv} {s : Deck} (ht : tb e.cls y = some false) (hl : i < δ.length) : catchS tb ((y, i, h) :: r) e δ s = catchS tb r e δ s := by
  show (if i < δ.length then (match tb e.cls y with | some true => unS i (h e (δ.set i none) s) | some false => catchS tb r e δ s | none => .bad) else .bad) = _
  rw [if_pos hl, ht]
theorem q_un_nx {i : Nat} {δ : DEnv} {s : Deck} : unS i (.nx δ s) = .nx (δ.set i none) s := rfl
theorem q_braise {α β : Type} {e : Ex} {s : Deck} {h : α → Deck → R β} : (R.raise e s).bind h = .raise e s := rfl
theorem q_thn_raise' {e : Ex} {δ : DEnv} {s : Deck} {gs : FS} : (RS.raise e δ s).thn gs = .raise e δ s := rfl
theorem q_fld {x f : Str} {e : Ex} {δ : DEnv} {s : Deck} (h : e.cls = x) : fldH x f e δ s = pureM (e.flds.lookup f) s := by
  unfold fldH
  rw [if_pos h]
def bn (p : Str) : Ex := ⟨"BadNumber", [("part", .str p)]⟩
def mf (p : Str) : Ex := ⟨"Misfit", [("part", .str p)]⟩
theorem tblB : tbl "BadNumber" "BadNumber" = some true := by decide +kernel
theorem tblM : tbl "Misfit" "Misfit" = some true := by decide +kernel
theorem tblMB : tbl "Misfit" "BadNumber" = some false := by decide +kernel
/-! ### two numbers -/
structure Nm (w : Nat) (d : D) (a b : Int) : Prop where
  v : NV d a b
  n : num d = true
  k : nodk d = true
  sa : Sz w a
  sb : Sz w b
theorem Nm.ok {w : Nat} {d : D} {a b : Int} (h : Nm w d a b) : OkI w (d, a, b) := ⟨h.v, h.sa, h.sb⟩
theorem nm_numD {w : Nat} {a b : Int} (h : b ≠ 0) (ha : Sz w a) (hb : Sz w b) : Nm w (numD a b) (nfA a b) (nfB a b) := by
  obtain ⟨_, f1, f2, _⟩ := nf_facts (a := a) h
  obtain ⟨n1, n2⟩ := numD_num (a := a) h
  exact ⟨numD_nv h, n1, n2, Nat.lt_of_le_of_lt f1 ha, Nat.lt_of_le_of_lt f2 hb⟩
theorem isn {w : Nat} {d : D} {a b : Int} (h : Nm w d a b) (s : Deck) : m_is_number [d] s = .ok (.bl true) s := by rw [is_number_eq d h.k, h.n]
theorem isn_no {d : D} (h : nodk d = true) (h2 : num d = false) (s : Deck) : m_is_number [d] s = .ok (.bl false) s := by rw [is_number_eq d h, h2]
theorem two_ok {v w : Nat} {x y : D} {a b c e : Int} (h : Nm v x a b) (k : Nm w y c e) (s : Deck) : m_check_two [x, y] s = .ok .non s := by
  unfold m_check_two g_check_two
  have h1 := fun s => isn h s
  have h2 := fun s => isn k s
  clear h k
  simp only [q_def, q_seq, q_ite, q_ret, q_set, q_drop, q_asg, q_for, q_for0, q_fc, q_frd_nx, q_frd_rt, q_frd_ct, q_frd_bk, q_turn, q_mkLst, q_mkTup, Nat.reduceLeDiff, q_and_bl, q_or_bl, q_c0, q_c1, q_c2, q_c3, q_c4, q_c5, q_c6, q_c9, q_c13, decide_true, decide_false, Int.reduceEq, Int.reduceLT, Int.reduceLE, Int.reduceAdd, Int.reduceSub, Int.reduceMul, Int.reduceNeg, Int.reducePow, Int.reduceToNat, Int.reduceBNe, Int.reduceNe, Nat.zero_le, q_get, q_cst, q_lift, q_un, q_with, q_av0, q_avC, q_callN, q_callKW, q_andD, q_orD, q_notD, q_fAnd, q_fOr, q_fNot, q_fTru, q_fBoo, q_ifD, q_isN, q_fIsN, q_fNotN, startD, q_bind, q_toS, q_rt, q_nx, q_thn_nx, q_thn_rt, q_okO, q_nxO, q_pure, q_none0, q_none1, q_none2, q_none3, q_none4, q_tru_bl, q_tru_int, q_tru_lst, q_tru_tup, q_tru_non, q_boo, q_seqL, q_seqT, q_lenL, q_lenT, q_eqI, q_neI, q_lt, q_le, q_gt, q_ge, q_add, q_addL, q_sub, q_neg, q_abs, q_int, q_intB, q_max, q_gcd, q_tupL, q_gL, q_gT, q_g0, q_g1, q_g2, q_lc, q_par, q_parO, q_whS, q_slc, q_prt0, q_prt1, q_intR, q_slcL, q_slcT, q_zipL, q_zipT, q_allp, List.length_map, wipeE, List.map_cons, List.map_nil, List.length_cons, List.length_nil, List.replicate, List.cons_append, List.nil_append, List.getElem?_cons_zero, List.getElem?_cons_succ, List.set_cons_zero, List.set_cons_succ, Nat.reduceSub, Nat.reduceAdd, if_true, Bool.not_true, Bool.not_false, Bool.false_eq_true, if_false, reduceIte, setD, List.foldl_cons, List.foldl_nil, q_asgN, q_asgT, q_asgL, q_asgs0, q_asgsC, Option.bind_some, List.append_nil, is_integer_eq, is_list_eq, q_is2, w_int, i_int, w_lst, w_tup, l_lst, l_tup, l_int, Bool.true_and, Bool.false_and, Bool.and_true, Bool.and_false, *]
theorem two_one {x y : D} (h : nodk x = true) (h2 : num x = false) (s : Deck) : m_check_two [x, y] s = .raise (bn "one") s := by
  unfold m_check_two g_check_two
  have h1 := fun s => isn_no h h2 s
  clear h h2
  simp only [q_def, q_seq, q_ite, q_ret, q_set, q_drop, q_asg, q_for, q_for0, q_fc, q_frd_nx, q_frd_rt, q_frd_ct, q_frd_bk, q_turn, q_mkLst, q_mkTup, Nat.reduceLeDiff, q_and_bl, q_or_bl, q_c0, q_c1, q_c2, q_c3, q_c4, q_c5, q_c6, q_c9, q_c13, decide_true, decide_false, Int.reduceEq, Int.reduceLT, Int.reduceLE, Int.reduceAdd, Int.reduceSub, Int.reduceMul, Int.reduceNeg, Int.reducePow, Int.reduceToNat, Int.reduceBNe, Int.reduceNe, Nat.zero_le, q_get, q_cst, q_lift, q_un, q_with, q_av0, q_avC, q_callN, q_callKW, q_andD, q_orD, q_notD, q_fAnd, q_fOr, q_fNot, q_fTru, q_fBoo, q_ifD, q_isN, q_fIsN, q_fNotN, startD, q_bind, q_toS, q_rt, q_nx, q_thn_nx, q_thn_rt, q_okO, q_nxO, q_pure, q_none0, q_none1, q_none2, q_none3, q_none4, q_tru_bl, q_tru_int, q_tru_lst, q_tru_tup, q_tru_non, q_boo, q_seqL, q_seqT, q_lenL, q_lenT, q_eqI, q_neI, q_lt, q_le, q_gt, q_ge, q_add, q_addL, q_sub, q_neg, q_abs, q_int, q_intB, q_max, q_gcd, q_tupL, q_gL, q_gT, q_g0, q_g1, q_g2, q_lc, q_par, q_parO, q_whS, q_slc, q_prt0, q_prt1, q_intR, q_slcL, q_slcT, q_zipL, q_zipT, q_allp, List.length_map, wipeE, List.map_cons, List.map_nil, List.length_cons, List.length_nil, List.replicate, List.cons_append, List.nil_append, List.getElem?_cons_zero, List.getElem?_cons_succ, List.set_cons_zero, List.set_cons_succ, Nat.reduceSub, Nat.reduceAdd, if_true, Bool.not_true, Bool.not_false, Bool.false_eq_true, if_false, reduceIte, setD, List.foldl_cons, List.foldl_nil, q_asgN, q_asgT, q_asgL, q_asgs0, q_asgsC, Option.bind_some, List.append_nil, is_integer_eq, is_list_eq, q_is2, w_int, i_int, w_lst, w_tup, l_lst, l_tup, l_int, Bool.true_and, Bool.false_and, Bool.and_true, Bool.and_false, q_rs, q_thn_raise', *]
  rfl
theorem two_other {w : Nat} {x y : D} {a b : Int} (h0 : Nm w x a b) (h : nodk y = true) (h2 : num y = false) (s : Deck) : m_check_two [x, y] s = .raise (bn "other") s := by
  unfold m_check_two g_check_two
  have h3 := fun s => isn h0 s
  have h1 := fun s => isn_no h h2 s
  clear h h2 h0
  simp only [q_def, q_seq, q_ite, q_ret, q_set, q_drop, q_asg, q_for, q_for0, q_fc, q_frd_nx, q_frd_rt, q_frd_ct, q_frd_bk, q_turn, q_mkLst, q_mkTup, Nat.reduceLeDiff, q_and_bl, q_or_bl, q_c0, q_c1, q_c2, q_c3, q_c4, q_c5, q_c6, q_c9, q_c13, decide_true, decide_false, Int.reduceEq, Int.reduceLT, Int.reduceLE, Int.reduceAdd, Int.reduceSub, Int.reduceMul, Int.reduceNeg, Int.reducePow, Int.reduceToNat, Int.reduceBNe, Int.reduceNe, Nat.zero_le, q_get, q_cst, q_lift, q_un, q_with, q_av0, q_avC, q_callN, q_callKW, q_andD, q_orD, q_notD, q_fAnd, q_fOr, q_fNot, q_fTru, q_fBoo, q_ifD, q_isN, q_fIsN, q_fNotN, startD, q_bind, q_toS, q_rt, q_nx, q_thn_nx, q_thn_rt, q_okO, q_nxO, q_pure, q_none0, q_none1, q_none2, q_none3, q_none4, q_tru_bl, q_tru_int, q_tru_lst, q_tru_tup, q_tru_non, q_boo, q_seqL, q_seqT, q_lenL, q_lenT, q_eqI, q_neI, q_lt, q_le, q_gt, q_ge, q_add, q_addL, q_sub, q_neg, q_abs, q_int, q_intB, q_max, q_gcd, q_tupL, q_gL, q_gT, q_g0, q_g1, q_g2, q_lc, q_par, q_parO, q_whS, q_slc, q_prt0, q_prt1, q_intR, q_slcL, q_slcT, q_zipL, q_zipT, q_allp, List.length_map, wipeE, List.map_cons, List.map_nil, List.length_cons, List.length_nil, List.replicate, List.cons_append, List.nil_append, List.getElem?_cons_zero, List.getElem?_cons_succ, List.set_cons_zero, List.set_cons_succ, Nat.reduceSub, Nat.reduceAdd, if_true, Bool.not_true, Bool.not_false, Bool.false_eq_true, if_false, reduceIte, setD, List.foldl_cons, List.foldl_nil, q_asgN, q_asgT, q_asgL, q_asgs0, q_asgsC, Option.bind_some, List.append_nil, is_integer_eq, is_list_eq, q_is2, w_int, i_int, w_lst, w_tup, l_lst, l_tup, l_int, Bool.true_and, Bool.false_and, Bool.and_true, Bool.and_false, q_rs, *]
  rfl
section
variable {v : Nat} {x y : D} {a b c e : Int} (h : Nm v x a b) (k : Nm v y c e) (hv : v ≤ 1000) (s : Deck)
include h k hv
theorem plus_eq : m_plus [x, y] s = .ok (numD (sumP [(x, a, b), (y, c, e)] (0, 1)).1 (sumP [(x, a, b), (y, c, e)] (0, 1)).2) s := by
  unfold m_plus g_plus
  have t := fun s => two_ok h k s
  have ad := fun s => added_eq v [(x, a, b), (y, c, e)] (fun z hz => by
    rcases List.mem_cons.mp hz with rfl | hz
    · exact h.ok
    · rcases List.mem_cons.mp hz with rfl | hz
      · exact k.ok
      · cases hz) (by show 1 + (v + 1) * 3 < 7000; omega) (.lst [x, y]) (.inl rfl) s
  clear h k hv
  simp only [q_def, q_seq, q_ite, q_ret, q_set, q_drop, q_asg, q_for, q_for0, q_fc, q_frd_nx, q_frd_rt, q_frd_ct, q_frd_bk, q_turn, q_mkLst, q_mkTup, Nat.reduceLeDiff, q_and_bl, q_or_bl, q_c0, q_c1, q_c2, q_c3, q_c4, q_c5, q_c6, q_c9, q_c13, decide_true, decide_false, Int.reduceEq, Int.reduceLT, Int.reduceLE, Int.reduceAdd, Int.reduceSub, Int.reduceMul, Int.reduceNeg, Int.reducePow, Int.reduceToNat, Int.reduceBNe, Int.reduceNe, Nat.zero_le, q_get, q_cst, q_lift, q_un, q_with, q_av0, q_avC, q_callN, q_callKW, q_andD, q_orD, q_notD, q_fAnd, q_fOr, q_fNot, q_fTru, q_fBoo, q_ifD, q_isN, q_fIsN, q_fNotN, startD, q_bind, q_toS, q_rt, q_nx, q_thn_nx, q_thn_rt, q_okO, q_nxO, q_pure, q_none0, q_none1, q_none2, q_none3, q_none4, q_tru_bl, q_tru_int, q_tru_lst, q_tru_tup, q_tru_non, q_boo, q_seqL, q_seqT, q_lenL, q_lenT, q_eqI, q_neI, q_lt, q_le, q_gt, q_ge, q_add, q_addL, q_sub, q_neg, q_abs, q_int, q_intB, q_max, q_gcd, q_tupL, q_gL, q_gT, q_g0, q_g1, q_g2, q_lc, q_par, q_parO, q_whS, q_slc, q_prt0, q_prt1, q_intR, q_slcL, q_slcT, q_zipL, q_zipT, q_allp, List.length_map, wipeE, List.map_cons, List.map_nil, List.length_cons, List.length_nil, List.replicate, List.cons_append, List.nil_append, List.getElem?_cons_zero, List.getElem?_cons_succ, List.set_cons_zero, List.set_cons_succ, Nat.reduceSub, Nat.reduceAdd, if_true, Bool.not_true, Bool.not_false, Bool.false_eq_true, if_false, reduceIte, setD, List.foldl_cons, List.foldl_nil, q_asgN, q_asgT, q_asgL, q_asgs0, q_asgsC, Option.bind_some, List.append_nil, is_integer_eq, is_list_eq, q_is2, w_int, i_int, w_lst, w_tup, l_lst, l_tup, l_int, Bool.true_and, Bool.false_and, Bool.and_true, Bool.and_false, q_drop, *]
theorem times_eq : m_times [x, y] s = .ok (numD (a * c) (b * e)) s := by
  unfold m_times g_times
  have t := fun s => two_ok h k s
  have ad := fun s => mult_eq h.v k.v h.sa h.sb k.sa k.sb (by omega) s
  clear h k hv
  simp only [q_def, q_seq, q_ite, q_ret, q_set, q_drop, q_asg, q_for, q_for0, q_fc, q_frd_nx, q_frd_rt, q_frd_ct, q_frd_bk, q_turn, q_mkLst, q_mkTup, Nat.reduceLeDiff, q_and_bl, q_or_bl, q_c0, q_c1, q_c2, q_c3, q_c4, q_c5, q_c6, q_c9, q_c13, decide_true, decide_false, Int.reduceEq, Int.reduceLT, Int.reduceLE, Int.reduceAdd, Int.reduceSub, Int.reduceMul, Int.reduceNeg, Int.reducePow, Int.reduceToNat, Int.reduceBNe, Int.reduceNe, Nat.zero_le, q_get, q_cst, q_lift, q_un, q_with, q_av0, q_avC, q_callN, q_callKW, q_andD, q_orD, q_notD, q_fAnd, q_fOr, q_fNot, q_fTru, q_fBoo, q_ifD, q_isN, q_fIsN, q_fNotN, startD, q_bind, q_toS, q_rt, q_nx, q_thn_nx, q_thn_rt, q_okO, q_nxO, q_pure, q_none0, q_none1, q_none2, q_none3, q_none4, q_tru_bl, q_tru_int, q_tru_lst, q_tru_tup, q_tru_non, q_boo, q_seqL, q_seqT, q_lenL, q_lenT, q_eqI, q_neI, q_lt, q_le, q_gt, q_ge, q_add, q_addL, q_sub, q_neg, q_abs, q_int, q_intB, q_max, q_gcd, q_tupL, q_gL, q_gT, q_g0, q_g1, q_g2, q_lc, q_par, q_parO, q_whS, q_slc, q_prt0, q_prt1, q_intR, q_slcL, q_slcT, q_zipL, q_zipT, q_allp, List.length_map, wipeE, List.map_cons, List.map_nil, List.length_cons, List.length_nil, List.replicate, List.cons_append, List.nil_append, List.getElem?_cons_zero, List.getElem?_cons_succ, List.set_cons_zero, List.set_cons_succ, Nat.reduceSub, Nat.reduceAdd, if_true, Bool.not_true, Bool.not_false, Bool.false_eq_true, if_false, reduceIte, setD, List.foldl_cons, List.foldl_nil, q_asgN, q_asgT, q_asgL, q_asgs0, q_asgsC, Option.bind_some, List.append_nil, is_integer_eq, is_list_eq, q_is2, w_int, i_int, w_lst, w_tup, l_lst, l_tup, l_int, Bool.true_and, Bool.false_and, Bool.and_true, Bool.and_false, q_drop, *]
theorem less_eq : m_is_less [x, y] s = .ok (.bl (decide (a * e < c * b))) s := by
  unfold m_is_less g_is_less
  have t := fun s => two_ok h k s
  have ad := fun s => prec_eq h.v k.v h.sa h.sb k.sa k.sb (by omega) s
  clear h k hv
  simp only [q_def, q_seq, q_ite, q_ret, q_set, q_drop, q_asg, q_for, q_for0, q_fc, q_frd_nx, q_frd_rt, q_frd_ct, q_frd_bk, q_turn, q_mkLst, q_mkTup, Nat.reduceLeDiff, q_and_bl, q_or_bl, q_c0, q_c1, q_c2, q_c3, q_c4, q_c5, q_c6, q_c9, q_c13, decide_true, decide_false, Int.reduceEq, Int.reduceLT, Int.reduceLE, Int.reduceAdd, Int.reduceSub, Int.reduceMul, Int.reduceNeg, Int.reducePow, Int.reduceToNat, Int.reduceBNe, Int.reduceNe, Nat.zero_le, q_get, q_cst, q_lift, q_un, q_with, q_av0, q_avC, q_callN, q_callKW, q_andD, q_orD, q_notD, q_fAnd, q_fOr, q_fNot, q_fTru, q_fBoo, q_ifD, q_isN, q_fIsN, q_fNotN, startD, q_bind, q_toS, q_rt, q_nx, q_thn_nx, q_thn_rt, q_okO, q_nxO, q_pure, q_none0, q_none1, q_none2, q_none3, q_none4, q_tru_bl, q_tru_int, q_tru_lst, q_tru_tup, q_tru_non, q_boo, q_seqL, q_seqT, q_lenL, q_lenT, q_eqI, q_neI, q_lt, q_le, q_gt, q_ge, q_add, q_addL, q_sub, q_neg, q_abs, q_int, q_intB, q_max, q_gcd, q_tupL, q_gL, q_gT, q_g0, q_g1, q_g2, q_lc, q_par, q_parO, q_whS, q_slc, q_prt0, q_prt1, q_intR, q_slcL, q_slcT, q_zipL, q_zipT, q_allp, List.length_map, wipeE, List.map_cons, List.map_nil, List.length_cons, List.length_nil, List.replicate, List.cons_append, List.nil_append, List.getElem?_cons_zero, List.getElem?_cons_succ, List.set_cons_zero, List.set_cons_succ, Nat.reduceSub, Nat.reduceAdd, if_true, Bool.not_true, Bool.not_false, Bool.false_eq_true, if_false, reduceIte, setD, List.foldl_cons, List.foldl_nil, q_asgN, q_asgT, q_asgL, q_asgs0, q_asgsC, Option.bind_some, List.append_nil, is_integer_eq, is_list_eq, q_is2, w_int, i_int, w_lst, w_tup, l_lst, l_tup, l_int, Bool.true_and, Bool.false_and, Bool.and_true, Bool.and_false, q_drop, *]
theorem over_eq (hc : c ≠ 0) : m_over [x, y] s = .ok (numD (a * nfA e c) (b * nfB e c)) s := by
  unfold m_over g_over
  have t := fun s => two_ok h k s
  have ab := fun s => ab_eq k.v s
  have md := fun s => made_eq (a := e) hc (k.sa.log9 (by omega)) s
  have nm := nm_numD hc k.sb k.sa
  have ad := fun s => mult_eq h.v nm.v h.sa h.sb nm.sa nm.sb (by omega) s
  have c0 := decide_eq_false hc
  clear h k hv nm
  simp only [q_def, q_seq, q_ite, q_ret, q_set, q_drop, q_asg, q_for, q_for0, q_fc, q_frd_nx, q_frd_rt, q_frd_ct, q_frd_bk, q_turn, q_mkLst, q_mkTup, Nat.reduceLeDiff, q_and_bl, q_or_bl, q_c0, q_c1, q_c2, q_c3, q_c4, q_c5, q_c6, q_c9, q_c13, decide_true, decide_false, Int.reduceEq, Int.reduceLT, Int.reduceLE, Int.reduceAdd, Int.reduceSub, Int.reduceMul, Int.reduceNeg, Int.reducePow, Int.reduceToNat, Int.reduceBNe, Int.reduceNe, Nat.zero_le, q_get, q_cst, q_lift, q_un, q_with, q_av0, q_avC, q_callN, q_callKW, q_andD, q_orD, q_notD, q_fAnd, q_fOr, q_fNot, q_fTru, q_fBoo, q_ifD, q_isN, q_fIsN, q_fNotN, startD, q_bind, q_toS, q_rt, q_nx, q_thn_nx, q_thn_rt, q_okO, q_nxO, q_pure, q_none0, q_none1, q_none2, q_none3, q_none4, q_tru_bl, q_tru_int, q_tru_lst, q_tru_tup, q_tru_non, q_boo, q_seqL, q_seqT, q_lenL, q_lenT, q_eqI, q_neI, q_lt, q_le, q_gt, q_ge, q_add, q_addL, q_sub, q_neg, q_abs, q_int, q_intB, q_max, q_gcd, q_tupL, q_gL, q_gT, q_g0, q_g1, q_g2, q_lc, q_par, q_parO, q_whS, q_slc, q_prt0, q_prt1, q_intR, q_slcL, q_slcT, q_zipL, q_zipT, q_allp, List.length_map, wipeE, List.map_cons, List.map_nil, List.length_cons, List.length_nil, List.replicate, List.cons_append, List.nil_append, List.getElem?_cons_zero, List.getElem?_cons_succ, List.set_cons_zero, List.set_cons_succ, Nat.reduceSub, Nat.reduceAdd, if_true, Bool.not_true, Bool.not_false, Bool.false_eq_true, if_false, reduceIte, setD, List.foldl_cons, List.foldl_nil, q_asgN, q_asgT, q_asgL, q_asgs0, q_asgsC, Option.bind_some, List.append_nil, is_integer_eq, is_list_eq, q_is2, w_int, i_int, w_lst, w_tup, l_lst, l_tup, l_int, Bool.true_and, Bool.false_and, Bool.and_true, Bool.and_false, q_drop, *]
end
theorem over_no {v : Nat} {x y : D} {a b e : Int} (h : Nm v x a b) (k : Nm v y 0 e) (s : Deck) : m_over [x, y] s = .raise (mf "other") s := by
  unfold m_over g_over
  have t := fun s => two_ok h k s
  have ab := fun s => ab_eq k.v s
  clear h k
  simp only [q_def, q_seq, q_ite, q_ret, q_set, q_drop, q_asg, q_for, q_for0, q_fc, q_frd_nx, q_frd_rt, q_frd_ct, q_frd_bk, q_turn, q_mkLst, q_mkTup, Nat.reduceLeDiff, q_and_bl, q_or_bl, q_c0, q_c1, q_c2, q_c3, q_c4, q_c5, q_c6, q_c9, q_c13, decide_true, decide_false, Int.reduceEq, Int.reduceLT, Int.reduceLE, Int.reduceAdd, Int.reduceSub, Int.reduceMul, Int.reduceNeg, Int.reducePow, Int.reduceToNat, Int.reduceBNe, Int.reduceNe, Nat.zero_le, q_get, q_cst, q_lift, q_un, q_with, q_av0, q_avC, q_callN, q_callKW, q_andD, q_orD, q_notD, q_fAnd, q_fOr, q_fNot, q_fTru, q_fBoo, q_ifD, q_isN, q_fIsN, q_fNotN, startD, q_bind, q_toS, q_rt, q_nx, q_thn_nx, q_thn_rt, q_okO, q_nxO, q_pure, q_none0, q_none1, q_none2, q_none3, q_none4, q_tru_bl, q_tru_int, q_tru_lst, q_tru_tup, q_tru_non, q_boo, q_seqL, q_seqT, q_lenL, q_lenT, q_eqI, q_neI, q_lt, q_le, q_gt, q_ge, q_add, q_addL, q_sub, q_neg, q_abs, q_int, q_intB, q_max, q_gcd, q_tupL, q_gL, q_gT, q_g0, q_g1, q_g2, q_lc, q_par, q_parO, q_whS, q_slc, q_prt0, q_prt1, q_intR, q_slcL, q_slcT, q_zipL, q_zipT, q_allp, List.length_map, wipeE, List.map_cons, List.map_nil, List.length_cons, List.length_nil, List.replicate, List.cons_append, List.nil_append, List.getElem?_cons_zero, List.getElem?_cons_succ, List.set_cons_zero, List.set_cons_succ, Nat.reduceSub, Nat.reduceAdd, if_true, Bool.not_true, Bool.not_false, Bool.false_eq_true, if_false, reduceIte, setD, List.foldl_cons, List.foldl_nil, q_asgN, q_asgT, q_asgL, q_asgs0, q_asgsC, Option.bind_some, List.append_nil, is_integer_eq, is_list_eq, q_is2, w_int, i_int, w_lst, w_tup, l_lst, l_tup, l_int, Bool.true_and, Bool.false_and, Bool.and_true, Bool.and_false, q_drop, q_rs, q_thn_raise', *]
  rfl
theorem minus_eq {v : Nat} {x y : D} {a b c e : Int} (h : Nm v x a b) (k : Nm v y c e) (hv : v ≤ 1000) (s : Deck) :
    m_minus [x, y] s = .ok (numD (sumP [(x, a, b), (numD (-1 * c) (1 * e), nfA (-1 * c) (1 * e), nfB (-1 * c) (1 * e))] (0, 1)).1 (sumP [(x, a, b), (numD (-1 * c) (1 * e), nfA (-1 * c) (1 * e), nfB (-1 * c) (1 * e))] (0, 1)).2) s := by
  unfold m_minus g_minus
  have t := fun s => two_ok h k s
  have e0 := k.v.pos
  have mu := fun s => mult_eq (j := 1) (NV.int (-1)) k.v (by unfold Sz; decide) (by unfold Sz; decide) k.sa k.sb (by omega) s
  have s1 : Sz (v + 1) (-1 * c) := (Sz.mul (j := 1) (by unfold Sz; decide) k.sa).mono (by omega)
  have s2 : Sz (v + 1) (1 * e) := (Sz.mul (j := 1) (by unfold Sz; decide) k.sb).mono (by omega)
  have nm := nm_numD (show 1 * e ≠ 0 by omega) s1 s2
  have ad := fun s => added_eq (v + 1) [(x, a, b), (numD (-1 * c) (1 * e), nfA (-1 * c) (1 * e), nfB (-1 * c) (1 * e))] (fun z hz => by
    rcases List.mem_cons.mp hz with rfl | hz
    · exact ⟨h.v, h.sa.mono (by omega), h.sb.mono (by omega)⟩
    · rcases List.mem_cons.mp hz with rfl | hz
      · exact nm.ok
      · cases hz) (by show 1 + (v + 1 + 1) * 3 < 7000; omega) (.lst [x, numD (-1 * c) (1 * e)]) (.inl rfl) s
  clear h k hv nm s1 s2 e0
  simp only [q_def, q_seq, q_ite, q_ret, q_set, q_drop, q_asg, q_for, q_for0, q_fc, q_frd_nx, q_frd_rt, q_frd_ct, q_frd_bk, q_turn, q_mkLst, q_mkTup, Nat.reduceLeDiff, q_and_bl, q_or_bl, q_c0, q_c1, q_c2, q_c3, q_c4, q_c5, q_c6, q_c9, q_c13, decide_true, decide_false, Int.reduceEq, Int.reduceLT, Int.reduceLE, Int.reduceAdd, Int.reduceSub, Int.reduceMul, Int.reduceNeg, Int.reducePow, Int.reduceToNat, Int.reduceBNe, Int.reduceNe, Nat.zero_le, q_get, q_cst, q_lift, q_un, q_with, q_av0, q_avC, q_callN, q_callKW, q_andD, q_orD, q_notD, q_fAnd, q_fOr, q_fNot, q_fTru, q_fBoo, q_ifD, q_isN, q_fIsN, q_fNotN, startD, q_bind, q_toS, q_rt, q_nx, q_thn_nx, q_thn_rt, q_okO, q_nxO, q_pure, q_none0, q_none1, q_none2, q_none3, q_none4, q_tru_bl, q_tru_int, q_tru_lst, q_tru_tup, q_tru_non, q_boo, q_seqL, q_seqT, q_lenL, q_lenT, q_eqI, q_neI, q_lt, q_le, q_gt, q_ge, q_add, q_addL, q_sub, q_neg, q_abs, q_int, q_intB, q_max, q_gcd, q_tupL, q_gL, q_gT, q_g0, q_g1, q_g2, q_lc, q_par, q_parO, q_whS, q_slc, q_prt0, q_prt1, q_intR, q_slcL, q_slcT, q_zipL, q_zipT, q_allp, List.length_map, wipeE, List.map_cons, List.map_nil, List.length_cons, List.length_nil, List.replicate, List.cons_append, List.nil_append, List.getElem?_cons_zero, List.getElem?_cons_succ, List.set_cons_zero, List.set_cons_succ, Nat.reduceSub, Nat.reduceAdd, if_true, Bool.not_true, Bool.not_false, Bool.false_eq_true, if_false, reduceIte, setD, List.foldl_cons, List.foldl_nil, q_asgN, q_asgT, q_asgL, q_asgs0, q_asgsC, Option.bind_some, List.append_nil, is_integer_eq, is_list_eq, q_is2, w_int, i_int, w_lst, w_tup, l_lst, l_tup, l_int, Bool.true_and, Bool.false_and, Bool.and_true, Bool.and_false, q_drop, *]
theorem ratio_eq {a b : Int} (h : b ≠ 0) (f : fits b) (s : Deck) : m_ratio [.int a, .int b] s = .ok (numD a b) s := by
  unfold m_ratio g_ratio
  have me := fun s => made_eq (a := a) h f s
  have b0 := decide_eq_false h
  clear h f
  simp only [q_def, q_seq, q_ite, q_ret, q_set, q_drop, q_asg, q_for, q_for0, q_fc, q_frd_nx, q_frd_rt, q_frd_ct, q_frd_bk, q_turn, q_mkLst, q_mkTup, Nat.reduceLeDiff, q_and_bl, q_or_bl, q_c0, q_c1, q_c2, q_c3, q_c4, q_c5, q_c6, q_c9, q_c13, decide_true, decide_false, Int.reduceEq, Int.reduceLT, Int.reduceLE, Int.reduceAdd, Int.reduceSub, Int.reduceMul, Int.reduceNeg, Int.reducePow, Int.reduceToNat, Int.reduceBNe, Int.reduceNe, Nat.zero_le, q_get, q_cst, q_lift, q_un, q_with, q_av0, q_avC, q_callN, q_callKW, q_andD, q_orD, q_notD, q_fAnd, q_fOr, q_fNot, q_fTru, q_fBoo, q_ifD, q_isN, q_fIsN, q_fNotN, startD, q_bind, q_toS, q_rt, q_nx, q_thn_nx, q_thn_rt, q_okO, q_nxO, q_pure, q_none0, q_none1, q_none2, q_none3, q_none4, q_tru_bl, q_tru_int, q_tru_lst, q_tru_tup, q_tru_non, q_boo, q_seqL, q_seqT, q_lenL, q_lenT, q_eqI, q_neI, q_lt, q_le, q_gt, q_ge, q_add, q_addL, q_sub, q_neg, q_abs, q_int, q_intB, q_max, q_gcd, q_tupL, q_gL, q_gT, q_g0, q_g1, q_g2, q_lc, q_par, q_parO, q_whS, q_slc, q_prt0, q_prt1, q_intR, q_slcL, q_slcT, q_zipL, q_zipT, q_allp, List.length_map, wipeE, List.map_cons, List.map_nil, List.length_cons, List.length_nil, List.replicate, List.cons_append, List.nil_append, List.getElem?_cons_zero, List.getElem?_cons_succ, List.set_cons_zero, List.set_cons_succ, Nat.reduceSub, Nat.reduceAdd, if_true, Bool.not_true, Bool.not_false, Bool.false_eq_true, if_false, reduceIte, setD, List.foldl_cons, List.foldl_nil, q_asgN, q_asgT, q_asgL, q_asgs0, q_asgsC, Option.bind_some, List.append_nil, is_integer_eq, is_list_eq, q_is2, w_int, i_int, w_lst, w_tup, l_lst, l_tup, l_int, Bool.true_and, Bool.false_and, Bool.and_true, Bool.and_false, *]
theorem ratio_0 {a : Int} (s : Deck) : m_ratio [.int a, .int 0] s = .raise (bn "below") s := by
  unfold m_ratio g_ratio
  simp only [q_def, q_seq, q_ite, q_ret, q_set, q_drop, q_asg, q_for, q_for0, q_fc, q_frd_nx, q_frd_rt, q_frd_ct, q_frd_bk, q_turn, q_mkLst, q_mkTup, Nat.reduceLeDiff, q_and_bl, q_or_bl, q_c0, q_c1, q_c2, q_c3, q_c4, q_c5, q_c6, q_c9, q_c13, decide_true, decide_false, Int.reduceEq, Int.reduceLT, Int.reduceLE, Int.reduceAdd, Int.reduceSub, Int.reduceMul, Int.reduceNeg, Int.reducePow, Int.reduceToNat, Int.reduceBNe, Int.reduceNe, Nat.zero_le, q_get, q_cst, q_lift, q_un, q_with, q_av0, q_avC, q_callN, q_callKW, q_andD, q_orD, q_notD, q_fAnd, q_fOr, q_fNot, q_fTru, q_fBoo, q_ifD, q_isN, q_fIsN, q_fNotN, startD, q_bind, q_toS, q_rt, q_nx, q_thn_nx, q_thn_rt, q_okO, q_nxO, q_pure, q_none0, q_none1, q_none2, q_none3, q_none4, q_tru_bl, q_tru_int, q_tru_lst, q_tru_tup, q_tru_non, q_boo, q_seqL, q_seqT, q_lenL, q_lenT, q_eqI, q_neI, q_lt, q_le, q_gt, q_ge, q_add, q_addL, q_sub, q_neg, q_abs, q_int, q_intB, q_max, q_gcd, q_tupL, q_gL, q_gT, q_g0, q_g1, q_g2, q_lc, q_par, q_parO, q_whS, q_slc, q_prt0, q_prt1, q_intR, q_slcL, q_slcT, q_zipL, q_zipT, q_allp, List.length_map, wipeE, List.map_cons, List.map_nil, List.length_cons, List.length_nil, List.replicate, List.cons_append, List.nil_append, List.getElem?_cons_zero, List.getElem?_cons_succ, List.set_cons_zero, List.set_cons_succ, Nat.reduceSub, Nat.reduceAdd, if_true, Bool.not_true, Bool.not_false, Bool.false_eq_true, if_false, reduceIte, setD, List.foldl_cons, List.foldl_nil, q_asgN, q_asgT, q_asgL, q_asgs0, q_asgsC, Option.bind_some, List.append_nil, is_integer_eq, is_list_eq, q_is2, w_int, i_int, w_lst, w_tup, l_lst, l_tup, l_int, Bool.true_and, Bool.false_and, Bool.and_true, Bool.and_false, q_rs, q_thn_raise', *]
  rfl
theorem ratio_above {d y : D} (h : whole d = false) (s : Deck) : m_ratio [d, y] s = .raise (bn "above") s := by
  unfold m_ratio g_ratio
  simp only [q_def, q_seq, q_ite, q_ret, q_set, q_drop, q_asg, q_for, q_for0, q_fc, q_frd_nx, q_frd_rt, q_frd_ct, q_frd_bk, q_turn, q_mkLst, q_mkTup, Nat.reduceLeDiff, q_and_bl, q_or_bl, q_c0, q_c1, q_c2, q_c3, q_c4, q_c5, q_c6, q_c9, q_c13, decide_true, decide_false, Int.reduceEq, Int.reduceLT, Int.reduceLE, Int.reduceAdd, Int.reduceSub, Int.reduceMul, Int.reduceNeg, Int.reducePow, Int.reduceToNat, Int.reduceBNe, Int.reduceNe, Nat.zero_le, q_get, q_cst, q_lift, q_un, q_with, q_av0, q_avC, q_callN, q_callKW, q_andD, q_orD, q_notD, q_fAnd, q_fOr, q_fNot, q_fTru, q_fBoo, q_ifD, q_isN, q_fIsN, q_fNotN, startD, q_bind, q_toS, q_rt, q_nx, q_thn_nx, q_thn_rt, q_okO, q_nxO, q_pure, q_none0, q_none1, q_none2, q_none3, q_none4, q_tru_bl, q_tru_int, q_tru_lst, q_tru_tup, q_tru_non, q_boo, q_seqL, q_seqT, q_lenL, q_lenT, q_eqI, q_neI, q_lt, q_le, q_gt, q_ge, q_add, q_addL, q_sub, q_neg, q_abs, q_int, q_intB, q_max, q_gcd, q_tupL, q_gL, q_gT, q_g0, q_g1, q_g2, q_lc, q_par, q_parO, q_whS, q_slc, q_prt0, q_prt1, q_intR, q_slcL, q_slcT, q_zipL, q_zipT, q_allp, List.length_map, wipeE, List.map_cons, List.map_nil, List.length_cons, List.length_nil, List.replicate, List.cons_append, List.nil_append, List.getElem?_cons_zero, List.getElem?_cons_succ, List.set_cons_zero, List.set_cons_succ, Nat.reduceSub, Nat.reduceAdd, if_true, Bool.not_true, Bool.not_false, Bool.false_eq_true, if_false, reduceIte, setD, List.foldl_cons, List.foldl_nil, q_asgN, q_asgT, q_asgL, q_asgs0, q_asgsC, Option.bind_some, List.append_nil, is_integer_eq, is_list_eq, q_is2, w_int, i_int, w_lst, w_tup, l_lst, l_tup, l_int, Bool.true_and, Bool.false_and, Bool.and_true, Bool.and_false, q_rs, q_thn_raise', *]
  rfl
theorem ratio_below {a : Int} {y : D} (h : whole y = false) (s : Deck) : m_ratio [.int a, y] s = .raise (bn "below") s := by
  unfold m_ratio g_ratio
  simp only [q_def, q_seq, q_ite, q_ret, q_set, q_drop, q_asg, q_for, q_for0, q_fc, q_frd_nx, q_frd_rt, q_frd_ct, q_frd_bk, q_turn, q_mkLst, q_mkTup, Nat.reduceLeDiff, q_and_bl, q_or_bl, q_c0, q_c1, q_c2, q_c3, q_c4, q_c5, q_c6, q_c9, q_c13, decide_true, decide_false, Int.reduceEq, Int.reduceLT, Int.reduceLE, Int.reduceAdd, Int.reduceSub, Int.reduceMul, Int.reduceNeg, Int.reducePow, Int.reduceToNat, Int.reduceBNe, Int.reduceNe, Nat.zero_le, q_get, q_cst, q_lift, q_un, q_with, q_av0, q_avC, q_callN, q_callKW, q_andD, q_orD, q_notD, q_fAnd, q_fOr, q_fNot, q_fTru, q_fBoo, q_ifD, q_isN, q_fIsN, q_fNotN, startD, q_bind, q_toS, q_rt, q_nx, q_thn_nx, q_thn_rt, q_okO, q_nxO, q_pure, q_none0, q_none1, q_none2, q_none3, q_none4, q_tru_bl, q_tru_int, q_tru_lst, q_tru_tup, q_tru_non, q_boo, q_seqL, q_seqT, q_lenL, q_lenT, q_eqI, q_neI, q_lt, q_le, q_gt, q_ge, q_add, q_addL, q_sub, q_neg, q_abs, q_int, q_intB, q_max, q_gcd, q_tupL, q_gL, q_gT, q_g0, q_g1, q_g2, q_lc, q_par, q_parO, q_whS, q_slc, q_prt0, q_prt1, q_intR, q_slcL, q_slcT, q_zipL, q_zipT, q_allp, List.length_map, wipeE, List.map_cons, List.map_nil, List.length_cons, List.length_nil, List.replicate, List.cons_append, List.nil_append, List.getElem?_cons_zero, List.getElem?_cons_succ, List.set_cons_zero, List.set_cons_succ, Nat.reduceSub, Nat.reduceAdd, if_true, Bool.not_true, Bool.not_false, Bool.false_eq_true, if_false, reduceIte, setD, List.foldl_cons, List.foldl_nil, q_asgN, q_asgT, q_asgL, q_asgs0, q_asgsC, Option.bind_some, List.append_nil, is_integer_eq, is_list_eq, q_is2, w_int, i_int, w_lst, w_tup, l_lst, l_tup, l_int, Bool.true_and, Bool.false_and, Bool.and_true, Bool.and_false, q_rs, q_thn_raise', *]
  rfl
/-! ### what is asked of two -/
def fnOf (way : Int) : List D → M D := if way = 0 then m_plus else if way = 1 then m_minus else if way = 2 then m_times else if way = 3 then m_over else if way = 4 then m_is_less else m_ratio
theorem asked_ok {way : Int} (hw : 0 ≤ way ∧ way ≤ 5) {x y r : D} {s : Deck} (h : fnOf way [x, y] s = .ok r s) : m_law_asked [.int way, x, y] s = .ok (.lst [r]) s := by
  have c : way = 0 ∨ way = 1 ∨ way = 2 ∨ way = 3 ∨ way = 4 ∨ way = 5 := by omega
  unfold m_law_asked g_law_asked
  rcases c with rfl | rfl | rfl | rfl | rfl | rfl
  · have h : m_plus [x, y] s = .ok r s := h
    simp only [q_def, q_seq, q_ite, q_ret, q_set, q_drop, q_asg, q_for, q_for0, q_fc, q_frd_nx, q_frd_rt, q_frd_ct, q_frd_bk, q_turn, q_mkLst, q_mkTup, Nat.reduceLeDiff, q_and_bl, q_or_bl, q_c0, q_c1, q_c2, q_c3, q_c4, q_c5, q_c6, q_c9, q_c13, decide_true, decide_false, Int.reduceEq, Int.reduceLT, Int.reduceLE, Int.reduceAdd, Int.reduceSub, Int.reduceMul, Int.reduceNeg, Int.reducePow, Int.reduceToNat, Int.reduceBNe, Int.reduceNe, Nat.zero_le, q_get, q_cst, q_lift, q_un, q_with, q_av0, q_avC, q_callN, q_callKW, q_andD, q_orD, q_notD, q_fAnd, q_fOr, q_fNot, q_fTru, q_fBoo, q_ifD, q_isN, q_fIsN, q_fNotN, startD, q_bind, q_toS, q_rt, q_nx, q_thn_nx, q_thn_rt, q_okO, q_nxO, q_pure, q_none0, q_none1, q_none2, q_none3, q_none4, q_tru_bl, q_tru_int, q_tru_lst, q_tru_tup, q_tru_non, q_boo, q_seqL, q_seqT, q_lenL, q_lenT, q_eqI, q_neI, q_lt, q_le, q_gt, q_ge, q_add, q_addL, q_sub, q_neg, q_abs, q_int, q_intB, q_max, q_gcd, q_tupL, q_gL, q_gT, q_g0, q_g1, q_g2, q_lc, q_par, q_parO, q_whS, q_slc, q_prt0, q_prt1, q_intR, q_slcL, q_slcT, q_zipL, q_zipT, q_allp, List.length_map, wipeE, List.map_cons, List.map_nil, List.length_cons, List.length_nil, List.replicate, List.cons_append, List.nil_append, List.getElem?_cons_zero, List.getElem?_cons_succ, List.set_cons_zero, List.set_cons_succ, Nat.reduceSub, Nat.reduceAdd, if_true, Bool.not_true, Bool.not_false, Bool.false_eq_true, if_false, reduceIte, setD, List.foldl_cons, List.foldl_nil, q_asgN, q_asgT, q_asgL, q_asgs0, q_asgsC, Option.bind_some, List.append_nil, is_integer_eq, is_list_eq, q_is2, w_int, i_int, w_lst, w_tup, l_lst, l_tup, l_int, Bool.true_and, Bool.false_and, Bool.and_true, Bool.and_false, q_try, q_try_nx, *]
  · have h : m_minus [x, y] s = .ok r s := h
    simp only [q_def, q_seq, q_ite, q_ret, q_set, q_drop, q_asg, q_for, q_for0, q_fc, q_frd_nx, q_frd_rt, q_frd_ct, q_frd_bk, q_turn, q_mkLst, q_mkTup, Nat.reduceLeDiff, q_and_bl, q_or_bl, q_c0, q_c1, q_c2, q_c3, q_c4, q_c5, q_c6, q_c9, q_c13, decide_true, decide_false, Int.reduceEq, Int.reduceLT, Int.reduceLE, Int.reduceAdd, Int.reduceSub, Int.reduceMul, Int.reduceNeg, Int.reducePow, Int.reduceToNat, Int.reduceBNe, Int.reduceNe, Nat.zero_le, q_get, q_cst, q_lift, q_un, q_with, q_av0, q_avC, q_callN, q_callKW, q_andD, q_orD, q_notD, q_fAnd, q_fOr, q_fNot, q_fTru, q_fBoo, q_ifD, q_isN, q_fIsN, q_fNotN, startD, q_bind, q_toS, q_rt, q_nx, q_thn_nx, q_thn_rt, q_okO, q_nxO, q_pure, q_none0, q_none1, q_none2, q_none3, q_none4, q_tru_bl, q_tru_int, q_tru_lst, q_tru_tup, q_tru_non, q_boo, q_seqL, q_seqT, q_lenL, q_lenT, q_eqI, q_neI, q_lt, q_le, q_gt, q_ge, q_add, q_addL, q_sub, q_neg, q_abs, q_int, q_intB, q_max, q_gcd, q_tupL, q_gL, q_gT, q_g0, q_g1, q_g2, q_lc, q_par, q_parO, q_whS, q_slc, q_prt0, q_prt1, q_intR, q_slcL, q_slcT, q_zipL, q_zipT, q_allp, List.length_map, wipeE, List.map_cons, List.map_nil, List.length_cons, List.length_nil, List.replicate, List.cons_append, List.nil_append, List.getElem?_cons_zero, List.getElem?_cons_succ, List.set_cons_zero, List.set_cons_succ, Nat.reduceSub, Nat.reduceAdd, if_true, Bool.not_true, Bool.not_false, Bool.false_eq_true, if_false, reduceIte, setD, List.foldl_cons, List.foldl_nil, q_asgN, q_asgT, q_asgL, q_asgs0, q_asgsC, Option.bind_some, List.append_nil, is_integer_eq, is_list_eq, q_is2, w_int, i_int, w_lst, w_tup, l_lst, l_tup, l_int, Bool.true_and, Bool.false_and, Bool.and_true, Bool.and_false, q_try, q_try_nx, *]
  · have h : m_times [x, y] s = .ok r s := h
    simp only [q_def, q_seq, q_ite, q_ret, q_set, q_drop, q_asg, q_for, q_for0, q_fc, q_frd_nx, q_frd_rt, q_frd_ct, q_frd_bk, q_turn, q_mkLst, q_mkTup, Nat.reduceLeDiff, q_and_bl, q_or_bl, q_c0, q_c1, q_c2, q_c3, q_c4, q_c5, q_c6, q_c9, q_c13, decide_true, decide_false, Int.reduceEq, Int.reduceLT, Int.reduceLE, Int.reduceAdd, Int.reduceSub, Int.reduceMul, Int.reduceNeg, Int.reducePow, Int.reduceToNat, Int.reduceBNe, Int.reduceNe, Nat.zero_le, q_get, q_cst, q_lift, q_un, q_with, q_av0, q_avC, q_callN, q_callKW, q_andD, q_orD, q_notD, q_fAnd, q_fOr, q_fNot, q_fTru, q_fBoo, q_ifD, q_isN, q_fIsN, q_fNotN, startD, q_bind, q_toS, q_rt, q_nx, q_thn_nx, q_thn_rt, q_okO, q_nxO, q_pure, q_none0, q_none1, q_none2, q_none3, q_none4, q_tru_bl, q_tru_int, q_tru_lst, q_tru_tup, q_tru_non, q_boo, q_seqL, q_seqT, q_lenL, q_lenT, q_eqI, q_neI, q_lt, q_le, q_gt, q_ge, q_add, q_addL, q_sub, q_neg, q_abs, q_int, q_intB, q_max, q_gcd, q_tupL, q_gL, q_gT, q_g0, q_g1, q_g2, q_lc, q_par, q_parO, q_whS, q_slc, q_prt0, q_prt1, q_intR, q_slcL, q_slcT, q_zipL, q_zipT, q_allp, List.length_map, wipeE, List.map_cons, List.map_nil, List.length_cons, List.length_nil, List.replicate, List.cons_append, List.nil_append, List.getElem?_cons_zero, List.getElem?_cons_succ, List.set_cons_zero, List.set_cons_succ, Nat.reduceSub, Nat.reduceAdd, if_true, Bool.not_true, Bool.not_false, Bool.false_eq_true, if_false, reduceIte, setD, List.foldl_cons, List.foldl_nil, q_asgN, q_asgT, q_asgL, q_asgs0, q_asgsC, Option.bind_some, List.append_nil, is_integer_eq, is_list_eq, q_is2, w_int, i_int, w_lst, w_tup, l_lst, l_tup, l_int, Bool.true_and, Bool.false_and, Bool.and_true, Bool.and_false, q_try, q_try_nx, *]
  · have h : m_over [x, y] s = .ok r s := h
    simp only [q_def, q_seq, q_ite, q_ret, q_set, q_drop, q_asg, q_for, q_for0, q_fc, q_frd_nx, q_frd_rt, q_frd_ct, q_frd_bk, q_turn, q_mkLst, q_mkTup, Nat.reduceLeDiff, q_and_bl, q_or_bl, q_c0, q_c1, q_c2, q_c3, q_c4, q_c5, q_c6, q_c9, q_c13, decide_true, decide_false, Int.reduceEq, Int.reduceLT, Int.reduceLE, Int.reduceAdd, Int.reduceSub, Int.reduceMul, Int.reduceNeg, Int.reducePow, Int.reduceToNat, Int.reduceBNe, Int.reduceNe, Nat.zero_le, q_get, q_cst, q_lift, q_un, q_with, q_av0, q_avC, q_callN, q_callKW, q_andD, q_orD, q_notD, q_fAnd, q_fOr, q_fNot, q_fTru, q_fBoo, q_ifD, q_isN, q_fIsN, q_fNotN, startD, q_bind, q_toS, q_rt, q_nx, q_thn_nx, q_thn_rt, q_okO, q_nxO, q_pure, q_none0, q_none1, q_none2, q_none3, q_none4, q_tru_bl, q_tru_int, q_tru_lst, q_tru_tup, q_tru_non, q_boo, q_seqL, q_seqT, q_lenL, q_lenT, q_eqI, q_neI, q_lt, q_le, q_gt, q_ge, q_add, q_addL, q_sub, q_neg, q_abs, q_int, q_intB, q_max, q_gcd, q_tupL, q_gL, q_gT, q_g0, q_g1, q_g2, q_lc, q_par, q_parO, q_whS, q_slc, q_prt0, q_prt1, q_intR, q_slcL, q_slcT, q_zipL, q_zipT, q_allp, List.length_map, wipeE, List.map_cons, List.map_nil, List.length_cons, List.length_nil, List.replicate, List.cons_append, List.nil_append, List.getElem?_cons_zero, List.getElem?_cons_succ, List.set_cons_zero, List.set_cons_succ, Nat.reduceSub, Nat.reduceAdd, if_true, Bool.not_true, Bool.not_false, Bool.false_eq_true, if_false, reduceIte, setD, List.foldl_cons, List.foldl_nil, q_asgN, q_asgT, q_asgL, q_asgs0, q_asgsC, Option.bind_some, List.append_nil, is_integer_eq, is_list_eq, q_is2, w_int, i_int, w_lst, w_tup, l_lst, l_tup, l_int, Bool.true_and, Bool.false_and, Bool.and_true, Bool.and_false, q_try, q_try_nx, *]
  · have h : m_is_less [x, y] s = .ok r s := h
    simp only [q_def, q_seq, q_ite, q_ret, q_set, q_drop, q_asg, q_for, q_for0, q_fc, q_frd_nx, q_frd_rt, q_frd_ct, q_frd_bk, q_turn, q_mkLst, q_mkTup, Nat.reduceLeDiff, q_and_bl, q_or_bl, q_c0, q_c1, q_c2, q_c3, q_c4, q_c5, q_c6, q_c9, q_c13, decide_true, decide_false, Int.reduceEq, Int.reduceLT, Int.reduceLE, Int.reduceAdd, Int.reduceSub, Int.reduceMul, Int.reduceNeg, Int.reducePow, Int.reduceToNat, Int.reduceBNe, Int.reduceNe, Nat.zero_le, q_get, q_cst, q_lift, q_un, q_with, q_av0, q_avC, q_callN, q_callKW, q_andD, q_orD, q_notD, q_fAnd, q_fOr, q_fNot, q_fTru, q_fBoo, q_ifD, q_isN, q_fIsN, q_fNotN, startD, q_bind, q_toS, q_rt, q_nx, q_thn_nx, q_thn_rt, q_okO, q_nxO, q_pure, q_none0, q_none1, q_none2, q_none3, q_none4, q_tru_bl, q_tru_int, q_tru_lst, q_tru_tup, q_tru_non, q_boo, q_seqL, q_seqT, q_lenL, q_lenT, q_eqI, q_neI, q_lt, q_le, q_gt, q_ge, q_add, q_addL, q_sub, q_neg, q_abs, q_int, q_intB, q_max, q_gcd, q_tupL, q_gL, q_gT, q_g0, q_g1, q_g2, q_lc, q_par, q_parO, q_whS, q_slc, q_prt0, q_prt1, q_intR, q_slcL, q_slcT, q_zipL, q_zipT, q_allp, List.length_map, wipeE, List.map_cons, List.map_nil, List.length_cons, List.length_nil, List.replicate, List.cons_append, List.nil_append, List.getElem?_cons_zero, List.getElem?_cons_succ, List.set_cons_zero, List.set_cons_succ, Nat.reduceSub, Nat.reduceAdd, if_true, Bool.not_true, Bool.not_false, Bool.false_eq_true, if_false, reduceIte, setD, List.foldl_cons, List.foldl_nil, q_asgN, q_asgT, q_asgL, q_asgs0, q_asgsC, Option.bind_some, List.append_nil, is_integer_eq, is_list_eq, q_is2, w_int, i_int, w_lst, w_tup, l_lst, l_tup, l_int, Bool.true_and, Bool.false_and, Bool.and_true, Bool.and_false, q_try, q_try_nx, *]
  · have h : m_ratio [x, y] s = .ok r s := h
    simp only [q_def, q_seq, q_ite, q_ret, q_set, q_drop, q_asg, q_for, q_for0, q_fc, q_frd_nx, q_frd_rt, q_frd_ct, q_frd_bk, q_turn, q_mkLst, q_mkTup, Nat.reduceLeDiff, q_and_bl, q_or_bl, q_c0, q_c1, q_c2, q_c3, q_c4, q_c5, q_c6, q_c9, q_c13, decide_true, decide_false, Int.reduceEq, Int.reduceLT, Int.reduceLE, Int.reduceAdd, Int.reduceSub, Int.reduceMul, Int.reduceNeg, Int.reducePow, Int.reduceToNat, Int.reduceBNe, Int.reduceNe, Nat.zero_le, q_get, q_cst, q_lift, q_un, q_with, q_av0, q_avC, q_callN, q_callKW, q_andD, q_orD, q_notD, q_fAnd, q_fOr, q_fNot, q_fTru, q_fBoo, q_ifD, q_isN, q_fIsN, q_fNotN, startD, q_bind, q_toS, q_rt, q_nx, q_thn_nx, q_thn_rt, q_okO, q_nxO, q_pure, q_none0, q_none1, q_none2, q_none3, q_none4, q_tru_bl, q_tru_int, q_tru_lst, q_tru_tup, q_tru_non, q_boo, q_seqL, q_seqT, q_lenL, q_lenT, q_eqI, q_neI, q_lt, q_le, q_gt, q_ge, q_add, q_addL, q_sub, q_neg, q_abs, q_int, q_intB, q_max, q_gcd, q_tupL, q_gL, q_gT, q_g0, q_g1, q_g2, q_lc, q_par, q_parO, q_whS, q_slc, q_prt0, q_prt1, q_intR, q_slcL, q_slcT, q_zipL, q_zipT, q_allp, List.length_map, wipeE, List.map_cons, List.map_nil, List.length_cons, List.length_nil, List.replicate, List.cons_append, List.nil_append, List.getElem?_cons_zero, List.getElem?_cons_succ, List.set_cons_zero, List.set_cons_succ, Nat.reduceSub, Nat.reduceAdd, if_true, Bool.not_true, Bool.not_false, Bool.false_eq_true, if_false, reduceIte, setD, List.foldl_cons, List.foldl_nil, q_asgN, q_asgT, q_asgL, q_asgs0, q_asgsC, Option.bind_some, List.append_nil, is_integer_eq, is_list_eq, q_is2, w_int, i_int, w_lst, w_tup, l_lst, l_tup, l_int, Bool.true_and, Bool.false_and, Bool.and_true, Bool.and_false, q_try, q_try_nx, *]
theorem asked_bn {way : Int} (hw : 0 ≤ way ∧ way ≤ 5) {x y : D} {p : Str} {s : Deck} (h : fnOf way [x, y] s = .raise (bn p) s) : m_law_asked [.int way, x, y] s = .ok (.tup [.str "BadNumber", .str p]) s := by
  have c : way = 0 ∨ way = 1 ∨ way = 2 ∨ way = 3 ∨ way = 4 ∨ way = 5 := by omega
  have ca : ∀ (r : List (Str × Nat × HS)) (g : HS) (δ : DEnv) (s : Deck), 4 < δ.length → catchS tbl (("BadNumber", 4, g) :: r) (bn p) δ s = unS 4 (g (bn p) (δ.set 4 none) s) := fun r g δ s hl => q_catch tblB hl
  have f1 : ∀ (δ : DEnv) (s : Deck), fldH "BadNumber" "part" (bn p) δ s = .ok (.str p) s := fun δ s => q_fld rfl
  unfold m_law_asked g_law_asked
  rcases c with rfl | rfl | rfl | rfl | rfl | rfl
  · have h : m_plus [x, y] s = .raise (bn p) s := h
    simp only [q_def, q_seq, q_ite, q_ret, q_set, q_drop, q_asg, q_for, q_for0, q_fc, q_frd_nx, q_frd_rt, q_frd_ct, q_frd_bk, q_turn, q_mkLst, q_mkTup, Nat.reduceLeDiff, q_and_bl, q_or_bl, q_c0, q_c1, q_c2, q_c3, q_c4, q_c5, q_c6, q_c9, q_c13, decide_true, decide_false, Int.reduceEq, Int.reduceLT, Int.reduceLE, Int.reduceAdd, Int.reduceSub, Int.reduceMul, Int.reduceNeg, Int.reducePow, Int.reduceToNat, Int.reduceBNe, Int.reduceNe, Nat.zero_le, q_get, q_cst, q_lift, q_un, q_with, q_av0, q_avC, q_callN, q_callKW, q_andD, q_orD, q_notD, q_fAnd, q_fOr, q_fNot, q_fTru, q_fBoo, q_ifD, q_isN, q_fIsN, q_fNotN, startD, q_bind, q_toS, q_rt, q_nx, q_thn_nx, q_thn_rt, q_okO, q_nxO, q_pure, q_none0, q_none1, q_none2, q_none3, q_none4, q_tru_bl, q_tru_int, q_tru_lst, q_tru_tup, q_tru_non, q_boo, q_seqL, q_seqT, q_lenL, q_lenT, q_eqI, q_neI, q_lt, q_le, q_gt, q_ge, q_add, q_addL, q_sub, q_neg, q_abs, q_int, q_intB, q_max, q_gcd, q_tupL, q_gL, q_gT, q_g0, q_g1, q_g2, q_lc, q_par, q_parO, q_whS, q_slc, q_prt0, q_prt1, q_intR, q_slcL, q_slcT, q_zipL, q_zipT, q_allp, List.length_map, wipeE, List.map_cons, List.map_nil, List.length_cons, List.length_nil, List.replicate, List.cons_append, List.nil_append, List.getElem?_cons_zero, List.getElem?_cons_succ, List.set_cons_zero, List.set_cons_succ, Nat.reduceSub, Nat.reduceAdd, if_true, Bool.not_true, Bool.not_false, Bool.false_eq_true, if_false, reduceIte, setD, List.foldl_cons, List.foldl_nil, q_asgN, q_asgT, q_asgL, q_asgs0, q_asgsC, Option.bind_some, List.append_nil, is_integer_eq, is_list_eq, q_is2, w_int, i_int, w_lst, w_tup, l_lst, l_tup, l_int, Bool.true_and, Bool.false_and, Bool.and_true, Bool.and_false, q_try, q_try_raise, q_braise, q_toS_raise, q_un_nx, Nat.reduceLT, *]
  · have h : m_minus [x, y] s = .raise (bn p) s := h
    simp only [q_def, q_seq, q_ite, q_ret, q_set, q_drop, q_asg, q_for, q_for0, q_fc, q_frd_nx, q_frd_rt, q_frd_ct, q_frd_bk, q_turn, q_mkLst, q_mkTup, Nat.reduceLeDiff, q_and_bl, q_or_bl, q_c0, q_c1, q_c2, q_c3, q_c4, q_c5, q_c6, q_c9, q_c13, decide_true, decide_false, Int.reduceEq, Int.reduceLT, Int.reduceLE, Int.reduceAdd, Int.reduceSub, Int.reduceMul, Int.reduceNeg, Int.reducePow, Int.reduceToNat, Int.reduceBNe, Int.reduceNe, Nat.zero_le, q_get, q_cst, q_lift, q_un, q_with, q_av0, q_avC, q_callN, q_callKW, q_andD, q_orD, q_notD, q_fAnd, q_fOr, q_fNot, q_fTru, q_fBoo, q_ifD, q_isN, q_fIsN, q_fNotN, startD, q_bind, q_toS, q_rt, q_nx, q_thn_nx, q_thn_rt, q_okO, q_nxO, q_pure, q_none0, q_none1, q_none2, q_none3, q_none4, q_tru_bl, q_tru_int, q_tru_lst, q_tru_tup, q_tru_non, q_boo, q_seqL, q_seqT, q_lenL, q_lenT, q_eqI, q_neI, q_lt, q_le, q_gt, q_ge, q_add, q_addL, q_sub, q_neg, q_abs, q_int, q_intB, q_max, q_gcd, q_tupL, q_gL, q_gT, q_g0, q_g1, q_g2, q_lc, q_par, q_parO, q_whS, q_slc, q_prt0, q_prt1, q_intR, q_slcL, q_slcT, q_zipL, q_zipT, q_allp, List.length_map, wipeE, List.map_cons, List.map_nil, List.length_cons, List.length_nil, List.replicate, List.cons_append, List.nil_append, List.getElem?_cons_zero, List.getElem?_cons_succ, List.set_cons_zero, List.set_cons_succ, Nat.reduceSub, Nat.reduceAdd, if_true, Bool.not_true, Bool.not_false, Bool.false_eq_true, if_false, reduceIte, setD, List.foldl_cons, List.foldl_nil, q_asgN, q_asgT, q_asgL, q_asgs0, q_asgsC, Option.bind_some, List.append_nil, is_integer_eq, is_list_eq, q_is2, w_int, i_int, w_lst, w_tup, l_lst, l_tup, l_int, Bool.true_and, Bool.false_and, Bool.and_true, Bool.and_false, q_try, q_try_raise, q_braise, q_toS_raise, q_un_nx, Nat.reduceLT, *]
  · have h : m_times [x, y] s = .raise (bn p) s := h
    simp only [q_def, q_seq, q_ite, q_ret, q_set, q_drop, q_asg, q_for, q_for0, q_fc, q_frd_nx, q_frd_rt, q_frd_ct, q_frd_bk, q_turn, q_mkLst, q_mkTup, Nat.reduceLeDiff, q_and_bl, q_or_bl, q_c0, q_c1, q_c2, q_c3, q_c4, q_c5, q_c6, q_c9, q_c13, decide_true, decide_false, Int.reduceEq, Int.reduceLT, Int.reduceLE, Int.reduceAdd, Int.reduceSub, Int.reduceMul, Int.reduceNeg, Int.reducePow, Int.reduceToNat, Int.reduceBNe, Int.reduceNe, Nat.zero_le, q_get, q_cst, q_lift, q_un, q_with, q_av0, q_avC, q_callN, q_callKW, q_andD, q_orD, q_notD, q_fAnd, q_fOr, q_fNot, q_fTru, q_fBoo, q_ifD, q_isN, q_fIsN, q_fNotN, startD, q_bind, q_toS, q_rt, q_nx, q_thn_nx, q_thn_rt, q_okO, q_nxO, q_pure, q_none0, q_none1, q_none2, q_none3, q_none4, q_tru_bl, q_tru_int, q_tru_lst, q_tru_tup, q_tru_non, q_boo, q_seqL, q_seqT, q_lenL, q_lenT, q_eqI, q_neI, q_lt, q_le, q_gt, q_ge, q_add, q_addL, q_sub, q_neg, q_abs, q_int, q_intB, q_max, q_gcd, q_tupL, q_gL, q_gT, q_g0, q_g1, q_g2, q_lc, q_par, q_parO, q_whS, q_slc, q_prt0, q_prt1, q_intR, q_slcL, q_slcT, q_zipL, q_zipT, q_allp, List.length_map, wipeE, List.map_cons, List.map_nil, List.length_cons, List.length_nil, List.replicate, List.cons_append, List.nil_append, List.getElem?_cons_zero, List.getElem?_cons_succ, List.set_cons_zero, List.set_cons_succ, Nat.reduceSub, Nat.reduceAdd, if_true, Bool.not_true, Bool.not_false, Bool.false_eq_true, if_false, reduceIte, setD, List.foldl_cons, List.foldl_nil, q_asgN, q_asgT, q_asgL, q_asgs0, q_asgsC, Option.bind_some, List.append_nil, is_integer_eq, is_list_eq, q_is2, w_int, i_int, w_lst, w_tup, l_lst, l_tup, l_int, Bool.true_and, Bool.false_and, Bool.and_true, Bool.and_false, q_try, q_try_raise, q_braise, q_toS_raise, q_un_nx, Nat.reduceLT, *]
  · have h : m_over [x, y] s = .raise (bn p) s := h
    simp only [q_def, q_seq, q_ite, q_ret, q_set, q_drop, q_asg, q_for, q_for0, q_fc, q_frd_nx, q_frd_rt, q_frd_ct, q_frd_bk, q_turn, q_mkLst, q_mkTup, Nat.reduceLeDiff, q_and_bl, q_or_bl, q_c0, q_c1, q_c2, q_c3, q_c4, q_c5, q_c6, q_c9, q_c13, decide_true, decide_false, Int.reduceEq, Int.reduceLT, Int.reduceLE, Int.reduceAdd, Int.reduceSub, Int.reduceMul, Int.reduceNeg, Int.reducePow, Int.reduceToNat, Int.reduceBNe, Int.reduceNe, Nat.zero_le, q_get, q_cst, q_lift, q_un, q_with, q_av0, q_avC, q_callN, q_callKW, q_andD, q_orD, q_notD, q_fAnd, q_fOr, q_fNot, q_fTru, q_fBoo, q_ifD, q_isN, q_fIsN, q_fNotN, startD, q_bind, q_toS, q_rt, q_nx, q_thn_nx, q_thn_rt, q_okO, q_nxO, q_pure, q_none0, q_none1, q_none2, q_none3, q_none4, q_tru_bl, q_tru_int, q_tru_lst, q_tru_tup, q_tru_non, q_boo, q_seqL, q_seqT, q_lenL, q_lenT, q_eqI, q_neI, q_lt, q_le, q_gt, q_ge, q_add, q_addL, q_sub, q_neg, q_abs, q_int, q_intB, q_max, q_gcd, q_tupL, q_gL, q_gT, q_g0, q_g1, q_g2, q_lc, q_par, q_parO, q_whS, q_slc, q_prt0, q_prt1, q_intR, q_slcL, q_slcT, q_zipL, q_zipT, q_allp, List.length_map, wipeE, List.map_cons, List.map_nil, List.length_cons, List.length_nil, List.replicate, List.cons_append, List.nil_append, List.getElem?_cons_zero, List.getElem?_cons_succ, List.set_cons_zero, List.set_cons_succ, Nat.reduceSub, Nat.reduceAdd, if_true, Bool.not_true, Bool.not_false, Bool.false_eq_true, if_false, reduceIte, setD, List.foldl_cons, List.foldl_nil, q_asgN, q_asgT, q_asgL, q_asgs0, q_asgsC, Option.bind_some, List.append_nil, is_integer_eq, is_list_eq, q_is2, w_int, i_int, w_lst, w_tup, l_lst, l_tup, l_int, Bool.true_and, Bool.false_and, Bool.and_true, Bool.and_false, q_try, q_try_raise, q_braise, q_toS_raise, q_un_nx, Nat.reduceLT, *]
  · have h : m_is_less [x, y] s = .raise (bn p) s := h
    simp only [q_def, q_seq, q_ite, q_ret, q_set, q_drop, q_asg, q_for, q_for0, q_fc, q_frd_nx, q_frd_rt, q_frd_ct, q_frd_bk, q_turn, q_mkLst, q_mkTup, Nat.reduceLeDiff, q_and_bl, q_or_bl, q_c0, q_c1, q_c2, q_c3, q_c4, q_c5, q_c6, q_c9, q_c13, decide_true, decide_false, Int.reduceEq, Int.reduceLT, Int.reduceLE, Int.reduceAdd, Int.reduceSub, Int.reduceMul, Int.reduceNeg, Int.reducePow, Int.reduceToNat, Int.reduceBNe, Int.reduceNe, Nat.zero_le, q_get, q_cst, q_lift, q_un, q_with, q_av0, q_avC, q_callN, q_callKW, q_andD, q_orD, q_notD, q_fAnd, q_fOr, q_fNot, q_fTru, q_fBoo, q_ifD, q_isN, q_fIsN, q_fNotN, startD, q_bind, q_toS, q_rt, q_nx, q_thn_nx, q_thn_rt, q_okO, q_nxO, q_pure, q_none0, q_none1, q_none2, q_none3, q_none4, q_tru_bl, q_tru_int, q_tru_lst, q_tru_tup, q_tru_non, q_boo, q_seqL, q_seqT, q_lenL, q_lenT, q_eqI, q_neI, q_lt, q_le, q_gt, q_ge, q_add, q_addL, q_sub, q_neg, q_abs, q_int, q_intB, q_max, q_gcd, q_tupL, q_gL, q_gT, q_g0, q_g1, q_g2, q_lc, q_par, q_parO, q_whS, q_slc, q_prt0, q_prt1, q_intR, q_slcL, q_slcT, q_zipL, q_zipT, q_allp, List.length_map, wipeE, List.map_cons, List.map_nil, List.length_cons, List.length_nil, List.replicate, List.cons_append, List.nil_append, List.getElem?_cons_zero, List.getElem?_cons_succ, List.set_cons_zero, List.set_cons_succ, Nat.reduceSub, Nat.reduceAdd, if_true, Bool.not_true, Bool.not_false, Bool.false_eq_true, if_false, reduceIte, setD, List.foldl_cons, List.foldl_nil, q_asgN, q_asgT, q_asgL, q_asgs0, q_asgsC, Option.bind_some, List.append_nil, is_integer_eq, is_list_eq, q_is2, w_int, i_int, w_lst, w_tup, l_lst, l_tup, l_int, Bool.true_and, Bool.false_and, Bool.and_true, Bool.and_false, q_try, q_try_raise, q_braise, q_toS_raise, q_un_nx, Nat.reduceLT, *]
  · have h : m_ratio [x, y] s = .raise (bn p) s := h
    simp only [q_def, q_seq, q_ite, q_ret, q_set, q_drop, q_asg, q_for, q_for0, q_fc, q_frd_nx, q_frd_rt, q_frd_ct, q_frd_bk, q_turn, q_mkLst, q_mkTup, Nat.reduceLeDiff, q_and_bl, q_or_bl, q_c0, q_c1, q_c2, q_c3, q_c4, q_c5, q_c6, q_c9, q_c13, decide_true, decide_false, Int.reduceEq, Int.reduceLT, Int.reduceLE, Int.reduceAdd, Int.reduceSub, Int.reduceMul, Int.reduceNeg, Int.reducePow, Int.reduceToNat, Int.reduceBNe, Int.reduceNe, Nat.zero_le, q_get, q_cst, q_lift, q_un, q_with, q_av0, q_avC, q_callN, q_callKW, q_andD, q_orD, q_notD, q_fAnd, q_fOr, q_fNot, q_fTru, q_fBoo, q_ifD, q_isN, q_fIsN, q_fNotN, startD, q_bind, q_toS, q_rt, q_nx, q_thn_nx, q_thn_rt, q_okO, q_nxO, q_pure, q_none0, q_none1, q_none2, q_none3, q_none4, q_tru_bl, q_tru_int, q_tru_lst, q_tru_tup, q_tru_non, q_boo, q_seqL, q_seqT, q_lenL, q_lenT, q_eqI, q_neI, q_lt, q_le, q_gt, q_ge, q_add, q_addL, q_sub, q_neg, q_abs, q_int, q_intB, q_max, q_gcd, q_tupL, q_gL, q_gT, q_g0, q_g1, q_g2, q_lc, q_par, q_parO, q_whS, q_slc, q_prt0, q_prt1, q_intR, q_slcL, q_slcT, q_zipL, q_zipT, q_allp, List.length_map, wipeE, List.map_cons, List.map_nil, List.length_cons, List.length_nil, List.replicate, List.cons_append, List.nil_append, List.getElem?_cons_zero, List.getElem?_cons_succ, List.set_cons_zero, List.set_cons_succ, Nat.reduceSub, Nat.reduceAdd, if_true, Bool.not_true, Bool.not_false, Bool.false_eq_true, if_false, reduceIte, setD, List.foldl_cons, List.foldl_nil, q_asgN, q_asgT, q_asgL, q_asgs0, q_asgsC, Option.bind_some, List.append_nil, is_integer_eq, is_list_eq, q_is2, w_int, i_int, w_lst, w_tup, l_lst, l_tup, l_int, Bool.true_and, Bool.false_and, Bool.and_true, Bool.and_false, q_try, q_try_raise, q_braise, q_toS_raise, q_un_nx, Nat.reduceLT, *]
theorem asked_mf {x y : D} {p : Str} {s : Deck} (h : m_over [x, y] s = .raise (mf p) s) : m_law_asked [.int 3, x, y] s = .ok (.tup [.str "Misfit", .str p]) s := by
  have ca : ∀ (r : List (Str × Nat × HS)) (g k : HS) (δ : DEnv) (s : Deck), 4 < δ.length → catchS tbl (("BadNumber", 4, k) :: ("Misfit", 4, g) :: r) (mf p) δ s = unS 4 (g (mf p) (δ.set 4 none) s) := fun r g k δ s hl => by
    rw [q_catchNo tblMB hl, q_catch tblM hl]
  have f1 : ∀ (δ : DEnv) (s : Deck), fldH "Misfit" "part" (mf p) δ s = .ok (.str p) s := fun δ s => q_fld rfl
  unfold m_law_asked g_law_asked
  simp only [q_def, q_seq, q_ite, q_ret, q_set, q_drop, q_asg, q_for, q_for0, q_fc, q_frd_nx, q_frd_rt, q_frd_ct, q_frd_bk, q_turn, q_mkLst, q_mkTup, Nat.reduceLeDiff, q_and_bl, q_or_bl, q_c0, q_c1, q_c2, q_c3, q_c4, q_c5, q_c6, q_c9, q_c13, decide_true, decide_false, Int.reduceEq, Int.reduceLT, Int.reduceLE, Int.reduceAdd, Int.reduceSub, Int.reduceMul, Int.reduceNeg, Int.reducePow, Int.reduceToNat, Int.reduceBNe, Int.reduceNe, Nat.zero_le, q_get, q_cst, q_lift, q_un, q_with, q_av0, q_avC, q_callN, q_callKW, q_andD, q_orD, q_notD, q_fAnd, q_fOr, q_fNot, q_fTru, q_fBoo, q_ifD, q_isN, q_fIsN, q_fNotN, startD, q_bind, q_toS, q_rt, q_nx, q_thn_nx, q_thn_rt, q_okO, q_nxO, q_pure, q_none0, q_none1, q_none2, q_none3, q_none4, q_tru_bl, q_tru_int, q_tru_lst, q_tru_tup, q_tru_non, q_boo, q_seqL, q_seqT, q_lenL, q_lenT, q_eqI, q_neI, q_lt, q_le, q_gt, q_ge, q_add, q_addL, q_sub, q_neg, q_abs, q_int, q_intB, q_max, q_gcd, q_tupL, q_gL, q_gT, q_g0, q_g1, q_g2, q_lc, q_par, q_parO, q_whS, q_slc, q_prt0, q_prt1, q_intR, q_slcL, q_slcT, q_zipL, q_zipT, q_allp, List.length_map, wipeE, List.map_cons, List.map_nil, List.length_cons, List.length_nil, List.replicate, List.cons_append, List.nil_append, List.getElem?_cons_zero, List.getElem?_cons_succ, List.set_cons_zero, List.set_cons_succ, Nat.reduceSub, Nat.reduceAdd, if_true, Bool.not_true, Bool.not_false, Bool.false_eq_true, if_false, reduceIte, setD, List.foldl_cons, List.foldl_nil, q_asgN, q_asgT, q_asgL, q_asgs0, q_asgsC, Option.bind_some, List.append_nil, is_integer_eq, is_list_eq, q_is2, w_int, i_int, w_lst, w_tup, l_lst, l_tup, l_int, Bool.true_and, Bool.false_and, Bool.and_true, Bool.and_false, q_try, q_try_raise, q_braise, q_toS_raise, q_un_nx, Nat.reduceLT, *]
end K03

set_option exponentiation.threshold 10000
namespace K03
open PySem PySem.Builtin PySem.Builtin.Str L2 FL
/-! ### what the law draws -/
theorem pick_eq {b : Int} {s : Deck} (G : Good b s) (hb : b ≤ 1000000) (xs : List D) (h0 : 0 < xs.length) (hl : ((xs.length : Nat) : Int).natAbs.log2 < 9000) :
    ∃ x s', m_law_pick [.deck, .lst xs] s = .ok x s' ∧ x ∈ xs ∧ Good (b + 1) s' := by
  obtain ⟨r, s', e, r0, r1, G'⟩ := sift_eq G hb (many := (xs.length : Int)) (by omega) hl
  obtain ⟨x, hx, ex⟩ := atI_in r0 r1
  refine ⟨x, s', ?_, hx, G'⟩
  unfold m_law_pick g_law_pick
  clear hx r0 r1 G G' hb h0 hl
  simp only [q_def, q_seq, q_ite, q_ret, q_set, q_drop, q_asg, q_for, q_for0, q_fc, q_frd_nx, q_frd_rt, q_frd_ct, q_frd_bk, q_turn, q_mkLst, q_mkTup, Nat.reduceLeDiff, q_and_bl, q_or_bl, q_c0, q_c1, q_c2, q_c3, q_c4, q_c5, q_c6, q_c9, q_c13, decide_true, decide_false, Int.reduceEq, Int.reduceLT, Int.reduceLE, Int.reduceAdd, Int.reduceSub, Int.reduceMul, Int.reduceNeg, Int.reducePow, Int.reduceToNat, Int.reduceBNe, Int.reduceNe, Nat.zero_le, q_get, q_cst, q_lift, q_un, q_with, q_av0, q_avC, q_callN, q_callKW, q_andD, q_orD, q_notD, q_fAnd, q_fOr, q_fNot, q_fTru, q_fBoo, q_ifD, q_isN, q_fIsN, q_fNotN, startD, q_bind, q_toS, q_rt, q_nx, q_thn_nx, q_thn_rt, q_okO, q_nxO, q_pure, q_none0, q_none1, q_none2, q_none3, q_none4, q_tru_bl, q_tru_int, q_tru_lst, q_tru_tup, q_tru_non, q_boo, q_seqL, q_seqT, q_lenL, q_lenT, q_eqI, q_neI, q_lt, q_le, q_gt, q_ge, q_add, q_addL, q_sub, q_neg, q_abs, q_int, q_intB, q_max, q_gcd, q_tupL, q_gL, q_gT, q_g0, q_g1, q_g2, q_lc, q_par, q_parO, q_whS, q_slc, q_prt0, q_prt1, q_intR, q_slcL, q_slcT, q_zipL, q_zipT, q_allp, List.length_map, wipeE, List.map_cons, List.map_nil, List.length_cons, List.length_nil, List.replicate, List.cons_append, List.nil_append, List.getElem?_cons_zero, List.getElem?_cons_succ, List.set_cons_zero, List.set_cons_succ, Nat.reduceSub, Nat.reduceAdd, if_true, Bool.not_true, Bool.not_false, Bool.false_eq_true, if_false, reduceIte, setD, List.foldl_cons, List.foldl_nil, q_asgN, q_asgT, q_asgL, q_asgs0, q_asgsC, Option.bind_some, List.append_nil, is_integer_eq, is_list_eq, q_is2, w_int, i_int, w_lst, w_tup, l_lst, l_tup, l_int, Bool.true_and, Bool.false_and, Bool.and_true, Bool.and_false, *]
theorem comp_good {b : D → Deck → R (Option D)} {P : D → Prop} {k : Int} (hk : 0 ≤ k) : ∀ (ds : List D) (c : Int) (s : Deck), Good c s → c + k * ds.length ≤ 1000000 →
    (∀ x ∈ ds, ∀ c s, Good c s → c + k ≤ 1000000 → ∃ y s', b x s = .ok (some y) s' ∧ P y ∧ Good (c + k) s') → ∃ ys s', compD b ds s = .ok ys s' ∧ ys.length = ds.length ∧ (∀ y ∈ ys, P y) ∧ Good (c + k * ds.length) s'
  | [], c, s, G, _, _ => ⟨[], s, rfl, rfl, (fun y hy => absurd hy List.not_mem_nil), by simpa using G⟩
  | x :: xs, c, s, G, hc, h => by
    have hm : k * ((x :: xs).length : Int) = k + k * (xs.length : Int) := by
      rw [List.length_cons]
      push_cast
      rw [Int.mul_add]
      omega
    rw [hm] at hc ⊢
    have hn : 0 ≤ k * (xs.length : Int) := Int.mul_nonneg hk (by omega)
    obtain ⟨y, s1, e1, p1, G1⟩ := h x (List.mem_cons_self ..) c s G (by omega)
    obtain ⟨ys, s2, e2, l2, p2, G2⟩ := comp_good hk xs (c + k) s1 G1 (by omega) fun z hz => h z (List.mem_cons_of_mem _ hz)
    refine ⟨y :: ys, s2, ?_, by simp [l2], ?_, by have e : c + (k + k * (xs.length : Int)) = c + k + k * (xs.length : Int) := by omega
                                                  rw [e]; exact G2⟩
    · unfold compD
      rw [e1]
      simp only []
      rw [e2]
      rfl
    · intro z hz
      rcases List.mem_cons.mp hz with rfl | hz
      · exact p1
      · exact p2 z hz
theorem ten8 (s : Deck) : powM (.int 10) (.int 8) s = .ok (.int 100000000) s := q_pow (by decide)
theorem ten30 (s : Deck) : powM (.int 10) (.int 30) s = .ok (.int 1000000000000000000000000000000) s := q_pow (by decide)
theorem log_small {i : Int} (h : i.natAbs < 2 ^ 300) (h0 : 0 < i) : i.natAbs.log2 < 9000 :=
  Nat.lt_trans ((Nat.log2_lt (by omega)).mpr h) (by decide)
theorem value_eq {b : Int} {s : Deck} (G : Good b s) (hb : b + 4 ≤ 1000000) : ∃ p q s', m_law_value [.deck] s = .ok (numD p q) s' ∧ 0 < q ∧ Sz 100 p ∧ Sz 100 q ∧ Good (b + 4) s' := by
  obtain ⟨x, s1, e1, hx, G1⟩ := pick_eq G (by omega) [.int 4, .int 9, .int 60, .int 100000000, .int 1000000000000000000000000000000] (by decide) (by decide)
  obtain ⟨m, rfl, m0, m1⟩ : ∃ m : Int, x = .int m ∧ 0 < m ∧ m ≤ 1000000000000000000000000000000 := by
    simp only [List.mem_cons, List.not_mem_nil, or_false] at hx
    rcases hx with rfl | rfl | rfl | rfl | rfl <;> exact ⟨_, rfl, by decide, by decide⟩
  obtain ⟨r, s2, e2, r0, r1, G2⟩ := sift_eq G1 (by omega) (many := 2 * m + 1) (by omega) (log_small (by omega) (by omega))
  obtain ⟨q, s3, e3, q0, q1, G3⟩ := sift_eq G2 (by omega) (many := m) (by omega) (log_small (by omega) (by omega))
  obtain ⟨y, s4, e4, hy, G4⟩ := pick_eq G3 (by omega) [.int 1, .int 1, .int 2, .int 3, .int 6, .int (1 + q)] (by show 0 < 6; decide) (by show ((6 : Nat) : Int).natAbs.log2 < 9000; decide)
  obtain ⟨l, rfl, l0, l1⟩ : ∃ l : Int, y = .int l ∧ 0 < l ∧ l ≤ 1000000000000000000000000000000 := by
    simp only [List.mem_cons, List.not_mem_nil, or_false] at hy
    rcases hy with rfl | rfl | rfl | rfl | rfl | rfl
    · exact ⟨_, rfl, by decide, by decide⟩
    · exact ⟨_, rfl, by decide, by decide⟩
    · exact ⟨_, rfl, by decide, by decide⟩
    · exact ⟨_, rfl, by decide, by decide⟩
    · exact ⟨_, rfl, by decide, by decide⟩
    · exact ⟨_, rfl, by omega, by omega⟩
  have mm := mul0 m s1 (n := 2) (by decide)
  have sz1 : Sz 100 (r - m) := by unfold Sz; omega
  have sz2 : Sz 100 l := by unfold Sz; omega
  have fe := fun s => form_eq (a := r - m) (show l ≠ 0 by omega) (sz2.log9 (by decide)) s
  refine ⟨r - m, l, s4, ?_, l0, sz1, sz2, G4.mono (by omega)⟩
  unfold m_law_value g_law_value
  clear G G1 G2 G3 G4 hb hx hy m0 m1 r0 r1 q0 q1 l0 l1 sz1 sz2
  simp only [q_def, q_seq, q_ite, q_ret, q_set, q_drop, q_asg, q_for, q_for0, q_fc, q_frd_nx, q_frd_rt, q_frd_ct, q_frd_bk, q_turn, q_mkLst, q_mkTup, Nat.reduceLeDiff, q_and_bl, q_or_bl, q_c0, q_c1, q_c2, q_c3, q_c4, q_c5, q_c6, q_c9, q_c13, decide_true, decide_false, Int.reduceEq, Int.reduceLT, Int.reduceLE, Int.reduceAdd, Int.reduceSub, Int.reduceMul, Int.reduceNeg, Int.reducePow, Int.reduceToNat, Int.reduceBNe, Int.reduceNe, Nat.zero_le, q_get, q_cst, q_lift, q_un, q_with, q_av0, q_avC, q_callN, q_callKW, q_andD, q_orD, q_notD, q_fAnd, q_fOr, q_fNot, q_fTru, q_fBoo, q_ifD, q_isN, q_fIsN, q_fNotN, startD, q_bind, q_toS, q_rt, q_nx, q_thn_nx, q_thn_rt, q_okO, q_nxO, q_pure, q_none0, q_none1, q_none2, q_none3, q_none4, q_tru_bl, q_tru_int, q_tru_lst, q_tru_tup, q_tru_non, q_boo, q_seqL, q_seqT, q_lenL, q_lenT, q_eqI, q_neI, q_lt, q_le, q_gt, q_ge, q_add, q_addL, q_sub, q_neg, q_abs, q_int, q_intB, q_max, q_gcd, q_tupL, q_gL, q_gT, q_g0, q_g1, q_g2, q_lc, q_par, q_parO, q_whS, q_slc, q_prt0, q_prt1, q_intR, q_slcL, q_slcT, q_zipL, q_zipT, q_allp, List.length_map, wipeE, List.map_cons, List.map_nil, List.length_cons, List.length_nil, List.replicate, List.cons_append, List.nil_append, List.getElem?_cons_zero, List.getElem?_cons_succ, List.set_cons_zero, List.set_cons_succ, Nat.reduceSub, Nat.reduceAdd, if_true, Bool.not_true, Bool.not_false, Bool.false_eq_true, if_false, reduceIte, setD, List.foldl_cons, List.foldl_nil, q_asgN, q_asgT, q_asgL, q_asgs0, q_asgsC, Option.bind_some, List.append_nil, is_integer_eq, is_list_eq, q_is2, w_int, i_int, w_lst, w_tup, l_lst, l_tup, l_int, Bool.true_and, Bool.false_and, Bool.and_true, Bool.and_false, ten8, ten30, *]
theorem q_isTup {f : FE} {δ : DEnv} {s : Deck} : isiF f "tuple" δ s = (f δ s).bind fun x s => .ok (.bl (match x with | .tup _ => true | _ => false)) s := by
  rw [q_isi]; congr 1; funext x s; cases x <;> rfl
/-- a number, or the same as a list -/
theorem as_eq {b : Int} {s : Deck} (G : Good b s) (hb : b + 1 ≤ 1000000) {w : Nat} {d : D} {a c : Int} (h : Nm w d a c) (hl : ∀ xs, d ≠ .lst xs) : ∃ d' s', m_law_as [.deck, d] s = .ok d' s' ∧ Nm w d' a c ∧ Good (b + 1) s' := by
  obtain ⟨r, s1, e1, _, _, G1⟩ := sift_eq G (by omega) (many := 2) (by decide) (by decide +kernel)
  obtain ⟨v, n, k, sa, sb⟩ := h
  cases v with
  | int a =>
    refine ⟨.int a, s, ?_, ⟨.int a, n, k, sa, sb⟩, G.mono (by omega)⟩
    unfold m_law_as g_law_as
    clear G G1 hb hl n k sa sb
    simp only [q_def, q_seq, q_ite, q_ret, q_set, q_drop, q_asg, q_for, q_for0, q_fc, q_frd_nx, q_frd_rt, q_frd_ct, q_frd_bk, q_turn, q_mkLst, q_mkTup, Nat.reduceLeDiff, q_and_bl, q_or_bl, q_c0, q_c1, q_c2, q_c3, q_c4, q_c5, q_c6, q_c9, q_c13, decide_true, decide_false, Int.reduceEq, Int.reduceLT, Int.reduceLE, Int.reduceAdd, Int.reduceSub, Int.reduceMul, Int.reduceNeg, Int.reducePow, Int.reduceToNat, Int.reduceBNe, Int.reduceNe, Nat.zero_le, q_get, q_cst, q_lift, q_un, q_with, q_av0, q_avC, q_callN, q_callKW, q_andD, q_orD, q_notD, q_fAnd, q_fOr, q_fNot, q_fTru, q_fBoo, q_ifD, q_isN, q_fIsN, q_fNotN, startD, q_bind, q_toS, q_rt, q_nx, q_thn_nx, q_thn_rt, q_okO, q_nxO, q_pure, q_none0, q_none1, q_none2, q_none3, q_none4, q_tru_bl, q_tru_int, q_tru_lst, q_tru_tup, q_tru_non, q_boo, q_seqL, q_seqT, q_lenL, q_lenT, q_eqI, q_neI, q_lt, q_le, q_gt, q_ge, q_add, q_addL, q_sub, q_neg, q_abs, q_int, q_intB, q_max, q_gcd, q_tupL, q_gL, q_gT, q_g0, q_g1, q_g2, q_lc, q_par, q_parO, q_whS, q_slc, q_prt0, q_prt1, q_intR, q_slcL, q_slcT, q_zipL, q_zipT, q_allp, List.length_map, wipeE, List.map_cons, List.map_nil, List.length_cons, List.length_nil, List.replicate, List.cons_append, List.nil_append, List.getElem?_cons_zero, List.getElem?_cons_succ, List.set_cons_zero, List.set_cons_succ, Nat.reduceSub, Nat.reduceAdd, if_true, Bool.not_true, Bool.not_false, Bool.false_eq_true, if_false, reduceIte, setD, List.foldl_cons, List.foldl_nil, q_asgN, q_asgT, q_asgL, q_asgs0, q_asgsC, Option.bind_some, List.append_nil, is_integer_eq, is_list_eq, q_is2, w_int, i_int, w_lst, w_tup, l_lst, l_tup, l_int, Bool.true_and, Bool.false_and, Bool.and_true, Bool.and_false, q_isTup, *]
  | lst h2 => exact absurd rfl (hl _)
  | @tup a c h2 =>
    have l1 : ∀ (xs : List D) (s : Deck), lstM [.tup xs] s = .ok (.lst xs) s := fun xs s => rfl
    by_cases z : r = 0
    · refine ⟨.lst [.int a, .int c], s1, ?_, ⟨.lst h2, n, rfl, sa, sb⟩, G1⟩
      have z := decide_eq_true z
      unfold m_law_as g_law_as
      clear G G1 hb hl n k sa sb h2
      simp only [q_def, q_seq, q_ite, q_ret, q_set, q_drop, q_asg, q_for, q_for0, q_fc, q_frd_nx, q_frd_rt, q_frd_ct, q_frd_bk, q_turn, q_mkLst, q_mkTup, Nat.reduceLeDiff, q_and_bl, q_or_bl, q_c0, q_c1, q_c2, q_c3, q_c4, q_c5, q_c6, q_c9, q_c13, decide_true, decide_false, Int.reduceEq, Int.reduceLT, Int.reduceLE, Int.reduceAdd, Int.reduceSub, Int.reduceMul, Int.reduceNeg, Int.reducePow, Int.reduceToNat, Int.reduceBNe, Int.reduceNe, Nat.zero_le, q_get, q_cst, q_lift, q_un, q_with, q_av0, q_avC, q_callN, q_callKW, q_andD, q_orD, q_notD, q_fAnd, q_fOr, q_fNot, q_fTru, q_fBoo, q_ifD, q_isN, q_fIsN, q_fNotN, startD, q_bind, q_toS, q_rt, q_nx, q_thn_nx, q_thn_rt, q_okO, q_nxO, q_pure, q_none0, q_none1, q_none2, q_none3, q_none4, q_tru_bl, q_tru_int, q_tru_lst, q_tru_tup, q_tru_non, q_boo, q_seqL, q_seqT, q_lenL, q_lenT, q_eqI, q_neI, q_lt, q_le, q_gt, q_ge, q_add, q_addL, q_sub, q_neg, q_abs, q_int, q_intB, q_max, q_gcd, q_tupL, q_gL, q_gT, q_g0, q_g1, q_g2, q_lc, q_par, q_parO, q_whS, q_slc, q_prt0, q_prt1, q_intR, q_slcL, q_slcT, q_zipL, q_zipT, q_allp, List.length_map, wipeE, List.map_cons, List.map_nil, List.length_cons, List.length_nil, List.replicate, List.cons_append, List.nil_append, List.getElem?_cons_zero, List.getElem?_cons_succ, List.set_cons_zero, List.set_cons_succ, Nat.reduceSub, Nat.reduceAdd, if_true, Bool.not_true, Bool.not_false, Bool.false_eq_true, if_false, reduceIte, setD, List.foldl_cons, List.foldl_nil, q_asgN, q_asgT, q_asgL, q_asgs0, q_asgsC, Option.bind_some, List.append_nil, is_integer_eq, is_list_eq, q_is2, w_int, i_int, w_lst, w_tup, l_lst, l_tup, l_int, Bool.true_and, Bool.false_and, Bool.and_true, Bool.and_false, q_isTup, *]
    · refine ⟨.tup [.int a, .int c], s1, ?_, ⟨.tup h2, n, rfl, sa, sb⟩, G1⟩
      have z := decide_eq_false z
      unfold m_law_as g_law_as
      clear G G1 hb hl n k sa sb h2
      simp only [q_def, q_seq, q_ite, q_ret, q_set, q_drop, q_asg, q_for, q_for0, q_fc, q_frd_nx, q_frd_rt, q_frd_ct, q_frd_bk, q_turn, q_mkLst, q_mkTup, Nat.reduceLeDiff, q_and_bl, q_or_bl, q_c0, q_c1, q_c2, q_c3, q_c4, q_c5, q_c6, q_c9, q_c13, decide_true, decide_false, Int.reduceEq, Int.reduceLT, Int.reduceLE, Int.reduceAdd, Int.reduceSub, Int.reduceMul, Int.reduceNeg, Int.reducePow, Int.reduceToNat, Int.reduceBNe, Int.reduceNe, Nat.zero_le, q_get, q_cst, q_lift, q_un, q_with, q_av0, q_avC, q_callN, q_callKW, q_andD, q_orD, q_notD, q_fAnd, q_fOr, q_fNot, q_fTru, q_fBoo, q_ifD, q_isN, q_fIsN, q_fNotN, startD, q_bind, q_toS, q_rt, q_nx, q_thn_nx, q_thn_rt, q_okO, q_nxO, q_pure, q_none0, q_none1, q_none2, q_none3, q_none4, q_tru_bl, q_tru_int, q_tru_lst, q_tru_tup, q_tru_non, q_boo, q_seqL, q_seqT, q_lenL, q_lenT, q_eqI, q_neI, q_lt, q_le, q_gt, q_ge, q_add, q_addL, q_sub, q_neg, q_abs, q_int, q_intB, q_max, q_gcd, q_tupL, q_gL, q_gT, q_g0, q_g1, q_g2, q_lc, q_par, q_parO, q_whS, q_slc, q_prt0, q_prt1, q_intR, q_slcL, q_slcT, q_zipL, q_zipT, q_allp, List.length_map, wipeE, List.map_cons, List.map_nil, List.length_cons, List.length_nil, List.replicate, List.cons_append, List.nil_append, List.getElem?_cons_zero, List.getElem?_cons_succ, List.set_cons_zero, List.set_cons_succ, Nat.reduceSub, Nat.reduceAdd, if_true, Bool.not_true, Bool.not_false, Bool.false_eq_true, if_false, reduceIte, setD, List.foldl_cons, List.foldl_nil, q_asgN, q_asgT, q_asgL, q_asgs0, q_asgsC, Option.bind_some, List.append_nil, is_integer_eq, is_list_eq, q_is2, w_int, i_int, w_lst, w_tup, l_lst, l_tup, l_int, Bool.true_and, Bool.false_and, Bool.and_true, Bool.and_false, q_isTup, *]
def badL : List D := [.non, .bl true, .str "1", .tup [.int 4, .int 2], .lst [.int 3, .int 1], .tup [.int 1, .int 0], .tup [.int 1, .int (-2)], .tup [.int 1, .int 2, .int 3], .tup [.bl true, .int 2]]
theorem bad_no : ∀ x ∈ badL, nodk x = true ∧ num x = false := by
  have h : badL.all (fun x => nodk x && !num x) = true := by decide +kernel
  intro x hx
  have := List.all_eq_true.mp h x hx
  simpa using this
theorem bad_eq {b : Int} {s : Deck} (G : Good b s) (hb : b + 1 ≤ 1000000) : ∃ x s', m_law_bad [.deck] s = .ok x s' ∧ nodk x = true ∧ num x = false ∧ Good (b + 1) s' := by
  obtain ⟨x, s1, e1, hx, G1⟩ := pick_eq G (by omega) badL (by decide) (by decide)
  obtain ⟨h1, h2⟩ := bad_no x hx
  refine ⟨x, s1, ?_, h1, h2, G1⟩
  unfold badL at e1
  unfold m_law_bad g_law_bad
  clear G G1 hb hx h1 h2
  simp only [q_def, q_seq, q_ite, q_ret, q_set, q_drop, q_asg, q_for, q_for0, q_fc, q_frd_nx, q_frd_rt, q_frd_ct, q_frd_bk, q_turn, q_mkLst, q_mkTup, Nat.reduceLeDiff, q_and_bl, q_or_bl, q_c0, q_c1, q_c2, q_c3, q_c4, q_c5, q_c6, q_c9, q_c13, decide_true, decide_false, Int.reduceEq, Int.reduceLT, Int.reduceLE, Int.reduceAdd, Int.reduceSub, Int.reduceMul, Int.reduceNeg, Int.reducePow, Int.reduceToNat, Int.reduceBNe, Int.reduceNe, Nat.zero_le, q_get, q_cst, q_lift, q_un, q_with, q_av0, q_avC, q_callN, q_callKW, q_andD, q_orD, q_notD, q_fAnd, q_fOr, q_fNot, q_fTru, q_fBoo, q_ifD, q_isN, q_fIsN, q_fNotN, startD, q_bind, q_toS, q_rt, q_nx, q_thn_nx, q_thn_rt, q_okO, q_nxO, q_pure, q_none0, q_none1, q_none2, q_none3, q_none4, q_tru_bl, q_tru_int, q_tru_lst, q_tru_tup, q_tru_non, q_boo, q_seqL, q_seqT, q_lenL, q_lenT, q_eqI, q_neI, q_lt, q_le, q_gt, q_ge, q_add, q_addL, q_sub, q_neg, q_abs, q_int, q_intB, q_max, q_gcd, q_tupL, q_gL, q_gT, q_g0, q_g1, q_g2, q_lc, q_par, q_parO, q_whS, q_slc, q_prt0, q_prt1, q_intR, q_slcL, q_slcT, q_zipL, q_zipT, q_allp, List.length_map, wipeE, List.map_cons, List.map_nil, List.length_cons, List.length_nil, List.replicate, List.cons_append, List.nil_append, List.getElem?_cons_zero, List.getElem?_cons_succ, List.set_cons_zero, List.set_cons_succ, Nat.reduceSub, Nat.reduceAdd, if_true, Bool.not_true, Bool.not_false, Bool.false_eq_true, if_false, reduceIte, setD, List.foldl_cons, List.foldl_nil, q_asgN, q_asgT, q_asgL, q_asgs0, q_asgsC, Option.bind_some, List.append_nil, is_integer_eq, is_list_eq, q_is2, w_int, i_int, w_lst, w_tup, l_lst, l_tup, l_int, Bool.true_and, Bool.false_and, Bool.and_true, Bool.and_false, *]
/-! ### what repr gives -/
def cp (z : Str) : List Nat := z.cps.toList
structure Lo (n : Nat) (x : Str) : Prop where
  low : ∀ c ∈ cp x, c < 128
  len : x.length ≤ n
theorem Lo.app {m n : Nat} {a b : Str} (h : Lo m a) (k : Lo n b) : Lo (m + n) (a ++ b) := by
  refine ⟨fun c hc => ?_, ?_⟩
  · rcases PyProof.Rows.mem_cps_append.mp hc with q | q
    · exact h.low c q
    · exact k.low c q
  · rw [PySem.Str.length_append]
    have := h.len
    have := k.len
    omega
theorem Lo.mono {m n : Nat} {a : Str} (h : Lo m a) (k : m ≤ n) : Lo n a := ⟨h.low, Nat.le_trans h.len k⟩
theorem lo_shaped {n : Nat} {x : Str} (h : Lo n x) : SeqAt.shaped (PyData.str x) = true := by
  have e : PyData.strOk x = true := by
    unfold PyData.strOk
    rw [← Array.all_toList, List.all_eq_true]
    intro c hc
    have := h.low c hc
    exact decide_eq_true (by omega)
  unfold SeqAt.shaped
  simp only [PyData.canLay0, e, Bool.true_and, PyData.depth]
  rfl
theorem lo_strOk {n : Nat} {x : Str} (h : Lo n x) : PyData.strOk x = true := by
  unfold PyData.strOk
  rw [← Array.all_toList, List.all_eq_true]
  intro c hc
  have := h.low c hc
  exact decide_eq_true (by omega)
/-- what is shown, and that it is itself -/
def Shows (d : D) : Prop := ∃ x : Str, (∀ s, reprM [d] s = .ok (.str x) s) ∧ ∀ s, neM (.str x) (.str x) s = .ok (.bl false) s
theorem shows_of {d : D} {p : PyData} (hp : py d = some p) (hr : isRefD d = true) (hc : p.canLay0 = true) (hs : p.showable = true) (hd : p.depth ≤ 60) {n : Nat} (hn : n ≤ 16777216) (hl : Lo n p.shown) : Shows d := by
  have sh : showP p = true := by
    unfold showP
    rw [hc, hs, decide_eq_true hd, decide_eq_true (Nat.le_trans hl.len hn)]; rfl
  refine ⟨p.shown, fun s => ?_, fun s => ?_⟩
  · unfold reprM
    simp only [hr, hp, sh, if_true]
  · have k := lo_shaped hl
    generalize p.shown = x at k
    have hx : py (.str x) = some (.str x) := rfl
    unfold neM eqO
    simp only [hx, k, if_true, Option.map_some, PyData.eqv, beq_self_eq_true]
    rfl
theorem lo_lit {x : Str} {n : Nat} (h : (x.cps.toList.all (· < 128) && decide (x.length ≤ n)) = true) : Lo n x := by
  simp only [Bool.and_eq_true, List.all_eq_true, decide_eq_true_eq] at h
  exact ⟨h.1, h.2⟩
theorem lo_list1 {a : Str} {n : Nat} (h : Lo n a) : Lo (n + 2) (listText [a]) := by
  show Lo _ ((("[" : Str) ++ (("" : String) : Str) ++ a) ++ ("]" : Str))
  exact ((((lo_lit (n := 1) (by decide +kernel)).app (lo_lit (n := 0) (by decide +kernel))).app h).app (lo_lit (n := 1) (by decide +kernel))).mono (by omega)
theorem lo_list2 {a b : Str} {m n : Nat} (h : Lo m a) (k : Lo n b) : Lo (m + n + 4) (listText [a, b]) := by
  show Lo _ (((("[" : Str) ++ (("" : String) : Str) ++ a) ++ ((", " : String) : Str) ++ b) ++ ("]" : Str))
  exact ((((((lo_lit (n := 1) (by decide +kernel)).app (lo_lit (n := 0) (by decide +kernel))).app h).app (lo_lit (n := 2) (by decide +kernel))).app k).app (lo_lit (n := 1) (by decide +kernel))).mono (by omega)
end K03

set_option exponentiation.threshold 10000
namespace K03
open PySem PySem.Builtin PySem.Builtin.Str L2 FL
def T (cs : List Nat) : Str := ⟨cs.toArray⟩
theorem T_cp (z : Str) : T (cp z) = z := by obtain ⟨⟨l⟩⟩ := z; rfl
theorem cp_T (cs : List Nat) : cp (T cs) = cs := rfl
theorem T_len (cs : List Nat) : (T cs).length = cs.length := by show cs.toArray.size = _; simp
def sgn (i : Int) : List Nat := if i < 0 then 45 :: TL.numL i.natAbs else TL.numL i.natAbs
theorem app_T (a b : List Nat) : T a ++ T b = T (a ++ b) := by
  have e : (T a ++ T b).cps = (T (a ++ b)).cps := by
    rw [PySem.Str.cps_append]
    simp [T]
  exact congrArg PySem.Str.mk e
theorem str_T (i : Int) : (toString i : Str) = T (sgn i) := by
  have h : cp (toString i : Str) = sgn i := by
    unfold sgn
    cases i with
    | ofNat n =>
      rw [if_neg (show ¬ Int.ofNat n < 0 from by have : (0:Int) ≤ Int.ofNat n := Int.natCast_nonneg n; omega)]
      exact TL.tl_num n
    | negSucc n =>
      rw [if_pos (Int.negSucc_lt_zero n)]
      have e : (toString (Int.negSucc n)) = "-" ++ toString ((n + 1 : Nat) : Int) := rfl
      show (Str.ofString (toString (Int.negSucc n))).cps.toList = _
      rw [e, PyProof.Rows.signs_ofString, String.toList_append, List.map_append]
      have t := TL.tl_num (n + 1)
      have t2 : (toString ((n + 1 : Nat) : Int)).toList.map Char.toNat = TL.numL (n + 1) := by
        rw [← PyProof.Rows.signs_ofString]; exact t
      rw [t2]
      rfl
  rw [← T_cp (toString i : Str), h]
theorem sgn_okc (i : Int) : ∀ c ∈ sgn i, c < 128 := by
  unfold sgn
  have hd := TL.numL_digits i.natAbs
  intro c hc
  split at hc
  · rcases List.mem_cons.mp hc with e | e
    · omega
    · have := hd c e; omega
  · have := hd c hc; omega
theorem sgn_len {i : Int} (h : Sz 1900 i) : (sgn i).length ≤ 601 := by
  have := TL.numL_len (n := i.natAbs) (k := 600) (by decide) (Nat.lt_of_lt_of_le h (by decide +kernel))
  unfold sgn
  split
  · simp; omega
  · omega
theorem lo_int {i : Int} (h : Sz 1900 i) : Lo 601 (toString i : Str) := by
  rw [str_T]
  exact ⟨sgn_okc i, by rw [T_len]; exact sgn_len h⟩
theorem showable_int {i : Int} (h : Sz 1900 i) : (PyData.int i).showable = true := by
  unfold PyData.showable
  exact decide_eq_true (Nat.lt_of_le_of_lt h.log (by decide))
theorem shows_int {a : Int} (h : Sz 1900 a) : Shows (.lst [.int a]) := by
  refine shows_of (p := .list [.int a]) rfl rfl rfl ?_ (by show max 0 0 + 1 ≤ 60; decide) (n := 603) (by decide) ?_
  · have := showable_int h
    simp only [PyData.showable, PyData.showableAll] at this ⊢
    simp only [this]; rfl
  · exact lo_list1 (lo_int h)
theorem shows_pair {a b : Int} (ha : Sz 1900 a) (hb : Sz 1900 b) : Shows (.lst [.tup [.int a, .int b]]) := by
  refine shows_of (p := .list [.tuple [.int a, .int b]]) rfl rfl rfl ?_ (by show max (max 0 (max 0 0) + 1) 0 + 1 ≤ 60; decide) (n := 2000) (by decide) ?_
  · have h1 := showable_int ha
    have h2 := showable_int hb
    simp only [PyData.showable, PyData.showableAll] at h1 h2 ⊢
    simp only [h1, h2]; rfl
  · have tp : Lo 1206 (tupleText [(toString a : Str), (toString b : Str)]) := by
      show Lo _ ((("(" : Str) ++ ((toString a : Str) ++ (", " : Str) ++ (toString b : Str))) ++ ((")" : String) : Str))
      exact (((lo_lit (n := 1) (by decide +kernel)).app (((lo_int ha).app (lo_lit (n := 2) (by decide +kernel))).app (lo_int hb))).app (lo_lit (n := 1) (by decide +kernel))).mono (by decide)
    exact (lo_list1 tp).mono (by decide)
theorem shows_num {a b : Int} (h : b ≠ 0) (ha : Sz 1900 a) (hb : Sz 1900 b) : Shows (.lst [numD a b]) := by
  obtain ⟨_, f1, f2, _⟩ := nf_facts (a := a) h
  have s1 : Sz 1900 (nfA a b) := Nat.lt_of_le_of_lt f1 ha
  have s2 : Sz 1900 (nfB a b) := Nat.lt_of_le_of_lt f2 hb
  unfold numD
  split
  · exact shows_int s1
  · exact shows_pair s1 s2
theorem shows_bl (k : Bool) : Shows (.lst [.bl k]) := by
  cases k
  · exact shows_of (p := .list [.bool false]) rfl rfl rfl rfl (by decide +kernel) (n := 100) (by decide) (lo_lit (by decide +kernel))
  · exact shows_of (p := .list [.bool true]) rfl rfl rfl rfl (by decide +kernel) (n := 100) (by decide) (lo_lit (by decide +kernel))
theorem shows_mf : Shows (.tup [.str "Misfit", .str "other"]) := shows_of (p := .tuple [.str "Misfit", .str "other"]) rfl rfl (by decide +kernel) rfl (by decide +kernel) (n := 100) (by decide) (lo_lit (by decide +kernel))
theorem shows_bn : Shows (.tup [.str "BadNumber", .str "below"]) := shows_of (p := .tuple [.str "BadNumber", .str "below"]) rfl rfl (by decide +kernel) rfl (by decide +kernel) (n := 100) (by decide) (lo_lit (by decide +kernel))
/-! ### is it 0 -/
theorem numD_zero {u v : Int} (h : v ≠ 0) (s : Deck) : eqM (numD u v) (.int 0) s = .ok (.bl (decide (nfA u v = 0))) s := by
  obtain ⟨p, _, _, g⟩ := nf_facts (a := u) h
  unfold numD
  split
  · exact q_eqI
  · rename_i c
    have nz : nfA u v ≠ 0 := fun z => by
      rw [z] at g
      simp at g
      omega
    rw [decide_eq_false nz]
    have hp : py (.tup [.int (nfA u v), .int (nfB u v)]) = some (.tuple [.int (nfA u v), .int (nfB u v)]) := rfl
    have h1 : SeqAt.shaped (.tuple [.int (nfA u v), .int (nfB u v)]) = true := rfl
    have h2 : SeqAt.shaped (.int 0) = true := rfl
    unfold eqM eqO
    simp only [hp, h1, show py (.int 0) = some (.int 0) from rfl, h2, if_true, PyData.eqv, Option.map_some]
    rfl
end K03

set_option exponentiation.threshold 10000
namespace K03
open PySem PySem.Builtin PySem.Builtin.Str L2 FL
def waysB : FS := (iteS (fBoo (lift2 neM (withA (avC (withA (avC (getE 5) (avC (withA (avC (getE 0) (avC (getE 1) av0)) (callN 2 m_law_as)) (avC (withA (avC (getE 0) (avC (getE 2) av0)) (callN 2 m_law_as)) av0))) (callN 3 m_law_asked)) av0) reprM) (withA (avC (lift2 getM (getE 3) (getE 5)) av0) reprM))) (retS (cst (.bl false))) (fun δ s => .nx δ s))
theorem ways_loop {x y : D} {a b c e : Int} (hx : Nm 101 x a b) (hy : Nm 101 y c e) (nx : ∀ xs, x ≠ .lst xs) (ny : ∀ xs, y ≠ .lst xs) (due : List D) (dueD : Int → D)
    (H : ∀ i : Int, 0 ≤ i → i < 5 → ∀ (d1 d2 : D) (s : Deck), Nm 101 d1 a b → Nm 101 d2 c e → m_law_asked [.int i, d1, d2] s = .ok (dueD i) s)
    (S : ∀ i : Int, 0 ≤ i → i < 5 → Shows (dueD i)) (Gt : ∀ i : Int, 0 ≤ i → i < 5 → atI due i = some (dueD i)) :
    ∀ (ws : List Int) (k : Int) (s : Deck) (y4 y5 y6 y7 y8 : Option D), (∀ i ∈ ws, 0 ≤ i ∧ i < 5) → Good k s → k + 2 * ws.length ≤ 1000000 →
    ∃ z5 s', forD (turnS (.nm 5) waysB) (ws.map .int) [some .deck, some x, some y, some (.lst due), y4, y5, y6, y7, y8] s = .nx [some .deck, some x, some y, some (.lst due), y4, z5, y6, y7, y8] s' ∧ Good (k + 2 * ws.length) s'
  | [], k, s, y4, y5, y6, y7, y8, _, G, _ => ⟨y5, s, rfl, by simpa using G⟩
  | i :: ws, k, s, y4, y5, y6, y7, y8, hw, G, hk => by
    rw [List.length_cons] at hk ⊢
    obtain ⟨i0, i5⟩ := hw i (List.mem_cons_self ..)
    obtain ⟨d1, s1, e1, n1, G1⟩ := as_eq G (by omega) hx nx
    obtain ⟨d2, s2, e2, n2, G2⟩ := as_eq G1 (by omega) hy ny
    have as := fun s => H i i0 i5 d1 d2 s n1 n2
    obtain ⟨t, r1, r2⟩ := S i i0 i5
    have gt := Gt i i0 i5
    obtain ⟨z5, s', ih, G'⟩ := ways_loop hx hy nx ny due dueD H S Gt ws (k + 1 + 1) s2 y4 (some (.int i)) y6 y7 y8 (fun j hj => hw j (List.mem_cons_of_mem _ hj)) G2 (by omega)
    refine ⟨z5, s', ?_, G'.mono (by omega)⟩
    rw [List.map_cons, q_fc]
    rw [← ih]
    unfold waysB
    clear ih G' G G1 G2 H S Gt hx hy nx ny hw hk i0 i5 n1 n2
    simp only [q_def, q_seq, q_ite, q_ret, q_set, q_drop, q_asg, q_for, q_for0, q_fc, q_frd_nx, q_frd_rt, q_frd_ct, q_frd_bk, q_turn, q_mkLst, q_mkTup, Nat.reduceLeDiff, q_and_bl, q_or_bl, q_c0, q_c1, q_c2, q_c3, q_c4, q_c5, q_c6, q_c9, q_c13, decide_true, decide_false, Int.reduceEq, Int.reduceLT, Int.reduceLE, Int.reduceAdd, Int.reduceSub, Int.reduceMul, Int.reduceNeg, Int.reducePow, Int.reduceToNat, Int.reduceBNe, Int.reduceNe, Nat.zero_le, q_get, q_cst, q_lift, q_un, q_with, q_av0, q_avC, q_callN, q_callKW, q_andD, q_orD, q_notD, q_fAnd, q_fOr, q_fNot, q_fTru, q_fBoo, q_ifD, q_isN, q_fIsN, q_fNotN, startD, q_bind, q_toS, q_rt, q_nx, q_thn_nx, q_thn_rt, q_okO, q_nxO, q_pure, q_none0, q_none1, q_none2, q_none3, q_none4, q_tru_bl, q_tru_int, q_tru_lst, q_tru_tup, q_tru_non, q_boo, q_seqL, q_seqT, q_lenL, q_lenT, q_eqI, q_neI, q_lt, q_le, q_gt, q_ge, q_add, q_addL, q_sub, q_neg, q_abs, q_int, q_intB, q_max, q_gcd, q_tupL, q_gL, q_gT, q_g0, q_g1, q_g2, q_lc, q_par, q_parO, q_whS, q_slc, q_prt0, q_prt1, q_intR, q_slcL, q_slcT, q_zipL, q_zipT, q_allp, List.length_map, wipeE, List.map_cons, List.map_nil, List.length_cons, List.length_nil, List.replicate, List.cons_append, List.nil_append, List.getElem?_cons_zero, List.getElem?_cons_succ, List.set_cons_zero, List.set_cons_succ, Nat.reduceSub, Nat.reduceAdd, if_true, Bool.not_true, Bool.not_false, Bool.false_eq_true, if_false, reduceIte, setD, List.foldl_cons, List.foldl_nil, q_asgN, q_asgT, q_asgL, q_asgs0, q_asgsC, Option.bind_some, List.append_nil, is_integer_eq, is_list_eq, q_is2, w_int, i_int, w_lst, w_tup, l_lst, l_tup, l_int, Bool.true_and, Bool.false_and, Bool.and_true, Bool.and_false, *]
/-- one form is no list -/
theorem numD_no (a b : Int) : ∀ xs, numD a b ≠ .lst xs := by
  intro xs
  unfold numD
  split <;> intro h <;> cases h
theorem sz1 {k : Nat} (h : 0 < k) : Sz k 1 := by unfold Sz; exact Nat.one_lt_two_pow (by omega)
/-- what is due of two -/
def pairS (a b c e : Int) : D := numD (sumP [(.non, a, b), (.non, c, e)] (0, 1)).1 (sumP [(.non, a, b), (.non, c, e)] (0, 1)).2
def overD (a b c e : Int) : D := if c = 0 then .tup [.str "Misfit", .str "other"] else .lst [numD (a * nfA e c) (b * nfB e c)]
def dueOf (a b c e : Int) (i : Int) : D :=
  if i = 0 then .lst [pairS a b c e] else if i = 1 then .lst [pairS a b (nfA (-1 * c) (1 * e)) (nfB (-1 * c) (1 * e))] else if i = 2 then .lst [numD (a * c) (b * e)] else if i = 3 then overD a b c e else .lst [.bl (decide (a * e < c * b))]
theorem due_asked {a b c e : Int} (i : Int) (i0 : 0 ≤ i) (i5 : i < 5) (d1 d2 : D) (s : Deck) (h : Nm 101 d1 a b) (k : Nm 101 d2 c e) : m_law_asked [.int i, d1, d2] s = .ok (dueOf a b c e i) s := by
  have c0 : i = 0 ∨ i = 1 ∨ i = 2 ∨ i = 3 ∨ i = 4 := by omega
  rcases c0 with rfl | rfl | rfl | rfl | rfl
  · exact asked_ok (by decide) (show m_plus [d1, d2] s = .ok (pairS a b c e) s from plus_eq h k (by decide) s)
  · exact asked_ok (by decide) (show m_minus [d1, d2] s = .ok (pairS a b (nfA (-1 * c) (1 * e)) (nfB (-1 * c) (1 * e))) s from minus_eq h k (by decide) s)
  · exact asked_ok (by decide) (show m_times [d1, d2] s = .ok (numD (a * c) (b * e)) s from times_eq h k (by decide) s)
  · by_cases z : c = 0
    · subst z
      exact asked_mf (over_no h k s)
    · have := asked_ok (way := 3) (by decide) (show m_over [d1, d2] s = .ok (numD (a * nfA e c) (b * nfB e c)) s from over_eq h k (by decide) s z)
      rw [this]
      show _ = R.ok (overD a b c e) s
      unfold overD
      rw [if_neg z]
  · exact asked_ok (by decide) (show m_is_less [d1, d2] s = .ok (.bl (decide (a * e < c * b))) s from less_eq h k (by decide) s)
end K03

set_option exponentiation.threshold 10000
namespace K03
open PySem PySem.Builtin PySem.Builtin.Str L2 FL
theorem pairS_val (x y : D) (a b c e : Int) : sumP [(x, a, b), (y, c, e)] (0, 1) = ((0 * b + a * 1) * e + c * (1 * b), 1 * b * e) := rfl
theorem pairS_sz {w : Nat} {a b c e : Int} (h0 : 0 < w) (ha : Sz w a) (hb : Sz w b) (hc : Sz w c) (he : Sz w e) (pb : 0 < b) (pe : 0 < e) : Sz (4 * w) (sumP [(.non, a, b), (.non, c, e)] (0, 1)).1 ∧ Sz (4 * w) (sumP [(.non, a, b), (.non, c, e)] (0, 1)).2 ∧ (sumP [(.non, a, b), (.non, c, e)] (0, 1)).2 ≠ 0 := by
  rw [pairS_val]
  simp only [Int.zero_mul, Int.zero_add, Int.mul_one, Int.one_mul]
  have := Int.mul_pos pb pe
  exact ⟨(Sz.add (ha.mul he) (hc.mul hb)).mono (by omega), (hb.mul he).mono (by omega), by omega⟩
theorem due_shows {a b c e : Int} {d1 d2 : D} (h : Nm 101 d1 a b) (k : Nm 101 d2 c e) (i : Int) (i0 : 0 ≤ i) (i5 : i < 5) : Shows (dueOf a b c e i) := by
  have pb := h.v.pos
  have pe := k.v.pos
  have c0 : i = 0 ∨ i = 1 ∨ i = 2 ∨ i = 3 ∨ i = 4 := by omega
  rcases c0 with rfl | rfl | rfl | rfl | rfl
  · obtain ⟨s1, s2, nz⟩ := pairS_sz (by decide) h.sa h.sb k.sa k.sb pb pe
    exact shows_num nz (s1.mono (by decide)) (s2.mono (by decide))
  · have m1 : Sz 102 (-1 * c) := (Sz.mul (j := 1) (by unfold Sz; decide) k.sa).mono (by decide)
    have m2 : Sz 102 (1 * e) := (Sz.mul (j := 1) (by unfold Sz; decide) k.sb).mono (by decide)
    have nm := nm_numD (show 1 * e ≠ 0 by omega) m1 m2
    obtain ⟨s1, s2, nz⟩ := pairS_sz (w := 102) (by decide) (h.sa.mono (by decide)) (h.sb.mono (by decide)) nm.sa nm.sb pb nm.v.pos
    exact shows_num nz (s1.mono (by decide)) (s2.mono (by decide))
  · have := Int.mul_pos pb pe
    exact shows_num (by omega) ((h.sa.mul k.sa).mono (by decide)) ((h.sb.mul k.sb).mono (by decide))
  · show Shows (overD a b c e)
    unfold overD
    split
    · exact shows_mf
    · rename_i z
      have nm := nm_numD z k.sb k.sa
      have := Int.mul_pos pb nm.v.pos
      exact shows_num (by omega) ((h.sa.mul nm.sa).mono (by decide)) ((h.sb.mul nm.sb).mono (by decide))
  · exact shows_bl _
/-! ### pairs -/
theorem nm101 {p q : Int} (h : 0 < q) (hp : Sz 101 p) (hq : Sz 101 q) : Nm 101 (numD p q) (nfA p q) (nfB p q) := nm_numD (by omega) hp hq
theorem num_zero : numD 0 1 = .int 0 := by
  unfold numD
  rw [if_pos (by decide +kernel)]
  rw [show nfA 0 1 = 0 by decide +kernel]
theorem ne_bnS (a b : Str) (h : SeqAt.shaped (.tuple [.str a, .str b]) = true) (h2 : PyData.eqv (.tuple [.str a, .str b]) (.tuple [.str a, .str b]) = true) (s : Deck) : neM (.tup [.str a, .str b]) (.tup [.str a, .str b]) s = .ok (.bl false) s ∧ eqM (.tup [.str a, .str b]) (.tup [.str a, .str b]) s = .ok (.bl true) s := by
  have hp : py (.tup [.str a, .str b]) = some (.tuple [.str a, .str b]) := rfl
  constructor
  · unfold neM eqO
    simp only [hp, h, h2, if_true, Option.map_some]
    rfl
  · unfold eqM eqO
    simp only [hp, h, h2, if_true, Option.map_some]
    rfl
theorem ne_one (s : Deck) : neM (.tup [.str "BadNumber", .str "one"]) (.tup [.str "BadNumber", .str "one"]) s = .ok (.bl false) s := (ne_bnS _ _ (by decide +kernel) (by decide +kernel) s).1
theorem ne_other (s : Deck) : neM (.tup [.str "BadNumber", .str "other"]) (.tup [.str "BadNumber", .str "other"]) s = .ok (.bl false) s := (ne_bnS _ _ (by decide +kernel) (by decide +kernel) s).1
theorem eq_above (s : Deck) : eqM (.tup [.str "BadNumber", .str "above"]) (.tup [.str "BadNumber", .str "above"]) s = .ok (.bl true) s := (ne_bnS _ _ (by decide +kernel) (by decide +kernel) s).2
theorem eq_below (s : Deck) : eqM (.tup [.str "BadNumber", .str "below"]) (.tup [.str "BadNumber", .str "below"]) s = .ok (.bl true) s := (ne_bnS _ _ (by decide +kernel) (by decide +kernel) s).2
theorem bad_one {x y : D} (h : nodk x = true) (h2 : num x = false) (i : Int) (i0 : 0 ≤ i) (i5 : i < 5) (s : Deck) : m_law_asked [.int i, x, y] s = .ok (.tup [.str "BadNumber", .str "one"]) s := by
  have c0 : i = 0 ∨ i = 1 ∨ i = 2 ∨ i = 3 ∨ i = 4 := by omega
  have t := fun s => two_one (y := y) h h2 s
  refine asked_bn (by omega) ?_
  rcases c0 with rfl | rfl | rfl | rfl | rfl
  · show m_plus [x, y] s = _
    unfold m_plus g_plus
    clear h h2
    simp only [q_def, q_seq, q_ite, q_ret, q_set, q_drop, q_asg, q_for, q_for0, q_fc, q_frd_nx, q_frd_rt, q_frd_ct, q_frd_bk, q_turn, q_mkLst, q_mkTup, Nat.reduceLeDiff, q_and_bl, q_or_bl, q_c0, q_c1, q_c2, q_c3, q_c4, q_c5, q_c6, q_c9, q_c13, decide_true, decide_false, Int.reduceEq, Int.reduceLT, Int.reduceLE, Int.reduceAdd, Int.reduceSub, Int.reduceMul, Int.reduceNeg, Int.reducePow, Int.reduceToNat, Int.reduceBNe, Int.reduceNe, Nat.zero_le, q_get, q_cst, q_lift, q_un, q_with, q_av0, q_avC, q_callN, q_callKW, q_andD, q_orD, q_notD, q_fAnd, q_fOr, q_fNot, q_fTru, q_fBoo, q_ifD, q_isN, q_fIsN, q_fNotN, startD, q_bind, q_toS, q_rt, q_nx, q_thn_nx, q_thn_rt, q_okO, q_nxO, q_pure, q_none0, q_none1, q_none2, q_none3, q_none4, q_tru_bl, q_tru_int, q_tru_lst, q_tru_tup, q_tru_non, q_boo, q_seqL, q_seqT, q_lenL, q_lenT, q_eqI, q_neI, q_lt, q_le, q_gt, q_ge, q_add, q_addL, q_sub, q_neg, q_abs, q_int, q_intB, q_max, q_gcd, q_tupL, q_gL, q_gT, q_g0, q_g1, q_g2, q_lc, q_par, q_parO, q_whS, q_slc, q_prt0, q_prt1, q_intR, q_slcL, q_slcT, q_zipL, q_zipT, q_allp, List.length_map, wipeE, List.map_cons, List.map_nil, List.length_cons, List.length_nil, List.replicate, List.cons_append, List.nil_append, List.getElem?_cons_zero, List.getElem?_cons_succ, List.set_cons_zero, List.set_cons_succ, Nat.reduceSub, Nat.reduceAdd, if_true, Bool.not_true, Bool.not_false, Bool.false_eq_true, if_false, reduceIte, setD, List.foldl_cons, List.foldl_nil, q_asgN, q_asgT, q_asgL, q_asgs0, q_asgsC, Option.bind_some, List.append_nil, is_integer_eq, is_list_eq, q_is2, w_int, i_int, w_lst, w_tup, l_lst, l_tup, l_int, Bool.true_and, Bool.false_and, Bool.and_true, Bool.and_false, q_drop, q_braise, q_toS_raise, q_thn_raise', *]
    rfl
  · show m_minus [x, y] s = _
    unfold m_minus g_minus
    clear h h2
    simp only [q_def, q_seq, q_ite, q_ret, q_set, q_drop, q_asg, q_for, q_for0, q_fc, q_frd_nx, q_frd_rt, q_frd_ct, q_frd_bk, q_turn, q_mkLst, q_mkTup, Nat.reduceLeDiff, q_and_bl, q_or_bl, q_c0, q_c1, q_c2, q_c3, q_c4, q_c5, q_c6, q_c9, q_c13, decide_true, decide_false, Int.reduceEq, Int.reduceLT, Int.reduceLE, Int.reduceAdd, Int.reduceSub, Int.reduceMul, Int.reduceNeg, Int.reducePow, Int.reduceToNat, Int.reduceBNe, Int.reduceNe, Nat.zero_le, q_get, q_cst, q_lift, q_un, q_with, q_av0, q_avC, q_callN, q_callKW, q_andD, q_orD, q_notD, q_fAnd, q_fOr, q_fNot, q_fTru, q_fBoo, q_ifD, q_isN, q_fIsN, q_fNotN, startD, q_bind, q_toS, q_rt, q_nx, q_thn_nx, q_thn_rt, q_okO, q_nxO, q_pure, q_none0, q_none1, q_none2, q_none3, q_none4, q_tru_bl, q_tru_int, q_tru_lst, q_tru_tup, q_tru_non, q_boo, q_seqL, q_seqT, q_lenL, q_lenT, q_eqI, q_neI, q_lt, q_le, q_gt, q_ge, q_add, q_addL, q_sub, q_neg, q_abs, q_int, q_intB, q_max, q_gcd, q_tupL, q_gL, q_gT, q_g0, q_g1, q_g2, q_lc, q_par, q_parO, q_whS, q_slc, q_prt0, q_prt1, q_intR, q_slcL, q_slcT, q_zipL, q_zipT, q_allp, List.length_map, wipeE, List.map_cons, List.map_nil, List.length_cons, List.length_nil, List.replicate, List.cons_append, List.nil_append, List.getElem?_cons_zero, List.getElem?_cons_succ, List.set_cons_zero, List.set_cons_succ, Nat.reduceSub, Nat.reduceAdd, if_true, Bool.not_true, Bool.not_false, Bool.false_eq_true, if_false, reduceIte, setD, List.foldl_cons, List.foldl_nil, q_asgN, q_asgT, q_asgL, q_asgs0, q_asgsC, Option.bind_some, List.append_nil, is_integer_eq, is_list_eq, q_is2, w_int, i_int, w_lst, w_tup, l_lst, l_tup, l_int, Bool.true_and, Bool.false_and, Bool.and_true, Bool.and_false, q_drop, q_braise, q_toS_raise, q_thn_raise', *]
    rfl
  · show m_times [x, y] s = _
    unfold m_times g_times
    clear h h2
    simp only [q_def, q_seq, q_ite, q_ret, q_set, q_drop, q_asg, q_for, q_for0, q_fc, q_frd_nx, q_frd_rt, q_frd_ct, q_frd_bk, q_turn, q_mkLst, q_mkTup, Nat.reduceLeDiff, q_and_bl, q_or_bl, q_c0, q_c1, q_c2, q_c3, q_c4, q_c5, q_c6, q_c9, q_c13, decide_true, decide_false, Int.reduceEq, Int.reduceLT, Int.reduceLE, Int.reduceAdd, Int.reduceSub, Int.reduceMul, Int.reduceNeg, Int.reducePow, Int.reduceToNat, Int.reduceBNe, Int.reduceNe, Nat.zero_le, q_get, q_cst, q_lift, q_un, q_with, q_av0, q_avC, q_callN, q_callKW, q_andD, q_orD, q_notD, q_fAnd, q_fOr, q_fNot, q_fTru, q_fBoo, q_ifD, q_isN, q_fIsN, q_fNotN, startD, q_bind, q_toS, q_rt, q_nx, q_thn_nx, q_thn_rt, q_okO, q_nxO, q_pure, q_none0, q_none1, q_none2, q_none3, q_none4, q_tru_bl, q_tru_int, q_tru_lst, q_tru_tup, q_tru_non, q_boo, q_seqL, q_seqT, q_lenL, q_lenT, q_eqI, q_neI, q_lt, q_le, q_gt, q_ge, q_add, q_addL, q_sub, q_neg, q_abs, q_int, q_intB, q_max, q_gcd, q_tupL, q_gL, q_gT, q_g0, q_g1, q_g2, q_lc, q_par, q_parO, q_whS, q_slc, q_prt0, q_prt1, q_intR, q_slcL, q_slcT, q_zipL, q_zipT, q_allp, List.length_map, wipeE, List.map_cons, List.map_nil, List.length_cons, List.length_nil, List.replicate, List.cons_append, List.nil_append, List.getElem?_cons_zero, List.getElem?_cons_succ, List.set_cons_zero, List.set_cons_succ, Nat.reduceSub, Nat.reduceAdd, if_true, Bool.not_true, Bool.not_false, Bool.false_eq_true, if_false, reduceIte, setD, List.foldl_cons, List.foldl_nil, q_asgN, q_asgT, q_asgL, q_asgs0, q_asgsC, Option.bind_some, List.append_nil, is_integer_eq, is_list_eq, q_is2, w_int, i_int, w_lst, w_tup, l_lst, l_tup, l_int, Bool.true_and, Bool.false_and, Bool.and_true, Bool.and_false, q_drop, q_braise, q_toS_raise, q_thn_raise', *]
    rfl
  · show m_over [x, y] s = _
    unfold m_over g_over
    clear h h2
    simp only [q_def, q_seq, q_ite, q_ret, q_set, q_drop, q_asg, q_for, q_for0, q_fc, q_frd_nx, q_frd_rt, q_frd_ct, q_frd_bk, q_turn, q_mkLst, q_mkTup, Nat.reduceLeDiff, q_and_bl, q_or_bl, q_c0, q_c1, q_c2, q_c3, q_c4, q_c5, q_c6, q_c9, q_c13, decide_true, decide_false, Int.reduceEq, Int.reduceLT, Int.reduceLE, Int.reduceAdd, Int.reduceSub, Int.reduceMul, Int.reduceNeg, Int.reducePow, Int.reduceToNat, Int.reduceBNe, Int.reduceNe, Nat.zero_le, q_get, q_cst, q_lift, q_un, q_with, q_av0, q_avC, q_callN, q_callKW, q_andD, q_orD, q_notD, q_fAnd, q_fOr, q_fNot, q_fTru, q_fBoo, q_ifD, q_isN, q_fIsN, q_fNotN, startD, q_bind, q_toS, q_rt, q_nx, q_thn_nx, q_thn_rt, q_okO, q_nxO, q_pure, q_none0, q_none1, q_none2, q_none3, q_none4, q_tru_bl, q_tru_int, q_tru_lst, q_tru_tup, q_tru_non, q_boo, q_seqL, q_seqT, q_lenL, q_lenT, q_eqI, q_neI, q_lt, q_le, q_gt, q_ge, q_add, q_addL, q_sub, q_neg, q_abs, q_int, q_intB, q_max, q_gcd, q_tupL, q_gL, q_gT, q_g0, q_g1, q_g2, q_lc, q_par, q_parO, q_whS, q_slc, q_prt0, q_prt1, q_intR, q_slcL, q_slcT, q_zipL, q_zipT, q_allp, List.length_map, wipeE, List.map_cons, List.map_nil, List.length_cons, List.length_nil, List.replicate, List.cons_append, List.nil_append, List.getElem?_cons_zero, List.getElem?_cons_succ, List.set_cons_zero, List.set_cons_succ, Nat.reduceSub, Nat.reduceAdd, if_true, Bool.not_true, Bool.not_false, Bool.false_eq_true, if_false, reduceIte, setD, List.foldl_cons, List.foldl_nil, q_asgN, q_asgT, q_asgL, q_asgs0, q_asgsC, Option.bind_some, List.append_nil, is_integer_eq, is_list_eq, q_is2, w_int, i_int, w_lst, w_tup, l_lst, l_tup, l_int, Bool.true_and, Bool.false_and, Bool.and_true, Bool.and_false, q_drop, q_braise, q_toS_raise, q_thn_raise', *]
    rfl
  · show m_is_less [x, y] s = _
    unfold m_is_less g_is_less
    clear h h2
    simp only [q_def, q_seq, q_ite, q_ret, q_set, q_drop, q_asg, q_for, q_for0, q_fc, q_frd_nx, q_frd_rt, q_frd_ct, q_frd_bk, q_turn, q_mkLst, q_mkTup, Nat.reduceLeDiff, q_and_bl, q_or_bl, q_c0, q_c1, q_c2, q_c3, q_c4, q_c5, q_c6, q_c9, q_c13, decide_true, decide_false, Int.reduceEq, Int.reduceLT, Int.reduceLE, Int.reduceAdd, Int.reduceSub, Int.reduceMul, Int.reduceNeg, Int.reducePow, Int.reduceToNat, Int.reduceBNe, Int.reduceNe, Nat.zero_le, q_get, q_cst, q_lift, q_un, q_with, q_av0, q_avC, q_callN, q_callKW, q_andD, q_orD, q_notD, q_fAnd, q_fOr, q_fNot, q_fTru, q_fBoo, q_ifD, q_isN, q_fIsN, q_fNotN, startD, q_bind, q_toS, q_rt, q_nx, q_thn_nx, q_thn_rt, q_okO, q_nxO, q_pure, q_none0, q_none1, q_none2, q_none3, q_none4, q_tru_bl, q_tru_int, q_tru_lst, q_tru_tup, q_tru_non, q_boo, q_seqL, q_seqT, q_lenL, q_lenT, q_eqI, q_neI, q_lt, q_le, q_gt, q_ge, q_add, q_addL, q_sub, q_neg, q_abs, q_int, q_intB, q_max, q_gcd, q_tupL, q_gL, q_gT, q_g0, q_g1, q_g2, q_lc, q_par, q_parO, q_whS, q_slc, q_prt0, q_prt1, q_intR, q_slcL, q_slcT, q_zipL, q_zipT, q_allp, List.length_map, wipeE, List.map_cons, List.map_nil, List.length_cons, List.length_nil, List.replicate, List.cons_append, List.nil_append, List.getElem?_cons_zero, List.getElem?_cons_succ, List.set_cons_zero, List.set_cons_succ, Nat.reduceSub, Nat.reduceAdd, if_true, Bool.not_true, Bool.not_false, Bool.false_eq_true, if_false, reduceIte, setD, List.foldl_cons, List.foldl_nil, q_asgN, q_asgT, q_asgL, q_asgs0, q_asgsC, Option.bind_some, List.append_nil, is_integer_eq, is_list_eq, q_is2, w_int, i_int, w_lst, w_tup, l_lst, l_tup, l_int, Bool.true_and, Bool.false_and, Bool.and_true, Bool.and_false, q_drop, q_braise, q_toS_raise, q_thn_raise', *]
    rfl
theorem bad_other {w : Nat} {x y : D} {a b : Int} (h0 : Nm w x a b) (h : nodk y = true) (h2 : num y = false) (i : Int) (i0 : 0 ≤ i) (i5 : i < 5) (s : Deck) : m_law_asked [.int i, x, y] s = .ok (.tup [.str "BadNumber", .str "other"]) s := by
  have c0 : i = 0 ∨ i = 1 ∨ i = 2 ∨ i = 3 ∨ i = 4 := by omega
  have t := fun s => two_other h0 h h2 s
  refine asked_bn (by omega) ?_
  rcases c0 with rfl | rfl | rfl | rfl | rfl
  · show m_plus [x, y] s = _
    unfold m_plus g_plus
    clear h h2 h0
    simp only [q_def, q_seq, q_ite, q_ret, q_set, q_drop, q_asg, q_for, q_for0, q_fc, q_frd_nx, q_frd_rt, q_frd_ct, q_frd_bk, q_turn, q_mkLst, q_mkTup, Nat.reduceLeDiff, q_and_bl, q_or_bl, q_c0, q_c1, q_c2, q_c3, q_c4, q_c5, q_c6, q_c9, q_c13, decide_true, decide_false, Int.reduceEq, Int.reduceLT, Int.reduceLE, Int.reduceAdd, Int.reduceSub, Int.reduceMul, Int.reduceNeg, Int.reducePow, Int.reduceToNat, Int.reduceBNe, Int.reduceNe, Nat.zero_le, q_get, q_cst, q_lift, q_un, q_with, q_av0, q_avC, q_callN, q_callKW, q_andD, q_orD, q_notD, q_fAnd, q_fOr, q_fNot, q_fTru, q_fBoo, q_ifD, q_isN, q_fIsN, q_fNotN, startD, q_bind, q_toS, q_rt, q_nx, q_thn_nx, q_thn_rt, q_okO, q_nxO, q_pure, q_none0, q_none1, q_none2, q_none3, q_none4, q_tru_bl, q_tru_int, q_tru_lst, q_tru_tup, q_tru_non, q_boo, q_seqL, q_seqT, q_lenL, q_lenT, q_eqI, q_neI, q_lt, q_le, q_gt, q_ge, q_add, q_addL, q_sub, q_neg, q_abs, q_int, q_intB, q_max, q_gcd, q_tupL, q_gL, q_gT, q_g0, q_g1, q_g2, q_lc, q_par, q_parO, q_whS, q_slc, q_prt0, q_prt1, q_intR, q_slcL, q_slcT, q_zipL, q_zipT, q_allp, List.length_map, wipeE, List.map_cons, List.map_nil, List.length_cons, List.length_nil, List.replicate, List.cons_append, List.nil_append, List.getElem?_cons_zero, List.getElem?_cons_succ, List.set_cons_zero, List.set_cons_succ, Nat.reduceSub, Nat.reduceAdd, if_true, Bool.not_true, Bool.not_false, Bool.false_eq_true, if_false, reduceIte, setD, List.foldl_cons, List.foldl_nil, q_asgN, q_asgT, q_asgL, q_asgs0, q_asgsC, Option.bind_some, List.append_nil, is_integer_eq, is_list_eq, q_is2, w_int, i_int, w_lst, w_tup, l_lst, l_tup, l_int, Bool.true_and, Bool.false_and, Bool.and_true, Bool.and_false, q_drop, q_braise, q_toS_raise, q_thn_raise', *]
    rfl
  · show m_minus [x, y] s = _
    unfold m_minus g_minus
    clear h h2 h0
    simp only [q_def, q_seq, q_ite, q_ret, q_set, q_drop, q_asg, q_for, q_for0, q_fc, q_frd_nx, q_frd_rt, q_frd_ct, q_frd_bk, q_turn, q_mkLst, q_mkTup, Nat.reduceLeDiff, q_and_bl, q_or_bl, q_c0, q_c1, q_c2, q_c3, q_c4, q_c5, q_c6, q_c9, q_c13, decide_true, decide_false, Int.reduceEq, Int.reduceLT, Int.reduceLE, Int.reduceAdd, Int.reduceSub, Int.reduceMul, Int.reduceNeg, Int.reducePow, Int.reduceToNat, Int.reduceBNe, Int.reduceNe, Nat.zero_le, q_get, q_cst, q_lift, q_un, q_with, q_av0, q_avC, q_callN, q_callKW, q_andD, q_orD, q_notD, q_fAnd, q_fOr, q_fNot, q_fTru, q_fBoo, q_ifD, q_isN, q_fIsN, q_fNotN, startD, q_bind, q_toS, q_rt, q_nx, q_thn_nx, q_thn_rt, q_okO, q_nxO, q_pure, q_none0, q_none1, q_none2, q_none3, q_none4, q_tru_bl, q_tru_int, q_tru_lst, q_tru_tup, q_tru_non, q_boo, q_seqL, q_seqT, q_lenL, q_lenT, q_eqI, q_neI, q_lt, q_le, q_gt, q_ge, q_add, q_addL, q_sub, q_neg, q_abs, q_int, q_intB, q_max, q_gcd, q_tupL, q_gL, q_gT, q_g0, q_g1, q_g2, q_lc, q_par, q_parO, q_whS, q_slc, q_prt0, q_prt1, q_intR, q_slcL, q_slcT, q_zipL, q_zipT, q_allp, List.length_map, wipeE, List.map_cons, List.map_nil, List.length_cons, List.length_nil, List.replicate, List.cons_append, List.nil_append, List.getElem?_cons_zero, List.getElem?_cons_succ, List.set_cons_zero, List.set_cons_succ, Nat.reduceSub, Nat.reduceAdd, if_true, Bool.not_true, Bool.not_false, Bool.false_eq_true, if_false, reduceIte, setD, List.foldl_cons, List.foldl_nil, q_asgN, q_asgT, q_asgL, q_asgs0, q_asgsC, Option.bind_some, List.append_nil, is_integer_eq, is_list_eq, q_is2, w_int, i_int, w_lst, w_tup, l_lst, l_tup, l_int, Bool.true_and, Bool.false_and, Bool.and_true, Bool.and_false, q_drop, q_braise, q_toS_raise, q_thn_raise', *]
    rfl
  · show m_times [x, y] s = _
    unfold m_times g_times
    clear h h2 h0
    simp only [q_def, q_seq, q_ite, q_ret, q_set, q_drop, q_asg, q_for, q_for0, q_fc, q_frd_nx, q_frd_rt, q_frd_ct, q_frd_bk, q_turn, q_mkLst, q_mkTup, Nat.reduceLeDiff, q_and_bl, q_or_bl, q_c0, q_c1, q_c2, q_c3, q_c4, q_c5, q_c6, q_c9, q_c13, decide_true, decide_false, Int.reduceEq, Int.reduceLT, Int.reduceLE, Int.reduceAdd, Int.reduceSub, Int.reduceMul, Int.reduceNeg, Int.reducePow, Int.reduceToNat, Int.reduceBNe, Int.reduceNe, Nat.zero_le, q_get, q_cst, q_lift, q_un, q_with, q_av0, q_avC, q_callN, q_callKW, q_andD, q_orD, q_notD, q_fAnd, q_fOr, q_fNot, q_fTru, q_fBoo, q_ifD, q_isN, q_fIsN, q_fNotN, startD, q_bind, q_toS, q_rt, q_nx, q_thn_nx, q_thn_rt, q_okO, q_nxO, q_pure, q_none0, q_none1, q_none2, q_none3, q_none4, q_tru_bl, q_tru_int, q_tru_lst, q_tru_tup, q_tru_non, q_boo, q_seqL, q_seqT, q_lenL, q_lenT, q_eqI, q_neI, q_lt, q_le, q_gt, q_ge, q_add, q_addL, q_sub, q_neg, q_abs, q_int, q_intB, q_max, q_gcd, q_tupL, q_gL, q_gT, q_g0, q_g1, q_g2, q_lc, q_par, q_parO, q_whS, q_slc, q_prt0, q_prt1, q_intR, q_slcL, q_slcT, q_zipL, q_zipT, q_allp, List.length_map, wipeE, List.map_cons, List.map_nil, List.length_cons, List.length_nil, List.replicate, List.cons_append, List.nil_append, List.getElem?_cons_zero, List.getElem?_cons_succ, List.set_cons_zero, List.set_cons_succ, Nat.reduceSub, Nat.reduceAdd, if_true, Bool.not_true, Bool.not_false, Bool.false_eq_true, if_false, reduceIte, setD, List.foldl_cons, List.foldl_nil, q_asgN, q_asgT, q_asgL, q_asgs0, q_asgsC, Option.bind_some, List.append_nil, is_integer_eq, is_list_eq, q_is2, w_int, i_int, w_lst, w_tup, l_lst, l_tup, l_int, Bool.true_and, Bool.false_and, Bool.and_true, Bool.and_false, q_drop, q_braise, q_toS_raise, q_thn_raise', *]
    rfl
  · show m_over [x, y] s = _
    unfold m_over g_over
    clear h h2 h0
    simp only [q_def, q_seq, q_ite, q_ret, q_set, q_drop, q_asg, q_for, q_for0, q_fc, q_frd_nx, q_frd_rt, q_frd_ct, q_frd_bk, q_turn, q_mkLst, q_mkTup, Nat.reduceLeDiff, q_and_bl, q_or_bl, q_c0, q_c1, q_c2, q_c3, q_c4, q_c5, q_c6, q_c9, q_c13, decide_true, decide_false, Int.reduceEq, Int.reduceLT, Int.reduceLE, Int.reduceAdd, Int.reduceSub, Int.reduceMul, Int.reduceNeg, Int.reducePow, Int.reduceToNat, Int.reduceBNe, Int.reduceNe, Nat.zero_le, q_get, q_cst, q_lift, q_un, q_with, q_av0, q_avC, q_callN, q_callKW, q_andD, q_orD, q_notD, q_fAnd, q_fOr, q_fNot, q_fTru, q_fBoo, q_ifD, q_isN, q_fIsN, q_fNotN, startD, q_bind, q_toS, q_rt, q_nx, q_thn_nx, q_thn_rt, q_okO, q_nxO, q_pure, q_none0, q_none1, q_none2, q_none3, q_none4, q_tru_bl, q_tru_int, q_tru_lst, q_tru_tup, q_tru_non, q_boo, q_seqL, q_seqT, q_lenL, q_lenT, q_eqI, q_neI, q_lt, q_le, q_gt, q_ge, q_add, q_addL, q_sub, q_neg, q_abs, q_int, q_intB, q_max, q_gcd, q_tupL, q_gL, q_gT, q_g0, q_g1, q_g2, q_lc, q_par, q_parO, q_whS, q_slc, q_prt0, q_prt1, q_intR, q_slcL, q_slcT, q_zipL, q_zipT, q_allp, List.length_map, wipeE, List.map_cons, List.map_nil, List.length_cons, List.length_nil, List.replicate, List.cons_append, List.nil_append, List.getElem?_cons_zero, List.getElem?_cons_succ, List.set_cons_zero, List.set_cons_succ, Nat.reduceSub, Nat.reduceAdd, if_true, Bool.not_true, Bool.not_false, Bool.false_eq_true, if_false, reduceIte, setD, List.foldl_cons, List.foldl_nil, q_asgN, q_asgT, q_asgL, q_asgs0, q_asgsC, Option.bind_some, List.append_nil, is_integer_eq, is_list_eq, q_is2, w_int, i_int, w_lst, w_tup, l_lst, l_tup, l_int, Bool.true_and, Bool.false_and, Bool.and_true, Bool.and_false, q_drop, q_braise, q_toS_raise, q_thn_raise', *]
    rfl
  · show m_is_less [x, y] s = _
    unfold m_is_less g_is_less
    clear h h2 h0
    simp only [q_def, q_seq, q_ite, q_ret, q_set, q_drop, q_asg, q_for, q_for0, q_fc, q_frd_nx, q_frd_rt, q_frd_ct, q_frd_bk, q_turn, q_mkLst, q_mkTup, Nat.reduceLeDiff, q_and_bl, q_or_bl, q_c0, q_c1, q_c2, q_c3, q_c4, q_c5, q_c6, q_c9, q_c13, decide_true, decide_false, Int.reduceEq, Int.reduceLT, Int.reduceLE, Int.reduceAdd, Int.reduceSub, Int.reduceMul, Int.reduceNeg, Int.reducePow, Int.reduceToNat, Int.reduceBNe, Int.reduceNe, Nat.zero_le, q_get, q_cst, q_lift, q_un, q_with, q_av0, q_avC, q_callN, q_callKW, q_andD, q_orD, q_notD, q_fAnd, q_fOr, q_fNot, q_fTru, q_fBoo, q_ifD, q_isN, q_fIsN, q_fNotN, startD, q_bind, q_toS, q_rt, q_nx, q_thn_nx, q_thn_rt, q_okO, q_nxO, q_pure, q_none0, q_none1, q_none2, q_none3, q_none4, q_tru_bl, q_tru_int, q_tru_lst, q_tru_tup, q_tru_non, q_boo, q_seqL, q_seqT, q_lenL, q_lenT, q_eqI, q_neI, q_lt, q_le, q_gt, q_ge, q_add, q_addL, q_sub, q_neg, q_abs, q_int, q_intB, q_max, q_gcd, q_tupL, q_gL, q_gT, q_g0, q_g1, q_g2, q_lc, q_par, q_parO, q_whS, q_slc, q_prt0, q_prt1, q_intR, q_slcL, q_slcT, q_zipL, q_zipT, q_allp, List.length_map, wipeE, List.map_cons, List.map_nil, List.length_cons, List.length_nil, List.replicate, List.cons_append, List.nil_append, List.getElem?_cons_zero, List.getElem?_cons_succ, List.set_cons_zero, List.set_cons_succ, Nat.reduceSub, Nat.reduceAdd, if_true, Bool.not_true, Bool.not_false, Bool.false_eq_true, if_false, reduceIte, setD, List.foldl_cons, List.foldl_nil, q_asgN, q_asgT, q_asgL, q_asgs0, q_asgsC, Option.bind_some, List.append_nil, is_integer_eq, is_list_eq, q_is2, w_int, i_int, w_lst, w_tup, l_lst, l_tup, l_int, Bool.true_and, Bool.false_and, Bool.and_true, Bool.and_false, q_drop, q_braise, q_toS_raise, q_thn_raise', *]
    rfl
end K03

set_option exponentiation.threshold 10000
namespace K03
open PySem PySem.Builtin PySem.Builtin.Str L2 FL
theorem pairs_fold : g_law_pairs =
    (seqS (parS 1 2 (avC (withA (avC (getE 0) av0) (callN 1 m_law_value)) (avC (withA (avC (getE 0) av0) (callN 1 m_law_value)) av0)))
    (seqS (setS 2 (withA (avC (getE 0) (avC (withA (avC (getE 2) (avC (getE 1) (avC (withA (avC (getE 1) (avC (un1 negM (cst (.int 1))) av0)) (callN 2 m_law_times)) (avC (cst (.int 0)) (avC (getE 2) av0))))) mkLst) av0)) (callN 2 m_law_pick)))
    (seqS (setS 3 (withA (avC (withA (avC (withA (avC (withA (avC (getE 1) (avC (getE 2) av0)) mkLst) av0) (callN 1 m_law_sum)) av0) mkLst) (avC (withA (avC (withA (avC (withA (avC (getE 1) (avC (withA (avC (getE 2) (avC (un1 negM (cst (.int 1))) av0)) (callN 2 m_law_times)) av0)) mkLst) av0) (callN 1 m_law_sum)) av0) mkLst) (avC (withA (avC (withA (avC (getE 1) (avC (getE 2) av0)) (callN 2 m_law_times)) av0) mkLst) av0))) mkLst))
    (seqS (setS 4 (withA (avC (getE 2) av0) (callN 1 m_law_two)))
    (seqS (setS 3 (lift2 addM (getE 3) (withA (avC (ifD (fBoo (lift2 eqM (getE 2) (cst (.int 0)))) (withA (avC (cst (.str "Misfit")) (avC (cst (.str "other")) av0)) mkTup) (withA (avC (withA (avC (getE 1) (avC (withA (avC (lift2 getM (getE 4) (cst (.int 1))) (avC (lift2 getM (getE 4) (cst (.int 0))) av0)) (callN 2 m_law_form)) av0)) (callN 2 m_law_times)) av0) mkLst)) (avC (withA (avC (withA (avC (getE 1) (avC (getE 2) av0)) (callN 2 m_law_before)) av0) mkLst) av0)) mkLst)))
    (seqS (forS (fun δ s => ((avC (cst (.int 5)) av0) δ s).bind rng1M) (.nm 5) waysB)
    (seqS (setS 6 (withA (avC (getE 0) av0) (callN 1 m_law_bad)))
    (seqS (setS 5 (withA (avC (getE 0) (avC (cst (.int 5)) av0)) (callN 2 m_law_draw)))
    (seqS (iteS (fOr (fBoo (lift2 neM (withA (avC (getE 5) (avC (getE 6) (avC (withA (avC (getE 0) (avC (withA (avC (getE 1) (avC (getE 6) av0)) mkLst) av0)) (callN 2 m_law_pick)) av0))) (callN 3 m_law_asked)) (withA (avC (cst (.str "BadNumber")) (avC (cst (.str "one")) av0)) mkTup))) (fBoo (lift2 neM (withA (avC (getE 5) (avC (getE 1) (avC (getE 6) av0))) (callN 3 m_law_asked)) (withA (avC (cst (.str "BadNumber")) (avC (cst (.str "other")) av0)) mkTup)))) (retS (cst (.bl false))) (fun δ s => .nx δ s))
    (seqS (parS 7 8 (avC (lift2 subM (withA (avC (getE 0) (avC (cst (.int 201)) av0)) (callN 2 m_law_draw)) (cst (.int 100))) (avC (lift2 subM (withA (avC (getE 0) (avC (cst (.int 41)) av0)) (callN 2 m_law_draw)) (cst (.int 20))) av0)))
    (seqS (setS 3 (ifD (fBoo (lift2 neM (getE 8) (cst (.int 0)))) (withA (avC (withA (avC (getE 7) (avC (getE 8) av0)) (callN 2 m_law_form)) av0) mkLst) (withA (avC (cst (.str "BadNumber")) (avC (cst (.str "below")) av0)) mkTup)))
    (seqS (iteS (fBoo (lift2 neM (withA (avC (withA (avC (cst (.int 5)) (avC (getE 7) (avC (getE 8) av0))) (callN 3 m_law_asked)) av0) reprM) (withA (avC (getE 3) av0) reprM))) (retS (cst (.bl false))) (fun δ s => .nx δ s))
    (retS (andD (lift2 eqM (withA (avC (cst (.int 5)) (avC (withA (avC (cst (.int 1)) (avC (cst (.int 2)) av0)) mkTup) (avC (cst (.int 0)) av0))) (callN 3 m_law_asked)) (withA (avC (cst (.str "BadNumber")) (avC (cst (.str "above")) av0)) mkTup)) (lift2 eqM (withA (avC (cst (.int 5)) (avC (getE 7) (avC (withA (avC (cst (.int 1)) (avC (cst (.int 2)) av0)) mkTup) av0))) (callN 3 m_law_asked)) (withA (avC (cst (.str "BadNumber")) (avC (cst (.str "below")) av0)) mkTup)))))))))))))))) := rfl
theorem pairs_eq {b : Int} {s : Deck} (G : Good b s) (hb : b + 40 ≤ 1000000) : ∃ s', m_law_pairs [.deck] s = .ok (.bl true) s' ∧ Good (b + 40) s' := by
  obtain ⟨p, q, s1, v1, q0, sp, sq, G1⟩ := value_eq G (by omega)
  obtain ⟨p', q', s2, v2, q0', sp', sq', G2⟩ := value_eq G1 (by omega)
  have hX0 := nm_numD (w := 100) (show q ≠ 0 by omega) sp sq
  have hX : Nm 101 (numD p q) (nfA p q) (nfB p q) := nm101 q0 (sp.mono (by decide)) (sq.mono (by decide))
  have lm : ∀ s : Deck, m_law_times [numD p q, .int (-1)] s = .ok (numD (nfA p q * -1) (nfB p q * 1)) s := fun s => law_times_eq (k := 1) hX.v (.int (-1)) hX.sa hX.sb (by unfold Sz; decide) (by unfold Sz; decide) (by decide) s
  obtain ⟨y, s3, e3, hy, G3⟩ := pick_eq G2 (by omega) [numD p' q', numD p q, numD (nfA p q * -1) (nfB p q * 1), .int 0, numD p' q'] (by show 0 < 5; decide) (by show ((5 : Nat) : Int).natAbs.log2 < 9000; decide)
  obtain ⟨u, v, rfl, v0, su, sv⟩ : ∃ u v, y = numD u v ∧ 0 < v ∧ Sz 101 u ∧ Sz 101 v := by
    simp only [List.mem_cons, List.not_mem_nil, or_false] at hy
    rcases hy with rfl | rfl | rfl | rfl | rfl
    · exact ⟨_, _, rfl, q0', sp'.mono (by decide), sq'.mono (by decide)⟩
    · exact ⟨_, _, rfl, q0, sp.mono (by decide), sq.mono (by decide)⟩
    · refine ⟨_, _, rfl, ?_, (Sz.mul (k := 1) hX0.sa (by unfold Sz; decide)).mono (by decide), (Sz.mul (k := 1) hX0.sb (by unfold Sz; decide)).mono (by decide)⟩
      have := hX.v.pos
      omega
    · exact ⟨0, 1, num_zero.symm, by decide, by unfold Sz; decide, by unfold Sz; decide⟩
    · exact ⟨_, _, rfl, q0', sp'.mono (by decide), sq'.mono (by decide)⟩
  have hY : Nm 101 (numD u v) (nfA u v) (nfB u v) := nm101 v0 su sv
  have nX := numD_no p q
  have nY := numD_no u v
  have z0 := fun s => numD_zero (u := u) (show v ≠ 0 by omega) s
  generalize numD p q = X at *
  generalize numD u v = Y at *
  generalize nfA p q = a at *
  generalize nfB p q = B at *
  generalize nfA u v = c at *
  generalize nfB u v = e at *
  have ls1 : ∀ s : Deck, m_law_sum [.lst [X, Y]] s = .ok (pairS a B c e) s := fun s => law_sum_eq 101 [(X, a, B), (Y, c, e)] (fun z hz => by
    rcases List.mem_cons.mp hz with rfl | hz
    · exact hX.ok
    · rcases List.mem_cons.mp hz with rfl | hz
      · exact hY.ok
      · cases hz) (by show 1 + (101 + 1) * (2 + 1) < 7000; decide) s
  have lt1 : ∀ s : Deck, m_law_times [Y, .int (-1)] s = .ok (numD (-1 * c) (1 * e)) s := fun s => by
    rw [law_times_eq (k := 1) hY.v (.int (-1)) hY.sa hY.sb (by unfold Sz; decide) (by unfold Sz; decide) (by decide) s, Int.mul_comm c, Int.mul_comm e]
  have e0 := hY.v.pos
  have m1 : Sz 102 (-1 * c) := (Sz.mul (j := 1) (by unfold Sz; decide) hY.sa).mono (by decide)
  have m2 : Sz 102 (1 * e) := (Sz.mul (j := 1) (by unfold Sz; decide) hY.sb).mono (by decide)
  have nmM := nm_numD (show 1 * e ≠ 0 by omega) m1 m2
  have ls2 : ∀ s : Deck, m_law_sum [.lst [X, numD (-1 * c) (1 * e)]] s = .ok (pairS a B (nfA (-1 * c) (1 * e)) (nfB (-1 * c) (1 * e))) s := fun s => law_sum_eq 102 [(X, a, B), (numD (-1 * c) (1 * e), nfA (-1 * c) (1 * e), nfB (-1 * c) (1 * e))] (fun z hz => by
    rcases List.mem_cons.mp hz with rfl | hz
    · exact ⟨hX.v, hX.sa.mono (by decide), hX.sb.mono (by decide)⟩
    · rcases List.mem_cons.mp hz with rfl | hz
      · exact nmM.ok
      · cases hz) (by show 1 + (102 + 1) * (2 + 1) < 7000; decide) s
  have lt2 := fun s => law_times_eq hX.v hY.v hX.sa hX.sb hY.sa hY.sb (by decide) s
  have tw := fun s => two_eq hY.v s
  have bf := fun s => before_eq hX.v hY.v hX.sa hX.sb hY.sa hY.sb (by decide) s
  obtain ⟨due, hdue⟩ : ∃ due : List D, due = [.lst [pairS a B c e], .lst [pairS a B (nfA (-1 * c) (1 * e)) (nfB (-1 * c) (1 * e))], .lst [numD (a * c) (B * e)], overD a B c e, .lst [.bl (decide (a * e < c * B))]] := ⟨_, rfl⟩
  have gt : ∀ i : Int, 0 ≤ i → i < 5 → atI due i = some (dueOf a B c e i) := fun i i0 i5 => by
    have c0 : i = 0 ∨ i = 1 ∨ i = 2 ∨ i = 3 ∨ i = 4 := by omega
    rw [hdue]
    rcases c0 with rfl | rfl | rfl | rfl | rfl <;> rfl
  obtain ⟨z5, s4, lp, G4⟩ := ways_loop hX hY nX nY due (dueOf a B c e) (fun i i0 i5 d1 d2 s h k => due_asked i i0 i5 d1 d2 s h k) (fun i i0 i5 => due_shows hX hY i i0 i5) gt [0, 1, 2, 3, 4] (b + 4 + 4 + 1) s3 (some (.lst [.int c, .int e])) none none none none (by decide) G3 (by show b + 4 + 4 + 1 + 2 * 5 ≤ 1000000; omega)
  have G4 : Good (b + 19) s4 := G4.mono (by show b + 4 + 4 + 1 + 2 * 5 ≤ b + 19; omega)
  obtain ⟨bad, s5, e5, k5, n5, G5⟩ := bad_eq G4 (by omega)
  obtain ⟨way, s6, e6, w0, w5, G6⟩ := sift_eq G5 (by omega) (many := 5) (by decide) (by decide +kernel)
  obtain ⟨alt, s7, e7, _, G7⟩ := pick_eq G6 (by omega) [X, bad] (by show 0 < 2; decide) (by show ((2 : Nat) : Int).natAbs.log2 < 9000; decide)
  have b1 := fun s => bad_one (y := alt) k5 n5 way w0 w5 s
  have b2 := fun s => bad_other hX k5 n5 way w0 w5 s
  obtain ⟨f, s8, e8, f0, f1, G8⟩ := sift_eq G7 (by omega) (many := 201) (by decide) (by decide +kernel)
  obtain ⟨g, s9, e9, g0, g1, G9⟩ := sift_eq G8 (by omega) (many := 41) (by decide) (by decide +kernel)
  have fg : fits (g - 20) := (show Sz 100 (g - 20) by unfold Sz; omega).log9 (by decide)
  have last1 : ∀ s : Deck, m_law_asked [.int 5, .tup [.int 1, .int 2], .int 0] s = .ok (.tup [.str "BadNumber", .str "above"]) s := fun s => asked_bn (by decide) (show m_ratio [.tup [.int 1, .int 2], .int 0] s = .raise (bn "above") s from ratio_above rfl s)
  have last2 : ∀ s : Deck, m_law_asked [.int 5, .int (f - 100), .tup [.int 1, .int 2]] s = .ok (.tup [.str "BadNumber", .str "below"]) s := fun s => asked_bn (by decide) (show m_ratio [.int (f - 100), .tup [.int 1, .int 2]] s = .raise (bn "below") s from ratio_below rfl s)
  have rn : ∀ s : Deck, rng1M [.int 5] s = .ok ([0, 1, 2, 3, 4].map D.int) s := fun s => rfl
  refine ⟨s9, ?_, G9.mono (by omega)⟩
  unfold m_law_pairs
  rw [pairs_fold]
  have sf : Sz 100 (f - 100) := by unfold Sz; omega
  have sg : Sz 100 (g - 20) := by unfold Sz; omega
  have lg : g - 20 = 0 ∨ (g - 20 ≠ 0 ∧ (∀ s : Deck, m_law_form [.int (f - 100), .int (g - 20)] s = .ok (numD (f - 100) (g - 20)) s) ∧ (∀ s : Deck, m_law_asked [.int 5, .int (f - 100), .int (g - 20)] s = .ok (.lst [numD (f - 100) (g - 20)]) s) ∧ Shows (.lst [numD (f - 100) (g - 20)])) := by
    by_cases z : g - 20 = 0
    · exact .inl z
    · exact .inr ⟨z, fun s => form_eq z fg s, fun s => asked_ok (by decide) (show m_ratio [.int (f - 100), .int (g - 20)] s = _ from ratio_eq z fg s), shows_num z (sf.mono (by decide)) (sg.mono (by decide))⟩
  have lo : (c = 0 ∧ overD a B c e = .tup [.str "Misfit", .str "other"]) ∨ (c ≠ 0 ∧ overD a B c e = .lst [numD (a * nfA e c) (B * nfB e c)] ∧ (∀ s : Deck, m_law_form [.int e, .int c] s = .ok (numD e c) s) ∧ ∀ s : Deck, m_law_times [X, numD e c] s = .ok (numD (a * nfA e c) (B * nfB e c)) s) := by
    by_cases z : c = 0
    · exact .inl ⟨z, by unfold overD; rw [if_pos z]⟩
    · have nm := nm_numD z hY.sb hY.sa
      exact .inr ⟨z, by unfold overD; rw [if_neg z], fun s => form_eq z (hY.sa.log9 (by decide)) s, fun s => law_times_eq hX.v nm.v hX.sa hX.sb nm.sa nm.sb (by decide) s⟩
  have zero5 : ∀ s : Deck, m_law_asked [.int 5, .int (f - 100), .int 0] s = .ok (.tup [.str "BadNumber", .str "below"]) s := fun s => asked_bn (by decide) (show m_ratio [.int (f - 100), .int 0] s = .raise (bn "below") s from ratio_0 s)
  obtain ⟨tb, tb1, tb2⟩ := shows_bn
  rw [hdue] at lp
  clear hdue gt fg sf sg G G1 G2 G3 G4 G5 G6 G7 G8 G9 hb hX hY hX0 nX nY su sv sp sq sp' sq' hy q0 q0' v0 k5 n5 w0 w5 f0 f1 g0 g1 e0 m1 m2 nmM
  obtain ⟨Wl, hW⟩ : ∃ Wl : List D, Wl = [0, 1, 2, 3, 4].map D.int := ⟨_, rfl⟩
  rw [← hW] at lp rn
  clear hW
  have z5' : g - 20 = 0 → ∀ s : Deck, m_law_asked [.int 5, .int (f - 100), .int (g - 20)] s = .ok (.tup [.str "BadNumber", .str "below"]) s := fun z s => by rw [z]; exact zero5 s
  clear zero5
  rcases lo with ⟨zc, ho⟩ | ⟨zc, ho, lf, lt3⟩ <;> rcases lg with zg | ⟨zg, l1, l2, l3⟩
  · rw [ho] at lp
    have zc' := decide_eq_true zc
    have zg' := decide_eq_true zg
    have z6 := z5' zg
    clear ho zc zg z5'
    simp only [q_def, q_seq, q_ite, q_ret, q_set, q_drop, q_asg, q_for, q_for0, q_fc, q_frd_nx, q_frd_rt, q_frd_ct, q_frd_bk, q_turn, q_mkLst, q_mkTup, Nat.reduceLeDiff, q_and_bl, q_or_bl, q_c0, q_c1, q_c2, q_c3, q_c4, q_c5, q_c6, q_c9, q_c13, decide_true, decide_false, Int.reduceEq, Int.reduceLT, Int.reduceLE, Int.reduceAdd, Int.reduceSub, Int.reduceMul, Int.reduceNeg, Int.reducePow, Int.reduceToNat, Int.reduceBNe, Int.reduceNe, Nat.zero_le, q_get, q_cst, q_lift, q_un, q_with, q_av0, q_avC, q_callN, q_callKW, q_andD, q_orD, q_notD, q_fAnd, q_fOr, q_fNot, q_fTru, q_fBoo, q_ifD, q_isN, q_fIsN, q_fNotN, startD, q_bind, q_toS, q_rt, q_nx, q_thn_nx, q_thn_rt, q_okO, q_nxO, q_pure, q_none0, q_none1, q_none2, q_none3, q_none4, q_tru_bl, q_tru_int, q_tru_lst, q_tru_tup, q_tru_non, q_boo, q_seqL, q_seqT, q_lenL, q_lenT, q_eqI, q_neI, q_lt, q_le, q_gt, q_ge, q_add, q_addL, q_sub, q_neg, q_abs, q_int, q_intB, q_max, q_gcd, q_tupL, q_gL, q_gT, q_g0, q_g1, q_g2, q_lc, q_par, q_parO, q_whS, q_slc, q_prt0, q_prt1, q_intR, q_slcL, q_slcT, q_zipL, q_zipT, q_allp, List.length_map, wipeE, List.map_cons, List.map_nil, List.length_cons, List.length_nil, List.replicate, List.cons_append, List.nil_append, List.getElem?_cons_zero, List.getElem?_cons_succ, List.set_cons_zero, List.set_cons_succ, Nat.reduceSub, Nat.reduceAdd, if_true, Bool.not_true, Bool.not_false, Bool.false_eq_true, if_false, reduceIte, setD, List.foldl_cons, List.foldl_nil, q_asgN, q_asgT, q_asgL, q_asgs0, q_asgsC, Option.bind_some, List.append_nil, is_integer_eq, is_list_eq, q_is2, w_int, i_int, w_lst, w_tup, l_lst, l_tup, l_int, Bool.true_and, Bool.false_and, Bool.and_true, Bool.and_false, ne_one, ne_other, eq_above, eq_below, *]
  · rw [ho] at lp
    have zc' := decide_eq_true zc
    have zg' := decide_eq_false zg
    obtain ⟨y, y1, y2⟩ := l3
    clear ho zc zg z5'
    simp only [q_def, q_seq, q_ite, q_ret, q_set, q_drop, q_asg, q_for, q_for0, q_fc, q_frd_nx, q_frd_rt, q_frd_ct, q_frd_bk, q_turn, q_mkLst, q_mkTup, Nat.reduceLeDiff, q_and_bl, q_or_bl, q_c0, q_c1, q_c2, q_c3, q_c4, q_c5, q_c6, q_c9, q_c13, decide_true, decide_false, Int.reduceEq, Int.reduceLT, Int.reduceLE, Int.reduceAdd, Int.reduceSub, Int.reduceMul, Int.reduceNeg, Int.reducePow, Int.reduceToNat, Int.reduceBNe, Int.reduceNe, Nat.zero_le, q_get, q_cst, q_lift, q_un, q_with, q_av0, q_avC, q_callN, q_callKW, q_andD, q_orD, q_notD, q_fAnd, q_fOr, q_fNot, q_fTru, q_fBoo, q_ifD, q_isN, q_fIsN, q_fNotN, startD, q_bind, q_toS, q_rt, q_nx, q_thn_nx, q_thn_rt, q_okO, q_nxO, q_pure, q_none0, q_none1, q_none2, q_none3, q_none4, q_tru_bl, q_tru_int, q_tru_lst, q_tru_tup, q_tru_non, q_boo, q_seqL, q_seqT, q_lenL, q_lenT, q_eqI, q_neI, q_lt, q_le, q_gt, q_ge, q_add, q_addL, q_sub, q_neg, q_abs, q_int, q_intB, q_max, q_gcd, q_tupL, q_gL, q_gT, q_g0, q_g1, q_g2, q_lc, q_par, q_parO, q_whS, q_slc, q_prt0, q_prt1, q_intR, q_slcL, q_slcT, q_zipL, q_zipT, q_allp, List.length_map, wipeE, List.map_cons, List.map_nil, List.length_cons, List.length_nil, List.replicate, List.cons_append, List.nil_append, List.getElem?_cons_zero, List.getElem?_cons_succ, List.set_cons_zero, List.set_cons_succ, Nat.reduceSub, Nat.reduceAdd, if_true, Bool.not_true, Bool.not_false, Bool.false_eq_true, if_false, reduceIte, setD, List.foldl_cons, List.foldl_nil, q_asgN, q_asgT, q_asgL, q_asgs0, q_asgsC, Option.bind_some, List.append_nil, is_integer_eq, is_list_eq, q_is2, w_int, i_int, w_lst, w_tup, l_lst, l_tup, l_int, Bool.true_and, Bool.false_and, Bool.and_true, Bool.and_false, ne_one, ne_other, eq_above, eq_below, *]
  · rw [ho] at lp
    have zc' := decide_eq_false zc
    have zg' := decide_eq_true zg
    have z6 := z5' zg
    clear ho zc zg z5'
    simp only [q_def, q_seq, q_ite, q_ret, q_set, q_drop, q_asg, q_for, q_for0, q_fc, q_frd_nx, q_frd_rt, q_frd_ct, q_frd_bk, q_turn, q_mkLst, q_mkTup, Nat.reduceLeDiff, q_and_bl, q_or_bl, q_c0, q_c1, q_c2, q_c3, q_c4, q_c5, q_c6, q_c9, q_c13, decide_true, decide_false, Int.reduceEq, Int.reduceLT, Int.reduceLE, Int.reduceAdd, Int.reduceSub, Int.reduceMul, Int.reduceNeg, Int.reducePow, Int.reduceToNat, Int.reduceBNe, Int.reduceNe, Nat.zero_le, q_get, q_cst, q_lift, q_un, q_with, q_av0, q_avC, q_callN, q_callKW, q_andD, q_orD, q_notD, q_fAnd, q_fOr, q_fNot, q_fTru, q_fBoo, q_ifD, q_isN, q_fIsN, q_fNotN, startD, q_bind, q_toS, q_rt, q_nx, q_thn_nx, q_thn_rt, q_okO, q_nxO, q_pure, q_none0, q_none1, q_none2, q_none3, q_none4, q_tru_bl, q_tru_int, q_tru_lst, q_tru_tup, q_tru_non, q_boo, q_seqL, q_seqT, q_lenL, q_lenT, q_eqI, q_neI, q_lt, q_le, q_gt, q_ge, q_add, q_addL, q_sub, q_neg, q_abs, q_int, q_intB, q_max, q_gcd, q_tupL, q_gL, q_gT, q_g0, q_g1, q_g2, q_lc, q_par, q_parO, q_whS, q_slc, q_prt0, q_prt1, q_intR, q_slcL, q_slcT, q_zipL, q_zipT, q_allp, List.length_map, wipeE, List.map_cons, List.map_nil, List.length_cons, List.length_nil, List.replicate, List.cons_append, List.nil_append, List.getElem?_cons_zero, List.getElem?_cons_succ, List.set_cons_zero, List.set_cons_succ, Nat.reduceSub, Nat.reduceAdd, if_true, Bool.not_true, Bool.not_false, Bool.false_eq_true, if_false, reduceIte, setD, List.foldl_cons, List.foldl_nil, q_asgN, q_asgT, q_asgL, q_asgs0, q_asgsC, Option.bind_some, List.append_nil, is_integer_eq, is_list_eq, q_is2, w_int, i_int, w_lst, w_tup, l_lst, l_tup, l_int, Bool.true_and, Bool.false_and, Bool.and_true, Bool.and_false, ne_one, ne_other, eq_above, eq_below, at0, at1, *]
  · rw [ho] at lp
    have zc' := decide_eq_false zc
    have zg' := decide_eq_false zg
    obtain ⟨y, y1, y2⟩ := l3
    clear ho zc zg z5'
    simp only [q_def, q_seq, q_ite, q_ret, q_set, q_drop, q_asg, q_for, q_for0, q_fc, q_frd_nx, q_frd_rt, q_frd_ct, q_frd_bk, q_turn, q_mkLst, q_mkTup, Nat.reduceLeDiff, q_and_bl, q_or_bl, q_c0, q_c1, q_c2, q_c3, q_c4, q_c5, q_c6, q_c9, q_c13, decide_true, decide_false, Int.reduceEq, Int.reduceLT, Int.reduceLE, Int.reduceAdd, Int.reduceSub, Int.reduceMul, Int.reduceNeg, Int.reducePow, Int.reduceToNat, Int.reduceBNe, Int.reduceNe, Nat.zero_le, q_get, q_cst, q_lift, q_un, q_with, q_av0, q_avC, q_callN, q_callKW, q_andD, q_orD, q_notD, q_fAnd, q_fOr, q_fNot, q_fTru, q_fBoo, q_ifD, q_isN, q_fIsN, q_fNotN, startD, q_bind, q_toS, q_rt, q_nx, q_thn_nx, q_thn_rt, q_okO, q_nxO, q_pure, q_none0, q_none1, q_none2, q_none3, q_none4, q_tru_bl, q_tru_int, q_tru_lst, q_tru_tup, q_tru_non, q_boo, q_seqL, q_seqT, q_lenL, q_lenT, q_eqI, q_neI, q_lt, q_le, q_gt, q_ge, q_add, q_addL, q_sub, q_neg, q_abs, q_int, q_intB, q_max, q_gcd, q_tupL, q_gL, q_gT, q_g0, q_g1, q_g2, q_lc, q_par, q_parO, q_whS, q_slc, q_prt0, q_prt1, q_intR, q_slcL, q_slcT, q_zipL, q_zipT, q_allp, List.length_map, wipeE, List.map_cons, List.map_nil, List.length_cons, List.length_nil, List.replicate, List.cons_append, List.nil_append, List.getElem?_cons_zero, List.getElem?_cons_succ, List.set_cons_zero, List.set_cons_succ, Nat.reduceSub, Nat.reduceAdd, if_true, Bool.not_true, Bool.not_false, Bool.false_eq_true, if_false, reduceIte, setD, List.foldl_cons, List.foldl_nil, q_asgN, q_asgT, q_asgL, q_asgs0, q_asgsC, Option.bind_some, List.append_nil, is_integer_eq, is_list_eq, q_is2, w_int, i_int, w_lst, w_tup, l_lst, l_tup, l_int, Bool.true_and, Bool.false_and, Bool.and_true, Bool.and_false, ne_one, ne_other, eq_above, eq_below, at0, at1, *]
end K03

set_option exponentiation.threshold 10000
namespace K03
open PySem PySem.Builtin PySem.Builtin.Str L2 FL
/-! ### rows -/
/-- an item: as it stands in the row, above, below -/
def Row (w : Nat) (L : List It3) : Prop := ∀ z ∈ L, Nm w z.1 z.2.1 z.2.2
theorem Row.ok {w : Nat} {L : List It3} (h : Row w L) : ∀ z ∈ L, OkI w z := fun z hz => (h z hz).ok
theorem Row.okD {w : Nat} {L : List It3} (h : Row w L) (hl : L.length ≤ 1000) : okD (.lst (L.map (·.1))) = true ∧ okD (.tup (L.map (·.1))) = true := by
  have k : (L.map (·.1)).all nodk = true := List.all_eq_true.mpr fun d hd => by
    obtain ⟨z, hz, rfl⟩ := List.mem_map.mp hd
    exact (h z hz).k
  have n : (L.map (·.1)).length ≤ 1000 := by rw [List.length_map]; exact hl
  exact ⟨by simp only [K03.okD, k, decide_eq_true n]; rfl, by simp only [K03.okD, k, decide_eq_true n]; rfl⟩
theorem Row.nums {w : Nat} {L : List It3} (h : Row w L) : (L.map (·.1)).all num = true := List.all_eq_true.mpr fun d hd => by
  obtain ⟨z, hz, rfl⟩ := List.mem_map.mp hd
  exact (h z hz).n
def RowD (L : List It3) (d : D) : Prop := d = .lst (L.map (·.1)) ∨ d = .tup (L.map (·.1))
theorem numbers_ok {w : Nat} {L : List It3} {d : D} (h : Row w L) (hl : L.length ≤ 1000) (hd : RowD L d) (s : Deck) : m_is_numbers [d] s = .ok (.bl true) s := by
  obtain ⟨o1, o2⟩ := h.okD hl
  rcases hd with rfl | rfl
  · rw [is_numbers_eq _ o1]
    unfold K03.nums
    rw [l_lst, i_lst, h.nums]; rfl
  · rw [is_numbers_eq _ o2]
    unfold K03.nums
    rw [l_tup, i_tup, h.nums]; rfl
theorem RowD.len {L : List It3} {d : D} (hd : RowD L d) (s : Deck) : lenM [d] s = .ok (.int (L.length : Int)) s := by
  rcases hd with rfl | rfl
  · rw [q_lenL, List.length_map]
  · rw [q_lenT, List.length_map]
theorem RowD.seq {L : List It3} {d : D} (hd : RowD L d) (s : Deck) : seqM d s = .ok (L.map (·.1)) s := by rcases hd with rfl | rfl <;> rfl
/-- fixed: as a tuple -/
def canD (a b : Int) : D := if b = 1 then .int a else .tup [.int a, .int b]
theorem fixed_int (n : Nat) (a : Int) (s : Deck) : m_fixed (n + 1) [.int a] s = .ok (.int a) s := by
  unfold m_fixed g_fixed
  simp only [q_def, q_seq, q_ite, q_ret, q_set, q_drop, q_asg, q_for, q_for0, q_fc, q_frd_nx, q_frd_rt, q_frd_ct, q_frd_bk, q_turn, q_mkLst, q_mkTup, Nat.reduceLeDiff, q_and_bl, q_or_bl, q_c0, q_c1, q_c2, q_c3, q_c4, q_c5, q_c6, q_c9, q_c13, decide_true, decide_false, Int.reduceEq, Int.reduceLT, Int.reduceLE, Int.reduceAdd, Int.reduceSub, Int.reduceMul, Int.reduceNeg, Int.reducePow, Int.reduceToNat, Int.reduceBNe, Int.reduceNe, Nat.zero_le, q_get, q_cst, q_lift, q_un, q_with, q_av0, q_avC, q_callN, q_callKW, q_andD, q_orD, q_notD, q_fAnd, q_fOr, q_fNot, q_fTru, q_fBoo, q_ifD, q_isN, q_fIsN, q_fNotN, startD, q_bind, q_toS, q_rt, q_nx, q_thn_nx, q_thn_rt, q_okO, q_nxO, q_pure, q_none0, q_none1, q_none2, q_none3, q_none4, q_tru_bl, q_tru_int, q_tru_lst, q_tru_tup, q_tru_non, q_boo, q_seqL, q_seqT, q_lenL, q_lenT, q_eqI, q_neI, q_lt, q_le, q_gt, q_ge, q_add, q_addL, q_sub, q_neg, q_abs, q_int, q_intB, q_max, q_gcd, q_tupL, q_gL, q_gT, q_g0, q_g1, q_g2, q_lc, q_par, q_parO, q_whS, q_slc, q_prt0, q_prt1, q_intR, q_slcL, q_slcT, q_zipL, q_zipT, q_allp, List.length_map, wipeE, List.map_cons, List.map_nil, List.length_cons, List.length_nil, List.replicate, List.cons_append, List.nil_append, List.getElem?_cons_zero, List.getElem?_cons_succ, List.set_cons_zero, List.set_cons_succ, Nat.reduceSub, Nat.reduceAdd, if_true, Bool.not_true, Bool.not_false, Bool.false_eq_true, if_false, reduceIte, setD, List.foldl_cons, List.foldl_nil, q_asgN, q_asgT, q_asgL, q_asgs0, q_asgsC, Option.bind_some, List.append_nil, is_integer_eq, is_list_eq, q_is2, w_int, i_int, w_lst, w_tup, l_lst, l_tup, l_int, Bool.true_and, Bool.false_and, Bool.and_true, Bool.and_false, *]
theorem fixed_eq {d : D} {a b : Int} (h : NV d a b) (s : Deck) : m_fixed 3 [d] s = .ok (canD a b) s := by
  have f1 := fun (a : Int) (s : Deck) => fixed_int 1 a s
  have cmp : ∀ (x : Option D) (s : Deck), compD (elemD (.nm 2) [1, 2] yesT (withA (avC (getE 2) av0) (callN 1 (m_fixed 2))) [x, none, none]) [.int a, .int b] s = R.ok [.int a, .int b] s := fun x s => by
    have := q_comp (h := fun x => x) (xs := [.int a, .int b]) (b := elemD (.nm 2) [1, 2] yesT (withA (avC (getE 2) av0) (callN 1 (m_fixed 2))) [x, none, none]) (s := s) fun y hy => elem1 rfl (by
      simp only [List.mem_cons, List.not_mem_nil, or_false] at hy
      rcases hy with rfl | rfl <;> simp only [q_def, q_seq, q_ite, q_ret, q_set, q_drop, q_asg, q_for, q_for0, q_fc, q_frd_nx, q_frd_rt, q_frd_ct, q_frd_bk, q_turn, q_mkLst, q_mkTup, Nat.reduceLeDiff, q_and_bl, q_or_bl, q_c0, q_c1, q_c2, q_c3, q_c4, q_c5, q_c6, q_c9, q_c13, decide_true, decide_false, Int.reduceEq, Int.reduceLT, Int.reduceLE, Int.reduceAdd, Int.reduceSub, Int.reduceMul, Int.reduceNeg, Int.reducePow, Int.reduceToNat, Int.reduceBNe, Int.reduceNe, Nat.zero_le, q_get, q_cst, q_lift, q_un, q_with, q_av0, q_avC, q_callN, q_callKW, q_andD, q_orD, q_notD, q_fAnd, q_fOr, q_fNot, q_fTru, q_fBoo, q_ifD, q_isN, q_fIsN, q_fNotN, startD, q_bind, q_toS, q_rt, q_nx, q_thn_nx, q_thn_rt, q_okO, q_nxO, q_pure, q_none0, q_none1, q_none2, q_none3, q_none4, q_tru_bl, q_tru_int, q_tru_lst, q_tru_tup, q_tru_non, q_boo, q_seqL, q_seqT, q_lenL, q_lenT, q_eqI, q_neI, q_lt, q_le, q_gt, q_ge, q_add, q_addL, q_sub, q_neg, q_abs, q_int, q_intB, q_max, q_gcd, q_tupL, q_gL, q_gT, q_g0, q_g1, q_g2, q_lc, q_par, q_parO, q_whS, q_slc, q_prt0, q_prt1, q_intR, q_slcL, q_slcT, q_zipL, q_zipT, q_allp, List.length_map, wipeE, List.map_cons, List.map_nil, List.length_cons, List.length_nil, List.replicate, List.cons_append, List.nil_append, List.getElem?_cons_zero, List.getElem?_cons_succ, List.set_cons_zero, List.set_cons_succ, Nat.reduceSub, Nat.reduceAdd, if_true, Bool.not_true, Bool.not_false, Bool.false_eq_true, if_false, reduceIte, setD, List.foldl_cons, List.foldl_nil, q_asgN, q_asgT, q_asgL, q_asgs0, q_asgsC, Option.bind_some, List.append_nil, is_integer_eq, is_list_eq, q_is2, w_int, i_int, w_lst, w_tup, l_lst, l_tup, l_int, Bool.true_and, Bool.false_and, Bool.and_true, Bool.and_false, *])
    rw [this]; rfl
  cases h with
  | int a =>
    rw [show canD a 1 = .int a from rfl]
    exact fixed_int 2 a s
  | @tup a b h2 =>
    have c : canD a b = .tup [.int a, .int b] := by unfold canD; rw [if_neg (by omega)]
    rw [c]
    show defM 3 (g_fixed (m_fixed 2)) _ s = _
    unfold g_fixed
    clear c h2
    simp only [q_def, q_seq, q_ite, q_ret, q_set, q_drop, q_asg, q_for, q_for0, q_fc, q_frd_nx, q_frd_rt, q_frd_ct, q_frd_bk, q_turn, q_mkLst, q_mkTup, Nat.reduceLeDiff, q_and_bl, q_or_bl, q_c0, q_c1, q_c2, q_c3, q_c4, q_c5, q_c6, q_c9, q_c13, decide_true, decide_false, Int.reduceEq, Int.reduceLT, Int.reduceLE, Int.reduceAdd, Int.reduceSub, Int.reduceMul, Int.reduceNeg, Int.reducePow, Int.reduceToNat, Int.reduceBNe, Int.reduceNe, Nat.zero_le, q_get, q_cst, q_lift, q_un, q_with, q_av0, q_avC, q_callN, q_callKW, q_andD, q_orD, q_notD, q_fAnd, q_fOr, q_fNot, q_fTru, q_fBoo, q_ifD, q_isN, q_fIsN, q_fNotN, startD, q_bind, q_toS, q_rt, q_nx, q_thn_nx, q_thn_rt, q_okO, q_nxO, q_pure, q_none0, q_none1, q_none2, q_none3, q_none4, q_tru_bl, q_tru_int, q_tru_lst, q_tru_tup, q_tru_non, q_boo, q_seqL, q_seqT, q_lenL, q_lenT, q_eqI, q_neI, q_lt, q_le, q_gt, q_ge, q_add, q_addL, q_sub, q_neg, q_abs, q_int, q_intB, q_max, q_gcd, q_tupL, q_gL, q_gT, q_g0, q_g1, q_g2, q_lc, q_par, q_parO, q_whS, q_slc, q_prt0, q_prt1, q_intR, q_slcL, q_slcT, q_zipL, q_zipT, q_allp, List.length_map, wipeE, List.map_cons, List.map_nil, List.length_cons, List.length_nil, List.replicate, List.cons_append, List.nil_append, List.getElem?_cons_zero, List.getElem?_cons_succ, List.set_cons_zero, List.set_cons_succ, Nat.reduceSub, Nat.reduceAdd, if_true, Bool.not_true, Bool.not_false, Bool.false_eq_true, if_false, reduceIte, setD, List.foldl_cons, List.foldl_nil, q_asgN, q_asgT, q_asgL, q_asgs0, q_asgsC, Option.bind_some, List.append_nil, is_integer_eq, is_list_eq, q_is2, w_int, i_int, w_lst, w_tup, l_lst, l_tup, l_int, Bool.true_and, Bool.false_and, Bool.and_true, Bool.and_false, *]
  | @lst a b h2 =>
    have c : canD a b = .tup [.int a, .int b] := by unfold canD; rw [if_neg (by omega)]
    rw [c]
    show defM 3 (g_fixed (m_fixed 2)) _ s = _
    unfold g_fixed
    clear c h2
    simp only [q_def, q_seq, q_ite, q_ret, q_set, q_drop, q_asg, q_for, q_for0, q_fc, q_frd_nx, q_frd_rt, q_frd_ct, q_frd_bk, q_turn, q_mkLst, q_mkTup, Nat.reduceLeDiff, q_and_bl, q_or_bl, q_c0, q_c1, q_c2, q_c3, q_c4, q_c5, q_c6, q_c9, q_c13, decide_true, decide_false, Int.reduceEq, Int.reduceLT, Int.reduceLE, Int.reduceAdd, Int.reduceSub, Int.reduceMul, Int.reduceNeg, Int.reducePow, Int.reduceToNat, Int.reduceBNe, Int.reduceNe, Nat.zero_le, q_get, q_cst, q_lift, q_un, q_with, q_av0, q_avC, q_callN, q_callKW, q_andD, q_orD, q_notD, q_fAnd, q_fOr, q_fNot, q_fTru, q_fBoo, q_ifD, q_isN, q_fIsN, q_fNotN, startD, q_bind, q_toS, q_rt, q_nx, q_thn_nx, q_thn_rt, q_okO, q_nxO, q_pure, q_none0, q_none1, q_none2, q_none3, q_none4, q_tru_bl, q_tru_int, q_tru_lst, q_tru_tup, q_tru_non, q_boo, q_seqL, q_seqT, q_lenL, q_lenT, q_eqI, q_neI, q_lt, q_le, q_gt, q_ge, q_add, q_addL, q_sub, q_neg, q_abs, q_int, q_intB, q_max, q_gcd, q_tupL, q_gL, q_gT, q_g0, q_g1, q_g2, q_lc, q_par, q_parO, q_whS, q_slc, q_prt0, q_prt1, q_intR, q_slcL, q_slcT, q_zipL, q_zipT, q_allp, List.length_map, wipeE, List.map_cons, List.map_nil, List.length_cons, List.length_nil, List.replicate, List.cons_append, List.nil_append, List.getElem?_cons_zero, List.getElem?_cons_succ, List.set_cons_zero, List.set_cons_succ, Nat.reduceSub, Nat.reduceAdd, if_true, Bool.not_true, Bool.not_false, Bool.false_eq_true, if_false, reduceIte, setD, List.foldl_cons, List.foldl_nil, q_asgN, q_asgT, q_asgL, q_asgs0, q_asgsC, Option.bind_some, List.append_nil, is_integer_eq, is_list_eq, q_is2, w_int, i_int, w_lst, w_tup, l_lst, l_tup, l_int, Bool.true_and, Bool.false_and, Bool.and_true, Bool.and_false, *]
/-- the one form is as it is -/
theorem numD_can {p q : Int} (h : q ≠ 0) : numD p q = canD (nfA p q) (nfB p q) := rfl
theorem sum_of_eq {w : Nat} {L : List It3} {d : D} (h : Row w L) (hl : 1 + (w + 1) * (L.length + 1) < 7000) (hn : L.length ≤ 1000) (hd : RowD L d) (s : Deck) : m_sum_of [d] s = .ok (numD (sumP L (0, 1)).1 (sumP L (0, 1)).2) s := by
  unfold m_sum_of g_sum_of
  have n := fun s => numbers_ok h hn hd s
  have a := fun s => added_eq w L h.ok hl d hd s
  clear h hl hn hd
  simp only [q_def, q_seq, q_ite, q_ret, q_set, q_drop, q_asg, q_for, q_for0, q_fc, q_frd_nx, q_frd_rt, q_frd_ct, q_frd_bk, q_turn, q_mkLst, q_mkTup, Nat.reduceLeDiff, q_and_bl, q_or_bl, q_c0, q_c1, q_c2, q_c3, q_c4, q_c5, q_c6, q_c9, q_c13, decide_true, decide_false, Int.reduceEq, Int.reduceLT, Int.reduceLE, Int.reduceAdd, Int.reduceSub, Int.reduceMul, Int.reduceNeg, Int.reducePow, Int.reduceToNat, Int.reduceBNe, Int.reduceNe, Nat.zero_le, q_get, q_cst, q_lift, q_un, q_with, q_av0, q_avC, q_callN, q_callKW, q_andD, q_orD, q_notD, q_fAnd, q_fOr, q_fNot, q_fTru, q_fBoo, q_ifD, q_isN, q_fIsN, q_fNotN, startD, q_bind, q_toS, q_rt, q_nx, q_thn_nx, q_thn_rt, q_okO, q_nxO, q_pure, q_none0, q_none1, q_none2, q_none3, q_none4, q_tru_bl, q_tru_int, q_tru_lst, q_tru_tup, q_tru_non, q_boo, q_seqL, q_seqT, q_lenL, q_lenT, q_eqI, q_neI, q_lt, q_le, q_gt, q_ge, q_add, q_addL, q_sub, q_neg, q_abs, q_int, q_intB, q_max, q_gcd, q_tupL, q_gL, q_gT, q_g0, q_g1, q_g2, q_lc, q_par, q_parO, q_whS, q_slc, q_prt0, q_prt1, q_intR, q_slcL, q_slcT, q_zipL, q_zipT, q_allp, List.length_map, wipeE, List.map_cons, List.map_nil, List.length_cons, List.length_nil, List.replicate, List.cons_append, List.nil_append, List.getElem?_cons_zero, List.getElem?_cons_succ, List.set_cons_zero, List.set_cons_succ, Nat.reduceSub, Nat.reduceAdd, if_true, Bool.not_true, Bool.not_false, Bool.false_eq_true, if_false, reduceIte, setD, List.foldl_cons, List.foldl_nil, q_asgN, q_asgT, q_asgL, q_asgs0, q_asgsC, Option.bind_some, List.append_nil, is_integer_eq, is_list_eq, q_is2, w_int, i_int, w_lst, w_tup, l_lst, l_tup, l_int, Bool.true_and, Bool.false_and, Bool.and_true, Bool.and_false, *]
end K03

set_option exponentiation.threshold 10000
namespace K03
open PySem PySem.Builtin PySem.Builtin.Str L2 FL
def minS (p z : It3) : It3 := if z.2.1 * p.2.2 < p.2.1 * z.2.2 then z else p
def maxS (p z : It3) : It3 := if p.2.1 * z.2.2 < z.2.1 * p.2.2 then z else p
theorem least_loop {w : Nat} (hw : w + w < 7000) (x0 : Option D) (s : Deck) : ∀ (L : List It3) (p : It3) (x2 : Option D), Row w L → Nm w p.1 p.2.1 p.2.2 →
    ∃ y2, forD (turnS (.nm 2) (iteS (fTru (withA (avC (getE 2) (avC (getE 1) av0)) (callN 2 m_precedes))) (setS 1 (getE 2)) (fun δ s => .nx δ s))) (L.map (·.1)) [x0, some p.1, x2] s = .nx [x0, some (L.foldl minS p).1, y2] s ∧ Nm w (L.foldl minS p).1 (L.foldl minS p).2.1 (L.foldl minS p).2.2
  | [], p, x2, _, hp => ⟨x2, rfl, hp⟩
  | z :: L, p, x2, h, hp => by
    have hz := h z (List.mem_cons_self ..)
    have pr := fun s => prec_eq hz.v hp.v hz.sa hz.sb hp.sa hp.sb hw s
    have hm : Nm w (minS p z).1 (minS p z).2.1 (minS p z).2.2 := by unfold minS; split; exact hz; exact hp
    obtain ⟨y2, ih, k⟩ := least_loop hw x0 s L (minS p z) (some z.1) (fun q hq => h q (List.mem_cons_of_mem _ hq)) hm
    refine ⟨y2, ?_, k⟩
    rw [List.map_cons, q_fc]
    show _ = RS.nx [x0, some (L.foldl minS (minS p z)).1, y2] s
    rw [← ih]
    unfold minS
    by_cases c : z.2.1 * p.2.2 < p.2.1 * z.2.2
    · rw [if_pos c]
      have c := decide_eq_true c
      clear ih k hm hz hp h
      simp only [q_def, q_seq, q_ite, q_ret, q_set, q_drop, q_asg, q_for, q_for0, q_fc, q_frd_nx, q_frd_rt, q_frd_ct, q_frd_bk, q_turn, q_mkLst, q_mkTup, Nat.reduceLeDiff, q_and_bl, q_or_bl, q_c0, q_c1, q_c2, q_c3, q_c4, q_c5, q_c6, q_c9, q_c13, decide_true, decide_false, Int.reduceEq, Int.reduceLT, Int.reduceLE, Int.reduceAdd, Int.reduceSub, Int.reduceMul, Int.reduceNeg, Int.reducePow, Int.reduceToNat, Int.reduceBNe, Int.reduceNe, Nat.zero_le, q_get, q_cst, q_lift, q_un, q_with, q_av0, q_avC, q_callN, q_callKW, q_andD, q_orD, q_notD, q_fAnd, q_fOr, q_fNot, q_fTru, q_fBoo, q_ifD, q_isN, q_fIsN, q_fNotN, startD, q_bind, q_toS, q_rt, q_nx, q_thn_nx, q_thn_rt, q_okO, q_nxO, q_pure, q_none0, q_none1, q_none2, q_none3, q_none4, q_tru_bl, q_tru_int, q_tru_lst, q_tru_tup, q_tru_non, q_boo, q_seqL, q_seqT, q_lenL, q_lenT, q_eqI, q_neI, q_lt, q_le, q_gt, q_ge, q_add, q_addL, q_sub, q_neg, q_abs, q_int, q_intB, q_max, q_gcd, q_tupL, q_gL, q_gT, q_g0, q_g1, q_g2, q_lc, q_par, q_parO, q_whS, q_slc, q_prt0, q_prt1, q_intR, q_slcL, q_slcT, q_zipL, q_zipT, q_allp, List.length_map, wipeE, List.map_cons, List.map_nil, List.length_cons, List.length_nil, List.replicate, List.cons_append, List.nil_append, List.getElem?_cons_zero, List.getElem?_cons_succ, List.set_cons_zero, List.set_cons_succ, Nat.reduceSub, Nat.reduceAdd, if_true, Bool.not_true, Bool.not_false, Bool.false_eq_true, if_false, reduceIte, setD, List.foldl_cons, List.foldl_nil, q_asgN, q_asgT, q_asgL, q_asgs0, q_asgsC, Option.bind_some, List.append_nil, is_integer_eq, is_list_eq, q_is2, w_int, i_int, w_lst, w_tup, l_lst, l_tup, l_int, Bool.true_and, Bool.false_and, Bool.and_true, Bool.and_false, *]
    · rw [if_neg c]
      have c := decide_eq_false c
      clear ih k hm hz hp h
      simp only [q_def, q_seq, q_ite, q_ret, q_set, q_drop, q_asg, q_for, q_for0, q_fc, q_frd_nx, q_frd_rt, q_frd_ct, q_frd_bk, q_turn, q_mkLst, q_mkTup, Nat.reduceLeDiff, q_and_bl, q_or_bl, q_c0, q_c1, q_c2, q_c3, q_c4, q_c5, q_c6, q_c9, q_c13, decide_true, decide_false, Int.reduceEq, Int.reduceLT, Int.reduceLE, Int.reduceAdd, Int.reduceSub, Int.reduceMul, Int.reduceNeg, Int.reducePow, Int.reduceToNat, Int.reduceBNe, Int.reduceNe, Nat.zero_le, q_get, q_cst, q_lift, q_un, q_with, q_av0, q_avC, q_callN, q_callKW, q_andD, q_orD, q_notD, q_fAnd, q_fOr, q_fNot, q_fTru, q_fBoo, q_ifD, q_isN, q_fIsN, q_fNotN, startD, q_bind, q_toS, q_rt, q_nx, q_thn_nx, q_thn_rt, q_okO, q_nxO, q_pure, q_none0, q_none1, q_none2, q_none3, q_none4, q_tru_bl, q_tru_int, q_tru_lst, q_tru_tup, q_tru_non, q_boo, q_seqL, q_seqT, q_lenL, q_lenT, q_eqI, q_neI, q_lt, q_le, q_gt, q_ge, q_add, q_addL, q_sub, q_neg, q_abs, q_int, q_intB, q_max, q_gcd, q_tupL, q_gL, q_gT, q_g0, q_g1, q_g2, q_lc, q_par, q_parO, q_whS, q_slc, q_prt0, q_prt1, q_intR, q_slcL, q_slcT, q_zipL, q_zipT, q_allp, List.length_map, wipeE, List.map_cons, List.map_nil, List.length_cons, List.length_nil, List.replicate, List.cons_append, List.nil_append, List.getElem?_cons_zero, List.getElem?_cons_succ, List.set_cons_zero, List.set_cons_succ, Nat.reduceSub, Nat.reduceAdd, if_true, Bool.not_true, Bool.not_false, Bool.false_eq_true, if_false, reduceIte, setD, List.foldl_cons, List.foldl_nil, q_asgN, q_asgT, q_asgL, q_asgs0, q_asgsC, Option.bind_some, List.append_nil, is_integer_eq, is_list_eq, q_is2, w_int, i_int, w_lst, w_tup, l_lst, l_tup, l_int, Bool.true_and, Bool.false_and, Bool.and_true, Bool.and_false, *]
theorem great_loop {w : Nat} (hw : w + w < 7000) (x0 : Option D) (s : Deck) : ∀ (L : List It3) (p : It3) (x2 : Option D), Row w L → Nm w p.1 p.2.1 p.2.2 →
    ∃ y2, forD (turnS (.nm 2) (iteS (fTru (withA (avC (getE 1) (avC (getE 2) av0)) (callN 2 m_precedes))) (setS 1 (getE 2)) (fun δ s => .nx δ s))) (L.map (·.1)) [x0, some p.1, x2] s = .nx [x0, some (L.foldl maxS p).1, y2] s ∧ Nm w (L.foldl maxS p).1 (L.foldl maxS p).2.1 (L.foldl maxS p).2.2
  | [], p, x2, _, hp => ⟨x2, rfl, hp⟩
  | z :: L, p, x2, h, hp => by
    have hz := h z (List.mem_cons_self ..)
    have pr := fun s => prec_eq hp.v hz.v hp.sa hp.sb hz.sa hz.sb hw s
    have hm : Nm w (maxS p z).1 (maxS p z).2.1 (maxS p z).2.2 := by unfold maxS; split; exact hz; exact hp
    obtain ⟨y2, ih, k⟩ := great_loop hw x0 s L (maxS p z) (some z.1) (fun q hq => h q (List.mem_cons_of_mem _ hq)) hm
    refine ⟨y2, ?_, k⟩
    rw [List.map_cons, q_fc]
    show _ = RS.nx [x0, some (L.foldl maxS (maxS p z)).1, y2] s
    rw [← ih]
    unfold maxS
    by_cases c : p.2.1 * z.2.2 < z.2.1 * p.2.2
    · rw [if_pos c]
      have c := decide_eq_true c
      clear ih k hm hz hp h
      simp only [q_def, q_seq, q_ite, q_ret, q_set, q_drop, q_asg, q_for, q_for0, q_fc, q_frd_nx, q_frd_rt, q_frd_ct, q_frd_bk, q_turn, q_mkLst, q_mkTup, Nat.reduceLeDiff, q_and_bl, q_or_bl, q_c0, q_c1, q_c2, q_c3, q_c4, q_c5, q_c6, q_c9, q_c13, decide_true, decide_false, Int.reduceEq, Int.reduceLT, Int.reduceLE, Int.reduceAdd, Int.reduceSub, Int.reduceMul, Int.reduceNeg, Int.reducePow, Int.reduceToNat, Int.reduceBNe, Int.reduceNe, Nat.zero_le, q_get, q_cst, q_lift, q_un, q_with, q_av0, q_avC, q_callN, q_callKW, q_andD, q_orD, q_notD, q_fAnd, q_fOr, q_fNot, q_fTru, q_fBoo, q_ifD, q_isN, q_fIsN, q_fNotN, startD, q_bind, q_toS, q_rt, q_nx, q_thn_nx, q_thn_rt, q_okO, q_nxO, q_pure, q_none0, q_none1, q_none2, q_none3, q_none4, q_tru_bl, q_tru_int, q_tru_lst, q_tru_tup, q_tru_non, q_boo, q_seqL, q_seqT, q_lenL, q_lenT, q_eqI, q_neI, q_lt, q_le, q_gt, q_ge, q_add, q_addL, q_sub, q_neg, q_abs, q_int, q_intB, q_max, q_gcd, q_tupL, q_gL, q_gT, q_g0, q_g1, q_g2, q_lc, q_par, q_parO, q_whS, q_slc, q_prt0, q_prt1, q_intR, q_slcL, q_slcT, q_zipL, q_zipT, q_allp, List.length_map, wipeE, List.map_cons, List.map_nil, List.length_cons, List.length_nil, List.replicate, List.cons_append, List.nil_append, List.getElem?_cons_zero, List.getElem?_cons_succ, List.set_cons_zero, List.set_cons_succ, Nat.reduceSub, Nat.reduceAdd, if_true, Bool.not_true, Bool.not_false, Bool.false_eq_true, if_false, reduceIte, setD, List.foldl_cons, List.foldl_nil, q_asgN, q_asgT, q_asgL, q_asgs0, q_asgsC, Option.bind_some, List.append_nil, is_integer_eq, is_list_eq, q_is2, w_int, i_int, w_lst, w_tup, l_lst, l_tup, l_int, Bool.true_and, Bool.false_and, Bool.and_true, Bool.and_false, *]
    · rw [if_neg c]
      have c := decide_eq_false c
      clear ih k hm hz hp h
      simp only [q_def, q_seq, q_ite, q_ret, q_set, q_drop, q_asg, q_for, q_for0, q_fc, q_frd_nx, q_frd_rt, q_frd_ct, q_frd_bk, q_turn, q_mkLst, q_mkTup, Nat.reduceLeDiff, q_and_bl, q_or_bl, q_c0, q_c1, q_c2, q_c3, q_c4, q_c5, q_c6, q_c9, q_c13, decide_true, decide_false, Int.reduceEq, Int.reduceLT, Int.reduceLE, Int.reduceAdd, Int.reduceSub, Int.reduceMul, Int.reduceNeg, Int.reducePow, Int.reduceToNat, Int.reduceBNe, Int.reduceNe, Nat.zero_le, q_get, q_cst, q_lift, q_un, q_with, q_av0, q_avC, q_callN, q_callKW, q_andD, q_orD, q_notD, q_fAnd, q_fOr, q_fNot, q_fTru, q_fBoo, q_ifD, q_isN, q_fIsN, q_fNotN, startD, q_bind, q_toS, q_rt, q_nx, q_thn_nx, q_thn_rt, q_okO, q_nxO, q_pure, q_none0, q_none1, q_none2, q_none3, q_none4, q_tru_bl, q_tru_int, q_tru_lst, q_tru_tup, q_tru_non, q_boo, q_seqL, q_seqT, q_lenL, q_lenT, q_eqI, q_neI, q_lt, q_le, q_gt, q_ge, q_add, q_addL, q_sub, q_neg, q_abs, q_int, q_intB, q_max, q_gcd, q_tupL, q_gL, q_gT, q_g0, q_g1, q_g2, q_lc, q_par, q_parO, q_whS, q_slc, q_prt0, q_prt1, q_intR, q_slcL, q_slcT, q_zipL, q_zipT, q_allp, List.length_map, wipeE, List.map_cons, List.map_nil, List.length_cons, List.length_nil, List.replicate, List.cons_append, List.nil_append, List.getElem?_cons_zero, List.getElem?_cons_succ, List.set_cons_zero, List.set_cons_succ, Nat.reduceSub, Nat.reduceAdd, if_true, Bool.not_true, Bool.not_false, Bool.false_eq_true, if_false, reduceIte, setD, List.foldl_cons, List.foldl_nil, q_asgN, q_asgT, q_asgL, q_asgs0, q_asgsC, Option.bind_some, List.append_nil, is_integer_eq, is_list_eq, q_is2, w_int, i_int, w_lst, w_tup, l_lst, l_tup, l_int, Bool.true_and, Bool.false_and, Bool.and_true, Bool.and_false, *]
theorem some_ok {w : Nat} {L : List It3} {d : D} (h : Row w L) (hn : L.length ≤ 1000) (h0 : L ≠ []) (hd : RowD L d) (s : Deck) : m_check_some [d] s = .ok .non s := by
  unfold m_check_some g_check_some
  have n := fun s => numbers_ok h hn hd s
  have l := fun s => hd.len s
  have z : decide ((L.length : Int) = 0) = false := decide_eq_false (fun q => h0 (List.length_eq_zero_iff.mp (by omega)))
  clear h hn h0 hd
  simp only [q_def, q_seq, q_ite, q_ret, q_set, q_drop, q_asg, q_for, q_for0, q_fc, q_frd_nx, q_frd_rt, q_frd_ct, q_frd_bk, q_turn, q_mkLst, q_mkTup, Nat.reduceLeDiff, q_and_bl, q_or_bl, q_c0, q_c1, q_c2, q_c3, q_c4, q_c5, q_c6, q_c9, q_c13, decide_true, decide_false, Int.reduceEq, Int.reduceLT, Int.reduceLE, Int.reduceAdd, Int.reduceSub, Int.reduceMul, Int.reduceNeg, Int.reducePow, Int.reduceToNat, Int.reduceBNe, Int.reduceNe, Nat.zero_le, q_get, q_cst, q_lift, q_un, q_with, q_av0, q_avC, q_callN, q_callKW, q_andD, q_orD, q_notD, q_fAnd, q_fOr, q_fNot, q_fTru, q_fBoo, q_ifD, q_isN, q_fIsN, q_fNotN, startD, q_bind, q_toS, q_rt, q_nx, q_thn_nx, q_thn_rt, q_okO, q_nxO, q_pure, q_none0, q_none1, q_none2, q_none3, q_none4, q_tru_bl, q_tru_int, q_tru_lst, q_tru_tup, q_tru_non, q_boo, q_seqL, q_seqT, q_lenL, q_lenT, q_eqI, q_neI, q_lt, q_le, q_gt, q_ge, q_add, q_addL, q_sub, q_neg, q_abs, q_int, q_intB, q_max, q_gcd, q_tupL, q_gL, q_gT, q_g0, q_g1, q_g2, q_lc, q_par, q_parO, q_whS, q_slc, q_prt0, q_prt1, q_intR, q_slcL, q_slcT, q_zipL, q_zipT, q_allp, List.length_map, wipeE, List.map_cons, List.map_nil, List.length_cons, List.length_nil, List.replicate, List.cons_append, List.nil_append, List.getElem?_cons_zero, List.getElem?_cons_succ, List.set_cons_zero, List.set_cons_succ, Nat.reduceSub, Nat.reduceAdd, if_true, Bool.not_true, Bool.not_false, Bool.false_eq_true, if_false, reduceIte, setD, List.foldl_cons, List.foldl_nil, q_asgN, q_asgT, q_asgL, q_asgs0, q_asgsC, Option.bind_some, List.append_nil, is_integer_eq, is_list_eq, q_is2, w_int, i_int, w_lst, w_tup, l_lst, l_tup, l_int, Bool.true_and, Bool.false_and, Bool.and_true, Bool.and_false, *]
theorem RowD.first {z : It3} {L : List It3} {d : D} (hd : RowD (z :: L) d) (s : Deck) : getM d (.int 0) s = .ok z.1 s := by
  rcases hd with rfl | rfl
  · rw [q_gL, List.map_cons, at0, q_pure]
  · rw [q_gT, List.map_cons, at0, q_pure]
theorem least_eq {w : Nat} {z : It3} {L : List It3} {d : D} (h : Row w (z :: L)) (hw : w + w < 7000) (hn : (z :: L).length ≤ 1000) (hd : RowD (z :: L) d) (s : Deck) : m_least [d] s = .ok (canD ((z :: L).foldl minS z).2.1 ((z :: L).foldl minS z).2.2) s := by
  unfold m_least g_least
  have c := fun s => some_ok h hn (by simp) hd s
  have f := fun s => hd.first s
  have q := fun s => hd.seq s
  obtain ⟨y2, lp, k⟩ := least_loop hw (some d) s (z :: L) z none h (h z (List.mem_cons_self ..))
  have fx := fun s => fixed_eq k.v s
  generalize (z :: L).foldl minS z = m at *
  generalize (z :: L).map (·.1) = W at *
  clear h hw hn hd k
  simp only [q_def, q_seq, q_ite, q_ret, q_set, q_drop, q_asg, q_for, q_for0, q_fc, q_frd_nx, q_frd_rt, q_frd_ct, q_frd_bk, q_turn, q_mkLst, q_mkTup, Nat.reduceLeDiff, q_and_bl, q_or_bl, q_c0, q_c1, q_c2, q_c3, q_c4, q_c5, q_c6, q_c9, q_c13, decide_true, decide_false, Int.reduceEq, Int.reduceLT, Int.reduceLE, Int.reduceAdd, Int.reduceSub, Int.reduceMul, Int.reduceNeg, Int.reducePow, Int.reduceToNat, Int.reduceBNe, Int.reduceNe, Nat.zero_le, q_get, q_cst, q_lift, q_un, q_with, q_av0, q_avC, q_callN, q_callKW, q_andD, q_orD, q_notD, q_fAnd, q_fOr, q_fNot, q_fTru, q_fBoo, q_ifD, q_isN, q_fIsN, q_fNotN, startD, q_bind, q_toS, q_rt, q_nx, q_thn_nx, q_thn_rt, q_okO, q_nxO, q_pure, q_none0, q_none1, q_none2, q_none3, q_none4, q_tru_bl, q_tru_int, q_tru_lst, q_tru_tup, q_tru_non, q_boo, q_seqL, q_seqT, q_lenL, q_lenT, q_eqI, q_neI, q_lt, q_le, q_gt, q_ge, q_add, q_addL, q_sub, q_neg, q_abs, q_int, q_intB, q_max, q_gcd, q_tupL, q_gL, q_gT, q_g0, q_g1, q_g2, q_lc, q_par, q_parO, q_whS, q_slc, q_prt0, q_prt1, q_intR, q_slcL, q_slcT, q_zipL, q_zipT, q_allp, List.length_map, wipeE, List.map_cons, List.map_nil, List.length_cons, List.length_nil, List.replicate, List.cons_append, List.nil_append, List.getElem?_cons_zero, List.getElem?_cons_succ, List.set_cons_zero, List.set_cons_succ, Nat.reduceSub, Nat.reduceAdd, if_true, Bool.not_true, Bool.not_false, Bool.false_eq_true, if_false, reduceIte, setD, List.foldl_cons, List.foldl_nil, q_asgN, q_asgT, q_asgL, q_asgs0, q_asgsC, Option.bind_some, List.append_nil, is_integer_eq, is_list_eq, q_is2, w_int, i_int, w_lst, w_tup, l_lst, l_tup, l_int, Bool.true_and, Bool.false_and, Bool.and_true, Bool.and_false, q_drop, *]
theorem great_eq {w : Nat} {z : It3} {L : List It3} {d : D} (h : Row w (z :: L)) (hw : w + w < 7000) (hn : (z :: L).length ≤ 1000) (hd : RowD (z :: L) d) (s : Deck) : m_greatest [d] s = .ok (canD ((z :: L).foldl maxS z).2.1 ((z :: L).foldl maxS z).2.2) s := by
  unfold m_greatest g_greatest
  have c := fun s => some_ok h hn (by simp) hd s
  have f := fun s => hd.first s
  have q := fun s => hd.seq s
  obtain ⟨y2, lp, k⟩ := great_loop hw (some d) s (z :: L) z none h (h z (List.mem_cons_self ..))
  have fx := fun s => fixed_eq k.v s
  generalize (z :: L).foldl maxS z = m at *
  generalize (z :: L).map (·.1) = W at *
  clear h hw hn hd k
  simp only [q_def, q_seq, q_ite, q_ret, q_set, q_drop, q_asg, q_for, q_for0, q_fc, q_frd_nx, q_frd_rt, q_frd_ct, q_frd_bk, q_turn, q_mkLst, q_mkTup, Nat.reduceLeDiff, q_and_bl, q_or_bl, q_c0, q_c1, q_c2, q_c3, q_c4, q_c5, q_c6, q_c9, q_c13, decide_true, decide_false, Int.reduceEq, Int.reduceLT, Int.reduceLE, Int.reduceAdd, Int.reduceSub, Int.reduceMul, Int.reduceNeg, Int.reducePow, Int.reduceToNat, Int.reduceBNe, Int.reduceNe, Nat.zero_le, q_get, q_cst, q_lift, q_un, q_with, q_av0, q_avC, q_callN, q_callKW, q_andD, q_orD, q_notD, q_fAnd, q_fOr, q_fNot, q_fTru, q_fBoo, q_ifD, q_isN, q_fIsN, q_fNotN, startD, q_bind, q_toS, q_rt, q_nx, q_thn_nx, q_thn_rt, q_okO, q_nxO, q_pure, q_none0, q_none1, q_none2, q_none3, q_none4, q_tru_bl, q_tru_int, q_tru_lst, q_tru_tup, q_tru_non, q_boo, q_seqL, q_seqT, q_lenL, q_lenT, q_eqI, q_neI, q_lt, q_le, q_gt, q_ge, q_add, q_addL, q_sub, q_neg, q_abs, q_int, q_intB, q_max, q_gcd, q_tupL, q_gL, q_gT, q_g0, q_g1, q_g2, q_lc, q_par, q_parO, q_whS, q_slc, q_prt0, q_prt1, q_intR, q_slcL, q_slcT, q_zipL, q_zipT, q_allp, List.length_map, wipeE, List.map_cons, List.map_nil, List.length_cons, List.length_nil, List.replicate, List.cons_append, List.nil_append, List.getElem?_cons_zero, List.getElem?_cons_succ, List.set_cons_zero, List.set_cons_succ, Nat.reduceSub, Nat.reduceAdd, if_true, Bool.not_true, Bool.not_false, Bool.false_eq_true, if_false, reduceIte, setD, List.foldl_cons, List.foldl_nil, q_asgN, q_asgT, q_asgL, q_asgs0, q_asgsC, Option.bind_some, List.append_nil, is_integer_eq, is_list_eq, q_is2, w_int, i_int, w_lst, w_tup, l_lst, l_tup, l_int, Bool.true_and, Bool.false_and, Bool.and_true, Bool.and_false, q_drop, *]
end K03

set_option exponentiation.threshold 10000
namespace K03
open PySem PySem.Builtin PySem.Builtin.Str L2 FL
def mulI (z y : It3) : It3 := (numD (z.2.1 * y.2.1) (z.2.2 * y.2.2), nfA (z.2.1 * y.2.1) (z.2.2 * y.2.2), nfB (z.2.1 * y.2.1) (z.2.2 * y.2.2))
def prodL (L M : List It3) : List It3 := List.zipWith mulI L M
theorem prod_row {w : Nat} : ∀ {L M : List It3}, Row w L → Row w M → Row (w + w) (prodL L M)
  | [], _, _, _ => fun z hz => by cases hz
  | _ :: _, [], _, _ => fun z hz => by cases hz
  | z :: L, y :: M, h, k => fun q hq => by
    have hz := h z (List.mem_cons_self ..)
    have hy := k y (List.mem_cons_self ..)
    rcases List.mem_cons.mp hq with rfl | hq
    · have := Int.mul_pos hz.v.pos hy.v.pos
      exact nm_numD (by omega) (hz.sa.mul hy.sa) (hz.sb.mul hy.sb)
    · exact prod_row (fun a ha => h a (List.mem_cons_of_mem _ ha)) (fun a ha => k a (List.mem_cons_of_mem _ ha)) q hq
theorem prod_comp {w : Nat} (hw : w + w < 7000) (x0 x1 : Option D) (s : Deck) : ∀ (L M : List It3), Row w L → Row w M →
    compD (elemD (.tp [.nm 3, .nm 4]) [2, 3, 4] yesT (withA (avC (getE 3) (avC (getE 4) av0)) (callN 2 m_multiplied)) [x0, x1, none, none, none]) (pairsZ (L.map (·.1)) (M.map (·.1))) s = .ok ((prodL L M).map (·.1)) s
  | [], _, _, _ => by simp [pairsZ, compD, prodL]
  | _ :: _, [], _, _ => by simp [pairsZ, compD, prodL]
  | z :: L, y :: M, h, k => by
    have hz := h z (List.mem_cons_self ..)
    have hy := k y (List.mem_cons_self ..)
    have mu := fun s => mult_eq hz.v hy.v hz.sa hz.sb hy.sa hy.sb hw s
    have ih := prod_comp hw x0 x1 s L M (fun a ha => h a (List.mem_cons_of_mem _ ha)) (fun a ha => k a (List.mem_cons_of_mem _ ha))
    have e : elemD (.tp [.nm 3, .nm 4]) [2, 3, 4] yesT (withA (avC (getE 3) (avC (getE 4) av0)) (callN 2 m_multiplied)) [x0, x1, none, none, none] (.tup [z.1, y.1]) s = .ok (some (mulI z y).1) s := by
      rw [q_elem (l := [(3, z.1), (4, y.1)]) rfl rfl]
      clear ih h k hz hy
      simp only [q_def, q_seq, q_ite, q_ret, q_set, q_drop, q_asg, q_for, q_for0, q_fc, q_frd_nx, q_frd_rt, q_frd_ct, q_frd_bk, q_turn, q_mkLst, q_mkTup, Nat.reduceLeDiff, q_and_bl, q_or_bl, q_c0, q_c1, q_c2, q_c3, q_c4, q_c5, q_c6, q_c9, q_c13, decide_true, decide_false, Int.reduceEq, Int.reduceLT, Int.reduceLE, Int.reduceAdd, Int.reduceSub, Int.reduceMul, Int.reduceNeg, Int.reducePow, Int.reduceToNat, Int.reduceBNe, Int.reduceNe, Nat.zero_le, q_get, q_cst, q_lift, q_un, q_with, q_av0, q_avC, q_callN, q_callKW, q_andD, q_orD, q_notD, q_fAnd, q_fOr, q_fNot, q_fTru, q_fBoo, q_ifD, q_isN, q_fIsN, q_fNotN, startD, q_bind, q_toS, q_rt, q_nx, q_thn_nx, q_thn_rt, q_okO, q_nxO, q_pure, q_none0, q_none1, q_none2, q_none3, q_none4, q_tru_bl, q_tru_int, q_tru_lst, q_tru_tup, q_tru_non, q_boo, q_seqL, q_seqT, q_lenL, q_lenT, q_eqI, q_neI, q_lt, q_le, q_gt, q_ge, q_add, q_addL, q_sub, q_neg, q_abs, q_int, q_intB, q_max, q_gcd, q_tupL, q_gL, q_gT, q_g0, q_g1, q_g2, q_lc, q_par, q_parO, q_whS, q_slc, q_prt0, q_prt1, q_intR, q_slcL, q_slcT, q_zipL, q_zipT, q_allp, List.length_map, wipeE, List.map_cons, List.map_nil, List.length_cons, List.length_nil, List.replicate, List.cons_append, List.nil_append, List.getElem?_cons_zero, List.getElem?_cons_succ, List.set_cons_zero, List.set_cons_succ, Nat.reduceSub, Nat.reduceAdd, if_true, Bool.not_true, Bool.not_false, Bool.false_eq_true, if_false, reduceIte, setD, List.foldl_cons, List.foldl_nil, q_asgN, q_asgT, q_asgL, q_asgs0, q_asgsC, Option.bind_some, List.append_nil, is_integer_eq, is_list_eq, q_is2, w_int, i_int, w_lst, w_tup, l_lst, l_tup, l_int, Bool.true_and, Bool.false_and, Bool.and_true, Bool.and_false, *]
      rfl
    show compD _ (.tup [z.1, y.1] :: pairsZ (L.map (·.1)) (M.map (·.1))) s = _
    unfold compD
    rw [e]
    simp only []
    rw [ih]
    rfl
theorem matched_eq {w : Nat} {L M : List It3} {d d' : D} (h : Row w L) (k : Row w M) (hl : L.length = M.length) (hn : L.length ≤ 6) (hw : w ≤ 300) (hd : RowD L d) (hd' : d' = .lst (M.map (·.1))) (s : Deck) :
    m_matched_sum [d, d'] s = .ok (numD (sumP (prodL L M) (0, 1)).1 (sumP (prodL L M) (0, 1)).2) s := by
  unfold m_matched_sum g_matched_sum
  have o2 := (k.okD (by omega)).1
  have zp : ∀ s : Deck, zipA [d, d'] s = .ok (pairsZ (L.map (·.1)) (M.map (·.1))) s := fun s => by
    subst hd'
    rcases hd with rfl | rfl <;> rfl
  have cm := fun (x0 x1 : Option D) (s : Deck) => prod_comp (by omega) x0 x1 s L M h k
  have pl : (prodL L M).length = L.length := by unfold prodL; rw [List.length_zipWith]; omega
  have sz : ((prodL L M).map (·.1)).length ≤ 16777216 := by rw [List.length_map]; omega
  have mk : ∀ s : Deck, mkLst ((prodL L M).map (·.1)) s = .ok (.lst ((prodL L M).map (·.1))) s := fun s => q_mkLst sz
  have ad := fun s => added_eq (w + w) (prodL L M) (prod_row h k).ok (by rw [pl]; have : (w + w + 1) * (L.length + 1) ≤ 601 * 7 := Nat.mul_le_mul (by omega) (by omega); omega) _ (.inl rfl) s
  generalize (prodL L M).map (·.1) = P at *
  generalize L.map (·.1) = W1 at *
  generalize M.map (·.1) = W2 at *
  clear h k hl hn hw hd hd' o2 pl sz
  simp only [q_def, q_seq, q_ite, q_ret, q_set, q_drop, q_asg, q_for, q_for0, q_fc, q_frd_nx, q_frd_rt, q_frd_ct, q_frd_bk, q_turn, q_mkLst, q_mkTup, Nat.reduceLeDiff, q_and_bl, q_or_bl, q_c0, q_c1, q_c2, q_c3, q_c4, q_c5, q_c6, q_c9, q_c13, decide_true, decide_false, Int.reduceEq, Int.reduceLT, Int.reduceLE, Int.reduceAdd, Int.reduceSub, Int.reduceMul, Int.reduceNeg, Int.reducePow, Int.reduceToNat, Int.reduceBNe, Int.reduceNe, Nat.zero_le, q_get, q_cst, q_lift, q_un, q_with, q_av0, q_avC, q_callN, q_callKW, q_andD, q_orD, q_notD, q_fAnd, q_fOr, q_fNot, q_fTru, q_fBoo, q_ifD, q_isN, q_fIsN, q_fNotN, startD, q_bind, q_toS, q_rt, q_nx, q_thn_nx, q_thn_rt, q_okO, q_nxO, q_pure, q_none0, q_none1, q_none2, q_none3, q_none4, q_tru_bl, q_tru_int, q_tru_lst, q_tru_tup, q_tru_non, q_boo, q_seqL, q_seqT, q_lenL, q_lenT, q_eqI, q_neI, q_lt, q_le, q_gt, q_ge, q_add, q_addL, q_sub, q_neg, q_abs, q_int, q_intB, q_max, q_gcd, q_tupL, q_gL, q_gT, q_g0, q_g1, q_g2, q_lc, q_par, q_parO, q_whS, q_slc, q_prt0, q_prt1, q_intR, q_slcL, q_slcT, q_zipL, q_zipT, q_allp, List.length_map, wipeE, List.map_cons, List.map_nil, List.length_cons, List.length_nil, List.replicate, List.cons_append, List.nil_append, List.getElem?_cons_zero, List.getElem?_cons_succ, List.set_cons_zero, List.set_cons_succ, Nat.reduceSub, Nat.reduceAdd, if_true, Bool.not_true, Bool.not_false, Bool.false_eq_true, if_false, reduceIte, setD, List.foldl_cons, List.foldl_nil, q_asgN, q_asgT, q_asgL, q_asgs0, q_asgsC, Option.bind_some, List.append_nil, is_integer_eq, is_list_eq, q_is2, w_int, i_int, w_lst, w_tup, l_lst, l_tup, l_int, Bool.true_and, Bool.false_and, Bool.and_true, Bool.and_false, *]
theorem prod_eq {w : Nat} {L M : List It3} {d d' : D} (h : Row w L) (k : Row w M) (hl : L.length = M.length) (hn : L.length ≤ 6) (hw : w ≤ 300) (hd : RowD L d) (hd' : d' = .lst (M.map (·.1))) (s : Deck) :
    m_product_sum [d, d'] s = .ok (numD (sumP (prodL L M) (0, 1)).1 (sumP (prodL L M) (0, 1)).2) s := by
  have ms := fun s => matched_eq h k hl hn hw hd hd' s
  unfold m_product_sum g_product_sum
  have n1 := fun s => numbers_ok h (by omega) hd s
  have ln := fun s => hd.len s
  have o2 := (k.okD (by omega)).1
  have rw' : ∀ s : Deck, m_is_row [d', .int (L.length : Int)] s = .ok (.bl true) s := fun s => by
    subst hd'
    rw [is_row_eq _ _ o2]
    unfold K03.row K03.lenD K03.nums
    rw [l_lst, i_lst, k.nums, List.length_map, hl, decide_eq_true rfl]; rfl
  generalize (sumP (prodL L M) (0, 1)).1 = A at *
  generalize (sumP (prodL L M) (0, 1)).2 = B at *
  clear h k hl hn hw hd hd' o2
  simp only [q_def, q_seq, q_ite, q_ret, q_set, q_drop, q_asg, q_for, q_for0, q_fc, q_frd_nx, q_frd_rt, q_frd_ct, q_frd_bk, q_turn, q_mkLst, q_mkTup, Nat.reduceLeDiff, q_and_bl, q_or_bl, q_c0, q_c1, q_c2, q_c3, q_c4, q_c5, q_c6, q_c9, q_c13, decide_true, decide_false, Int.reduceEq, Int.reduceLT, Int.reduceLE, Int.reduceAdd, Int.reduceSub, Int.reduceMul, Int.reduceNeg, Int.reducePow, Int.reduceToNat, Int.reduceBNe, Int.reduceNe, Nat.zero_le, q_get, q_cst, q_lift, q_un, q_with, q_av0, q_avC, q_callN, q_callKW, q_andD, q_orD, q_notD, q_fAnd, q_fOr, q_fNot, q_fTru, q_fBoo, q_ifD, q_isN, q_fIsN, q_fNotN, startD, q_bind, q_toS, q_rt, q_nx, q_thn_nx, q_thn_rt, q_okO, q_nxO, q_pure, q_none0, q_none1, q_none2, q_none3, q_none4, q_tru_bl, q_tru_int, q_tru_lst, q_tru_tup, q_tru_non, q_boo, q_seqL, q_seqT, q_lenL, q_lenT, q_eqI, q_neI, q_lt, q_le, q_gt, q_ge, q_add, q_addL, q_sub, q_neg, q_abs, q_int, q_intB, q_max, q_gcd, q_tupL, q_gL, q_gT, q_g0, q_g1, q_g2, q_lc, q_par, q_parO, q_whS, q_slc, q_prt0, q_prt1, q_intR, q_slcL, q_slcT, q_zipL, q_zipT, q_allp, List.length_map, wipeE, List.map_cons, List.map_nil, List.length_cons, List.length_nil, List.replicate, List.cons_append, List.nil_append, List.getElem?_cons_zero, List.getElem?_cons_succ, List.set_cons_zero, List.set_cons_succ, Nat.reduceSub, Nat.reduceAdd, if_true, Bool.not_true, Bool.not_false, Bool.false_eq_true, if_false, reduceIte, setD, List.foldl_cons, List.foldl_nil, q_asgN, q_asgT, q_asgL, q_asgs0, q_asgsC, Option.bind_some, List.append_nil, is_integer_eq, is_list_eq, q_is2, w_int, i_int, w_lst, w_tup, l_lst, l_tup, l_int, Bool.true_and, Bool.false_and, Bool.and_true, Bool.and_false, *]
/-! ### what is asked of a row -/
theorem q_perm1 {a : D} : permL .non [0] [a] = [a] := rfl
theorem q_perm2 {a b : D} : permL .non [1, 0] [a, b] = [b, a] := rfl
def fnR (way : Int) (x y : D) : M D := if way = 0 then m_least [x] else if way = 1 then m_greatest [x] else if way = 2 then m_sum_of [x] else m_product_sum [x, y]
theorem rt_ok {way : Int} (hw : 0 ≤ way ∧ way ≤ 3) {x y r : D} {s : Deck} (h : fnR way x y s = .ok r s) : m_law_row_told [.int way, x, y] s = .ok (.lst [r]) s := by
  have c : way = 0 ∨ way = 1 ∨ way = 2 ∨ way = 3 := by omega
  unfold m_law_row_told g_law_row_told
  rcases c with rfl | rfl | rfl | rfl
  · have h : m_least [x] s = .ok r s := h
    simp only [q_def, q_seq, q_ite, q_ret, q_set, q_drop, q_asg, q_for, q_for0, q_fc, q_frd_nx, q_frd_rt, q_frd_ct, q_frd_bk, q_turn, q_mkLst, q_mkTup, Nat.reduceLeDiff, q_and_bl, q_or_bl, q_c0, q_c1, q_c2, q_c3, q_c4, q_c5, q_c6, q_c9, q_c13, decide_true, decide_false, Int.reduceEq, Int.reduceLT, Int.reduceLE, Int.reduceAdd, Int.reduceSub, Int.reduceMul, Int.reduceNeg, Int.reducePow, Int.reduceToNat, Int.reduceBNe, Int.reduceNe, Nat.zero_le, q_get, q_cst, q_lift, q_un, q_with, q_av0, q_avC, q_callN, q_callKW, q_andD, q_orD, q_notD, q_fAnd, q_fOr, q_fNot, q_fTru, q_fBoo, q_ifD, q_isN, q_fIsN, q_fNotN, startD, q_bind, q_toS, q_rt, q_nx, q_thn_nx, q_thn_rt, q_okO, q_nxO, q_pure, q_none0, q_none1, q_none2, q_none3, q_none4, q_tru_bl, q_tru_int, q_tru_lst, q_tru_tup, q_tru_non, q_boo, q_seqL, q_seqT, q_lenL, q_lenT, q_eqI, q_neI, q_lt, q_le, q_gt, q_ge, q_add, q_addL, q_sub, q_neg, q_abs, q_int, q_intB, q_max, q_gcd, q_tupL, q_gL, q_gT, q_g0, q_g1, q_g2, q_lc, q_par, q_parO, q_whS, q_slc, q_prt0, q_prt1, q_intR, q_slcL, q_slcT, q_zipL, q_zipT, q_allp, List.length_map, wipeE, List.map_cons, List.map_nil, List.length_cons, List.length_nil, List.replicate, List.cons_append, List.nil_append, List.getElem?_cons_zero, List.getElem?_cons_succ, List.set_cons_zero, List.set_cons_succ, Nat.reduceSub, Nat.reduceAdd, if_true, Bool.not_true, Bool.not_false, Bool.false_eq_true, if_false, reduceIte, setD, List.foldl_cons, List.foldl_nil, q_asgN, q_asgT, q_asgL, q_asgs0, q_asgsC, Option.bind_some, List.append_nil, is_integer_eq, is_list_eq, q_is2, w_int, i_int, w_lst, w_tup, l_lst, l_tup, l_int, Bool.true_and, Bool.false_and, Bool.and_true, Bool.and_false, q_try, q_try_nx, q_perm1, q_perm2, *]
  · have h : m_greatest [x] s = .ok r s := h
    simp only [q_def, q_seq, q_ite, q_ret, q_set, q_drop, q_asg, q_for, q_for0, q_fc, q_frd_nx, q_frd_rt, q_frd_ct, q_frd_bk, q_turn, q_mkLst, q_mkTup, Nat.reduceLeDiff, q_and_bl, q_or_bl, q_c0, q_c1, q_c2, q_c3, q_c4, q_c5, q_c6, q_c9, q_c13, decide_true, decide_false, Int.reduceEq, Int.reduceLT, Int.reduceLE, Int.reduceAdd, Int.reduceSub, Int.reduceMul, Int.reduceNeg, Int.reducePow, Int.reduceToNat, Int.reduceBNe, Int.reduceNe, Nat.zero_le, q_get, q_cst, q_lift, q_un, q_with, q_av0, q_avC, q_callN, q_callKW, q_andD, q_orD, q_notD, q_fAnd, q_fOr, q_fNot, q_fTru, q_fBoo, q_ifD, q_isN, q_fIsN, q_fNotN, startD, q_bind, q_toS, q_rt, q_nx, q_thn_nx, q_thn_rt, q_okO, q_nxO, q_pure, q_none0, q_none1, q_none2, q_none3, q_none4, q_tru_bl, q_tru_int, q_tru_lst, q_tru_tup, q_tru_non, q_boo, q_seqL, q_seqT, q_lenL, q_lenT, q_eqI, q_neI, q_lt, q_le, q_gt, q_ge, q_add, q_addL, q_sub, q_neg, q_abs, q_int, q_intB, q_max, q_gcd, q_tupL, q_gL, q_gT, q_g0, q_g1, q_g2, q_lc, q_par, q_parO, q_whS, q_slc, q_prt0, q_prt1, q_intR, q_slcL, q_slcT, q_zipL, q_zipT, q_allp, List.length_map, wipeE, List.map_cons, List.map_nil, List.length_cons, List.length_nil, List.replicate, List.cons_append, List.nil_append, List.getElem?_cons_zero, List.getElem?_cons_succ, List.set_cons_zero, List.set_cons_succ, Nat.reduceSub, Nat.reduceAdd, if_true, Bool.not_true, Bool.not_false, Bool.false_eq_true, if_false, reduceIte, setD, List.foldl_cons, List.foldl_nil, q_asgN, q_asgT, q_asgL, q_asgs0, q_asgsC, Option.bind_some, List.append_nil, is_integer_eq, is_list_eq, q_is2, w_int, i_int, w_lst, w_tup, l_lst, l_tup, l_int, Bool.true_and, Bool.false_and, Bool.and_true, Bool.and_false, q_try, q_try_nx, q_perm1, q_perm2, *]
  · have h : m_sum_of [x] s = .ok r s := h
    simp only [q_def, q_seq, q_ite, q_ret, q_set, q_drop, q_asg, q_for, q_for0, q_fc, q_frd_nx, q_frd_rt, q_frd_ct, q_frd_bk, q_turn, q_mkLst, q_mkTup, Nat.reduceLeDiff, q_and_bl, q_or_bl, q_c0, q_c1, q_c2, q_c3, q_c4, q_c5, q_c6, q_c9, q_c13, decide_true, decide_false, Int.reduceEq, Int.reduceLT, Int.reduceLE, Int.reduceAdd, Int.reduceSub, Int.reduceMul, Int.reduceNeg, Int.reducePow, Int.reduceToNat, Int.reduceBNe, Int.reduceNe, Nat.zero_le, q_get, q_cst, q_lift, q_un, q_with, q_av0, q_avC, q_callN, q_callKW, q_andD, q_orD, q_notD, q_fAnd, q_fOr, q_fNot, q_fTru, q_fBoo, q_ifD, q_isN, q_fIsN, q_fNotN, startD, q_bind, q_toS, q_rt, q_nx, q_thn_nx, q_thn_rt, q_okO, q_nxO, q_pure, q_none0, q_none1, q_none2, q_none3, q_none4, q_tru_bl, q_tru_int, q_tru_lst, q_tru_tup, q_tru_non, q_boo, q_seqL, q_seqT, q_lenL, q_lenT, q_eqI, q_neI, q_lt, q_le, q_gt, q_ge, q_add, q_addL, q_sub, q_neg, q_abs, q_int, q_intB, q_max, q_gcd, q_tupL, q_gL, q_gT, q_g0, q_g1, q_g2, q_lc, q_par, q_parO, q_whS, q_slc, q_prt0, q_prt1, q_intR, q_slcL, q_slcT, q_zipL, q_zipT, q_allp, List.length_map, wipeE, List.map_cons, List.map_nil, List.length_cons, List.length_nil, List.replicate, List.cons_append, List.nil_append, List.getElem?_cons_zero, List.getElem?_cons_succ, List.set_cons_zero, List.set_cons_succ, Nat.reduceSub, Nat.reduceAdd, if_true, Bool.not_true, Bool.not_false, Bool.false_eq_true, if_false, reduceIte, setD, List.foldl_cons, List.foldl_nil, q_asgN, q_asgT, q_asgL, q_asgs0, q_asgsC, Option.bind_some, List.append_nil, is_integer_eq, is_list_eq, q_is2, w_int, i_int, w_lst, w_tup, l_lst, l_tup, l_int, Bool.true_and, Bool.false_and, Bool.and_true, Bool.and_false, q_try, q_try_nx, q_perm1, q_perm2, *]
  · have h : m_product_sum [x, y] s = .ok r s := h
    simp only [q_def, q_seq, q_ite, q_ret, q_set, q_drop, q_asg, q_for, q_for0, q_fc, q_frd_nx, q_frd_rt, q_frd_ct, q_frd_bk, q_turn, q_mkLst, q_mkTup, Nat.reduceLeDiff, q_and_bl, q_or_bl, q_c0, q_c1, q_c2, q_c3, q_c4, q_c5, q_c6, q_c9, q_c13, decide_true, decide_false, Int.reduceEq, Int.reduceLT, Int.reduceLE, Int.reduceAdd, Int.reduceSub, Int.reduceMul, Int.reduceNeg, Int.reducePow, Int.reduceToNat, Int.reduceBNe, Int.reduceNe, Nat.zero_le, q_get, q_cst, q_lift, q_un, q_with, q_av0, q_avC, q_callN, q_callKW, q_andD, q_orD, q_notD, q_fAnd, q_fOr, q_fNot, q_fTru, q_fBoo, q_ifD, q_isN, q_fIsN, q_fNotN, startD, q_bind, q_toS, q_rt, q_nx, q_thn_nx, q_thn_rt, q_okO, q_nxO, q_pure, q_none0, q_none1, q_none2, q_none3, q_none4, q_tru_bl, q_tru_int, q_tru_lst, q_tru_tup, q_tru_non, q_boo, q_seqL, q_seqT, q_lenL, q_lenT, q_eqI, q_neI, q_lt, q_le, q_gt, q_ge, q_add, q_addL, q_sub, q_neg, q_abs, q_int, q_intB, q_max, q_gcd, q_tupL, q_gL, q_gT, q_g0, q_g1, q_g2, q_lc, q_par, q_parO, q_whS, q_slc, q_prt0, q_prt1, q_intR, q_slcL, q_slcT, q_zipL, q_zipT, q_allp, List.length_map, wipeE, List.map_cons, List.map_nil, List.length_cons, List.length_nil, List.replicate, List.cons_append, List.nil_append, List.getElem?_cons_zero, List.getElem?_cons_succ, List.set_cons_zero, List.set_cons_succ, Nat.reduceSub, Nat.reduceAdd, if_true, Bool.not_true, Bool.not_false, Bool.false_eq_true, if_false, reduceIte, setD, List.foldl_cons, List.foldl_nil, q_asgN, q_asgT, q_asgL, q_asgs0, q_asgsC, Option.bind_some, List.append_nil, is_integer_eq, is_list_eq, q_is2, w_int, i_int, w_lst, w_tup, l_lst, l_tup, l_int, Bool.true_and, Bool.false_and, Bool.and_true, Bool.and_false, q_try, q_try_nx, q_perm1, q_perm2, *]
theorem rt_bn {way : Int} (hw : 0 ≤ way ∧ way ≤ 3) {x y : D} {p : Str} {s : Deck} (h : fnR way x y s = .raise (bn p) s) : m_law_row_told [.int way, x, y] s = .ok (.tup [.str "BadNumber", .str p]) s := by
  have c : way = 0 ∨ way = 1 ∨ way = 2 ∨ way = 3 := by omega
  have ca : ∀ (r : List (Str × Nat × HS)) (g : HS) (δ : DEnv) (s : Deck), 4 < δ.length → catchS tbl (("BadNumber", 4, g) :: r) (bn p) δ s = unS 4 (g (bn p) (δ.set 4 none) s) := fun r g δ s hl => q_catch tblB hl
  have f1 : ∀ (δ : DEnv) (s : Deck), fldH "BadNumber" "part" (bn p) δ s = .ok (.str p) s := fun δ s => q_fld rfl
  unfold m_law_row_told g_law_row_told
  rcases c with rfl | rfl | rfl | rfl
  · have h : m_least [x] s = .raise (bn p) s := h
    simp only [q_def, q_seq, q_ite, q_ret, q_set, q_drop, q_asg, q_for, q_for0, q_fc, q_frd_nx, q_frd_rt, q_frd_ct, q_frd_bk, q_turn, q_mkLst, q_mkTup, Nat.reduceLeDiff, q_and_bl, q_or_bl, q_c0, q_c1, q_c2, q_c3, q_c4, q_c5, q_c6, q_c9, q_c13, decide_true, decide_false, Int.reduceEq, Int.reduceLT, Int.reduceLE, Int.reduceAdd, Int.reduceSub, Int.reduceMul, Int.reduceNeg, Int.reducePow, Int.reduceToNat, Int.reduceBNe, Int.reduceNe, Nat.zero_le, q_get, q_cst, q_lift, q_un, q_with, q_av0, q_avC, q_callN, q_callKW, q_andD, q_orD, q_notD, q_fAnd, q_fOr, q_fNot, q_fTru, q_fBoo, q_ifD, q_isN, q_fIsN, q_fNotN, startD, q_bind, q_toS, q_rt, q_nx, q_thn_nx, q_thn_rt, q_okO, q_nxO, q_pure, q_none0, q_none1, q_none2, q_none3, q_none4, q_tru_bl, q_tru_int, q_tru_lst, q_tru_tup, q_tru_non, q_boo, q_seqL, q_seqT, q_lenL, q_lenT, q_eqI, q_neI, q_lt, q_le, q_gt, q_ge, q_add, q_addL, q_sub, q_neg, q_abs, q_int, q_intB, q_max, q_gcd, q_tupL, q_gL, q_gT, q_g0, q_g1, q_g2, q_lc, q_par, q_parO, q_whS, q_slc, q_prt0, q_prt1, q_intR, q_slcL, q_slcT, q_zipL, q_zipT, q_allp, List.length_map, wipeE, List.map_cons, List.map_nil, List.length_cons, List.length_nil, List.replicate, List.cons_append, List.nil_append, List.getElem?_cons_zero, List.getElem?_cons_succ, List.set_cons_zero, List.set_cons_succ, Nat.reduceSub, Nat.reduceAdd, if_true, Bool.not_true, Bool.not_false, Bool.false_eq_true, if_false, reduceIte, setD, List.foldl_cons, List.foldl_nil, q_asgN, q_asgT, q_asgL, q_asgs0, q_asgsC, Option.bind_some, List.append_nil, is_integer_eq, is_list_eq, q_is2, w_int, i_int, w_lst, w_tup, l_lst, l_tup, l_int, Bool.true_and, Bool.false_and, Bool.and_true, Bool.and_false, q_try, q_try_raise, q_braise, q_toS_raise, q_un_nx, Nat.reduceLT, q_perm1, q_perm2, *]
  · have h : m_greatest [x] s = .raise (bn p) s := h
    simp only [q_def, q_seq, q_ite, q_ret, q_set, q_drop, q_asg, q_for, q_for0, q_fc, q_frd_nx, q_frd_rt, q_frd_ct, q_frd_bk, q_turn, q_mkLst, q_mkTup, Nat.reduceLeDiff, q_and_bl, q_or_bl, q_c0, q_c1, q_c2, q_c3, q_c4, q_c5, q_c6, q_c9, q_c13, decide_true, decide_false, Int.reduceEq, Int.reduceLT, Int.reduceLE, Int.reduceAdd, Int.reduceSub, Int.reduceMul, Int.reduceNeg, Int.reducePow, Int.reduceToNat, Int.reduceBNe, Int.reduceNe, Nat.zero_le, q_get, q_cst, q_lift, q_un, q_with, q_av0, q_avC, q_callN, q_callKW, q_andD, q_orD, q_notD, q_fAnd, q_fOr, q_fNot, q_fTru, q_fBoo, q_ifD, q_isN, q_fIsN, q_fNotN, startD, q_bind, q_toS, q_rt, q_nx, q_thn_nx, q_thn_rt, q_okO, q_nxO, q_pure, q_none0, q_none1, q_none2, q_none3, q_none4, q_tru_bl, q_tru_int, q_tru_lst, q_tru_tup, q_tru_non, q_boo, q_seqL, q_seqT, q_lenL, q_lenT, q_eqI, q_neI, q_lt, q_le, q_gt, q_ge, q_add, q_addL, q_sub, q_neg, q_abs, q_int, q_intB, q_max, q_gcd, q_tupL, q_gL, q_gT, q_g0, q_g1, q_g2, q_lc, q_par, q_parO, q_whS, q_slc, q_prt0, q_prt1, q_intR, q_slcL, q_slcT, q_zipL, q_zipT, q_allp, List.length_map, wipeE, List.map_cons, List.map_nil, List.length_cons, List.length_nil, List.replicate, List.cons_append, List.nil_append, List.getElem?_cons_zero, List.getElem?_cons_succ, List.set_cons_zero, List.set_cons_succ, Nat.reduceSub, Nat.reduceAdd, if_true, Bool.not_true, Bool.not_false, Bool.false_eq_true, if_false, reduceIte, setD, List.foldl_cons, List.foldl_nil, q_asgN, q_asgT, q_asgL, q_asgs0, q_asgsC, Option.bind_some, List.append_nil, is_integer_eq, is_list_eq, q_is2, w_int, i_int, w_lst, w_tup, l_lst, l_tup, l_int, Bool.true_and, Bool.false_and, Bool.and_true, Bool.and_false, q_try, q_try_raise, q_braise, q_toS_raise, q_un_nx, Nat.reduceLT, q_perm1, q_perm2, *]
  · have h : m_sum_of [x] s = .raise (bn p) s := h
    simp only [q_def, q_seq, q_ite, q_ret, q_set, q_drop, q_asg, q_for, q_for0, q_fc, q_frd_nx, q_frd_rt, q_frd_ct, q_frd_bk, q_turn, q_mkLst, q_mkTup, Nat.reduceLeDiff, q_and_bl, q_or_bl, q_c0, q_c1, q_c2, q_c3, q_c4, q_c5, q_c6, q_c9, q_c13, decide_true, decide_false, Int.reduceEq, Int.reduceLT, Int.reduceLE, Int.reduceAdd, Int.reduceSub, Int.reduceMul, Int.reduceNeg, Int.reducePow, Int.reduceToNat, Int.reduceBNe, Int.reduceNe, Nat.zero_le, q_get, q_cst, q_lift, q_un, q_with, q_av0, q_avC, q_callN, q_callKW, q_andD, q_orD, q_notD, q_fAnd, q_fOr, q_fNot, q_fTru, q_fBoo, q_ifD, q_isN, q_fIsN, q_fNotN, startD, q_bind, q_toS, q_rt, q_nx, q_thn_nx, q_thn_rt, q_okO, q_nxO, q_pure, q_none0, q_none1, q_none2, q_none3, q_none4, q_tru_bl, q_tru_int, q_tru_lst, q_tru_tup, q_tru_non, q_boo, q_seqL, q_seqT, q_lenL, q_lenT, q_eqI, q_neI, q_lt, q_le, q_gt, q_ge, q_add, q_addL, q_sub, q_neg, q_abs, q_int, q_intB, q_max, q_gcd, q_tupL, q_gL, q_gT, q_g0, q_g1, q_g2, q_lc, q_par, q_parO, q_whS, q_slc, q_prt0, q_prt1, q_intR, q_slcL, q_slcT, q_zipL, q_zipT, q_allp, List.length_map, wipeE, List.map_cons, List.map_nil, List.length_cons, List.length_nil, List.replicate, List.cons_append, List.nil_append, List.getElem?_cons_zero, List.getElem?_cons_succ, List.set_cons_zero, List.set_cons_succ, Nat.reduceSub, Nat.reduceAdd, if_true, Bool.not_true, Bool.not_false, Bool.false_eq_true, if_false, reduceIte, setD, List.foldl_cons, List.foldl_nil, q_asgN, q_asgT, q_asgL, q_asgs0, q_asgsC, Option.bind_some, List.append_nil, is_integer_eq, is_list_eq, q_is2, w_int, i_int, w_lst, w_tup, l_lst, l_tup, l_int, Bool.true_and, Bool.false_and, Bool.and_true, Bool.and_false, q_try, q_try_raise, q_braise, q_toS_raise, q_un_nx, Nat.reduceLT, q_perm1, q_perm2, *]
  · have h : m_product_sum [x, y] s = .raise (bn p) s := h
    simp only [q_def, q_seq, q_ite, q_ret, q_set, q_drop, q_asg, q_for, q_for0, q_fc, q_frd_nx, q_frd_rt, q_frd_ct, q_frd_bk, q_turn, q_mkLst, q_mkTup, Nat.reduceLeDiff, q_and_bl, q_or_bl, q_c0, q_c1, q_c2, q_c3, q_c4, q_c5, q_c6, q_c9, q_c13, decide_true, decide_false, Int.reduceEq, Int.reduceLT, Int.reduceLE, Int.reduceAdd, Int.reduceSub, Int.reduceMul, Int.reduceNeg, Int.reducePow, Int.reduceToNat, Int.reduceBNe, Int.reduceNe, Nat.zero_le, q_get, q_cst, q_lift, q_un, q_with, q_av0, q_avC, q_callN, q_callKW, q_andD, q_orD, q_notD, q_fAnd, q_fOr, q_fNot, q_fTru, q_fBoo, q_ifD, q_isN, q_fIsN, q_fNotN, startD, q_bind, q_toS, q_rt, q_nx, q_thn_nx, q_thn_rt, q_okO, q_nxO, q_pure, q_none0, q_none1, q_none2, q_none3, q_none4, q_tru_bl, q_tru_int, q_tru_lst, q_tru_tup, q_tru_non, q_boo, q_seqL, q_seqT, q_lenL, q_lenT, q_eqI, q_neI, q_lt, q_le, q_gt, q_ge, q_add, q_addL, q_sub, q_neg, q_abs, q_int, q_intB, q_max, q_gcd, q_tupL, q_gL, q_gT, q_g0, q_g1, q_g2, q_lc, q_par, q_parO, q_whS, q_slc, q_prt0, q_prt1, q_intR, q_slcL, q_slcT, q_zipL, q_zipT, q_allp, List.length_map, wipeE, List.map_cons, List.map_nil, List.length_cons, List.length_nil, List.replicate, List.cons_append, List.nil_append, List.getElem?_cons_zero, List.getElem?_cons_succ, List.set_cons_zero, List.set_cons_succ, Nat.reduceSub, Nat.reduceAdd, if_true, Bool.not_true, Bool.not_false, Bool.false_eq_true, if_false, reduceIte, setD, List.foldl_cons, List.foldl_nil, q_asgN, q_asgT, q_asgL, q_asgs0, q_asgsC, Option.bind_some, List.append_nil, is_integer_eq, is_list_eq, q_is2, w_int, i_int, w_lst, w_tup, l_lst, l_tup, l_int, Bool.true_and, Bool.false_and, Bool.and_true, Bool.and_false, q_try, q_try_raise, q_braise, q_toS_raise, q_un_nx, Nat.reduceLT, q_perm1, q_perm2, *]
end K03

set_option exponentiation.threshold 10000
namespace K03
open PySem PySem.Builtin PySem.Builtin.Str L2 FL
/-! ### rows as data -/
def pyN : It3 → D → PyData
  | (_, a, b), d => match d with
    | .int _ => .int a
    | .lst _ => .list [.int a, .int b]
    | _ => .tuple [.int a, .int b]
def datN (z : It3) : PyData := pyN z z.1
theorem py_nv {z : It3} (h : NV z.1 z.2.1 z.2.2) : py z.1 = some (datN z) := by
  obtain ⟨d, a, b⟩ := z
  have h : NV d a b := h
  cases h <;> rfl
theorem pys_row : ∀ {L : List It3}, (∀ z ∈ L, NV z.1 z.2.1 z.2.2) → pys (L.map (·.1)) = some (L.map datN)
  | [], _ => rfl
  | z :: L, h => by
    have h1 := py_nv (h z (List.mem_cons_self ..))
    have h2 := pys_row fun y hy => h y (List.mem_cons_of_mem _ hy)
    simp only [List.map_cons, pys, h1, h2, Option.bind_some, Option.map_some]
theorem lay_n (z : It3) : (datN z).canLay0 = true := by
  obtain ⟨d, a, b⟩ := z
  cases d <;> rfl
theorem deep_n (z : It3) : (datN z).depth ≤ 1 := by
  obtain ⟨d, a, b⟩ := z
  cases d <;> simp [datN, pyN, PyData.depth, PyData.depthAll]
theorem lay_row : ∀ L : List It3, PyData.canLayAll0 (L.map datN) = true
  | [] => rfl
  | z :: L => by simp only [List.map_cons, PyData.canLayAll0, lay_n, lay_row L, Bool.and_self]
theorem deep_row : ∀ L : List It3, PyData.depthAll (L.map datN) ≤ 1
  | [] => by simp [PyData.depthAll]
  | z :: L => by
    have := deep_n z
    have := deep_row L
    simp only [List.map_cons, PyData.depthAll]
    omega
theorem ne_nil {w : Nat} {L : List It3} (h : Row w L) (s : Deck) : neM (.lst (L.map (·.1))) (.lst []) s = .ok (.bl (!L.isEmpty)) s := by
  have hp : py (.lst (L.map (·.1))) = some (.list (L.map datN)) := by
    show (pys (L.map (·.1))).map _ = _
    rw [pys_row fun z hz => (h z hz).v]
    rfl
  have h1 : SeqAt.shaped (PyData.list (L.map datN)) = true := by
    unfold SeqAt.shaped
    simp only [PyData.canLay0, PyData.depth, lay_row, Bool.true_and]
    exact decide_eq_true (Nat.le_trans (Nat.add_le_add_right (deep_row L) 1) (by decide))
  have h2 : SeqAt.shaped (PyData.list []) = true := rfl
  unfold neM eqO
  simp only [hp, h1, show py (.lst []) = some (.list []) from rfl, h2, if_true, Option.map_some]
  cases L with
  | nil => rfl
  | cons z L => rfl
/-! ### repr of rows -/
theorem lo_from {n : Nat} : ∀ (ts : List Str) (k : Nat) (acc : Str) (m : Nat), (∀ t ∈ ts, Lo n t) → Lo m acc → Lo (m + (n + 2) * ts.length) (textFrom k acc ts)
  | [], k, acc, m, _, h => by
    show Lo (m + (n + 2) * 0) acc
    simpa using h
  | t :: ts, k, acc, m, hts, h => by
    have ht := hts t (List.mem_cons_self ..)
    have sep : Lo 2 ((if k > 0 then ", " else "" : String) : Str) := by
      split
      · exact lo_lit (by decide +kernel)
      · exact lo_lit (by decide +kernel)
    have := lo_from ts (k + 1) (acc ++ (if k > 0 then ", " else "" : String) ++ t) (m + 2 + n) (fun q hq => hts q (List.mem_cons_of_mem _ hq)) ((h.app sep).app ht)
    refine Lo.mono this ?_
    rw [List.length_cons, Nat.mul_succ]
    omega
theorem lo_listN {n : Nat} {ts : List Str} (h : ∀ t ∈ ts, Lo n t) : Lo (2 + (n + 2) * ts.length) (listText ts) := by
  show Lo _ (textFrom 0 "[" ts ++ ("]" : Str))
  exact ((lo_from ts 0 "[" 1 h (lo_lit (by decide +kernel))).app (lo_lit (n := 1) (by decide +kernel))).mono (by omega)
theorem lo_n {z : It3} (h : NV z.1 z.2.1 z.2.2) (ha : Sz 1900 z.2.1) (hb : Sz 1900 z.2.2) : Lo 1300 (datN z).shown := by
  obtain ⟨d, a, b⟩ := z
  have h : NV d a b := h
  cases h with
  | int a => exact (lo_int ha).mono (by decide)
  | tup h2 =>
    show Lo _ ((("(" : Str) ++ ((toString a : Str) ++ (", " : Str) ++ (toString b : Str))) ++ ((")" : String) : Str))
    exact (((lo_lit (n := 1) (by decide +kernel)).app (((lo_int ha).app (lo_lit (n := 2) (by decide +kernel))).app (lo_int hb))).app (lo_lit (n := 1) (by decide +kernel))).mono (by decide)
  | lst h2 => exact (lo_list2 (lo_int ha) (lo_int hb)).mono (by decide)
theorem show_n {z : It3} (h : NV z.1 z.2.1 z.2.2) (ha : Sz 1900 z.2.1) (hb : Sz 1900 z.2.2) : (datN z).showable = true := by
  obtain ⟨d, a, b⟩ := z
  have h1 := showable_int ha
  have h2 := showable_int hb
  simp only [PyData.showable] at h1 h2
  have h : NV d a b := h
  cases h with
  | int a => simp only [datN, pyN, PyData.showable]; exact h1
  | tup h2' => simp only [datN, pyN, PyData.showable, PyData.showableAll, h1, h2]; rfl
  | lst h2' => simp only [datN, pyN, PyData.showable, PyData.showableAll, h1, h2]; rfl
theorem shown_all : ∀ L : List It3, PyData.shownAll (L.map datN) = L.map fun z => (datN z).shown
  | [] => rfl
  | z :: L => by simp only [List.map_cons, PyData.shownAll, shown_all L]
theorem show_all {L : List It3} (h : ∀ z ∈ L, NV z.1 z.2.1 z.2.2 ∧ Sz 1900 z.2.1 ∧ Sz 1900 z.2.2) : PyData.showableAll (L.map datN) = true := by
  induction L with
  | nil => rfl
  | cons z L ih =>
    obtain ⟨a, b, c⟩ := h z (List.mem_cons_self ..)
    simp only [List.map_cons, PyData.showableAll, show_n a b c, ih fun y hy => h y (List.mem_cons_of_mem _ hy), Bool.and_self]
theorem shows_kept {w : Nat} (hw : w ≤ 1900) {L M : List It3} (h : Row w L) (k : Row w M) (hl : L.length ≤ 6) (hm : M.length ≤ 6) : Shows (.lst [.lst (L.map (·.1)), .lst (M.map (·.1))]) := by
  have f : ∀ {N : List It3}, Row w N → ∀ z ∈ N, NV z.1 z.2.1 z.2.2 ∧ Sz 1900 z.2.1 ∧ Sz 1900 z.2.2 := fun hN z hz => ⟨(hN z hz).v, (hN z hz).sa.mono hw, (hN z hz).sb.mono hw⟩
  have lo : ∀ {N : List It3}, Row w N → N.length ≤ 6 → Lo 8000 (PyData.list (N.map datN)).shown := fun {N} hN hn => by
    show Lo _ (listText (PyData.shownAll (N.map datN)))
    rw [shown_all]
    refine (lo_listN (n := 1300) fun t ht => ?_).mono ?_
    · obtain ⟨z, hz, rfl⟩ := List.mem_map.mp ht
      obtain ⟨a, b, c⟩ := f hN z hz
      exact lo_n a b c
    · rw [List.length_map]
      omega
  refine shows_of (p := .list [.list (L.map datN), .list (M.map datN)]) ?_ rfl ?_ ?_ ?_ (n := 20000) (by decide) ?_
  · show (pys [.lst (L.map (·.1)), .lst (M.map (·.1))]).map _ = _
    simp only [pys, py, pys_row fun z hz => (h z hz).v, pys_row fun z hz => (k z hz).v, Option.map_some, Option.bind_some]
  · simp only [PyData.canLay0, PyData.canLayAll0, lay_row, Bool.and_self]
  · simp only [PyData.showable, PyData.showableAll, show_all (f h), show_all (f k), Bool.and_self]
  · have := deep_row L
    have := deep_row M
    simp only [PyData.depth, PyData.depthAll]
    omega
  · exact (lo_list2 (lo h hl) (lo k hm)).mono (by decide)
end K03

set_option exponentiation.threshold 10000
namespace K03
open PySem PySem.Builtin PySem.Builtin.Str L2 FL
/-! ### rows that are none -/
theorem least_no {d : D} (h : okD d = true) (n : nums d = false) (s : Deck) : m_least [d] s = .raise (bn "values") s := by
  have e := fun s => is_numbers_eq d h s
  rw [n] at e
  have c : ∀ s : Deck, m_check_some [d] s = .raise (bn "values") s := fun s => by
    unfold m_check_some g_check_some
    clear h n
    simp only [q_def, q_seq, q_ite, q_ret, q_set, q_drop, q_asg, q_for, q_for0, q_fc, q_frd_nx, q_frd_rt, q_frd_ct, q_frd_bk, q_turn, q_mkLst, q_mkTup, Nat.reduceLeDiff, q_and_bl, q_or_bl, q_c0, q_c1, q_c2, q_c3, q_c4, q_c5, q_c6, q_c9, q_c13, decide_true, decide_false, Int.reduceEq, Int.reduceLT, Int.reduceLE, Int.reduceAdd, Int.reduceSub, Int.reduceMul, Int.reduceNeg, Int.reducePow, Int.reduceToNat, Int.reduceBNe, Int.reduceNe, Nat.zero_le, q_get, q_cst, q_lift, q_un, q_with, q_av0, q_avC, q_callN, q_callKW, q_andD, q_orD, q_notD, q_fAnd, q_fOr, q_fNot, q_fTru, q_fBoo, q_ifD, q_isN, q_fIsN, q_fNotN, startD, q_bind, q_toS, q_rt, q_nx, q_thn_nx, q_thn_rt, q_okO, q_nxO, q_pure, q_none0, q_none1, q_none2, q_none3, q_none4, q_tru_bl, q_tru_int, q_tru_lst, q_tru_tup, q_tru_non, q_boo, q_seqL, q_seqT, q_lenL, q_lenT, q_eqI, q_neI, q_lt, q_le, q_gt, q_ge, q_add, q_addL, q_sub, q_neg, q_abs, q_int, q_intB, q_max, q_gcd, q_tupL, q_gL, q_gT, q_g0, q_g1, q_g2, q_lc, q_par, q_parO, q_whS, q_slc, q_prt0, q_prt1, q_intR, q_slcL, q_slcT, q_zipL, q_zipT, q_allp, List.length_map, wipeE, List.map_cons, List.map_nil, List.length_cons, List.length_nil, List.replicate, List.cons_append, List.nil_append, List.getElem?_cons_zero, List.getElem?_cons_succ, List.set_cons_zero, List.set_cons_succ, Nat.reduceSub, Nat.reduceAdd, if_true, Bool.not_true, Bool.not_false, Bool.false_eq_true, if_false, reduceIte, setD, List.foldl_cons, List.foldl_nil, q_asgN, q_asgT, q_asgL, q_asgs0, q_asgsC, Option.bind_some, List.append_nil, is_integer_eq, is_list_eq, q_is2, w_int, i_int, w_lst, w_tup, l_lst, l_tup, l_int, Bool.true_and, Bool.false_and, Bool.and_true, Bool.and_false, q_rs, *]
    rfl
  unfold m_least g_least
  clear h n e
  simp only [q_def, q_seq, q_ite, q_ret, q_set, q_drop, q_asg, q_for, q_for0, q_fc, q_frd_nx, q_frd_rt, q_frd_ct, q_frd_bk, q_turn, q_mkLst, q_mkTup, Nat.reduceLeDiff, q_and_bl, q_or_bl, q_c0, q_c1, q_c2, q_c3, q_c4, q_c5, q_c6, q_c9, q_c13, decide_true, decide_false, Int.reduceEq, Int.reduceLT, Int.reduceLE, Int.reduceAdd, Int.reduceSub, Int.reduceMul, Int.reduceNeg, Int.reducePow, Int.reduceToNat, Int.reduceBNe, Int.reduceNe, Nat.zero_le, q_get, q_cst, q_lift, q_un, q_with, q_av0, q_avC, q_callN, q_callKW, q_andD, q_orD, q_notD, q_fAnd, q_fOr, q_fNot, q_fTru, q_fBoo, q_ifD, q_isN, q_fIsN, q_fNotN, startD, q_bind, q_toS, q_rt, q_nx, q_thn_nx, q_thn_rt, q_okO, q_nxO, q_pure, q_none0, q_none1, q_none2, q_none3, q_none4, q_tru_bl, q_tru_int, q_tru_lst, q_tru_tup, q_tru_non, q_boo, q_seqL, q_seqT, q_lenL, q_lenT, q_eqI, q_neI, q_lt, q_le, q_gt, q_ge, q_add, q_addL, q_sub, q_neg, q_abs, q_int, q_intB, q_max, q_gcd, q_tupL, q_gL, q_gT, q_g0, q_g1, q_g2, q_lc, q_par, q_parO, q_whS, q_slc, q_prt0, q_prt1, q_intR, q_slcL, q_slcT, q_zipL, q_zipT, q_allp, List.length_map, wipeE, List.map_cons, List.map_nil, List.length_cons, List.length_nil, List.replicate, List.cons_append, List.nil_append, List.getElem?_cons_zero, List.getElem?_cons_succ, List.set_cons_zero, List.set_cons_succ, Nat.reduceSub, Nat.reduceAdd, if_true, Bool.not_true, Bool.not_false, Bool.false_eq_true, if_false, reduceIte, setD, List.foldl_cons, List.foldl_nil, q_asgN, q_asgT, q_asgL, q_asgs0, q_asgsC, Option.bind_some, List.append_nil, is_integer_eq, is_list_eq, q_is2, w_int, i_int, w_lst, w_tup, l_lst, l_tup, l_int, Bool.true_and, Bool.false_and, Bool.and_true, Bool.and_false, q_drop, q_braise, q_toS_raise, q_thn_raise', *]
  rfl
theorem great_no {d : D} (h : okD d = true) (n : nums d = false) (s : Deck) : m_greatest [d] s = .raise (bn "values") s := by
  have e := fun s => is_numbers_eq d h s
  rw [n] at e
  have c : ∀ s : Deck, m_check_some [d] s = .raise (bn "values") s := fun s => by
    unfold m_check_some g_check_some
    clear h n
    simp only [q_def, q_seq, q_ite, q_ret, q_set, q_drop, q_asg, q_for, q_for0, q_fc, q_frd_nx, q_frd_rt, q_frd_ct, q_frd_bk, q_turn, q_mkLst, q_mkTup, Nat.reduceLeDiff, q_and_bl, q_or_bl, q_c0, q_c1, q_c2, q_c3, q_c4, q_c5, q_c6, q_c9, q_c13, decide_true, decide_false, Int.reduceEq, Int.reduceLT, Int.reduceLE, Int.reduceAdd, Int.reduceSub, Int.reduceMul, Int.reduceNeg, Int.reducePow, Int.reduceToNat, Int.reduceBNe, Int.reduceNe, Nat.zero_le, q_get, q_cst, q_lift, q_un, q_with, q_av0, q_avC, q_callN, q_callKW, q_andD, q_orD, q_notD, q_fAnd, q_fOr, q_fNot, q_fTru, q_fBoo, q_ifD, q_isN, q_fIsN, q_fNotN, startD, q_bind, q_toS, q_rt, q_nx, q_thn_nx, q_thn_rt, q_okO, q_nxO, q_pure, q_none0, q_none1, q_none2, q_none3, q_none4, q_tru_bl, q_tru_int, q_tru_lst, q_tru_tup, q_tru_non, q_boo, q_seqL, q_seqT, q_lenL, q_lenT, q_eqI, q_neI, q_lt, q_le, q_gt, q_ge, q_add, q_addL, q_sub, q_neg, q_abs, q_int, q_intB, q_max, q_gcd, q_tupL, q_gL, q_gT, q_g0, q_g1, q_g2, q_lc, q_par, q_parO, q_whS, q_slc, q_prt0, q_prt1, q_intR, q_slcL, q_slcT, q_zipL, q_zipT, q_allp, List.length_map, wipeE, List.map_cons, List.map_nil, List.length_cons, List.length_nil, List.replicate, List.cons_append, List.nil_append, List.getElem?_cons_zero, List.getElem?_cons_succ, List.set_cons_zero, List.set_cons_succ, Nat.reduceSub, Nat.reduceAdd, if_true, Bool.not_true, Bool.not_false, Bool.false_eq_true, if_false, reduceIte, setD, List.foldl_cons, List.foldl_nil, q_asgN, q_asgT, q_asgL, q_asgs0, q_asgsC, Option.bind_some, List.append_nil, is_integer_eq, is_list_eq, q_is2, w_int, i_int, w_lst, w_tup, l_lst, l_tup, l_int, Bool.true_and, Bool.false_and, Bool.and_true, Bool.and_false, q_rs, *]
    rfl
  unfold m_greatest g_greatest
  clear h n e
  simp only [q_def, q_seq, q_ite, q_ret, q_set, q_drop, q_asg, q_for, q_for0, q_fc, q_frd_nx, q_frd_rt, q_frd_ct, q_frd_bk, q_turn, q_mkLst, q_mkTup, Nat.reduceLeDiff, q_and_bl, q_or_bl, q_c0, q_c1, q_c2, q_c3, q_c4, q_c5, q_c6, q_c9, q_c13, decide_true, decide_false, Int.reduceEq, Int.reduceLT, Int.reduceLE, Int.reduceAdd, Int.reduceSub, Int.reduceMul, Int.reduceNeg, Int.reducePow, Int.reduceToNat, Int.reduceBNe, Int.reduceNe, Nat.zero_le, q_get, q_cst, q_lift, q_un, q_with, q_av0, q_avC, q_callN, q_callKW, q_andD, q_orD, q_notD, q_fAnd, q_fOr, q_fNot, q_fTru, q_fBoo, q_ifD, q_isN, q_fIsN, q_fNotN, startD, q_bind, q_toS, q_rt, q_nx, q_thn_nx, q_thn_rt, q_okO, q_nxO, q_pure, q_none0, q_none1, q_none2, q_none3, q_none4, q_tru_bl, q_tru_int, q_tru_lst, q_tru_tup, q_tru_non, q_boo, q_seqL, q_seqT, q_lenL, q_lenT, q_eqI, q_neI, q_lt, q_le, q_gt, q_ge, q_add, q_addL, q_sub, q_neg, q_abs, q_int, q_intB, q_max, q_gcd, q_tupL, q_gL, q_gT, q_g0, q_g1, q_g2, q_lc, q_par, q_parO, q_whS, q_slc, q_prt0, q_prt1, q_intR, q_slcL, q_slcT, q_zipL, q_zipT, q_allp, List.length_map, wipeE, List.map_cons, List.map_nil, List.length_cons, List.length_nil, List.replicate, List.cons_append, List.nil_append, List.getElem?_cons_zero, List.getElem?_cons_succ, List.set_cons_zero, List.set_cons_succ, Nat.reduceSub, Nat.reduceAdd, if_true, Bool.not_true, Bool.not_false, Bool.false_eq_true, if_false, reduceIte, setD, List.foldl_cons, List.foldl_nil, q_asgN, q_asgT, q_asgL, q_asgs0, q_asgsC, Option.bind_some, List.append_nil, is_integer_eq, is_list_eq, q_is2, w_int, i_int, w_lst, w_tup, l_lst, l_tup, l_int, Bool.true_and, Bool.false_and, Bool.and_true, Bool.and_false, q_drop, q_braise, q_toS_raise, q_thn_raise', *]
  rfl
theorem empty_check (d : D) (hd : d = .lst [] ∨ d = .tup []) (s : Deck) : m_check_some [d] s = .raise (bn "values") s := by
  have e : ∀ s : Deck, m_is_numbers [d] s = .ok (.bl true) s := fun s => by rcases hd with rfl | rfl <;> exact is_numbers_eq _ rfl s
  have l : ∀ s : Deck, lenM [d] s = .ok (.int 0) s := fun s => by rcases hd with rfl | rfl <;> rfl
  unfold m_check_some g_check_some
  clear hd
  simp only [q_def, q_seq, q_ite, q_ret, q_set, q_drop, q_asg, q_for, q_for0, q_fc, q_frd_nx, q_frd_rt, q_frd_ct, q_frd_bk, q_turn, q_mkLst, q_mkTup, Nat.reduceLeDiff, q_and_bl, q_or_bl, q_c0, q_c1, q_c2, q_c3, q_c4, q_c5, q_c6, q_c9, q_c13, decide_true, decide_false, Int.reduceEq, Int.reduceLT, Int.reduceLE, Int.reduceAdd, Int.reduceSub, Int.reduceMul, Int.reduceNeg, Int.reducePow, Int.reduceToNat, Int.reduceBNe, Int.reduceNe, Nat.zero_le, q_get, q_cst, q_lift, q_un, q_with, q_av0, q_avC, q_callN, q_callKW, q_andD, q_orD, q_notD, q_fAnd, q_fOr, q_fNot, q_fTru, q_fBoo, q_ifD, q_isN, q_fIsN, q_fNotN, startD, q_bind, q_toS, q_rt, q_nx, q_thn_nx, q_thn_rt, q_okO, q_nxO, q_pure, q_none0, q_none1, q_none2, q_none3, q_none4, q_tru_bl, q_tru_int, q_tru_lst, q_tru_tup, q_tru_non, q_boo, q_seqL, q_seqT, q_lenL, q_lenT, q_eqI, q_neI, q_lt, q_le, q_gt, q_ge, q_add, q_addL, q_sub, q_neg, q_abs, q_int, q_intB, q_max, q_gcd, q_tupL, q_gL, q_gT, q_g0, q_g1, q_g2, q_lc, q_par, q_parO, q_whS, q_slc, q_prt0, q_prt1, q_intR, q_slcL, q_slcT, q_zipL, q_zipT, q_allp, List.length_map, wipeE, List.map_cons, List.map_nil, List.length_cons, List.length_nil, List.replicate, List.cons_append, List.nil_append, List.getElem?_cons_zero, List.getElem?_cons_succ, List.set_cons_zero, List.set_cons_succ, Nat.reduceSub, Nat.reduceAdd, if_true, Bool.not_true, Bool.not_false, Bool.false_eq_true, if_false, reduceIte, setD, List.foldl_cons, List.foldl_nil, q_asgN, q_asgT, q_asgL, q_asgs0, q_asgsC, Option.bind_some, List.append_nil, is_integer_eq, is_list_eq, q_is2, w_int, i_int, w_lst, w_tup, l_lst, l_tup, l_int, Bool.true_and, Bool.false_and, Bool.and_true, Bool.and_false, q_rs, *]
  rfl
theorem least_empty (d : D) (hd : d = .lst [] ∨ d = .tup []) (s : Deck) : m_least [d] s = .raise (bn "values") s := by
  have c := fun s => empty_check d hd s
  unfold m_least g_least
  clear hd
  simp only [q_def, q_seq, q_ite, q_ret, q_set, q_drop, q_asg, q_for, q_for0, q_fc, q_frd_nx, q_frd_rt, q_frd_ct, q_frd_bk, q_turn, q_mkLst, q_mkTup, Nat.reduceLeDiff, q_and_bl, q_or_bl, q_c0, q_c1, q_c2, q_c3, q_c4, q_c5, q_c6, q_c9, q_c13, decide_true, decide_false, Int.reduceEq, Int.reduceLT, Int.reduceLE, Int.reduceAdd, Int.reduceSub, Int.reduceMul, Int.reduceNeg, Int.reducePow, Int.reduceToNat, Int.reduceBNe, Int.reduceNe, Nat.zero_le, q_get, q_cst, q_lift, q_un, q_with, q_av0, q_avC, q_callN, q_callKW, q_andD, q_orD, q_notD, q_fAnd, q_fOr, q_fNot, q_fTru, q_fBoo, q_ifD, q_isN, q_fIsN, q_fNotN, startD, q_bind, q_toS, q_rt, q_nx, q_thn_nx, q_thn_rt, q_okO, q_nxO, q_pure, q_none0, q_none1, q_none2, q_none3, q_none4, q_tru_bl, q_tru_int, q_tru_lst, q_tru_tup, q_tru_non, q_boo, q_seqL, q_seqT, q_lenL, q_lenT, q_eqI, q_neI, q_lt, q_le, q_gt, q_ge, q_add, q_addL, q_sub, q_neg, q_abs, q_int, q_intB, q_max, q_gcd, q_tupL, q_gL, q_gT, q_g0, q_g1, q_g2, q_lc, q_par, q_parO, q_whS, q_slc, q_prt0, q_prt1, q_intR, q_slcL, q_slcT, q_zipL, q_zipT, q_allp, List.length_map, wipeE, List.map_cons, List.map_nil, List.length_cons, List.length_nil, List.replicate, List.cons_append, List.nil_append, List.getElem?_cons_zero, List.getElem?_cons_succ, List.set_cons_zero, List.set_cons_succ, Nat.reduceSub, Nat.reduceAdd, if_true, Bool.not_true, Bool.not_false, Bool.false_eq_true, if_false, reduceIte, setD, List.foldl_cons, List.foldl_nil, q_asgN, q_asgT, q_asgL, q_asgs0, q_asgsC, Option.bind_some, List.append_nil, is_integer_eq, is_list_eq, q_is2, w_int, i_int, w_lst, w_tup, l_lst, l_tup, l_int, Bool.true_and, Bool.false_and, Bool.and_true, Bool.and_false, q_drop, q_braise, q_toS_raise, q_thn_raise', *]
  rfl
theorem great_empty (d : D) (hd : d = .lst [] ∨ d = .tup []) (s : Deck) : m_greatest [d] s = .raise (bn "values") s := by
  have c := fun s => empty_check d hd s
  unfold m_greatest g_greatest
  clear hd
  simp only [q_def, q_seq, q_ite, q_ret, q_set, q_drop, q_asg, q_for, q_for0, q_fc, q_frd_nx, q_frd_rt, q_frd_ct, q_frd_bk, q_turn, q_mkLst, q_mkTup, Nat.reduceLeDiff, q_and_bl, q_or_bl, q_c0, q_c1, q_c2, q_c3, q_c4, q_c5, q_c6, q_c9, q_c13, decide_true, decide_false, Int.reduceEq, Int.reduceLT, Int.reduceLE, Int.reduceAdd, Int.reduceSub, Int.reduceMul, Int.reduceNeg, Int.reducePow, Int.reduceToNat, Int.reduceBNe, Int.reduceNe, Nat.zero_le, q_get, q_cst, q_lift, q_un, q_with, q_av0, q_avC, q_callN, q_callKW, q_andD, q_orD, q_notD, q_fAnd, q_fOr, q_fNot, q_fTru, q_fBoo, q_ifD, q_isN, q_fIsN, q_fNotN, startD, q_bind, q_toS, q_rt, q_nx, q_thn_nx, q_thn_rt, q_okO, q_nxO, q_pure, q_none0, q_none1, q_none2, q_none3, q_none4, q_tru_bl, q_tru_int, q_tru_lst, q_tru_tup, q_tru_non, q_boo, q_seqL, q_seqT, q_lenL, q_lenT, q_eqI, q_neI, q_lt, q_le, q_gt, q_ge, q_add, q_addL, q_sub, q_neg, q_abs, q_int, q_intB, q_max, q_gcd, q_tupL, q_gL, q_gT, q_g0, q_g1, q_g2, q_lc, q_par, q_parO, q_whS, q_slc, q_prt0, q_prt1, q_intR, q_slcL, q_slcT, q_zipL, q_zipT, q_allp, List.length_map, wipeE, List.map_cons, List.map_nil, List.length_cons, List.length_nil, List.replicate, List.cons_append, List.nil_append, List.getElem?_cons_zero, List.getElem?_cons_succ, List.set_cons_zero, List.set_cons_succ, Nat.reduceSub, Nat.reduceAdd, if_true, Bool.not_true, Bool.not_false, Bool.false_eq_true, if_false, reduceIte, setD, List.foldl_cons, List.foldl_nil, q_asgN, q_asgT, q_asgL, q_asgs0, q_asgsC, Option.bind_some, List.append_nil, is_integer_eq, is_list_eq, q_is2, w_int, i_int, w_lst, w_tup, l_lst, l_tup, l_int, Bool.true_and, Bool.false_and, Bool.and_true, Bool.and_false, q_drop, q_braise, q_toS_raise, q_thn_raise', *]
  rfl
theorem sum_no {d : D} (h : okD d = true) (n : nums d = false) (s : Deck) : m_sum_of [d] s = .raise (bn "values") s := by
  have e := fun s => is_numbers_eq d h s
  rw [n] at e
  unfold m_sum_of g_sum_of
  clear h n
  simp only [q_def, q_seq, q_ite, q_ret, q_set, q_drop, q_asg, q_for, q_for0, q_fc, q_frd_nx, q_frd_rt, q_frd_ct, q_frd_bk, q_turn, q_mkLst, q_mkTup, Nat.reduceLeDiff, q_and_bl, q_or_bl, q_c0, q_c1, q_c2, q_c3, q_c4, q_c5, q_c6, q_c9, q_c13, decide_true, decide_false, Int.reduceEq, Int.reduceLT, Int.reduceLE, Int.reduceAdd, Int.reduceSub, Int.reduceMul, Int.reduceNeg, Int.reducePow, Int.reduceToNat, Int.reduceBNe, Int.reduceNe, Nat.zero_le, q_get, q_cst, q_lift, q_un, q_with, q_av0, q_avC, q_callN, q_callKW, q_andD, q_orD, q_notD, q_fAnd, q_fOr, q_fNot, q_fTru, q_fBoo, q_ifD, q_isN, q_fIsN, q_fNotN, startD, q_bind, q_toS, q_rt, q_nx, q_thn_nx, q_thn_rt, q_okO, q_nxO, q_pure, q_none0, q_none1, q_none2, q_none3, q_none4, q_tru_bl, q_tru_int, q_tru_lst, q_tru_tup, q_tru_non, q_boo, q_seqL, q_seqT, q_lenL, q_lenT, q_eqI, q_neI, q_lt, q_le, q_gt, q_ge, q_add, q_addL, q_sub, q_neg, q_abs, q_int, q_intB, q_max, q_gcd, q_tupL, q_gL, q_gT, q_g0, q_g1, q_g2, q_lc, q_par, q_parO, q_whS, q_slc, q_prt0, q_prt1, q_intR, q_slcL, q_slcT, q_zipL, q_zipT, q_allp, List.length_map, wipeE, List.map_cons, List.map_nil, List.length_cons, List.length_nil, List.replicate, List.cons_append, List.nil_append, List.getElem?_cons_zero, List.getElem?_cons_succ, List.set_cons_zero, List.set_cons_succ, Nat.reduceSub, Nat.reduceAdd, if_true, Bool.not_true, Bool.not_false, Bool.false_eq_true, if_false, reduceIte, setD, List.foldl_cons, List.foldl_nil, q_asgN, q_asgT, q_asgL, q_asgs0, q_asgsC, Option.bind_some, List.append_nil, is_integer_eq, is_list_eq, q_is2, w_int, i_int, w_lst, w_tup, l_lst, l_tup, l_int, Bool.true_and, Bool.false_and, Bool.and_true, Bool.and_false, q_rs, q_thn_raise', *]
  rfl
theorem prod_row_no {d x : D} (h : okD d = true) (n : nums d = false) (s : Deck) : m_product_sum [d, x] s = .raise (bn "row") s := by
  have e := fun s => is_numbers_eq d h s
  rw [n] at e
  unfold m_product_sum g_product_sum
  clear h n
  simp only [q_def, q_seq, q_ite, q_ret, q_set, q_drop, q_asg, q_for, q_for0, q_fc, q_frd_nx, q_frd_rt, q_frd_ct, q_frd_bk, q_turn, q_mkLst, q_mkTup, Nat.reduceLeDiff, q_and_bl, q_or_bl, q_c0, q_c1, q_c2, q_c3, q_c4, q_c5, q_c6, q_c9, q_c13, decide_true, decide_false, Int.reduceEq, Int.reduceLT, Int.reduceLE, Int.reduceAdd, Int.reduceSub, Int.reduceMul, Int.reduceNeg, Int.reducePow, Int.reduceToNat, Int.reduceBNe, Int.reduceNe, Nat.zero_le, q_get, q_cst, q_lift, q_un, q_with, q_av0, q_avC, q_callN, q_callKW, q_andD, q_orD, q_notD, q_fAnd, q_fOr, q_fNot, q_fTru, q_fBoo, q_ifD, q_isN, q_fIsN, q_fNotN, startD, q_bind, q_toS, q_rt, q_nx, q_thn_nx, q_thn_rt, q_okO, q_nxO, q_pure, q_none0, q_none1, q_none2, q_none3, q_none4, q_tru_bl, q_tru_int, q_tru_lst, q_tru_tup, q_tru_non, q_boo, q_seqL, q_seqT, q_lenL, q_lenT, q_eqI, q_neI, q_lt, q_le, q_gt, q_ge, q_add, q_addL, q_sub, q_neg, q_abs, q_int, q_intB, q_max, q_gcd, q_tupL, q_gL, q_gT, q_g0, q_g1, q_g2, q_lc, q_par, q_parO, q_whS, q_slc, q_prt0, q_prt1, q_intR, q_slcL, q_slcT, q_zipL, q_zipT, q_allp, List.length_map, wipeE, List.map_cons, List.map_nil, List.length_cons, List.length_nil, List.replicate, List.cons_append, List.nil_append, List.getElem?_cons_zero, List.getElem?_cons_succ, List.set_cons_zero, List.set_cons_succ, Nat.reduceSub, Nat.reduceAdd, if_true, Bool.not_true, Bool.not_false, Bool.false_eq_true, if_false, reduceIte, setD, List.foldl_cons, List.foldl_nil, q_asgN, q_asgT, q_asgL, q_asgs0, q_asgsC, Option.bind_some, List.append_nil, is_integer_eq, is_list_eq, q_is2, w_int, i_int, w_lst, w_tup, l_lst, l_tup, l_int, Bool.true_and, Bool.false_and, Bool.and_true, Bool.and_false, q_rs, q_thn_raise', *]
  rfl
theorem prod_other_no {w : Nat} {L : List It3} {d x : D} (h : Row w L) (hn : L.length ≤ 1000) (hd : RowD L d) (o : okD x = true) (r : row x (L.length : Int) = false) (s : Deck) : m_product_sum [d, x] s = .raise (bn "other") s := by
  have n1 := fun s => numbers_ok h hn hd s
  have ln := fun s => hd.len s
  have e := fun s => is_row_eq x (L.length : Int) o s
  rw [r] at e
  unfold m_product_sum g_product_sum
  clear h hn hd o r
  simp only [q_def, q_seq, q_ite, q_ret, q_set, q_drop, q_asg, q_for, q_for0, q_fc, q_frd_nx, q_frd_rt, q_frd_ct, q_frd_bk, q_turn, q_mkLst, q_mkTup, Nat.reduceLeDiff, q_and_bl, q_or_bl, q_c0, q_c1, q_c2, q_c3, q_c4, q_c5, q_c6, q_c9, q_c13, decide_true, decide_false, Int.reduceEq, Int.reduceLT, Int.reduceLE, Int.reduceAdd, Int.reduceSub, Int.reduceMul, Int.reduceNeg, Int.reducePow, Int.reduceToNat, Int.reduceBNe, Int.reduceNe, Nat.zero_le, q_get, q_cst, q_lift, q_un, q_with, q_av0, q_avC, q_callN, q_callKW, q_andD, q_orD, q_notD, q_fAnd, q_fOr, q_fNot, q_fTru, q_fBoo, q_ifD, q_isN, q_fIsN, q_fNotN, startD, q_bind, q_toS, q_rt, q_nx, q_thn_nx, q_thn_rt, q_okO, q_nxO, q_pure, q_none0, q_none1, q_none2, q_none3, q_none4, q_tru_bl, q_tru_int, q_tru_lst, q_tru_tup, q_tru_non, q_boo, q_seqL, q_seqT, q_lenL, q_lenT, q_eqI, q_neI, q_lt, q_le, q_gt, q_ge, q_add, q_addL, q_sub, q_neg, q_abs, q_int, q_intB, q_max, q_gcd, q_tupL, q_gL, q_gT, q_g0, q_g1, q_g2, q_lc, q_par, q_parO, q_whS, q_slc, q_prt0, q_prt1, q_intR, q_slcL, q_slcT, q_zipL, q_zipT, q_allp, List.length_map, wipeE, List.map_cons, List.map_nil, List.length_cons, List.length_nil, List.replicate, List.cons_append, List.nil_append, List.getElem?_cons_zero, List.getElem?_cons_succ, List.set_cons_zero, List.set_cons_succ, Nat.reduceSub, Nat.reduceAdd, if_true, Bool.not_true, Bool.not_false, Bool.false_eq_true, if_false, reduceIte, setD, List.foldl_cons, List.foldl_nil, q_asgN, q_asgT, q_asgL, q_asgs0, q_asgsC, Option.bind_some, List.append_nil, is_integer_eq, is_list_eq, q_is2, w_int, i_int, w_lst, w_tup, l_lst, l_tup, l_int, Bool.true_and, Bool.false_and, Bool.and_true, Bool.and_false, q_rs, q_thn_raise', *]
  rfl
/-! ### the law's own least and greatest -/
def lowB : FS := (seqS (setS 4 (ifD (fTru (withA (avC (getE 2) (avC (getE 4) av0)) (callN 2 m_law_before))) (getE 2) (getE 4)))
    (setS 5 (ifD (fTru (withA (avC (getE 5) (avC (getE 2) av0)) (callN 2 m_law_before))) (getE 2) (getE 5))))
theorem low_loop {w : Nat} (hw : w + w < 7000) (x0 x1 x3 : Option D) (X : List (Option D)) (s : Deck) : ∀ (L : List It3) (p q : It3) (x2 : Option D), Row w L → Nm w p.1 p.2.1 p.2.2 → Nm w q.1 q.2.1 q.2.2 →
    ∃ y2, forD (turnS (.nm 2) lowB) (L.map (·.1)) (x0 :: x1 :: x2 :: x3 :: some p.1 :: some q.1 :: X) s = .nx (x0 :: x1 :: y2 :: x3 :: some (L.foldl minS p).1 :: some (L.foldl maxS q).1 :: X) s ∧ Nm w (L.foldl minS p).1 (L.foldl minS p).2.1 (L.foldl minS p).2.2 ∧ Nm w (L.foldl maxS q).1 (L.foldl maxS q).2.1 (L.foldl maxS q).2.2
  | [], p, q, x2, _, hp, hq => ⟨x2, rfl, hp, hq⟩
  | z :: L, p, q, x2, h, hp, hq => by
    have hz := h z (List.mem_cons_self ..)
    have b1 := fun s => before_eq hz.v hp.v hz.sa hz.sb hp.sa hp.sb hw s
    have b2 := fun s => before_eq hq.v hz.v hq.sa hq.sb hz.sa hz.sb hw s
    have hm : Nm w (minS p z).1 (minS p z).2.1 (minS p z).2.2 := by unfold minS; split; exact hz; exact hp
    have hM : Nm w (maxS q z).1 (maxS q z).2.1 (maxS q z).2.2 := by unfold maxS; split; exact hz; exact hq
    obtain ⟨y2, ih, k1, k2⟩ := low_loop hw x0 x1 x3 X s L (minS p z) (maxS q z) (some z.1) (fun y hy => h y (List.mem_cons_of_mem _ hy)) hm hM
    refine ⟨y2, ?_, k1, k2⟩
    rw [List.map_cons, q_fc]
    show _ = RS.nx (x0 :: x1 :: y2 :: x3 :: some (L.foldl minS (minS p z)).1 :: some (L.foldl maxS (maxS q z)).1 :: X) s
    rw [← ih]
    unfold minS maxS lowB
    by_cases c : z.2.1 * p.2.2 < p.2.1 * z.2.2 <;> by_cases c2 : q.2.1 * z.2.2 < z.2.1 * q.2.2
    · rw [if_pos c, if_pos c2]
      have c := decide_eq_true c
      have c2 := decide_eq_true c2
      clear ih k1 k2 hm hM hz hp hq h
      simp only [q_def, q_seq, q_ite, q_ret, q_set, q_drop, q_asg, q_for, q_for0, q_fc, q_frd_nx, q_frd_rt, q_frd_ct, q_frd_bk, q_turn, q_mkLst, q_mkTup, Nat.reduceLeDiff, q_and_bl, q_or_bl, q_c0, q_c1, q_c2, q_c3, q_c4, q_c5, q_c6, q_c9, q_c13, decide_true, decide_false, Int.reduceEq, Int.reduceLT, Int.reduceLE, Int.reduceAdd, Int.reduceSub, Int.reduceMul, Int.reduceNeg, Int.reducePow, Int.reduceToNat, Int.reduceBNe, Int.reduceNe, Nat.zero_le, q_get, q_cst, q_lift, q_un, q_with, q_av0, q_avC, q_callN, q_callKW, q_andD, q_orD, q_notD, q_fAnd, q_fOr, q_fNot, q_fTru, q_fBoo, q_ifD, q_isN, q_fIsN, q_fNotN, startD, q_bind, q_toS, q_rt, q_nx, q_thn_nx, q_thn_rt, q_okO, q_nxO, q_pure, q_none0, q_none1, q_none2, q_none3, q_none4, q_tru_bl, q_tru_int, q_tru_lst, q_tru_tup, q_tru_non, q_boo, q_seqL, q_seqT, q_lenL, q_lenT, q_eqI, q_neI, q_lt, q_le, q_gt, q_ge, q_add, q_addL, q_sub, q_neg, q_abs, q_int, q_intB, q_max, q_gcd, q_tupL, q_gL, q_gT, q_g0, q_g1, q_g2, q_lc, q_par, q_parO, q_whS, q_slc, q_prt0, q_prt1, q_intR, q_slcL, q_slcT, q_zipL, q_zipT, q_allp, List.length_map, wipeE, List.map_cons, List.map_nil, List.length_cons, List.length_nil, List.replicate, List.cons_append, List.nil_append, List.getElem?_cons_zero, List.getElem?_cons_succ, List.set_cons_zero, List.set_cons_succ, Nat.reduceSub, Nat.reduceAdd, if_true, Bool.not_true, Bool.not_false, Bool.false_eq_true, if_false, reduceIte, setD, List.foldl_cons, List.foldl_nil, q_asgN, q_asgT, q_asgL, q_asgs0, q_asgsC, Option.bind_some, List.append_nil, is_integer_eq, is_list_eq, q_is2, w_int, i_int, w_lst, w_tup, l_lst, l_tup, l_int, Bool.true_and, Bool.false_and, Bool.and_true, Bool.and_false, *]
    · rw [if_pos c, if_neg c2]
      have c := decide_eq_true c
      have c2 := decide_eq_false c2
      clear ih k1 k2 hm hM hz hp hq h
      simp only [q_def, q_seq, q_ite, q_ret, q_set, q_drop, q_asg, q_for, q_for0, q_fc, q_frd_nx, q_frd_rt, q_frd_ct, q_frd_bk, q_turn, q_mkLst, q_mkTup, Nat.reduceLeDiff, q_and_bl, q_or_bl, q_c0, q_c1, q_c2, q_c3, q_c4, q_c5, q_c6, q_c9, q_c13, decide_true, decide_false, Int.reduceEq, Int.reduceLT, Int.reduceLE, Int.reduceAdd, Int.reduceSub, Int.reduceMul, Int.reduceNeg, Int.reducePow, Int.reduceToNat, Int.reduceBNe, Int.reduceNe, Nat.zero_le, q_get, q_cst, q_lift, q_un, q_with, q_av0, q_avC, q_callN, q_callKW, q_andD, q_orD, q_notD, q_fAnd, q_fOr, q_fNot, q_fTru, q_fBoo, q_ifD, q_isN, q_fIsN, q_fNotN, startD, q_bind, q_toS, q_rt, q_nx, q_thn_nx, q_thn_rt, q_okO, q_nxO, q_pure, q_none0, q_none1, q_none2, q_none3, q_none4, q_tru_bl, q_tru_int, q_tru_lst, q_tru_tup, q_tru_non, q_boo, q_seqL, q_seqT, q_lenL, q_lenT, q_eqI, q_neI, q_lt, q_le, q_gt, q_ge, q_add, q_addL, q_sub, q_neg, q_abs, q_int, q_intB, q_max, q_gcd, q_tupL, q_gL, q_gT, q_g0, q_g1, q_g2, q_lc, q_par, q_parO, q_whS, q_slc, q_prt0, q_prt1, q_intR, q_slcL, q_slcT, q_zipL, q_zipT, q_allp, List.length_map, wipeE, List.map_cons, List.map_nil, List.length_cons, List.length_nil, List.replicate, List.cons_append, List.nil_append, List.getElem?_cons_zero, List.getElem?_cons_succ, List.set_cons_zero, List.set_cons_succ, Nat.reduceSub, Nat.reduceAdd, if_true, Bool.not_true, Bool.not_false, Bool.false_eq_true, if_false, reduceIte, setD, List.foldl_cons, List.foldl_nil, q_asgN, q_asgT, q_asgL, q_asgs0, q_asgsC, Option.bind_some, List.append_nil, is_integer_eq, is_list_eq, q_is2, w_int, i_int, w_lst, w_tup, l_lst, l_tup, l_int, Bool.true_and, Bool.false_and, Bool.and_true, Bool.and_false, *]
    · rw [if_neg c, if_pos c2]
      have c := decide_eq_false c
      have c2 := decide_eq_true c2
      clear ih k1 k2 hm hM hz hp hq h
      simp only [q_def, q_seq, q_ite, q_ret, q_set, q_drop, q_asg, q_for, q_for0, q_fc, q_frd_nx, q_frd_rt, q_frd_ct, q_frd_bk, q_turn, q_mkLst, q_mkTup, Nat.reduceLeDiff, q_and_bl, q_or_bl, q_c0, q_c1, q_c2, q_c3, q_c4, q_c5, q_c6, q_c9, q_c13, decide_true, decide_false, Int.reduceEq, Int.reduceLT, Int.reduceLE, Int.reduceAdd, Int.reduceSub, Int.reduceMul, Int.reduceNeg, Int.reducePow, Int.reduceToNat, Int.reduceBNe, Int.reduceNe, Nat.zero_le, q_get, q_cst, q_lift, q_un, q_with, q_av0, q_avC, q_callN, q_callKW, q_andD, q_orD, q_notD, q_fAnd, q_fOr, q_fNot, q_fTru, q_fBoo, q_ifD, q_isN, q_fIsN, q_fNotN, startD, q_bind, q_toS, q_rt, q_nx, q_thn_nx, q_thn_rt, q_okO, q_nxO, q_pure, q_none0, q_none1, q_none2, q_none3, q_none4, q_tru_bl, q_tru_int, q_tru_lst, q_tru_tup, q_tru_non, q_boo, q_seqL, q_seqT, q_lenL, q_lenT, q_eqI, q_neI, q_lt, q_le, q_gt, q_ge, q_add, q_addL, q_sub, q_neg, q_abs, q_int, q_intB, q_max, q_gcd, q_tupL, q_gL, q_gT, q_g0, q_g1, q_g2, q_lc, q_par, q_parO, q_whS, q_slc, q_prt0, q_prt1, q_intR, q_slcL, q_slcT, q_zipL, q_zipT, q_allp, List.length_map, wipeE, List.map_cons, List.map_nil, List.length_cons, List.length_nil, List.replicate, List.cons_append, List.nil_append, List.getElem?_cons_zero, List.getElem?_cons_succ, List.set_cons_zero, List.set_cons_succ, Nat.reduceSub, Nat.reduceAdd, if_true, Bool.not_true, Bool.not_false, Bool.false_eq_true, if_false, reduceIte, setD, List.foldl_cons, List.foldl_nil, q_asgN, q_asgT, q_asgL, q_asgs0, q_asgsC, Option.bind_some, List.append_nil, is_integer_eq, is_list_eq, q_is2, w_int, i_int, w_lst, w_tup, l_lst, l_tup, l_int, Bool.true_and, Bool.false_and, Bool.and_true, Bool.and_false, *]
    · rw [if_neg c, if_neg c2]
      have c := decide_eq_false c
      have c2 := decide_eq_false c2
      clear ih k1 k2 hm hM hz hp hq h
      simp only [q_def, q_seq, q_ite, q_ret, q_set, q_drop, q_asg, q_for, q_for0, q_fc, q_frd_nx, q_frd_rt, q_frd_ct, q_frd_bk, q_turn, q_mkLst, q_mkTup, Nat.reduceLeDiff, q_and_bl, q_or_bl, q_c0, q_c1, q_c2, q_c3, q_c4, q_c5, q_c6, q_c9, q_c13, decide_true, decide_false, Int.reduceEq, Int.reduceLT, Int.reduceLE, Int.reduceAdd, Int.reduceSub, Int.reduceMul, Int.reduceNeg, Int.reducePow, Int.reduceToNat, Int.reduceBNe, Int.reduceNe, Nat.zero_le, q_get, q_cst, q_lift, q_un, q_with, q_av0, q_avC, q_callN, q_callKW, q_andD, q_orD, q_notD, q_fAnd, q_fOr, q_fNot, q_fTru, q_fBoo, q_ifD, q_isN, q_fIsN, q_fNotN, startD, q_bind, q_toS, q_rt, q_nx, q_thn_nx, q_thn_rt, q_okO, q_nxO, q_pure, q_none0, q_none1, q_none2, q_none3, q_none4, q_tru_bl, q_tru_int, q_tru_lst, q_tru_tup, q_tru_non, q_boo, q_seqL, q_seqT, q_lenL, q_lenT, q_eqI, q_neI, q_lt, q_le, q_gt, q_ge, q_add, q_addL, q_sub, q_neg, q_abs, q_int, q_intB, q_max, q_gcd, q_tupL, q_gL, q_gT, q_g0, q_g1, q_g2, q_lc, q_par, q_parO, q_whS, q_slc, q_prt0, q_prt1, q_intR, q_slcL, q_slcT, q_zipL, q_zipT, q_allp, List.length_map, wipeE, List.map_cons, List.map_nil, List.length_cons, List.length_nil, List.replicate, List.cons_append, List.nil_append, List.getElem?_cons_zero, List.getElem?_cons_succ, List.set_cons_zero, List.set_cons_succ, Nat.reduceSub, Nat.reduceAdd, if_true, Bool.not_true, Bool.not_false, Bool.false_eq_true, if_false, reduceIte, setD, List.foldl_cons, List.foldl_nil, q_asgN, q_asgT, q_asgL, q_asgs0, q_asgsC, Option.bind_some, List.append_nil, is_integer_eq, is_list_eq, q_is2, w_int, i_int, w_lst, w_tup, l_lst, l_tup, l_int, Bool.true_and, Bool.false_and, Bool.and_true, Bool.and_false, *]
end K03

set_option exponentiation.threshold 10000
namespace K03
open PySem PySem.Builtin PySem.Builtin.Str L2 FL
/-! ### two lists with the same numbers -/
def Can (L : List It3) : Prop := ∀ z ∈ L, z.1 = canD z.2.1 z.2.2
theorem canD_no {a b : Int} : ∀ xs, canD a b ≠ .lst xs := by
  intro xs
  unfold canD
  split <;> intro h <;> cases h
theorem minS_same {p p' z z' : It3} (h : p.2 = p'.2) (k : z.2 = z'.2) : (minS p z).2 = (minS p' z').2 := by
  unfold minS
  rw [h, k]
  split <;> assumption
theorem maxS_same {p p' z z' : It3} (h : p.2 = p'.2) (k : z.2 = z'.2) : (maxS p z).2 = (maxS p' z').2 := by
  unfold maxS
  rw [h, k]
  split <;> assumption
theorem min_same : ∀ {L L' : List It3} {p p' : It3}, L.map (·.2) = L'.map (·.2) → p.2 = p'.2 → (L.foldl minS p).2 = (L'.foldl minS p').2
  | [], [], _, _, _, h => h
  | z :: L, z' :: L', p, p', e, h => by
    simp only [List.map_cons, List.cons.injEq] at e
    exact min_same (L := L) (L' := L') e.2 (minS_same h e.1)
  | [], _ :: _, _, _, e, _ => by simp at e
  | _ :: _, [], _, _, e, _ => by simp at e
theorem max_same : ∀ {L L' : List It3} {p p' : It3}, L.map (·.2) = L'.map (·.2) → p.2 = p'.2 → (L.foldl maxS p).2 = (L'.foldl maxS p').2
  | [], [], _, _, _, h => h
  | z :: L, z' :: L', p, p', e, h => by
    simp only [List.map_cons, List.cons.injEq] at e
    exact max_same (L := L) (L' := L') e.2 (maxS_same h e.1)
  | [], _ :: _, _, _, e, _ => by simp at e
  | _ :: _, [], _, _, e, _ => by simp at e
theorem min_can : ∀ {L : List It3} {p : It3}, Can L → p.1 = canD p.2.1 p.2.2 → (L.foldl minS p).1 = canD (L.foldl minS p).2.1 (L.foldl minS p).2.2
  | [], _, _, h => h
  | z :: L, p, c, h => by
    refine min_can (L := L) (p := minS p z) (fun y hy => c y (List.mem_cons_of_mem _ hy)) ?_
    unfold minS
    split
    · exact c z (List.mem_cons_self ..)
    · exact h
theorem max_can : ∀ {L : List It3} {p : It3}, Can L → p.1 = canD p.2.1 p.2.2 → (L.foldl maxS p).1 = canD (L.foldl maxS p).2.1 (L.foldl maxS p).2.2
  | [], _, _, h => h
  | z :: L, p, c, h => by
    refine max_can (L := L) (p := maxS p z) (fun y hy => c y (List.mem_cons_of_mem _ hy)) ?_
    unfold maxS
    split
    · exact c z (List.mem_cons_self ..)
    · exact h
theorem prod_same : ∀ {L L' M M' : List It3}, L.map (·.2) = L'.map (·.2) → M.map (·.2) = M'.map (·.2) → prodL L M = prodL L' M'
  | [], [], _, _, _, _ => rfl
  | _ :: _, _ :: _, [], [], _, _ => rfl
  | z :: L, z' :: L', y :: M, y' :: M', e, h => by
    simp only [List.map_cons, List.cons.injEq] at e h
    have ih := prod_same (L := L) (L' := L') (M := M) (M' := M') e.2 h.2
    unfold prodL at ih ⊢
    simp only [List.zipWith_cons_cons]
    rw [ih]
    congr 1
    unfold mulI
    rw [e.1, h.1]
  | [], _ :: _, _, _, e, _ => by simp at e
  | _ :: _, [], _, _, e, _ => by simp at e
  | _, _, [], _ :: _, _, e => by simp at e
  | _, _, _ :: _, [], _, e => by simp at e
theorem sum_same : ∀ {L L' : List It3} {x : Int × Int}, L.map (·.2) = L'.map (·.2) → sumP L x = sumP L' x
  | [], [], _, _ => rfl
  | z :: L, z' :: L', x, e => by
    simp only [List.map_cons, List.cons.injEq] at e
    have k : stepL x z = stepL x z' := by unfold stepL; rw [e.1]
    show sumP L (stepL x z) = sumP L' (stepL x z')
    rw [k]
    exact sum_same e.2
  | [], _ :: _, _, e => by simp at e
  | _ :: _, [], _, e => by simp at e
theorem sum_szA (w : Nat) : ∀ (L : List It3) (k : Nat) (x y : Int), (∀ z ∈ L, OkI w z) → Sz k x → Sz k y → Sz (k + (w + 1) * L.length) (sumP L (x, y)).1
  | [], k, x, y, _, hx, hy => Sz.mono hx (Nat.le_add_right _ _)
  | z :: L, k, x, y, h, hx, hy => by
    obtain ⟨n, sa, sb⟩ := h z (List.mem_cons_self ..)
    have h1 : Sz (k + w + 1) (x * z.2.2 + z.2.1 * y) := Sz.add (hx.mul sb) ((sa.mul hy).mono (by omega))
    have h2 : Sz (k + w + 1) (y * z.2.2) := (hy.mul sb).mono (by omega)
    have ih := sum_szA w L (k + w + 1) _ _ (fun y hy => h y (List.mem_cons_of_mem _ hy)) h1 h2
    rw [List.length_cons, Nat.mul_succ]
    exact Sz.mono ih (by omega)
/-! ### what is drawn -/
theorem elem2 {i : Nat} {vs : List Nat} {f : FE} {δ : DEnv} {x : D} {s s' : Deck} {y : D} (h2 : vs.contains i = true) (h : f ((wipeE δ vs).set i (some x)) s = .ok y s') : elemD (.nm i) vs yesT f δ x s = .ok (some y) s' := by
  rw [q_elem rfl (by simpa [patIn] using h2)]
  show (f ((wipeE δ vs).set i (some x)) s).bind _ = _
  rw [h]
  rfl
theorem row_of : ∀ ys : List D, (∀ y ∈ ys, ∃ a b, y = canD a b ∧ Nm 101 y a b) → ∃ L : List It3, ys = L.map (·.1) ∧ Row 101 L ∧ Can L
  | [], _ => ⟨[], rfl, (fun z hz => by cases hz), (fun z hz => by cases hz)⟩
  | y :: ys, h => by
    obtain ⟨a, b, e, n⟩ := h y (List.mem_cons_self ..)
    obtain ⟨L, e2, r, c⟩ := row_of ys fun z hz => h z (List.mem_cons_of_mem _ hz)
    refine ⟨(y, a, b) :: L, by rw [List.map_cons, e2], fun z hz => ?_, fun z hz => ?_⟩
    · rcases List.mem_cons.mp hz with rfl | hz
      · exact n
      · exact r z hz
    · rcases List.mem_cons.mp hz with rfl | hz
      · exact e
      · exact c z hz
theorem val_comp (i : Nat) (hi : i = 14 ∨ i = 2) (x1 x2 x3 x4 x5 x6 x7 x8 x9 x10 x11 x12 x13 x14 x15 : Option D) (ds : List D) (c : Int) (s : Deck) (G : Good c s) (hc : c + 4 * ds.length ≤ 1000000) :
    ∃ L s', compD (elemD (.nm i) [13, i] yesT (withA (avC (getE 0) av0) (callN 1 m_law_value)) [some .deck, x1, x2, x3, x4, x5, x6, x7, x8, x9, x10, x11, x12, x13, x14, x15]) ds s = .ok (L.map (·.1)) s' ∧ L.length = ds.length ∧ Row 101 L ∧ Can L ∧ Good (c + 4 * ds.length) s' := by
  obtain ⟨ys, s', e, l, p, G'⟩ := comp_good (b := elemD (.nm i) [13, i] yesT (withA (avC (getE 0) av0) (callN 1 m_law_value)) [some .deck, x1, x2, x3, x4, x5, x6, x7, x8, x9, x10, x11, x12, x13, x14, x15]) (k := 4) (P := fun y => ∃ a b, y = canD a b ∧ Nm 101 y a b) (by decide) ds c s G hc (fun x _ c s G hc => by
    obtain ⟨p, q, s', e, q0, sp, sq, G'⟩ := value_eq G hc
    refine ⟨numD p q, s', ?_, ⟨nfA p q, nfB p q, numD_can (by omega), nm101 q0 (sp.mono (by decide)) (sq.mono (by decide))⟩, G'⟩
    clear G G' hc sp sq
    rcases hi with rfl | rfl
    · exact elem2 rfl (by simp only [q_def, q_seq, q_ite, q_ret, q_set, q_drop, q_asg, q_for, q_for0, q_fc, q_frd_nx, q_frd_rt, q_frd_ct, q_frd_bk, q_turn, q_mkLst, q_mkTup, Nat.reduceLeDiff, q_and_bl, q_or_bl, q_c0, q_c1, q_c2, q_c3, q_c4, q_c5, q_c6, q_c9, q_c13, decide_true, decide_false, Int.reduceEq, Int.reduceLT, Int.reduceLE, Int.reduceAdd, Int.reduceSub, Int.reduceMul, Int.reduceNeg, Int.reducePow, Int.reduceToNat, Int.reduceBNe, Int.reduceNe, Nat.zero_le, q_get, q_cst, q_lift, q_un, q_with, q_av0, q_avC, q_callN, q_callKW, q_andD, q_orD, q_notD, q_fAnd, q_fOr, q_fNot, q_fTru, q_fBoo, q_ifD, q_isN, q_fIsN, q_fNotN, startD, q_bind, q_toS, q_rt, q_nx, q_thn_nx, q_thn_rt, q_okO, q_nxO, q_pure, q_none0, q_none1, q_none2, q_none3, q_none4, q_tru_bl, q_tru_int, q_tru_lst, q_tru_tup, q_tru_non, q_boo, q_seqL, q_seqT, q_lenL, q_lenT, q_eqI, q_neI, q_lt, q_le, q_gt, q_ge, q_add, q_addL, q_sub, q_neg, q_abs, q_int, q_intB, q_max, q_gcd, q_tupL, q_gL, q_gT, q_g0, q_g1, q_g2, q_lc, q_par, q_parO, q_whS, q_slc, q_prt0, q_prt1, q_intR, q_slcL, q_slcT, q_zipL, q_zipT, q_allp, List.length_map, wipeE, List.map_cons, List.map_nil, List.length_cons, List.length_nil, List.replicate, List.cons_append, List.nil_append, List.getElem?_cons_zero, List.getElem?_cons_succ, List.set_cons_zero, List.set_cons_succ, Nat.reduceSub, Nat.reduceAdd, if_true, Bool.not_true, Bool.not_false, Bool.false_eq_true, if_false, reduceIte, setD, List.foldl_cons, List.foldl_nil, q_asgN, q_asgT, q_asgL, q_asgs0, q_asgsC, Option.bind_some, List.append_nil, is_integer_eq, is_list_eq, q_is2, w_int, i_int, w_lst, w_tup, l_lst, l_tup, l_int, Bool.true_and, Bool.false_and, Bool.and_true, Bool.and_false, *])
    · exact elem2 rfl (by simp only [q_def, q_seq, q_ite, q_ret, q_set, q_drop, q_asg, q_for, q_for0, q_fc, q_frd_nx, q_frd_rt, q_frd_ct, q_frd_bk, q_turn, q_mkLst, q_mkTup, Nat.reduceLeDiff, q_and_bl, q_or_bl, q_c0, q_c1, q_c2, q_c3, q_c4, q_c5, q_c6, q_c9, q_c13, decide_true, decide_false, Int.reduceEq, Int.reduceLT, Int.reduceLE, Int.reduceAdd, Int.reduceSub, Int.reduceMul, Int.reduceNeg, Int.reducePow, Int.reduceToNat, Int.reduceBNe, Int.reduceNe, Nat.zero_le, q_get, q_cst, q_lift, q_un, q_with, q_av0, q_avC, q_callN, q_callKW, q_andD, q_orD, q_notD, q_fAnd, q_fOr, q_fNot, q_fTru, q_fBoo, q_ifD, q_isN, q_fIsN, q_fNotN, startD, q_bind, q_toS, q_rt, q_nx, q_thn_nx, q_thn_rt, q_okO, q_nxO, q_pure, q_none0, q_none1, q_none2, q_none3, q_none4, q_tru_bl, q_tru_int, q_tru_lst, q_tru_tup, q_tru_non, q_boo, q_seqL, q_seqT, q_lenL, q_lenT, q_eqI, q_neI, q_lt, q_le, q_gt, q_ge, q_add, q_addL, q_sub, q_neg, q_abs, q_int, q_intB, q_max, q_gcd, q_tupL, q_gL, q_gT, q_g0, q_g1, q_g2, q_lc, q_par, q_parO, q_whS, q_slc, q_prt0, q_prt1, q_intR, q_slcL, q_slcT, q_zipL, q_zipT, q_allp, List.length_map, wipeE, List.map_cons, List.map_nil, List.length_cons, List.length_nil, List.replicate, List.cons_append, List.nil_append, List.getElem?_cons_zero, List.getElem?_cons_succ, List.set_cons_zero, List.set_cons_succ, Nat.reduceSub, Nat.reduceAdd, if_true, Bool.not_true, Bool.not_false, Bool.false_eq_true, if_false, reduceIte, setD, List.foldl_cons, List.foldl_nil, q_asgN, q_asgT, q_asgL, q_asgs0, q_asgsC, Option.bind_some, List.append_nil, is_integer_eq, is_list_eq, q_is2, w_int, i_int, w_lst, w_tup, l_lst, l_tup, l_int, Bool.true_and, Bool.false_and, Bool.and_true, Bool.and_false, *]))
  obtain ⟨L, rfl, r, cn⟩ := row_of ys p
  refine ⟨L, s', e, by simpa using l, r, cn, G'⟩
theorem as_comp (x1 x2 x3 x4 x5 x6 x7 x8 x9 x10 x11 x12 x13 x14 x15 : Option D) : ∀ (L : List It3) (c : Int) (s : Deck), Row 101 L → Can L → Good c s → c + L.length ≤ 1000000 →
    ∃ L' s', compD (elemD (.nm 2) [13, 2] yesT (withA (avC (getE 0) (avC (getE 2) av0)) (callN 2 m_law_as)) [some .deck, x1, x2, x3, x4, x5, x6, x7, x8, x9, x10, x11, x12, x13, x14, x15]) (L.map (·.1)) s = .ok (L'.map (·.1)) s' ∧ L'.map (·.2) = L.map (·.2) ∧ Row 101 L' ∧ Good (c + L.length) s'
  | [], c, s, _, _, G, _ => ⟨[], s, rfl, rfl, (fun z hz => by cases hz), by simpa using G⟩
  | z :: L, c, s, h, cn, G, hc => by
    rw [List.length_cons] at hc ⊢
    obtain ⟨d, s1, e1, n1, G1⟩ := as_eq G (by omega) (h z (List.mem_cons_self ..)) (by rw [cn z (List.mem_cons_self ..)]; exact canD_no)
    obtain ⟨L', s2, e2, m2, r2, G2⟩ := as_comp x1 x2 x3 x4 x5 x6 x7 x8 x9 x10 x11 x12 x13 x14 x15 L (c + 1) s1 (fun y hy => h y (List.mem_cons_of_mem _ hy)) (fun y hy => cn y (List.mem_cons_of_mem _ hy)) G1 (by omega)
    refine ⟨(d, z.2) :: L', s2, ?_, by rw [List.map_cons, List.map_cons, m2], fun y hy => ?_, G2.mono (by omega)⟩
    · have el : elemD (.nm 2) [13, 2] yesT (withA (avC (getE 0) (avC (getE 2) av0)) (callN 2 m_law_as)) [some .deck, x1, x2, x3, x4, x5, x6, x7, x8, x9, x10, x11, x12, x13, x14, x15] z.1 s = .ok (some d) s1 := by
        clear e2 m2 r2 G2 h cn G G1 n1
        exact elem2 rfl (by simp only [q_def, q_seq, q_ite, q_ret, q_set, q_drop, q_asg, q_for, q_for0, q_fc, q_frd_nx, q_frd_rt, q_frd_ct, q_frd_bk, q_turn, q_mkLst, q_mkTup, Nat.reduceLeDiff, q_and_bl, q_or_bl, q_c0, q_c1, q_c2, q_c3, q_c4, q_c5, q_c6, q_c9, q_c13, decide_true, decide_false, Int.reduceEq, Int.reduceLT, Int.reduceLE, Int.reduceAdd, Int.reduceSub, Int.reduceMul, Int.reduceNeg, Int.reducePow, Int.reduceToNat, Int.reduceBNe, Int.reduceNe, Nat.zero_le, q_get, q_cst, q_lift, q_un, q_with, q_av0, q_avC, q_callN, q_callKW, q_andD, q_orD, q_notD, q_fAnd, q_fOr, q_fNot, q_fTru, q_fBoo, q_ifD, q_isN, q_fIsN, q_fNotN, startD, q_bind, q_toS, q_rt, q_nx, q_thn_nx, q_thn_rt, q_okO, q_nxO, q_pure, q_none0, q_none1, q_none2, q_none3, q_none4, q_tru_bl, q_tru_int, q_tru_lst, q_tru_tup, q_tru_non, q_boo, q_seqL, q_seqT, q_lenL, q_lenT, q_eqI, q_neI, q_lt, q_le, q_gt, q_ge, q_add, q_addL, q_sub, q_neg, q_abs, q_int, q_intB, q_max, q_gcd, q_tupL, q_gL, q_gT, q_g0, q_g1, q_g2, q_lc, q_par, q_parO, q_whS, q_slc, q_prt0, q_prt1, q_intR, q_slcL, q_slcT, q_zipL, q_zipT, q_allp, List.length_map, wipeE, List.map_cons, List.map_nil, List.length_cons, List.length_nil, List.replicate, List.cons_append, List.nil_append, List.getElem?_cons_zero, List.getElem?_cons_succ, List.set_cons_zero, List.set_cons_succ, Nat.reduceSub, Nat.reduceAdd, if_true, Bool.not_true, Bool.not_false, Bool.false_eq_true, if_false, reduceIte, setD, List.foldl_cons, List.foldl_nil, q_asgN, q_asgT, q_asgL, q_asgs0, q_asgsC, Option.bind_some, List.append_nil, is_integer_eq, is_list_eq, q_is2, w_int, i_int, w_lst, w_tup, l_lst, l_tup, l_int, Bool.true_and, Bool.false_and, Bool.and_true, Bool.and_false, *])
      rw [List.map_cons]
      unfold compD
      rw [el]
      simp only []
      rw [e2]
      rfl
    · rcases List.mem_cons.mp hy with rfl | hy
      · exact n1
      · exact r2 y hy
/-- the law's own products -/
theorem times_comp {w : Nat} (hw : w + w < 7000) (L M : List It3) (h : Row w L) (k : Row w M) (hl : L.length = M.length) (x0 x2 x4 x5 x6 x7 x8 x9 x10 x11 x12 x13 x14 x15 : Option D) (s : Deck) :
    compD (elemD (.nm 15) [13, 15] yesT (withA (avC (lift2 getM (getE 1) (getE 15)) (avC (lift2 getM (getE 3) (getE 15)) av0)) (callN 2 m_law_times)) [x0, some (.lst (L.map (·.1))), x2, some (.lst (M.map (·.1))), x4, x5, x6, x7, x8, x9, x10, x11, x12, x13, x14, x15]) (rng 0 L.length) s = .ok ((prodL L M).map (·.1)) s := by
  have pl : (prodL L M).length = L.length := by unfold prodL; rw [List.length_zipWith]; omega
  have e := q_comp (h := fun x => match x with | .int i => ((prodL L M)[i.toNat]?.map (·.1)).getD .non | _ => .non) (xs := rng 0 L.length) (s := s)
    (b := elemD (.nm 15) [13, 15] yesT (withA (avC (lift2 getM (getE 1) (getE 15)) (avC (lift2 getM (getE 3) (getE 15)) av0)) (callN 2 m_law_times)) [x0, some (.lst (L.map (·.1))), x2, some (.lst (M.map (·.1))), x4, x5, x6, x7, x8, x9, x10, x11, x12, x13, x14, x15]) fun x hx => by
    unfold rng at hx
    obtain ⟨i, hi, rfl⟩ := List.mem_map.mp hx
    have hi : i < L.length := List.mem_range.mp hi
    have a1 : atI (L.map (·.1)) (0 + (i : Int)) = some (L[i].1) := by
      unfold atI ixN
      simp [hi]
    have a2 : atI (M.map (·.1)) (0 + (i : Int)) = some ((M[i]'(by omega)).1) := by
      unfold atI ixN
      simp [show i < M.length by omega]
    have hz := h L[i] (List.getElem_mem _)
    have hy := k (M[i]'(by omega)) (List.getElem_mem _)
    have tm := fun s => law_times_eq hz.v hy.v hz.sa hz.sb hy.sa hy.sb hw s
    refine elem2 rfl ?_
    have pi : ((prodL L M)[(0 + (i : Int)).toNat]?.map (·.1)).getD .non = numD (L[i].2.1 * (M[i]'(by omega)).2.1) (L[i].2.2 * (M[i]'(by omega)).2.2) := by
      rw [show (0 + (i : Int)).toNat = i by omega]
      have : i < (prodL L M).length := by omega
      rw [List.getElem?_eq_getElem this]
      have zw : (prodL L M)[i] = mulI L[i] (M[i]'(by omega)) := List.getElem_zipWith
      rw [zw]
      rfl
    show _ = R.ok (((prodL L M)[(0 + (i : Int)).toNat]?.map (·.1)).getD .non) s
    rw [pi]
    generalize numD (L[i].2.1 * (M[i]'(by omega)).2.1) (L[i].2.2 * (M[i]'(by omega)).2.2) = T at *
    obtain ⟨Z, hZ⟩ : ∃ Z, Z = L[i].1 := ⟨_, rfl⟩
    obtain ⟨Y, hY⟩ : ∃ Y, Y = (M[i]'(by omega)).1 := ⟨_, rfl⟩
    rw [← hZ] at a1 tm
    rw [← hY] at a2 tm
    clear pi hx hz hy hZ hY h k hw pl hl
    simp only [q_def, q_seq, q_ite, q_ret, q_set, q_drop, q_asg, q_for, q_for0, q_fc, q_frd_nx, q_frd_rt, q_frd_ct, q_frd_bk, q_turn, q_mkLst, q_mkTup, Nat.reduceLeDiff, q_and_bl, q_or_bl, q_c0, q_c1, q_c2, q_c3, q_c4, q_c5, q_c6, q_c9, q_c13, decide_true, decide_false, Int.reduceEq, Int.reduceLT, Int.reduceLE, Int.reduceAdd, Int.reduceSub, Int.reduceMul, Int.reduceNeg, Int.reducePow, Int.reduceToNat, Int.reduceBNe, Int.reduceNe, Nat.zero_le, q_get, q_cst, q_lift, q_un, q_with, q_av0, q_avC, q_callN, q_callKW, q_andD, q_orD, q_notD, q_fAnd, q_fOr, q_fNot, q_fTru, q_fBoo, q_ifD, q_isN, q_fIsN, q_fNotN, startD, q_bind, q_toS, q_rt, q_nx, q_thn_nx, q_thn_rt, q_okO, q_nxO, q_pure, q_none0, q_none1, q_none2, q_none3, q_none4, q_tru_bl, q_tru_int, q_tru_lst, q_tru_tup, q_tru_non, q_boo, q_seqL, q_seqT, q_lenL, q_lenT, q_eqI, q_neI, q_lt, q_le, q_gt, q_ge, q_add, q_addL, q_sub, q_neg, q_abs, q_int, q_intB, q_max, q_gcd, q_tupL, q_gL, q_gT, q_g0, q_g1, q_g2, q_lc, q_par, q_parO, q_whS, q_slc, q_prt0, q_prt1, q_intR, q_slcL, q_slcT, q_zipL, q_zipT, q_allp, List.length_map, wipeE, List.map_cons, List.map_nil, List.length_cons, List.length_nil, List.replicate, List.cons_append, List.nil_append, List.getElem?_cons_zero, List.getElem?_cons_succ, List.set_cons_zero, List.set_cons_succ, Nat.reduceSub, Nat.reduceAdd, if_true, Bool.not_true, Bool.not_false, Bool.false_eq_true, if_false, reduceIte, setD, List.foldl_cons, List.foldl_nil, q_asgN, q_asgT, q_asgL, q_asgs0, q_asgsC, Option.bind_some, List.append_nil, is_integer_eq, is_list_eq, q_is2, w_int, i_int, w_lst, w_tup, l_lst, l_tup, l_int, Bool.true_and, Bool.false_and, Bool.and_true, Bool.and_false, *]
  rw [e]
  congr 1
  unfold rng
  refine List.ext_getElem (by simp [pl]) fun i h1 h2 => ?_
  simp only [List.getElem_map, List.getElem_range]
  rw [show (0 + (i : Int)).toNat = i by omega]
  have : i < (prodL L M).length := by simpa using h2
  rw [List.getElem?_eq_getElem this]
  rfl
end K03

set_option exponentiation.threshold 10000
namespace K03
open PySem PySem.Builtin PySem.Builtin.Str L2 FL
/-! ### what is due of a row -/
def wrongD : D := .tup [.str "BadNumber", .str "values"]
def p0 (L : List It3) : It3 := match L with
  | [] => (.int 0, 0, 1)
  | z :: _ => z
def lowI (L : List It3) : It3 := L.foldl minS (p0 L)
def highI (L : List It3) : It3 := L.foldl maxS (p0 L)
def sumD (L : List It3) : D := numD (sumP L (0, 1)).1 (sumP L (0, 1)).2
def dueR (L M : List It3) (i : Int) : D :=
  if i = 0 then (if L.isEmpty = true then wrongD else .lst [(lowI L).1]) else if i = 1 then (if L.isEmpty = true then wrongD else .lst [(highI L).1]) else if i = 2 then .lst [sumD L] else .lst [sumD (prodL L M)]
theorem nm0 : Nm 101 (.int 0) 0 1 := ⟨.int 0, rfl, rfl, by unfold Sz; decide, by unfold Sz; decide⟩
theorem p0_nm {L : List It3} (h : Row 101 L) : Nm 101 (p0 L).1 (p0 L).2.1 (p0 L).2.2 := by
  cases L with
  | nil => exact nm0
  | cons z L => exact h z (List.mem_cons_self ..)
theorem p0_can {L : List It3} (h : Can L) : (p0 L).1 = canD (p0 L).2.1 (p0 L).2.2 := by
  cases L with
  | nil => rfl
  | cons z L => exact h z (List.mem_cons_self ..)
theorem same_len {L L' : List It3} (e : L'.map (·.2) = L.map (·.2)) : L'.length = L.length := by
  have := congrArg List.length e
  simpa using this
theorem told_due {L M L' M' : List It3} (cn : Can L) (hL : Row 101 L') (hM : Row 101 M') (eL : L'.map (·.2) = L.map (·.2)) (eM : M'.map (·.2) = M.map (·.2)) (hl : L.length ≤ 6) (hlm : L.length = M.length)
    (i : Int) (i0 : 0 ≤ i) (i4 : i < 4) (mine : D) (s : Deck) (hd : RowD L' mine) : m_law_row_told [.int i, mine, .lst (M'.map (·.1))] s = .ok (dueR L M i) s := by
  have len' : L'.length = L.length := same_len eL
  have lenM : M'.length = M.length := same_len eM
  have c0 : i = 0 ∨ i = 1 ∨ i = 2 ∨ i = 3 := by omega
  rcases c0 with rfl | rfl | rfl | rfl
  · cases L' with
    | nil =>
      cases L with
      | cons z L => simp at len'
      | nil => exact rt_bn (by decide) (show m_least [mine] s = _ from least_empty mine hd s)
    | cons z' L' =>
      cases L with
      | nil => simp at len'
      | cons z L =>
        have k : (lowI (z :: L)).2 = ((z' :: L').foldl minS z').2 := by
          unfold lowI p0
          exact min_same eL.symm (by simp only [List.map_cons, List.cons.injEq] at eL; exact eL.1.symm)
        have kc : (lowI (z :: L)).1 = canD (lowI (z :: L)).2.1 (lowI (z :: L)).2.2 := min_can cn (p0_can cn)
        have := rt_ok (way := 0) (y := .lst (M'.map (·.1))) (by decide) (show m_least [mine] s = _ from least_eq hL (by decide) (by omega) hd s)
        rw [this]
        show R.ok (D.lst [canD ((z' :: L').foldl minS z').2.1 ((z' :: L').foldl minS z').2.2]) s = R.ok (.lst [(lowI (z :: L)).1]) s
        rw [kc, k]
  · cases L' with
    | nil =>
      cases L with
      | cons z L => simp at len'
      | nil => exact rt_bn (by decide) (show m_greatest [mine] s = _ from great_empty mine hd s)
    | cons z' L' =>
      cases L with
      | nil => simp at len'
      | cons z L =>
        have k : (highI (z :: L)).2 = ((z' :: L').foldl maxS z').2 := by
          unfold highI p0
          exact max_same eL.symm (by simp only [List.map_cons, List.cons.injEq] at eL; exact eL.1.symm)
        have kc : (highI (z :: L)).1 = canD (highI (z :: L)).2.1 (highI (z :: L)).2.2 := max_can cn (p0_can cn)
        have := rt_ok (way := 1) (y := .lst (M'.map (·.1))) (by decide) (show m_greatest [mine] s = _ from great_eq hL (by decide) (by omega) hd s)
        rw [this]
        show R.ok (D.lst [canD ((z' :: L').foldl maxS z').2.1 ((z' :: L').foldl maxS z').2.2]) s = R.ok (.lst [(highI (z :: L)).1]) s
        rw [kc, k]
  · have := rt_ok (way := 2) (y := .lst (M'.map (·.1))) (by decide) (show m_sum_of [mine] s = _ from sum_of_eq hL (by omega) (by omega) hd s)
    rw [this]
    show R.ok (D.lst [sumD L']) s = R.ok (.lst [sumD L]) s
    unfold sumD
    rw [sum_same eL]
  · have := rt_ok (way := 3) (by decide) (show m_product_sum [mine, .lst (M'.map (·.1))] s = _ from prod_eq hL hM (by omega) (by omega) (by decide) hd rfl s)
    rw [this]
    show R.ok (D.lst [sumD (prodL L' M')]) s = R.ok (.lst [sumD (prodL L M)]) s
    rw [prod_same eL eM]
theorem shows_can {a b : Int} (ha : Sz 1900 a) (hb : Sz 1900 b) : Shows (.lst [canD a b]) := by
  unfold canD
  split
  · exact shows_int ha
  · exact shows_pair ha hb
theorem shows_wrong : Shows wrongD := shows_of (p := .tuple [.str "BadNumber", .str "values"]) rfl rfl (by decide +kernel) rfl (by decide +kernel) (n := 100) (by decide) (lo_lit (by decide +kernel))
theorem shows_sum {w : Nat} {L : List It3} (h : Row w L) (hn : L.length ≤ 6) (hw : w ≤ 300) : Shows (.lst [sumD L]) := by
  obtain ⟨s2, p⟩ := sum_sz w L 1 0 1 h.ok (by unfold Sz; decide) (by unfold Sz; decide) (by decide)
  have s1 := sum_szA w L 1 0 1 h.ok (by unfold Sz; decide) (by unfold Sz; decide)
  have : (w + 1) * L.length ≤ 301 * 6 := Nat.mul_le_mul (by omega) (by omega)
  exact shows_num (by omega) (s1.mono (by omega)) (s2.mono (by omega))
theorem min_nm {w : Nat} : ∀ {L : List It3} {p : It3}, Row w L → Nm w p.1 p.2.1 p.2.2 → Nm w (L.foldl minS p).1 (L.foldl minS p).2.1 (L.foldl minS p).2.2
  | [], _, _, h => h
  | z :: L, p, h, hp => min_nm (L := L) (p := minS p z) (fun y hy => h y (List.mem_cons_of_mem _ hy)) (by unfold minS; split; exact h z (List.mem_cons_self ..); exact hp)
theorem max_nm {w : Nat} : ∀ {L : List It3} {p : It3}, Row w L → Nm w p.1 p.2.1 p.2.2 → Nm w (L.foldl maxS p).1 (L.foldl maxS p).2.1 (L.foldl maxS p).2.2
  | [], _, _, h => h
  | z :: L, p, h, hp => max_nm (L := L) (p := maxS p z) (fun y hy => h y (List.mem_cons_of_mem _ hy)) (by unfold maxS; split; exact h z (List.mem_cons_self ..); exact hp)
theorem due_showsR {L M : List It3} (h : Row 101 L) (k : Row 101 M) (cn : Can L) (hl : L.length ≤ 6) (i : Int) (i0 : 0 ≤ i) (i4 : i < 4) : Shows (dueR L M i) := by
  have c0 : i = 0 ∨ i = 1 ∨ i = 2 ∨ i = 3 := by omega
  rcases c0 with rfl | rfl | rfl | rfl
  · show Shows (if L.isEmpty = true then wrongD else .lst [(lowI L).1])
    split
    · exact shows_wrong
    · have n : Nm 101 (lowI L).1 (lowI L).2.1 (lowI L).2.2 := min_nm h (p0_nm h)
      rw [show (lowI L).1 = canD (lowI L).2.1 (lowI L).2.2 from min_can cn (p0_can cn)]
      exact shows_can (n.sa.mono (by decide)) (n.sb.mono (by decide))
  · show Shows (if L.isEmpty = true then wrongD else .lst [(highI L).1])
    split
    · exact shows_wrong
    · have n : Nm 101 (highI L).1 (highI L).2.1 (highI L).2.2 := max_nm h (p0_nm h)
      rw [show (highI L).1 = canD (highI L).2.1 (highI L).2.2 from max_can cn (p0_can cn)]
      exact shows_can (n.sa.mono (by decide)) (n.sb.mono (by decide))
  · exact shows_sum h hl (by decide)
  · exact shows_sum (prod_row h k) (by unfold prodL; rw [List.length_zipWith]; omega) (by decide)
/-! ### four ways -/
def rwB : FS := (seqS (setS 11 (ifD (fBoo (lift2 eqM (withA (avC (getE 0) (avC (cst (.int 2)) av0)) (callN 2 m_law_draw)) (cst (.int 0)))) (lift2 getM (getE 8) (cst (.int 0))) (withA (avC (lift2 getM (getE 8) (cst (.int 0))) av0) tupM)))
    (iteS (fBoo (lift2 neM (withA (avC (withA (avC (getE 10) (avC (getE 11) (avC (lift2 getM (getE 8) (cst (.int 1))) av0))) (callN 3 m_law_row_told)) av0) reprM) (withA (avC (lift2 getM (getE 7) (getE 10)) av0) reprM))) (retS (cst (.bl false))) (fun δ s => .nx δ s)))
theorem rows_loop {L' M' : List It3} (due : List D) (dueD : Int → D)
    (H : ∀ i : Int, 0 ≤ i → i < 4 → ∀ (mine : D) (s : Deck), RowD L' mine → m_law_row_told [.int i, mine, .lst (M'.map (·.1))] s = .ok (dueD i) s)
    (S : ∀ i : Int, 0 ≤ i → i < 4 → Shows (dueD i)) (Gt : ∀ i : Int, 0 ≤ i → i < 4 → atI due i = some (dueD i)) (y1 y2 y3 y4 y5 y6 y9 y12 y13 y14 y15 : Option D) :
    ∀ (ws : List Int) (k : Int) (s : Deck) (y10 y11 : Option D), (∀ i ∈ ws, 0 ≤ i ∧ i < 4) → Good k s → k + ws.length ≤ 1000000 →
    ∃ z10 z11 s', forD (turnS (.nm 10) rwB) (ws.map .int) [some .deck, y1, y2, y3, y4, y5, y6, some (.lst due), some (.lst [.lst (L'.map (·.1)), .lst (M'.map (·.1))]), y9, y10, y11, y12, y13, y14, y15] s
      = .nx [some .deck, y1, y2, y3, y4, y5, y6, some (.lst due), some (.lst [.lst (L'.map (·.1)), .lst (M'.map (·.1))]), y9, z10, z11, y12, y13, y14, y15] s' ∧ Good (k + ws.length) s'
  | [], k, s, y10, y11, _, G, _ => ⟨y10, y11, s, rfl, by simpa using G⟩
  | i :: ws, k, s, y10, y11, hw, G, hk => by
    rw [List.length_cons] at hk ⊢
    obtain ⟨i0, i4⟩ := hw i (List.mem_cons_self ..)
    obtain ⟨r, s1, e1, _, _, G1⟩ := sift_eq G (by omega) (many := 2) (by decide) (by decide +kernel)
    have as1 := fun s => H i i0 i4 (.lst (L'.map (·.1))) s (.inl rfl)
    have as2 := fun s => H i i0 i4 (.tup (L'.map (·.1))) s (.inr rfl)
    obtain ⟨t, r1, r2⟩ := S i i0 i4
    have gt := Gt i i0 i4
    have step : ∃ z11, turnS (.nm 10) rwB (.int i) [some .deck, y1, y2, y3, y4, y5, y6, some (.lst due), some (.lst [.lst (L'.map (·.1)), .lst (M'.map (·.1))]), y9, y10, y11, y12, y13, y14, y15] s
        = .nx [some .deck, y1, y2, y3, y4, y5, y6, some (.lst due), some (.lst [.lst (L'.map (·.1)), .lst (M'.map (·.1))]), y9, some (.int i), z11, y12, y13, y14, y15] s1 := by
      generalize L'.map (·.1) = A at *
      generalize M'.map (·.1) = B at *
      by_cases z : r = 0
      · have z := decide_eq_true z
        refine ⟨some (.lst A), ?_⟩
        unfold rwB
        clear H S Gt hw hk i0 i4 G G1
        simp only [q_def, q_seq, q_ite, q_ret, q_set, q_drop, q_asg, q_for, q_for0, q_fc, q_frd_nx, q_frd_rt, q_frd_ct, q_frd_bk, q_turn, q_mkLst, q_mkTup, Nat.reduceLeDiff, q_and_bl, q_or_bl, q_c0, q_c1, q_c2, q_c3, q_c4, q_c5, q_c6, q_c9, q_c13, decide_true, decide_false, Int.reduceEq, Int.reduceLT, Int.reduceLE, Int.reduceAdd, Int.reduceSub, Int.reduceMul, Int.reduceNeg, Int.reducePow, Int.reduceToNat, Int.reduceBNe, Int.reduceNe, Nat.zero_le, q_get, q_cst, q_lift, q_un, q_with, q_av0, q_avC, q_callN, q_callKW, q_andD, q_orD, q_notD, q_fAnd, q_fOr, q_fNot, q_fTru, q_fBoo, q_ifD, q_isN, q_fIsN, q_fNotN, startD, q_bind, q_toS, q_rt, q_nx, q_thn_nx, q_thn_rt, q_okO, q_nxO, q_pure, q_none0, q_none1, q_none2, q_none3, q_none4, q_tru_bl, q_tru_int, q_tru_lst, q_tru_tup, q_tru_non, q_boo, q_seqL, q_seqT, q_lenL, q_lenT, q_eqI, q_neI, q_lt, q_le, q_gt, q_ge, q_add, q_addL, q_sub, q_neg, q_abs, q_int, q_intB, q_max, q_gcd, q_tupL, q_gL, q_gT, q_g0, q_g1, q_g2, q_lc, q_par, q_parO, q_whS, q_slc, q_prt0, q_prt1, q_intR, q_slcL, q_slcT, q_zipL, q_zipT, q_allp, List.length_map, wipeE, List.map_cons, List.map_nil, List.length_cons, List.length_nil, List.replicate, List.cons_append, List.nil_append, List.getElem?_cons_zero, List.getElem?_cons_succ, List.set_cons_zero, List.set_cons_succ, Nat.reduceSub, Nat.reduceAdd, if_true, Bool.not_true, Bool.not_false, Bool.false_eq_true, if_false, reduceIte, setD, List.foldl_cons, List.foldl_nil, q_asgN, q_asgT, q_asgL, q_asgs0, q_asgsC, Option.bind_some, List.append_nil, is_integer_eq, is_list_eq, q_is2, w_int, i_int, w_lst, w_tup, l_lst, l_tup, l_int, Bool.true_and, Bool.false_and, Bool.and_true, Bool.and_false, at0, at1, *]
      · have z := decide_eq_false z
        refine ⟨some (.tup A), ?_⟩
        unfold rwB
        clear H S Gt hw hk i0 i4 G G1
        simp only [q_def, q_seq, q_ite, q_ret, q_set, q_drop, q_asg, q_for, q_for0, q_fc, q_frd_nx, q_frd_rt, q_frd_ct, q_frd_bk, q_turn, q_mkLst, q_mkTup, Nat.reduceLeDiff, q_and_bl, q_or_bl, q_c0, q_c1, q_c2, q_c3, q_c4, q_c5, q_c6, q_c9, q_c13, decide_true, decide_false, Int.reduceEq, Int.reduceLT, Int.reduceLE, Int.reduceAdd, Int.reduceSub, Int.reduceMul, Int.reduceNeg, Int.reducePow, Int.reduceToNat, Int.reduceBNe, Int.reduceNe, Nat.zero_le, q_get, q_cst, q_lift, q_un, q_with, q_av0, q_avC, q_callN, q_callKW, q_andD, q_orD, q_notD, q_fAnd, q_fOr, q_fNot, q_fTru, q_fBoo, q_ifD, q_isN, q_fIsN, q_fNotN, startD, q_bind, q_toS, q_rt, q_nx, q_thn_nx, q_thn_rt, q_okO, q_nxO, q_pure, q_none0, q_none1, q_none2, q_none3, q_none4, q_tru_bl, q_tru_int, q_tru_lst, q_tru_tup, q_tru_non, q_boo, q_seqL, q_seqT, q_lenL, q_lenT, q_eqI, q_neI, q_lt, q_le, q_gt, q_ge, q_add, q_addL, q_sub, q_neg, q_abs, q_int, q_intB, q_max, q_gcd, q_tupL, q_gL, q_gT, q_g0, q_g1, q_g2, q_lc, q_par, q_parO, q_whS, q_slc, q_prt0, q_prt1, q_intR, q_slcL, q_slcT, q_zipL, q_zipT, q_allp, List.length_map, wipeE, List.map_cons, List.map_nil, List.length_cons, List.length_nil, List.replicate, List.cons_append, List.nil_append, List.getElem?_cons_zero, List.getElem?_cons_succ, List.set_cons_zero, List.set_cons_succ, Nat.reduceSub, Nat.reduceAdd, if_true, Bool.not_true, Bool.not_false, Bool.false_eq_true, if_false, reduceIte, setD, List.foldl_cons, List.foldl_nil, q_asgN, q_asgT, q_asgL, q_asgs0, q_asgsC, Option.bind_some, List.append_nil, is_integer_eq, is_list_eq, q_is2, w_int, i_int, w_lst, w_tup, l_lst, l_tup, l_int, Bool.true_and, Bool.false_and, Bool.and_true, Bool.and_false, at0, at1, *]
    obtain ⟨z11, st⟩ := step
    obtain ⟨z10, z11', s', ih, G'⟩ := rows_loop due dueD H S Gt y1 y2 y3 y4 y5 y6 y9 y12 y13 y14 y15 ws (k + 1) s1 (some (.int i)) z11 (fun j hj => hw j (List.mem_cons_of_mem _ hj)) G1 (by omega)
    refine ⟨z10, z11', s', ?_, G'.mono (by omega)⟩
    rw [List.map_cons, q_fc, st, q_frd_nx]
    exact ih
end K03

set_option exponentiation.threshold 10000
namespace K03
open PySem PySem.Builtin PySem.Builtin.Str L2 FL
/-! ### the rows -/
def r1 : FS := (setS 1 (lcD (fun δ s => ((avC (withA (avC (getE 0) (avC (cst (.int 5)) av0)) (callN 2 m_law_draw)) av0) δ s).bind rng1M) (.nm 14) [13, 14] yesT (withA (avC (getE 0) av0) (callN 1 m_law_value))))
def r2 : FS := (iteS (fAnd (fBoo (lift2 neM (getE 1) (withA av0 mkLst))) (fBoo (lift2 eqM (withA (avC (getE 0) (avC (cst (.int 3)) av0)) (callN 2 m_law_draw)) (cst (.int 0))))) (setS 1 (lift2 addM (getE 1) (withA (avC (lift2 getM (getE 1) (cst (.int 0))) av0) mkLst))) (fun δ s => .nx δ s))
def r3 : FS := (setS 3 (lcD (fun δ s => ((getE 1) δ s).bind seqM) (.nm 2) [13, 2] yesT (withA (avC (getE 0) av0) (callN 1 m_law_value))))
def r4 : FS := (asgS (.tp [(.nm 4), (.nm 5)]) (ifD (fBoo (lift2 neM (getE 1) (withA av0 mkLst))) (withA (avC (lift2 getM (getE 1) (cst (.int 0))) (avC (lift2 getM (getE 1) (cst (.int 0))) av0)) mkTup) (withA (avC (cst (.int 0)) (avC (cst (.int 0)) av0)) mkTup)))
def r5 : FS := (forS (fun δ s => ((getE 1) δ s).bind seqM) (.nm 2) lowB)
def r6 : FS := (setS 6 (withA (avC (cst (.str "BadNumber")) (avC (cst (.str "values")) av0)) mkTup))
def r7 : FS := (setS 7 (withA (avC (ifD (fBoo (lift2 neM (getE 1) (withA av0 mkLst))) (withA (avC (getE 4) av0) mkLst) (getE 6)) (avC (ifD (fBoo (lift2 neM (getE 1) (withA av0 mkLst))) (withA (avC (getE 5) av0) mkLst) (getE 6)) (avC (withA (avC (withA (avC (getE 1) av0) (callN 1 m_law_sum)) av0) mkLst) av0))) mkLst))
def r8 : FS := (setS 7 (lift2 addM (getE 7) (withA (avC (withA (avC (withA (avC (lcD (fun δ s => ((avC (withA (avC (getE 1) av0) lenM) av0) δ s).bind rng1M) (.nm 15) [13, 15] yesT (withA (avC (lift2 getM (getE 1) (getE 15)) (avC (lift2 getM (getE 3) (getE 15)) av0)) (callN 2 m_law_times))) av0) (callN 1 m_law_sum)) av0) mkLst) av0) mkLst)))
def r9 : FS := (setS 8 (withA (avC (lcD (fun δ s => ((getE 1) δ s).bind seqM) (.nm 2) [13, 2] yesT (withA (avC (getE 0) (avC (getE 2) av0)) (callN 2 m_law_as))) (avC (lcD (fun δ s => ((getE 3) δ s).bind seqM) (.nm 2) [13, 2] yesT (withA (avC (getE 0) (avC (getE 2) av0)) (callN 2 m_law_as))) av0)) mkLst))
def r10 : FS := (setS 9 (withA (avC (getE 8) av0) reprM))
def r11 : FS := (forS (fun δ s => ((avC (cst (.int 4)) av0) δ s).bind rng1M) (.nm 10) rwB)
def r12 : FS := (setS 12 (lift2 addM (lift2 getM (getE 8) (cst (.int 0))) (withA (avC (withA (avC (getE 0) av0) (callN 1 m_law_bad)) av0) mkLst)))
def r13 : FS := (iteS (fBoo (lift2 neM (lcD (fun δ s => ((withA (avC (cst (.int 0)) (avC (cst (.int 1)) (avC (cst (.int 2)) av0))) mkTup) δ s).bind seqM) (.nm 10) [13, 10] yesT (withA (avC (getE 10) (avC (getE 12) (avC (getE 3) av0))) (callN 3 m_law_row_told))) (withA (avC (getE 6) (avC (getE 6) (avC (getE 6) av0))) mkLst))) (retS (cst (.bl false))) (fun δ s => .nx δ s))
def r14 : FS := (iteS (fOr (fBoo (lift2 neM (withA (avC (cst (.int 3)) (avC (getE 12) (avC (getE 12) av0))) (callN 3 m_law_row_told)) (withA (avC (cst (.str "BadNumber")) (avC (cst (.str "row")) av0)) mkTup))) (fBoo (lift2 neM (withA (avC (cst (.int 3)) (avC (getE 1) (avC (lift2 addM (getE 3) (withA (avC (cst (.int 1)) av0) mkLst)) av0))) (callN 3 m_law_row_told)) (withA (avC (cst (.str "BadNumber")) (avC (cst (.str "other")) av0)) mkTup)))) (retS (cst (.bl false))) (fun δ s => .nx δ s))
def r15 : FS := (retS (andD (lift2 eqM (withA (avC (cst (.int 3)) (avC (getE 1) (avC (cst (.int 7)) av0))) (callN 3 m_law_row_told)) (withA (avC (cst (.str "BadNumber")) (avC (cst (.str "other")) av0)) mkTup)) (andD (lift2 eqM (withA (avC (cst (.int 2)) (avC (cst .non) (avC (cst .non) av0))) (callN 3 m_law_row_told)) (getE 6)) (lift2 eqM (withA (avC (getE 8) av0) reprM) (getE 9)))))
theorem rows_fold : g_law_rows = (seqS r1 (seqS r2 (seqS r3 (seqS r4 (seqS r5 (seqS r6 (seqS r7 (seqS r8 (seqS r9 (seqS r10 (seqS r11 (seqS r12 (seqS r13 (seqS r14 r15)))))))))))))) := rfl
theorem rng_eq {n : Int} (s : Deck) (h0 : 0 ≤ n) (h1 : n ≤ 1000) : rng1M [.int n] s = .ok (rng 0 n.toNat) s := by
  have h : small62 n = true := decide_eq_true (by omega)
  unfold rng1M
  simp only [h, if_true]
theorem rng_len (n : Nat) : (rng 0 n).length = n := by unfold rng; simp
theorem rows_1 {b : Int} {s : Deck} (G : Good b s) (hb : b + 20 ≤ 1000000) :
    ∃ L s', r1 [some .deck, none, none, none, none, none, none, none, none, none, none, none, none, none, none, none] s = .nx [some .deck, some (.lst (L.map (·.1))), none, none, none, none, none, none, none, none, none, none, none, none, none, none] s' ∧ L.length ≤ 4 ∧ Row 101 L ∧ Can L ∧ Good (b + 17) s' := by
  obtain ⟨r, s1, e1, r0, r5, G1⟩ := sift_eq G (by omega) (many := 5) (by decide) (by decide +kernel)
  have rg := fun s => rng_eq s r0 (by omega)
  have ln := rng_len r.toNat
  obtain ⟨L, s2, e2, l2, rw2, cn, G2⟩ := val_comp 14 (.inl rfl) none none none none none none none none none none none none none none none (rng 0 r.toNat) (b + 1) s1 G1 (by rw [ln]; omega)
  rw [ln] at l2 G2
  have mk : ∀ s : Deck, mkLst (L.map (·.1)) s = .ok (.lst (L.map (·.1))) s := fun s => q_mkLst (by rw [List.length_map]; omega)
  refine ⟨L, s2, ?_, by omega, rw2, cn, G2.mono (by omega)⟩
  unfold r1
  generalize L.map (·.1) = W at *
  generalize rng 0 r.toNat = X at *
  clear G G1 G2 rw2 cn l2 ln r0 r5 hb
  simp only [q_def, q_seq, q_ite, q_ret, q_set, q_drop, q_asg, q_for, q_for0, q_fc, q_frd_nx, q_frd_rt, q_frd_ct, q_frd_bk, q_turn, q_mkLst, q_mkTup, Nat.reduceLeDiff, q_and_bl, q_or_bl, q_c0, q_c1, q_c2, q_c3, q_c4, q_c5, q_c6, q_c9, q_c13, decide_true, decide_false, Int.reduceEq, Int.reduceLT, Int.reduceLE, Int.reduceAdd, Int.reduceSub, Int.reduceMul, Int.reduceNeg, Int.reducePow, Int.reduceToNat, Int.reduceBNe, Int.reduceNe, Nat.zero_le, q_get, q_cst, q_lift, q_un, q_with, q_av0, q_avC, q_callN, q_callKW, q_andD, q_orD, q_notD, q_fAnd, q_fOr, q_fNot, q_fTru, q_fBoo, q_ifD, q_isN, q_fIsN, q_fNotN, startD, q_bind, q_toS, q_rt, q_nx, q_thn_nx, q_thn_rt, q_okO, q_nxO, q_pure, q_none0, q_none1, q_none2, q_none3, q_none4, q_tru_bl, q_tru_int, q_tru_lst, q_tru_tup, q_tru_non, q_boo, q_seqL, q_seqT, q_lenL, q_lenT, q_eqI, q_neI, q_lt, q_le, q_gt, q_ge, q_add, q_addL, q_sub, q_neg, q_abs, q_int, q_intB, q_max, q_gcd, q_tupL, q_gL, q_gT, q_g0, q_g1, q_g2, q_lc, q_par, q_parO, q_whS, q_slc, q_prt0, q_prt1, q_intR, q_slcL, q_slcT, q_zipL, q_zipT, q_allp, List.length_map, wipeE, List.map_cons, List.map_nil, List.length_cons, List.length_nil, List.replicate, List.cons_append, List.nil_append, List.getElem?_cons_zero, List.getElem?_cons_succ, List.set_cons_zero, List.set_cons_succ, Nat.reduceSub, Nat.reduceAdd, if_true, Bool.not_true, Bool.not_false, Bool.false_eq_true, if_false, reduceIte, setD, List.foldl_cons, List.foldl_nil, q_asgN, q_asgT, q_asgL, q_asgs0, q_asgsC, Option.bind_some, List.append_nil, is_integer_eq, is_list_eq, q_is2, w_int, i_int, w_lst, w_tup, l_lst, l_tup, l_int, Bool.true_and, Bool.false_and, Bool.and_true, Bool.and_false, *]
theorem rows_2 {b : Int} {s : Deck} (G : Good b s) (hb : b + 1 ≤ 1000000) {L : List It3} (hl : L.length ≤ 4) (h : Row 101 L) (cn : Can L) :
    ∃ L' s', r2 [some .deck, some (.lst (L.map (·.1))), none, none, none, none, none, none, none, none, none, none, none, none, none, none] s = .nx [some .deck, some (.lst (L'.map (·.1))), none, none, none, none, none, none, none, none, none, none, none, none, none, none] s' ∧ L'.length ≤ 5 ∧ Row 101 L' ∧ Can L' ∧ Good (b + 1) s' := by
  cases L with
  | nil =>
    refine ⟨[], s, ?_, by simp, h, cn, G.mono (by omega)⟩
    have ne : ∀ s : Deck, neM (.lst []) (.lst []) s = .ok (.bl false) s := fun s => ne_nil h s
    unfold r2
    clear G h cn hl hb
    simp only [List.map_nil]
    simp only [q_def, q_seq, q_ite, q_ret, q_set, q_drop, q_asg, q_for, q_for0, q_fc, q_frd_nx, q_frd_rt, q_frd_ct, q_frd_bk, q_turn, q_mkLst, q_mkTup, Nat.reduceLeDiff, q_and_bl, q_or_bl, q_c0, q_c1, q_c2, q_c3, q_c4, q_c5, q_c6, q_c9, q_c13, decide_true, decide_false, Int.reduceEq, Int.reduceLT, Int.reduceLE, Int.reduceAdd, Int.reduceSub, Int.reduceMul, Int.reduceNeg, Int.reducePow, Int.reduceToNat, Int.reduceBNe, Int.reduceNe, Nat.zero_le, q_get, q_cst, q_lift, q_un, q_with, q_av0, q_avC, q_callN, q_callKW, q_andD, q_orD, q_notD, q_fAnd, q_fOr, q_fNot, q_fTru, q_fBoo, q_ifD, q_isN, q_fIsN, q_fNotN, startD, q_bind, q_toS, q_rt, q_nx, q_thn_nx, q_thn_rt, q_okO, q_nxO, q_pure, q_none0, q_none1, q_none2, q_none3, q_none4, q_tru_bl, q_tru_int, q_tru_lst, q_tru_tup, q_tru_non, q_boo, q_seqL, q_seqT, q_lenL, q_lenT, q_eqI, q_neI, q_lt, q_le, q_gt, q_ge, q_add, q_addL, q_sub, q_neg, q_abs, q_int, q_intB, q_max, q_gcd, q_tupL, q_gL, q_gT, q_g0, q_g1, q_g2, q_lc, q_par, q_parO, q_whS, q_slc, q_prt0, q_prt1, q_intR, q_slcL, q_slcT, q_zipL, q_zipT, q_allp, List.length_map, wipeE, List.map_cons, List.map_nil, List.length_cons, List.length_nil, List.replicate, List.cons_append, List.nil_append, List.getElem?_cons_zero, List.getElem?_cons_succ, List.set_cons_zero, List.set_cons_succ, Nat.reduceSub, Nat.reduceAdd, if_true, Bool.not_true, Bool.not_false, Bool.false_eq_true, if_false, reduceIte, setD, List.foldl_cons, List.foldl_nil, q_asgN, q_asgT, q_asgL, q_asgs0, q_asgsC, Option.bind_some, List.append_nil, is_integer_eq, is_list_eq, q_is2, w_int, i_int, w_lst, w_tup, l_lst, l_tup, l_int, Bool.true_and, Bool.false_and, Bool.and_true, Bool.and_false, *]
  | cons z L =>
    have ne : ∀ s : Deck, neM (.lst ((z :: L).map (·.1))) (.lst []) s = .ok (.bl true) s := fun s => ne_nil h s
    obtain ⟨r, s1, e1, r0, r3, G1⟩ := sift_eq G (by omega) (many := 3) (by decide) (by decide +kernel)
    by_cases c : r = 0
    · have c := decide_eq_true c
      refine ⟨(z :: L) ++ [z], s1, ?_, by simp at hl ⊢; omega, fun y hy => ?_, fun y hy => ?_, G1⟩
      · have sz : (z.1 :: (L.map (·.1) ++ [z.1])).length ≤ 16777216 := by simp at hl ⊢; omega
        have mk : ∀ s : Deck, mkLst (z.1 :: (L.map (·.1) ++ [z.1])) s = .ok (.lst (z.1 :: (L.map (·.1) ++ [z.1]))) s := fun s => q_mkLst sz
        rw [show ((z :: L) ++ [z]).map (·.1) = z.1 :: (L.map (·.1) ++ [z.1]) from by simp]
        rw [List.map_cons] at ne ⊢
        unfold r2
        generalize L.map (·.1) = W at *
        clear G G1 h cn hl hb r0 r3 sz
        simp only [q_def, q_seq, q_ite, q_ret, q_set, q_drop, q_asg, q_for, q_for0, q_fc, q_frd_nx, q_frd_rt, q_frd_ct, q_frd_bk, q_turn, q_mkLst, q_mkTup, Nat.reduceLeDiff, q_and_bl, q_or_bl, q_c0, q_c1, q_c2, q_c3, q_c4, q_c5, q_c6, q_c9, q_c13, decide_true, decide_false, Int.reduceEq, Int.reduceLT, Int.reduceLE, Int.reduceAdd, Int.reduceSub, Int.reduceMul, Int.reduceNeg, Int.reducePow, Int.reduceToNat, Int.reduceBNe, Int.reduceNe, Nat.zero_le, q_get, q_cst, q_lift, q_un, q_with, q_av0, q_avC, q_callN, q_callKW, q_andD, q_orD, q_notD, q_fAnd, q_fOr, q_fNot, q_fTru, q_fBoo, q_ifD, q_isN, q_fIsN, q_fNotN, startD, q_bind, q_toS, q_rt, q_nx, q_thn_nx, q_thn_rt, q_okO, q_nxO, q_pure, q_none0, q_none1, q_none2, q_none3, q_none4, q_tru_bl, q_tru_int, q_tru_lst, q_tru_tup, q_tru_non, q_boo, q_seqL, q_seqT, q_lenL, q_lenT, q_eqI, q_neI, q_lt, q_le, q_gt, q_ge, q_add, q_addL, q_sub, q_neg, q_abs, q_int, q_intB, q_max, q_gcd, q_tupL, q_gL, q_gT, q_g0, q_g1, q_g2, q_lc, q_par, q_parO, q_whS, q_slc, q_prt0, q_prt1, q_intR, q_slcL, q_slcT, q_zipL, q_zipT, q_allp, List.length_map, wipeE, List.map_cons, List.map_nil, List.length_cons, List.length_nil, List.replicate, List.cons_append, List.nil_append, List.getElem?_cons_zero, List.getElem?_cons_succ, List.set_cons_zero, List.set_cons_succ, Nat.reduceSub, Nat.reduceAdd, if_true, Bool.not_true, Bool.not_false, Bool.false_eq_true, if_false, reduceIte, setD, List.foldl_cons, List.foldl_nil, q_asgN, q_asgT, q_asgL, q_asgs0, q_asgsC, Option.bind_some, List.append_nil, is_integer_eq, is_list_eq, q_is2, w_int, i_int, w_lst, w_tup, l_lst, l_tup, l_int, Bool.true_and, Bool.false_and, Bool.and_true, Bool.and_false, at0, *]
      · rcases List.mem_append.mp hy with hy | hy
        · exact h y hy
        · rw [List.mem_singleton.mp hy]; exact h z (List.mem_cons_self ..)
      · rcases List.mem_append.mp hy with hy | hy
        · exact cn y hy
        · rw [List.mem_singleton.mp hy]; exact cn z (List.mem_cons_self ..)
    · have c := decide_eq_false c
      refine ⟨z :: L, s1, ?_, by simp at hl ⊢; omega, h, cn, G1⟩
      unfold r2
      generalize (z :: L).map (·.1) = W at *
      clear G G1 h cn hl hb r0 r3
      simp only [q_def, q_seq, q_ite, q_ret, q_set, q_drop, q_asg, q_for, q_for0, q_fc, q_frd_nx, q_frd_rt, q_frd_ct, q_frd_bk, q_turn, q_mkLst, q_mkTup, Nat.reduceLeDiff, q_and_bl, q_or_bl, q_c0, q_c1, q_c2, q_c3, q_c4, q_c5, q_c6, q_c9, q_c13, decide_true, decide_false, Int.reduceEq, Int.reduceLT, Int.reduceLE, Int.reduceAdd, Int.reduceSub, Int.reduceMul, Int.reduceNeg, Int.reducePow, Int.reduceToNat, Int.reduceBNe, Int.reduceNe, Nat.zero_le, q_get, q_cst, q_lift, q_un, q_with, q_av0, q_avC, q_callN, q_callKW, q_andD, q_orD, q_notD, q_fAnd, q_fOr, q_fNot, q_fTru, q_fBoo, q_ifD, q_isN, q_fIsN, q_fNotN, startD, q_bind, q_toS, q_rt, q_nx, q_thn_nx, q_thn_rt, q_okO, q_nxO, q_pure, q_none0, q_none1, q_none2, q_none3, q_none4, q_tru_bl, q_tru_int, q_tru_lst, q_tru_tup, q_tru_non, q_boo, q_seqL, q_seqT, q_lenL, q_lenT, q_eqI, q_neI, q_lt, q_le, q_gt, q_ge, q_add, q_addL, q_sub, q_neg, q_abs, q_int, q_intB, q_max, q_gcd, q_tupL, q_gL, q_gT, q_g0, q_g1, q_g2, q_lc, q_par, q_parO, q_whS, q_slc, q_prt0, q_prt1, q_intR, q_slcL, q_slcT, q_zipL, q_zipT, q_allp, List.length_map, wipeE, List.map_cons, List.map_nil, List.length_cons, List.length_nil, List.replicate, List.cons_append, List.nil_append, List.getElem?_cons_zero, List.getElem?_cons_succ, List.set_cons_zero, List.set_cons_succ, Nat.reduceSub, Nat.reduceAdd, if_true, Bool.not_true, Bool.not_false, Bool.false_eq_true, if_false, reduceIte, setD, List.foldl_cons, List.foldl_nil, q_asgN, q_asgT, q_asgL, q_asgs0, q_asgsC, Option.bind_some, List.append_nil, is_integer_eq, is_list_eq, q_is2, w_int, i_int, w_lst, w_tup, l_lst, l_tup, l_int, Bool.true_and, Bool.false_and, Bool.and_true, Bool.and_false, *]
theorem rows_3 {b : Int} {s : Deck} (G : Good b s) (hb : b + 20 ≤ 1000000) {L : List It3} (hl : L.length ≤ 5) :
    ∃ M s', r3 [some .deck, some (.lst (L.map (·.1))), none, none, none, none, none, none, none, none, none, none, none, none, none, none] s = .nx [some .deck, some (.lst (L.map (·.1))), none, some (.lst (M.map (·.1))), none, none, none, none, none, none, none, none, none, none, none, none] s' ∧ M.length = L.length ∧ Row 101 M ∧ Can M ∧ Good (b + 20) s' := by
  have ln : (L.map (·.1)).length = L.length := List.length_map ..
  obtain ⟨M, s2, e2, l2, rw2, cn, G2⟩ := val_comp 2 (.inr rfl) (some (.lst (L.map (·.1)))) none none none none none none none none none none none none none none (L.map (·.1)) b s G (by rw [ln]; omega)
  rw [ln] at l2 G2
  have mk : ∀ s : Deck, mkLst (M.map (·.1)) s = .ok (.lst (M.map (·.1))) s := fun s => q_mkLst (by rw [List.length_map]; omega)
  refine ⟨M, s2, ?_, l2, rw2, cn, G2.mono (by omega)⟩
  unfold r3
  generalize M.map (·.1) = W at *
  generalize L.map (·.1) = X at *
  clear G G2 rw2 cn l2 ln hb hl
  simp only [q_def, q_seq, q_ite, q_ret, q_set, q_drop, q_asg, q_for, q_for0, q_fc, q_frd_nx, q_frd_rt, q_frd_ct, q_frd_bk, q_turn, q_mkLst, q_mkTup, Nat.reduceLeDiff, q_and_bl, q_or_bl, q_c0, q_c1, q_c2, q_c3, q_c4, q_c5, q_c6, q_c9, q_c13, decide_true, decide_false, Int.reduceEq, Int.reduceLT, Int.reduceLE, Int.reduceAdd, Int.reduceSub, Int.reduceMul, Int.reduceNeg, Int.reducePow, Int.reduceToNat, Int.reduceBNe, Int.reduceNe, Nat.zero_le, q_get, q_cst, q_lift, q_un, q_with, q_av0, q_avC, q_callN, q_callKW, q_andD, q_orD, q_notD, q_fAnd, q_fOr, q_fNot, q_fTru, q_fBoo, q_ifD, q_isN, q_fIsN, q_fNotN, startD, q_bind, q_toS, q_rt, q_nx, q_thn_nx, q_thn_rt, q_okO, q_nxO, q_pure, q_none0, q_none1, q_none2, q_none3, q_none4, q_tru_bl, q_tru_int, q_tru_lst, q_tru_tup, q_tru_non, q_boo, q_seqL, q_seqT, q_lenL, q_lenT, q_eqI, q_neI, q_lt, q_le, q_gt, q_ge, q_add, q_addL, q_sub, q_neg, q_abs, q_int, q_intB, q_max, q_gcd, q_tupL, q_gL, q_gT, q_g0, q_g1, q_g2, q_lc, q_par, q_parO, q_whS, q_slc, q_prt0, q_prt1, q_intR, q_slcL, q_slcT, q_zipL, q_zipT, q_allp, List.length_map, wipeE, List.map_cons, List.map_nil, List.length_cons, List.length_nil, List.replicate, List.cons_append, List.nil_append, List.getElem?_cons_zero, List.getElem?_cons_succ, List.set_cons_zero, List.set_cons_succ, Nat.reduceSub, Nat.reduceAdd, if_true, Bool.not_true, Bool.not_false, Bool.false_eq_true, if_false, reduceIte, setD, List.foldl_cons, List.foldl_nil, q_asgN, q_asgT, q_asgL, q_asgs0, q_asgsC, Option.bind_some, List.append_nil, is_integer_eq, is_list_eq, q_is2, w_int, i_int, w_lst, w_tup, l_lst, l_tup, l_int, Bool.true_and, Bool.false_and, Bool.and_true, Bool.and_false, *]
def Xn : List (Option D) := [none, none, none, none, none, none, none, none, none, none]
theorem rows_45 {L M : List It3} (h : Row 101 L) (s : Deck) :
    ∃ y2, (seqS r4 r5) [some .deck, some (.lst (L.map (·.1))), none, some (.lst (M.map (·.1))), none, none, none, none, none, none, none, none, none, none, none, none] s
      = .nx [some .deck, some (.lst (L.map (·.1))), y2, some (.lst (M.map (·.1))), some (lowI L).1, some (highI L).1, none, none, none, none, none, none, none, none, none, none] s := by
  obtain ⟨y2, lp, _, _⟩ := low_loop (w := 101) (by decide) (some .deck) (some (.lst (L.map (·.1)))) (some (.lst (M.map (·.1)))) [none, none, none, none, none, none, none, none, none, none] s L (p0 L) (p0 L) none h (p0_nm h) (p0_nm h)
  refine ⟨y2, ?_⟩
  have e4 : r4 [some .deck, some (.lst (L.map (·.1))), none, some (.lst (M.map (·.1))), none, none, none, none, none, none, none, none, none, none, none, none] s = .nx [some .deck, some (.lst (L.map (·.1))), none, some (.lst (M.map (·.1))), some (p0 L).1, some (p0 L).1, none, none, none, none, none, none, none, none, none, none] s := by
    cases L with
    | nil =>
      have ne : neM (.lst []) (.lst []) s = .ok (.bl false) s := ne_nil h s
      unfold r4
      generalize M.map (·.1) = Y at *
      clear lp h
      simp only [List.map_nil, p0]
      simp only [q_def, q_seq, q_ite, q_ret, q_set, q_drop, q_asg, q_for, q_for0, q_fc, q_frd_nx, q_frd_rt, q_frd_ct, q_frd_bk, q_turn, q_mkLst, q_mkTup, Nat.reduceLeDiff, q_and_bl, q_or_bl, q_c0, q_c1, q_c2, q_c3, q_c4, q_c5, q_c6, q_c9, q_c13, decide_true, decide_false, Int.reduceEq, Int.reduceLT, Int.reduceLE, Int.reduceAdd, Int.reduceSub, Int.reduceMul, Int.reduceNeg, Int.reducePow, Int.reduceToNat, Int.reduceBNe, Int.reduceNe, Nat.zero_le, q_get, q_cst, q_lift, q_un, q_with, q_av0, q_avC, q_callN, q_callKW, q_andD, q_orD, q_notD, q_fAnd, q_fOr, q_fNot, q_fTru, q_fBoo, q_ifD, q_isN, q_fIsN, q_fNotN, startD, q_bind, q_toS, q_rt, q_nx, q_thn_nx, q_thn_rt, q_okO, q_nxO, q_pure, q_none0, q_none1, q_none2, q_none3, q_none4, q_tru_bl, q_tru_int, q_tru_lst, q_tru_tup, q_tru_non, q_boo, q_seqL, q_seqT, q_lenL, q_lenT, q_eqI, q_neI, q_lt, q_le, q_gt, q_ge, q_add, q_addL, q_sub, q_neg, q_abs, q_int, q_intB, q_max, q_gcd, q_tupL, q_gL, q_gT, q_g0, q_g1, q_g2, q_lc, q_par, q_parO, q_whS, q_slc, q_prt0, q_prt1, q_intR, q_slcL, q_slcT, q_zipL, q_zipT, q_allp, List.length_map, wipeE, List.map_cons, List.map_nil, List.length_cons, List.length_nil, List.replicate, List.cons_append, List.nil_append, List.getElem?_cons_zero, List.getElem?_cons_succ, List.set_cons_zero, List.set_cons_succ, Nat.reduceSub, Nat.reduceAdd, if_true, Bool.not_true, Bool.not_false, Bool.false_eq_true, if_false, reduceIte, setD, List.foldl_cons, List.foldl_nil, q_asgN, q_asgT, q_asgL, q_asgs0, q_asgsC, Option.bind_some, List.append_nil, is_integer_eq, is_list_eq, q_is2, w_int, i_int, w_lst, w_tup, l_lst, l_tup, l_int, Bool.true_and, Bool.false_and, Bool.and_true, Bool.and_false, *]
    | cons z L =>
      have ne : neM (.lst (z.1 :: L.map (·.1))) (.lst []) s = .ok (.bl true) s := ne_nil h s
      unfold r4
      rw [List.map_cons] at *
      generalize M.map (·.1) = Y at *
      generalize L.map (·.1) = X at *
      clear lp h
      simp only [p0]
      simp only [q_def, q_seq, q_ite, q_ret, q_set, q_drop, q_asg, q_for, q_for0, q_fc, q_frd_nx, q_frd_rt, q_frd_ct, q_frd_bk, q_turn, q_mkLst, q_mkTup, Nat.reduceLeDiff, q_and_bl, q_or_bl, q_c0, q_c1, q_c2, q_c3, q_c4, q_c5, q_c6, q_c9, q_c13, decide_true, decide_false, Int.reduceEq, Int.reduceLT, Int.reduceLE, Int.reduceAdd, Int.reduceSub, Int.reduceMul, Int.reduceNeg, Int.reducePow, Int.reduceToNat, Int.reduceBNe, Int.reduceNe, Nat.zero_le, q_get, q_cst, q_lift, q_un, q_with, q_av0, q_avC, q_callN, q_callKW, q_andD, q_orD, q_notD, q_fAnd, q_fOr, q_fNot, q_fTru, q_fBoo, q_ifD, q_isN, q_fIsN, q_fNotN, startD, q_bind, q_toS, q_rt, q_nx, q_thn_nx, q_thn_rt, q_okO, q_nxO, q_pure, q_none0, q_none1, q_none2, q_none3, q_none4, q_tru_bl, q_tru_int, q_tru_lst, q_tru_tup, q_tru_non, q_boo, q_seqL, q_seqT, q_lenL, q_lenT, q_eqI, q_neI, q_lt, q_le, q_gt, q_ge, q_add, q_addL, q_sub, q_neg, q_abs, q_int, q_intB, q_max, q_gcd, q_tupL, q_gL, q_gT, q_g0, q_g1, q_g2, q_lc, q_par, q_parO, q_whS, q_slc, q_prt0, q_prt1, q_intR, q_slcL, q_slcT, q_zipL, q_zipT, q_allp, List.length_map, wipeE, List.map_cons, List.map_nil, List.length_cons, List.length_nil, List.replicate, List.cons_append, List.nil_append, List.getElem?_cons_zero, List.getElem?_cons_succ, List.set_cons_zero, List.set_cons_succ, Nat.reduceSub, Nat.reduceAdd, if_true, Bool.not_true, Bool.not_false, Bool.false_eq_true, if_false, reduceIte, setD, List.foldl_cons, List.foldl_nil, q_asgN, q_asgT, q_asgL, q_asgs0, q_asgsC, Option.bind_some, List.append_nil, is_integer_eq, is_list_eq, q_is2, w_int, i_int, w_lst, w_tup, l_lst, l_tup, l_int, Bool.true_and, Bool.false_and, Bool.and_true, Bool.and_false, at0, *]
  rw [q_seq, e4, q_thn_nx]
  unfold r5
  generalize M.map (·.1) = Y at *
  generalize hX : L.map (·.1) = X at *
  show forS _ _ _ _ _ = RS.nx [some .deck, some (.lst X), y2, some (.lst Y), some (L.foldl minS (p0 L)).1, some (L.foldl maxS (p0 L)).1, none, none, none, none, none, none, none, none, none, none] s
  clear e4 h hX
  generalize (L.foldl minS (p0 L)).1 = m1 at *
  generalize (L.foldl maxS (p0 L)).1 = m2 at *
  generalize (p0 L).1 = m0 at *
  simp only [q_def, q_seq, q_ite, q_ret, q_set, q_drop, q_asg, q_for, q_for0, q_fc, q_frd_nx, q_frd_rt, q_frd_ct, q_frd_bk, q_turn, q_mkLst, q_mkTup, Nat.reduceLeDiff, q_and_bl, q_or_bl, q_c0, q_c1, q_c2, q_c3, q_c4, q_c5, q_c6, q_c9, q_c13, decide_true, decide_false, Int.reduceEq, Int.reduceLT, Int.reduceLE, Int.reduceAdd, Int.reduceSub, Int.reduceMul, Int.reduceNeg, Int.reducePow, Int.reduceToNat, Int.reduceBNe, Int.reduceNe, Nat.zero_le, q_get, q_cst, q_lift, q_un, q_with, q_av0, q_avC, q_callN, q_callKW, q_andD, q_orD, q_notD, q_fAnd, q_fOr, q_fNot, q_fTru, q_fBoo, q_ifD, q_isN, q_fIsN, q_fNotN, startD, q_bind, q_toS, q_rt, q_nx, q_thn_nx, q_thn_rt, q_okO, q_nxO, q_pure, q_none0, q_none1, q_none2, q_none3, q_none4, q_tru_bl, q_tru_int, q_tru_lst, q_tru_tup, q_tru_non, q_boo, q_seqL, q_seqT, q_lenL, q_lenT, q_eqI, q_neI, q_lt, q_le, q_gt, q_ge, q_add, q_addL, q_sub, q_neg, q_abs, q_int, q_intB, q_max, q_gcd, q_tupL, q_gL, q_gT, q_g0, q_g1, q_g2, q_lc, q_par, q_parO, q_whS, q_slc, q_prt0, q_prt1, q_intR, q_slcL, q_slcT, q_zipL, q_zipT, q_allp, List.length_map, wipeE, List.map_cons, List.map_nil, List.length_cons, List.length_nil, List.replicate, List.cons_append, List.nil_append, List.getElem?_cons_zero, List.getElem?_cons_succ, List.set_cons_zero, List.set_cons_succ, Nat.reduceSub, Nat.reduceAdd, if_true, Bool.not_true, Bool.not_false, Bool.false_eq_true, if_false, reduceIte, setD, List.foldl_cons, List.foldl_nil, q_asgN, q_asgT, q_asgL, q_asgs0, q_asgsC, Option.bind_some, List.append_nil, is_integer_eq, is_list_eq, q_is2, w_int, i_int, w_lst, w_tup, l_lst, l_tup, l_int, Bool.true_and, Bool.false_and, Bool.and_true, Bool.and_false, *]
def dueL (L M : List It3) : List D := [dueR L M 0, dueR L M 1, dueR L M 2, dueR L M 3]
theorem comp8 {W Y P due : List D} {PS m1 m2 w : D} (y2 : Option D) (s : Deck) (n : Nat) (m : Int)
 (tc : ∀ (x0 x2 x4 x5 x6 x7 x8 x9 x10 x11 x12 x13 x14 x15 : Option D) (s : Deck), compD (elemD (.nm 15) [13, 15] yesT (withA (avC (lift2 getM (getE 1) (getE 15)) (avC (lift2 getM (getE 3) (getE 15)) av0)) (callN 2 m_law_times)) [x0, some (.lst W), x2, some (.lst Y), x4, x5, x6, x7, x8, x9, x10, x11, x12, x13, x14, x15]) (rng 0 n) s = .ok P s)
 (rg : ∀ s : Deck, rng1M [.int m] s = .ok (rng 0 n) s)
 (mk : ∀ s : Deck, mkLst P s = .ok (.lst P) s)
 (ln : ∀ s : Deck, lenM [.lst W] s = .ok (.int m) s)
 (lp : ∀ s : Deck, m_law_sum [.lst P] s = .ok PS s) :
 lcD (fun δ s => ((avC (withA (avC (getE 1) av0) lenM) av0) δ s).bind rng1M) (.nm 15) [13, 15] yesT (withA (avC (lift2 getM (getE 1) (getE 15)) (avC (lift2 getM (getE 3) (getE 15)) av0)) (callN 2 m_law_times)) [some .deck, some (.lst W), y2, some (.lst Y), some m1, some m2, some w, some (.lst due), none, none, none, none, none, none, none, none] s = .ok (.lst P) s := by
  rw [q_lc]
  simp only [q_with, q_avC, q_av0, q_get, List.getElem?_cons_succ, List.getElem?_cons_zero, q_okO, q_bind]
  rw [ln]
  simp only [q_bind]
  rw [rg]
  simp only [q_bind]
  rw [tc]
  simp only [q_bind]
  rw [mk]
theorem fin8 {W Y P : List D} {PS a b c m1 m2 w : D} (y2 : Option D) (s : Deck) (fc : FE)
 (lp : ∀ s : Deck, m_law_sum [.lst P] s = .ok PS s)
 (c8 : fc [some .deck, some (.lst W), y2, some (.lst Y), some m1, some m2, some w, some (.lst [a, b, c]), none, none, none, none, none, none, none, none] s = .ok (.lst P) s) :
 setS 7 (lift2 addM (getE 7) (withA (avC (withA (avC (withA (avC fc av0) (callN 1 m_law_sum)) av0) mkLst) av0) mkLst)) [some .deck, some (.lst W), y2, some (.lst Y), some m1, some m2, some w, some (.lst [a, b, c]), none, none, none, none, none, none, none, none] s =
  .nx [some .deck, some (.lst W), y2, some (.lst Y), some m1, some m2, some w, some (.lst [a, b, c, .lst [PS]]), none, none, none, none, none, none, none, none] s := by
  simp only [q_def, q_seq, q_ite, q_ret, q_set, q_drop, q_asg, q_for, q_for0, q_fc, q_frd_nx, q_frd_rt, q_frd_ct, q_frd_bk, q_turn, q_mkLst, q_mkTup, Nat.reduceLeDiff, q_and_bl, q_or_bl, q_c0, q_c1, q_c2, q_c3, q_c4, q_c5, q_c6, q_c9, q_c13, decide_true, decide_false, Int.reduceEq, Int.reduceLT, Int.reduceLE, Int.reduceAdd, Int.reduceSub, Int.reduceMul, Int.reduceNeg, Int.reducePow, Int.reduceToNat, Int.reduceBNe, Int.reduceNe, Nat.zero_le, q_get, q_cst, q_lift, q_un, q_with, q_av0, q_avC, q_callN, q_callKW, q_andD, q_orD, q_notD, q_fAnd, q_fOr, q_fNot, q_fTru, q_fBoo, q_ifD, q_isN, q_fIsN, q_fNotN, startD, q_bind, q_toS, q_rt, q_nx, q_thn_nx, q_thn_rt, q_okO, q_nxO, q_pure, q_none0, q_none1, q_none2, q_none3, q_none4, q_tru_bl, q_tru_int, q_tru_lst, q_tru_tup, q_tru_non, q_boo, q_seqL, q_seqT, q_lenL, q_lenT, q_eqI, q_neI, q_lt, q_le, q_gt, q_ge, q_add, q_addL, q_sub, q_neg, q_abs, q_int, q_intB, q_max, q_gcd, q_tupL, q_gL, q_gT, q_g0, q_g1, q_g2, q_lc, q_par, q_parO, q_whS, q_slc, q_prt0, q_prt1, q_intR, q_slcL, q_slcT, q_zipL, q_zipT, q_allp, List.length_map, wipeE, List.map_cons, List.map_nil, List.length_cons, List.length_nil, List.replicate, List.cons_append, List.nil_append, List.getElem?_cons_zero, List.getElem?_cons_succ, List.set_cons_zero, List.set_cons_succ, Nat.reduceSub, Nat.reduceAdd, if_true, Bool.not_true, Bool.not_false, Bool.false_eq_true, if_false, reduceIte, setD, List.foldl_cons, List.foldl_nil, q_asgN, q_asgT, q_asgL, q_asgs0, q_asgsC, Option.bind_some, List.append_nil, is_integer_eq, is_list_eq, q_is2, w_int, i_int, w_lst, w_tup, l_lst, l_tup, l_int, Bool.true_and, Bool.false_and, Bool.and_true, Bool.and_false, *]
theorem rows_68 {L M : List It3} (h : Row 101 L) (k : Row 101 M) (hl : L.length ≤ 5) (hm : M.length = L.length) (y2 : Option D) (s : Deck) :
    (seqS r6 (seqS r7 r8)) [some .deck, some (.lst (L.map (·.1))), y2, some (.lst (M.map (·.1))), some (lowI L).1, some (highI L).1, none, none, none, none, none, none, none, none, none, none] s
      = .nx [some .deck, some (.lst (L.map (·.1))), y2, some (.lst (M.map (·.1))), some (lowI L).1, some (highI L).1, some wrongD, some (.lst (dueL L M)), none, none, none, none, none, none, none, none] s := by
  have ne := fun s => ne_nil h s
  have ls : ∀ s : Deck, m_law_sum [.lst (L.map (·.1))] s = .ok (sumD L) s := fun s => law_sum_eq 101 L h.ok (by omega) s
  have pl : (prodL L M).length = L.length := by unfold prodL; rw [List.length_zipWith]; omega
  have lp : ∀ s : Deck, m_law_sum [.lst ((prodL L M).map (·.1))] s = .ok (sumD (prodL L M)) s := fun s => law_sum_eq 202 (prodL L M) (prod_row h k).ok (by omega) s
  have tc := fun x0 x2 x4 x5 x6 x7 x8 x9 x10 x11 x12 x13 x14 x15 s => times_comp (by decide) L M h k hm.symm x0 x2 x4 x5 x6 x7 x8 x9 x10 x11 x12 x13 x14 x15 s
  have ll : (L.map (·.1)).length = L.length := List.length_map ..
  have rg : ∀ s : Deck, rng1M [.int (L.length : Int)] s = .ok (rng 0 L.length) s := fun s => by
    have := rng_eq (n := (L.length : Int)) s (by omega) (by omega)
    rw [this, Int.toNat_natCast]
  have mk : ∀ s : Deck, mkLst ((prodL L M).map (·.1)) s = .ok (.lst ((prodL L M).map (·.1))) s := fun s => q_mkLst (by rw [List.length_map]; omega)
  have ln : ∀ s : Deck, lenM [.lst (L.map (·.1))] s = .ok (.int (L.length : Int)) s := fun s => by rw [q_lenL, ll]
  have hD : dueL L M = [if L.isEmpty = true then wrongD else .lst [(lowI L).1], if L.isEmpty = true then wrongD else .lst [(highI L).1], .lst [sumD L], .lst [sumD (prodL L M)]] := rfl
  rw [hD]
  generalize (prodL L M).map (·.1) = P at *
  generalize sumD (prodL L M) = PS at *
  generalize sumD L = SL at *
  generalize L.map (·.1) = W at *
  generalize M.map (·.1) = Y at *
  generalize (lowI L).1 = m1 at *
  generalize (highI L).1 = m2 at *
  generalize (L.length : Int) = m at *
  generalize L.length = n at *
  clear h k hl hm pl ll hD
  have e6 : r6 [some .deck, some (.lst W), y2, some (.lst Y), some m1, some m2, none, none, none, none, none, none, none, none, none, none] s = .nx [some .deck, some (.lst W), y2, some (.lst Y), some m1, some m2, some wrongD, none, none, none, none, none, none, none, none, none] s := by
    unfold r6 wrongD
    clear tc mk ln rg lp ls ne
    simp only [q_def, q_seq, q_ite, q_ret, q_set, q_drop, q_asg, q_for, q_for0, q_fc, q_frd_nx, q_frd_rt, q_frd_ct, q_frd_bk, q_turn, q_mkLst, q_mkTup, Nat.reduceLeDiff, q_and_bl, q_or_bl, q_c0, q_c1, q_c2, q_c3, q_c4, q_c5, q_c6, q_c9, q_c13, decide_true, decide_false, Int.reduceEq, Int.reduceLT, Int.reduceLE, Int.reduceAdd, Int.reduceSub, Int.reduceMul, Int.reduceNeg, Int.reducePow, Int.reduceToNat, Int.reduceBNe, Int.reduceNe, Nat.zero_le, q_get, q_cst, q_lift, q_un, q_with, q_av0, q_avC, q_callN, q_callKW, q_andD, q_orD, q_notD, q_fAnd, q_fOr, q_fNot, q_fTru, q_fBoo, q_ifD, q_isN, q_fIsN, q_fNotN, startD, q_bind, q_toS, q_rt, q_nx, q_thn_nx, q_thn_rt, q_okO, q_nxO, q_pure, q_none0, q_none1, q_none2, q_none3, q_none4, q_tru_bl, q_tru_int, q_tru_lst, q_tru_tup, q_tru_non, q_boo, q_seqL, q_seqT, q_lenL, q_lenT, q_eqI, q_neI, q_lt, q_le, q_gt, q_ge, q_add, q_addL, q_sub, q_neg, q_abs, q_int, q_intB, q_max, q_gcd, q_tupL, q_gL, q_gT, q_g0, q_g1, q_g2, q_lc, q_par, q_parO, q_whS, q_slc, q_prt0, q_prt1, q_intR, q_slcL, q_slcT, q_zipL, q_zipT, q_allp, List.length_map, wipeE, List.map_cons, List.map_nil, List.length_cons, List.length_nil, List.replicate, List.cons_append, List.nil_append, List.getElem?_cons_zero, List.getElem?_cons_succ, List.set_cons_zero, List.set_cons_succ, Nat.reduceSub, Nat.reduceAdd, if_true, Bool.not_true, Bool.not_false, Bool.false_eq_true, if_false, reduceIte, setD, List.foldl_cons, List.foldl_nil, q_asgN, q_asgT, q_asgL, q_asgs0, q_asgsC, Option.bind_some, List.append_nil, is_integer_eq, is_list_eq, q_is2, w_int, i_int, w_lst, w_tup, l_lst, l_tup, l_int, Bool.true_and, Bool.false_and, Bool.and_true, Bool.and_false, *]
  rw [q_seq, e6, q_thn_nx, q_seq]
  generalize L.isEmpty = E at *
  cases E with
  | true =>
    have e7 : r7 [some .deck, some (.lst W), y2, some (.lst Y), some m1, some m2, some wrongD, none, none, none, none, none, none, none, none, none] s = .nx [some .deck, some (.lst W), y2, some (.lst Y), some m1, some m2, some wrongD, some (.lst [wrongD, wrongD, .lst [SL]]), none, none, none, none, none, none, none, none] s := by
      unfold r7
      clear tc mk ln rg lp e6
      generalize wrongD = w
      simp only [q_def, q_seq, q_ite, q_ret, q_set, q_drop, q_asg, q_for, q_for0, q_fc, q_frd_nx, q_frd_rt, q_frd_ct, q_frd_bk, q_turn, q_mkLst, q_mkTup, Nat.reduceLeDiff, q_and_bl, q_or_bl, q_c0, q_c1, q_c2, q_c3, q_c4, q_c5, q_c6, q_c9, q_c13, decide_true, decide_false, Int.reduceEq, Int.reduceLT, Int.reduceLE, Int.reduceAdd, Int.reduceSub, Int.reduceMul, Int.reduceNeg, Int.reducePow, Int.reduceToNat, Int.reduceBNe, Int.reduceNe, Nat.zero_le, q_get, q_cst, q_lift, q_un, q_with, q_av0, q_avC, q_callN, q_callKW, q_andD, q_orD, q_notD, q_fAnd, q_fOr, q_fNot, q_fTru, q_fBoo, q_ifD, q_isN, q_fIsN, q_fNotN, startD, q_bind, q_toS, q_rt, q_nx, q_thn_nx, q_thn_rt, q_okO, q_nxO, q_pure, q_none0, q_none1, q_none2, q_none3, q_none4, q_tru_bl, q_tru_int, q_tru_lst, q_tru_tup, q_tru_non, q_boo, q_seqL, q_seqT, q_lenL, q_lenT, q_eqI, q_neI, q_lt, q_le, q_gt, q_ge, q_add, q_addL, q_sub, q_neg, q_abs, q_int, q_intB, q_max, q_gcd, q_tupL, q_gL, q_gT, q_g0, q_g1, q_g2, q_lc, q_par, q_parO, q_whS, q_slc, q_prt0, q_prt1, q_intR, q_slcL, q_slcT, q_zipL, q_zipT, q_allp, List.length_map, wipeE, List.map_cons, List.map_nil, List.length_cons, List.length_nil, List.replicate, List.cons_append, List.nil_append, List.getElem?_cons_zero, List.getElem?_cons_succ, List.set_cons_zero, List.set_cons_succ, Nat.reduceSub, Nat.reduceAdd, if_true, Bool.not_true, Bool.not_false, Bool.false_eq_true, if_false, reduceIte, setD, List.foldl_cons, List.foldl_nil, q_asgN, q_asgT, q_asgL, q_asgs0, q_asgsC, Option.bind_some, List.append_nil, is_integer_eq, is_list_eq, q_is2, w_int, i_int, w_lst, w_tup, l_lst, l_tup, l_int, Bool.true_and, Bool.false_and, Bool.and_true, Bool.and_false, *]
    rw [e7, q_thn_nx]
    generalize wrongD = w at *
    exact fin8 y2 s _ lp (comp8 y2 s n m tc rg mk ln lp)
  | false =>
    have e7 : r7 [some .deck, some (.lst W), y2, some (.lst Y), some m1, some m2, some wrongD, none, none, none, none, none, none, none, none, none] s = .nx [some .deck, some (.lst W), y2, some (.lst Y), some m1, some m2, some wrongD, some (.lst [.lst [m1], .lst [m2], .lst [SL]]), none, none, none, none, none, none, none, none] s := by
      unfold r7
      clear tc mk ln rg lp e6
      generalize wrongD = w
      simp only [q_def, q_seq, q_ite, q_ret, q_set, q_drop, q_asg, q_for, q_for0, q_fc, q_frd_nx, q_frd_rt, q_frd_ct, q_frd_bk, q_turn, q_mkLst, q_mkTup, Nat.reduceLeDiff, q_and_bl, q_or_bl, q_c0, q_c1, q_c2, q_c3, q_c4, q_c5, q_c6, q_c9, q_c13, decide_true, decide_false, Int.reduceEq, Int.reduceLT, Int.reduceLE, Int.reduceAdd, Int.reduceSub, Int.reduceMul, Int.reduceNeg, Int.reducePow, Int.reduceToNat, Int.reduceBNe, Int.reduceNe, Nat.zero_le, q_get, q_cst, q_lift, q_un, q_with, q_av0, q_avC, q_callN, q_callKW, q_andD, q_orD, q_notD, q_fAnd, q_fOr, q_fNot, q_fTru, q_fBoo, q_ifD, q_isN, q_fIsN, q_fNotN, startD, q_bind, q_toS, q_rt, q_nx, q_thn_nx, q_thn_rt, q_okO, q_nxO, q_pure, q_none0, q_none1, q_none2, q_none3, q_none4, q_tru_bl, q_tru_int, q_tru_lst, q_tru_tup, q_tru_non, q_boo, q_seqL, q_seqT, q_lenL, q_lenT, q_eqI, q_neI, q_lt, q_le, q_gt, q_ge, q_add, q_addL, q_sub, q_neg, q_abs, q_int, q_intB, q_max, q_gcd, q_tupL, q_gL, q_gT, q_g0, q_g1, q_g2, q_lc, q_par, q_parO, q_whS, q_slc, q_prt0, q_prt1, q_intR, q_slcL, q_slcT, q_zipL, q_zipT, q_allp, List.length_map, wipeE, List.map_cons, List.map_nil, List.length_cons, List.length_nil, List.replicate, List.cons_append, List.nil_append, List.getElem?_cons_zero, List.getElem?_cons_succ, List.set_cons_zero, List.set_cons_succ, Nat.reduceSub, Nat.reduceAdd, if_true, Bool.not_true, Bool.not_false, Bool.false_eq_true, if_false, reduceIte, setD, List.foldl_cons, List.foldl_nil, q_asgN, q_asgT, q_asgL, q_asgs0, q_asgsC, Option.bind_some, List.append_nil, is_integer_eq, is_list_eq, q_is2, w_int, i_int, w_lst, w_tup, l_lst, l_tup, l_int, Bool.true_and, Bool.false_and, Bool.and_true, Bool.and_false, *]
    rw [e7, q_thn_nx]
    generalize wrongD = w at *
    exact fin8 y2 s _ lp (comp8 y2 s n m tc rg mk ln lp)
theorem rows_9 {b : Int} {s : Deck} (G : Good b s) (hb : b + 10 ≤ 1000000) {L M : List It3} (h : Row 101 L) (cl : Can L) (k : Row 101 M) (cm : Can M) (hl : L.length ≤ 5) (hm : M.length = L.length) (y2 a4 a5 a6 a7 : Option D) :
    ∃ L' M' s', r9 [some .deck, some (.lst (L.map (·.1))), y2, some (.lst (M.map (·.1))), a4, a5, a6, a7, none, none, none, none, none, none, none, none] s
      = .nx [some .deck, some (.lst (L.map (·.1))), y2, some (.lst (M.map (·.1))), a4, a5, a6, a7, some (.lst [.lst (L'.map (·.1)), .lst (M'.map (·.1))]), none, none, none, none, none, none, none] s' ∧
      L'.map (·.2) = L.map (·.2) ∧ M'.map (·.2) = M.map (·.2) ∧ Row 101 L' ∧ Row 101 M' ∧ Good (b + 10) s' := by
  obtain ⟨L', s1, e1, m1, r1, G1⟩ := as_comp (some (.lst (L.map (·.1)))) y2 (some (.lst (M.map (·.1)))) a4 a5 a6 a7 none none none none none none none none L b s h cl G (by omega)
  obtain ⟨M', s2, e2, m2, r2, G2⟩ := as_comp (some (.lst (L.map (·.1)))) y2 (some (.lst (M.map (·.1)))) a4 a5 a6 a7 none none none none none none none none M (b + L.length) s1 k cm G1 (by omega)
  have l1 := same_len m1
  have l2 := same_len m2
  have mk1 : ∀ s : Deck, mkLst (L'.map (·.1)) s = .ok (.lst (L'.map (·.1))) s := fun s => q_mkLst (by rw [List.length_map]; omega)
  have mk2 : ∀ s : Deck, mkLst (M'.map (·.1)) s = .ok (.lst (M'.map (·.1))) s := fun s => q_mkLst (by rw [List.length_map]; omega)
  refine ⟨L', M', s2, ?_, m1, m2, r1, r2, G2.mono (by omega)⟩
  unfold r9
  clear m1 m2 r1 r2 G G1 G2 l1 l2 h cl k cm hl hm hb
  generalize L.map (·.1) = A at *
  generalize M.map (·.1) = B at *
  generalize L'.map (·.1) = A' at *
  generalize M'.map (·.1) = B' at *
  simp only [q_def, q_seq, q_ite, q_ret, q_set, q_drop, q_asg, q_for, q_for0, q_fc, q_frd_nx, q_frd_rt, q_frd_ct, q_frd_bk, q_turn, q_mkLst, q_mkTup, Nat.reduceLeDiff, q_and_bl, q_or_bl, q_c0, q_c1, q_c2, q_c3, q_c4, q_c5, q_c6, q_c9, q_c13, decide_true, decide_false, Int.reduceEq, Int.reduceLT, Int.reduceLE, Int.reduceAdd, Int.reduceSub, Int.reduceMul, Int.reduceNeg, Int.reducePow, Int.reduceToNat, Int.reduceBNe, Int.reduceNe, Nat.zero_le, q_get, q_cst, q_lift, q_un, q_with, q_av0, q_avC, q_callN, q_callKW, q_andD, q_orD, q_notD, q_fAnd, q_fOr, q_fNot, q_fTru, q_fBoo, q_ifD, q_isN, q_fIsN, q_fNotN, startD, q_bind, q_toS, q_rt, q_nx, q_thn_nx, q_thn_rt, q_okO, q_nxO, q_pure, q_none0, q_none1, q_none2, q_none3, q_none4, q_tru_bl, q_tru_int, q_tru_lst, q_tru_tup, q_tru_non, q_boo, q_seqL, q_seqT, q_lenL, q_lenT, q_eqI, q_neI, q_lt, q_le, q_gt, q_ge, q_add, q_addL, q_sub, q_neg, q_abs, q_int, q_intB, q_max, q_gcd, q_tupL, q_gL, q_gT, q_g0, q_g1, q_g2, q_lc, q_par, q_parO, q_whS, q_slc, q_prt0, q_prt1, q_intR, q_slcL, q_slcT, q_zipL, q_zipT, q_allp, List.length_map, wipeE, List.map_cons, List.map_nil, List.length_cons, List.length_nil, List.replicate, List.cons_append, List.nil_append, List.getElem?_cons_zero, List.getElem?_cons_succ, List.set_cons_zero, List.set_cons_succ, Nat.reduceSub, Nat.reduceAdd, if_true, Bool.not_true, Bool.not_false, Bool.false_eq_true, if_false, reduceIte, setD, List.foldl_cons, List.foldl_nil, q_asgN, q_asgT, q_asgL, q_asgs0, q_asgsC, Option.bind_some, List.append_nil, is_integer_eq, is_list_eq, q_is2, w_int, i_int, w_lst, w_tup, l_lst, l_tup, l_int, Bool.true_and, Bool.false_and, Bool.and_true, Bool.and_false, *]
theorem ne_three (s : Deck) : neM (.lst [wrongD, wrongD, wrongD]) (.lst [wrongD, wrongD, wrongD]) s = .ok (.bl false) s := by
  have hp : py (.lst [wrongD, wrongD, wrongD]) = some (.list [.tuple [.str "BadNumber", .str "values"], .tuple [.str "BadNumber", .str "values"], .tuple [.str "BadNumber", .str "values"]]) := rfl
  have h : SeqAt.shaped (.list [.tuple [.str "BadNumber", .str "values"], .tuple [.str "BadNumber", .str "values"], .tuple [.str "BadNumber", .str "values"]]) = true := by decide +kernel
  have h2 : PyData.eqv (.list [.tuple [.str "BadNumber", .str "values"], .tuple [.str "BadNumber", .str "values"], .tuple [.str "BadNumber", .str "values"]]) (.list [.tuple [.str "BadNumber", .str "values"], .tuple [.str "BadNumber", .str "values"], .tuple [.str "BadNumber", .str "values"]]) = true := by decide +kernel
  unfold neM eqO
  simp only [hp, h, h2, if_true, Option.map_some]
  rfl
theorem ne_rowE (s : Deck) : neM (.tup [.str "BadNumber", .str "row"]) (.tup [.str "BadNumber", .str "row"]) s = .ok (.bl false) s := (ne_bnS _ _ (by decide +kernel) (by decide +kernel) s).1
theorem eq_otherE (s : Deck) : eqM (.tup [.str "BadNumber", .str "other"]) (.tup [.str "BadNumber", .str "other"]) s = .ok (.bl true) s := (ne_bnS _ _ (by decide +kernel) (by decide +kernel) s).2
theorem eq_wrong (s : Deck) : eqM wrongD wrongD s = .ok (.bl true) s := (ne_bnS _ _ (by decide +kernel) (by decide +kernel) s).2
theorem eq_of_ne {x y : D} (h : ∀ s : Deck, neM x y s = .ok (.bl false) s) (s : Deck) : eqM x y s = .ok (.bl true) s := by
  have h := h s
  unfold neM at h
  unfold eqM
  cases e : eqO x y with
  | none => rw [e] at h; cases h
  | some k =>
    rw [e] at h
    cases k with
    | true => rfl
    | false => cases h
def Xl (W Y : List D) (y2 a4 a5 a7 A' B' t y10 y11 : Option D) : List (Option D) := [some .deck, some (.lst W), y2, some (.lst Y), a4, a5, some wrongD, a7, some (.lst [(.lst []), (.lst [])]), t, y10, y11, none, none, none, none]
theorem rows_12 {b : Int} {s : Deck} (G : Good b s) (hb : b + 1 ≤ 1000000) {L M L' M' : List It3} (h : Row 101 L) (k : Row 101 M) (h' : Row 101 L') (k' : Row 101 M') (hl : L.length ≤ 5) (hm : M.length = L.length) (hl' : L'.length ≤ 5) (hm' : M'.length ≤ 5)
    (y2 a4 a5 a7 y10 y11 : Option D) (t : Str) (ht : ∀ s, reprM [.lst [.lst (L'.map (·.1)), .lst (M'.map (·.1))]] s = .ok (.str t) s) (hn : ∀ s, neM (.str t) (.str t) s = .ok (.bl false) s) :
    ∃ s', (seqS r12 (seqS r13 (seqS r14 r15))) [some .deck, some (.lst (L.map (·.1))), y2, some (.lst (M.map (·.1))), a4, a5, some wrongD, a7, some (.lst [.lst (L'.map (·.1)), .lst (M'.map (·.1))]), some (.str t), y10, y11, none, none, none, none] s
      = .rt (.bl true) s' ∧ Good (b + 1) s' := by
  obtain ⟨bad, s5, e5, k5, n5, G5⟩ := bad_eq G (by omega)
  have sz : (L'.map (·.1) ++ [bad]).length ≤ 16777216 := by simp; omega
  have mk : ∀ s : Deck, mkLst (L'.map (·.1) ++ [bad]) s = .ok (.lst (L'.map (·.1) ++ [bad])) s := fun s => q_mkLst sz
  have okB : okD (.lst (L'.map (·.1) ++ [bad])) = true := by
    have a : (L'.map (·.1)).all nodk = true := List.all_eq_true.mpr fun d hd => by
      obtain ⟨z, hz, rfl⟩ := List.mem_map.mp hd
      exact (h' z hz).k
    have n : (L'.map (·.1) ++ [bad]).length ≤ 1000 := by simp; omega
    simp only [K03.okD, List.all_append, a, decide_eq_true n, List.all_cons, List.all_nil, k5]
    rfl
  have noB : nums (.lst (L'.map (·.1) ++ [bad])) = false := by
    unfold K03.nums
    rw [l_lst, i_lst, List.all_append]
    simp only [List.all_cons, List.all_nil, n5]
    simp
  have b0 : ∀ (x : D) (s : Deck), m_law_row_told [.int 0, .lst (L'.map (·.1) ++ [bad]), x] s = .ok wrongD s := fun x s => rt_bn (by decide) (show m_least _ s = _ from least_no okB noB s)
  have b1 : ∀ (x : D) (s : Deck), m_law_row_told [.int 1, .lst (L'.map (·.1) ++ [bad]), x] s = .ok wrongD s := fun x s => rt_bn (by decide) (show m_greatest _ s = _ from great_no okB noB s)
  have b2 : ∀ (x : D) (s : Deck), m_law_row_told [.int 2, .lst (L'.map (·.1) ++ [bad]), x] s = .ok wrongD s := fun x s => rt_bn (by decide) (show m_sum_of _ s = _ from sum_no okB noB s)
  have b3 : ∀ (x : D) (s : Deck), m_law_row_told [.int 3, .lst (L'.map (·.1) ++ [bad]), x] s = .ok (.tup [.str "BadNumber", .str "row"]) s := fun x s => rt_bn (by decide) (show m_product_sum _ s = _ from prod_row_no okB noB s)
  have okO : okD (.lst (M.map (·.1) ++ [.int 1])) = true := by
    have a : (M.map (·.1)).all nodk = true := List.all_eq_true.mpr fun d hd => by
      obtain ⟨z, hz, rfl⟩ := List.mem_map.mp hd
      exact (k z hz).k
    have n : (M.map (·.1) ++ [D.int 1]).length ≤ 1000 := by simp; omega
    simp only [K03.okD, List.all_append, a, decide_eq_true n]
    rfl
  have noO : row (.lst (M.map (·.1) ++ [.int 1])) (L.length : Int) = false := by
    unfold K03.row K03.lenD
    rw [i_lst, decide_eq_false (by simp; omega)]
    simp
  have b4 : ∀ s : Deck, m_law_row_told [.int 3, .lst (L.map (·.1)), .lst (M.map (·.1) ++ [.int 1])] s = .ok (.tup [.str "BadNumber", .str "other"]) s := fun s => rt_bn (by decide) (show m_product_sum _ s = _ from prod_other_no h (by omega) (.inl rfl) okO noO s)
  have b5 : ∀ s : Deck, m_law_row_told [.int 3, .lst (L.map (·.1)), .int 7] s = .ok (.tup [.str "BadNumber", .str "other"]) s := fun s => rt_bn (by decide) (show m_product_sum _ s = _ from prod_other_no h (by omega) (.inl rfl) rfl rfl s)
  have b6 : ∀ s : Deck, m_law_row_told [.int 2, .non, .non] s = .ok wrongD s := fun s => rt_bn (by decide) (show m_sum_of [.non] s = _ from sum_no (d := .non) rfl rfl s)
  have sz2 : (M.map (·.1) ++ [D.int 1]).length ≤ 16777216 := by simp; omega
  have mk2 : ∀ s : Deck, mkLst (M.map (·.1) ++ [D.int 1]) s = .ok (.lst (M.map (·.1) ++ [D.int 1])) s := fun s => q_mkLst sz2
  have he := fun s => eq_of_ne hn s
  have ew := eq_wrong
  have en := ne_three
  refine ⟨s5, ?_, G5⟩
  clear sz okB noB okO noO G G5 h k h' k' hl hm hl' hm' k5 n5 hb sz2 hn
  generalize hB : L'.map (·.1) ++ [bad] = B at *
  generalize hO : M.map (·.1) ++ [D.int 1] = O at *
  generalize L.map (·.1) = W at *
  generalize M.map (·.1) = Y at *
  generalize L'.map (·.1) = W' at *
  generalize M'.map (·.1) = Y' at *
  have e12 : r12 [some .deck, some (.lst W), y2, some (.lst Y), a4, a5, some wrongD, a7, some (.lst [.lst W', .lst Y']), some (.str t), y10, y11, none, none, none, none] s = .nx [some .deck, some (.lst W), y2, some (.lst Y), a4, a5, some wrongD, a7, some (.lst [.lst W', .lst Y']), some (.str t), y10, y11, some (.lst B), none, none, none] s5 := by
    unfold r12
    clear b0 b1 b2 b3 b4 b5 b6 mk2 he ew en ht
    generalize wrongD = w at *
    simp only [q_def, q_seq, q_ite, q_ret, q_set, q_drop, q_asg, q_for, q_for0, q_fc, q_frd_nx, q_frd_rt, q_frd_ct, q_frd_bk, q_turn, q_mkLst, q_mkTup, Nat.reduceLeDiff, q_and_bl, q_or_bl, q_c0, q_c1, q_c2, q_c3, q_c4, q_c5, q_c6, q_c9, q_c13, decide_true, decide_false, Int.reduceEq, Int.reduceLT, Int.reduceLE, Int.reduceAdd, Int.reduceSub, Int.reduceMul, Int.reduceNeg, Int.reducePow, Int.reduceToNat, Int.reduceBNe, Int.reduceNe, Nat.zero_le, q_get, q_cst, q_lift, q_un, q_with, q_av0, q_avC, q_callN, q_callKW, q_andD, q_orD, q_notD, q_fAnd, q_fOr, q_fNot, q_fTru, q_fBoo, q_ifD, q_isN, q_fIsN, q_fNotN, startD, q_bind, q_toS, q_rt, q_nx, q_thn_nx, q_thn_rt, q_okO, q_nxO, q_pure, q_none0, q_none1, q_none2, q_none3, q_none4, q_tru_bl, q_tru_int, q_tru_lst, q_tru_tup, q_tru_non, q_boo, q_seqL, q_seqT, q_lenL, q_lenT, q_eqI, q_neI, q_lt, q_le, q_gt, q_ge, q_add, q_addL, q_sub, q_neg, q_abs, q_int, q_intB, q_max, q_gcd, q_tupL, q_gL, q_gT, q_g0, q_g1, q_g2, q_lc, q_par, q_parO, q_whS, q_slc, q_prt0, q_prt1, q_intR, q_slcL, q_slcT, q_zipL, q_zipT, q_allp, List.length_map, wipeE, List.map_cons, List.map_nil, List.length_cons, List.length_nil, List.replicate, List.cons_append, List.nil_append, List.getElem?_cons_zero, List.getElem?_cons_succ, List.set_cons_zero, List.set_cons_succ, Nat.reduceSub, Nat.reduceAdd, if_true, Bool.not_true, Bool.not_false, Bool.false_eq_true, if_false, reduceIte, setD, List.foldl_cons, List.foldl_nil, q_asgN, q_asgT, q_asgL, q_asgs0, q_asgsC, Option.bind_some, List.append_nil, is_integer_eq, is_list_eq, q_is2, w_int, i_int, w_lst, w_tup, l_lst, l_tup, l_int, Bool.true_and, Bool.false_and, Bool.and_true, Bool.and_false, at0, *]
  rw [q_seq, e12, q_thn_nx, q_seq]
  have e13 : r13 [some .deck, some (.lst W), y2, some (.lst Y), a4, a5, some wrongD, a7, some (.lst [.lst W', .lst Y']), some (.str t), y10, y11, some (.lst B), none, none, none] s5 = .nx [some .deck, some (.lst W), y2, some (.lst Y), a4, a5, some wrongD, a7, some (.lst [.lst W', .lst Y']), some (.str t), y10, y11, some (.lst B), none, none, none] s5 := by
    have cm := q_comp (h := fun _ => wrongD) (xs := [.int 0, .int 1, .int 2]) (s := s5) (b := elemD (.nm 10) [13, 10] yesT (withA (avC (getE 10) (avC (getE 12) (avC (getE 3) av0))) (callN 3 m_law_row_told)) [some .deck, some (.lst W), y2, some (.lst Y), a4, a5, some wrongD, a7, some (.lst [.lst W', .lst Y']), some (.str t), y10, y11, some (.lst B), none, none, none]) fun x hx => by
      refine elem2 rfl ?_
      clear e12 b3 b4 b5 b6 mk mk2 he ew en ht hB hO e5
      generalize wrongD = w at *
      simp only [List.mem_cons, List.not_mem_nil, or_false] at hx
      rcases hx with rfl | rfl | rfl <;> simp only [q_def, q_seq, q_ite, q_ret, q_set, q_drop, q_asg, q_for, q_for0, q_fc, q_frd_nx, q_frd_rt, q_frd_ct, q_frd_bk, q_turn, q_mkLst, q_mkTup, Nat.reduceLeDiff, q_and_bl, q_or_bl, q_c0, q_c1, q_c2, q_c3, q_c4, q_c5, q_c6, q_c9, q_c13, decide_true, decide_false, Int.reduceEq, Int.reduceLT, Int.reduceLE, Int.reduceAdd, Int.reduceSub, Int.reduceMul, Int.reduceNeg, Int.reducePow, Int.reduceToNat, Int.reduceBNe, Int.reduceNe, Nat.zero_le, q_get, q_cst, q_lift, q_un, q_with, q_av0, q_avC, q_callN, q_callKW, q_andD, q_orD, q_notD, q_fAnd, q_fOr, q_fNot, q_fTru, q_fBoo, q_ifD, q_isN, q_fIsN, q_fNotN, startD, q_bind, q_toS, q_rt, q_nx, q_thn_nx, q_thn_rt, q_okO, q_nxO, q_pure, q_none0, q_none1, q_none2, q_none3, q_none4, q_tru_bl, q_tru_int, q_tru_lst, q_tru_tup, q_tru_non, q_boo, q_seqL, q_seqT, q_lenL, q_lenT, q_eqI, q_neI, q_lt, q_le, q_gt, q_ge, q_add, q_addL, q_sub, q_neg, q_abs, q_int, q_intB, q_max, q_gcd, q_tupL, q_gL, q_gT, q_g0, q_g1, q_g2, q_lc, q_par, q_parO, q_whS, q_slc, q_prt0, q_prt1, q_intR, q_slcL, q_slcT, q_zipL, q_zipT, q_allp, List.length_map, wipeE, List.map_cons, List.map_nil, List.length_cons, List.length_nil, List.replicate, List.cons_append, List.nil_append, List.getElem?_cons_zero, List.getElem?_cons_succ, List.set_cons_zero, List.set_cons_succ, Nat.reduceSub, Nat.reduceAdd, if_true, Bool.not_true, Bool.not_false, Bool.false_eq_true, if_false, reduceIte, setD, List.foldl_cons, List.foldl_nil, q_asgN, q_asgT, q_asgL, q_asgs0, q_asgsC, Option.bind_some, List.append_nil, is_integer_eq, is_list_eq, q_is2, w_int, i_int, w_lst, w_tup, l_lst, l_tup, l_int, Bool.true_and, Bool.false_and, Bool.and_true, Bool.and_false, *]
    have cm : _ = R.ok [wrongD, wrongD, wrongD] s5 := cm
    unfold r13
    clear e12 b0 b1 b2 b3 b4 b5 b6 mk mk2 he ew ht hB hO e5
    generalize wrongD = w at *
    simp only [q_def, q_seq, q_ite, q_ret, q_set, q_drop, q_asg, q_for, q_for0, q_fc, q_frd_nx, q_frd_rt, q_frd_ct, q_frd_bk, q_turn, q_mkLst, q_mkTup, Nat.reduceLeDiff, q_and_bl, q_or_bl, q_c0, q_c1, q_c2, q_c3, q_c4, q_c5, q_c6, q_c9, q_c13, decide_true, decide_false, Int.reduceEq, Int.reduceLT, Int.reduceLE, Int.reduceAdd, Int.reduceSub, Int.reduceMul, Int.reduceNeg, Int.reducePow, Int.reduceToNat, Int.reduceBNe, Int.reduceNe, Nat.zero_le, q_get, q_cst, q_lift, q_un, q_with, q_av0, q_avC, q_callN, q_callKW, q_andD, q_orD, q_notD, q_fAnd, q_fOr, q_fNot, q_fTru, q_fBoo, q_ifD, q_isN, q_fIsN, q_fNotN, startD, q_bind, q_toS, q_rt, q_nx, q_thn_nx, q_thn_rt, q_okO, q_nxO, q_pure, q_none0, q_none1, q_none2, q_none3, q_none4, q_tru_bl, q_tru_int, q_tru_lst, q_tru_tup, q_tru_non, q_boo, q_seqL, q_seqT, q_lenL, q_lenT, q_eqI, q_neI, q_lt, q_le, q_gt, q_ge, q_add, q_addL, q_sub, q_neg, q_abs, q_int, q_intB, q_max, q_gcd, q_tupL, q_gL, q_gT, q_g0, q_g1, q_g2, q_lc, q_par, q_parO, q_whS, q_slc, q_prt0, q_prt1, q_intR, q_slcL, q_slcT, q_zipL, q_zipT, q_allp, List.length_map, wipeE, List.map_cons, List.map_nil, List.length_cons, List.length_nil, List.replicate, List.cons_append, List.nil_append, List.getElem?_cons_zero, List.getElem?_cons_succ, List.set_cons_zero, List.set_cons_succ, Nat.reduceSub, Nat.reduceAdd, if_true, Bool.not_true, Bool.not_false, Bool.false_eq_true, if_false, reduceIte, setD, List.foldl_cons, List.foldl_nil, q_asgN, q_asgT, q_asgL, q_asgs0, q_asgsC, Option.bind_some, List.append_nil, is_integer_eq, is_list_eq, q_is2, w_int, i_int, w_lst, w_tup, l_lst, l_tup, l_int, Bool.true_and, Bool.false_and, Bool.and_true, Bool.and_false, *]
  rw [e13, q_thn_nx, q_seq]
  have e14 : r14 [some .deck, some (.lst W), y2, some (.lst Y), a4, a5, some wrongD, a7, some (.lst [.lst W', .lst Y']), some (.str t), y10, y11, some (.lst B), none, none, none] s5 = .nx [some .deck, some (.lst W), y2, some (.lst Y), a4, a5, some wrongD, a7, some (.lst [.lst W', .lst Y']), some (.str t), y10, y11, some (.lst B), none, none, none] s5 := by
    have n1 := ne_rowE
    have n2 := ne_other
    unfold r14
    clear e12 e13 b0 b1 b2 b5 b6 mk he ew en ht hB e5
    generalize wrongD = w at *
    simp only [q_def, q_seq, q_ite, q_ret, q_set, q_drop, q_asg, q_for, q_for0, q_fc, q_frd_nx, q_frd_rt, q_frd_ct, q_frd_bk, q_turn, q_mkLst, q_mkTup, Nat.reduceLeDiff, q_and_bl, q_or_bl, q_c0, q_c1, q_c2, q_c3, q_c4, q_c5, q_c6, q_c9, q_c13, decide_true, decide_false, Int.reduceEq, Int.reduceLT, Int.reduceLE, Int.reduceAdd, Int.reduceSub, Int.reduceMul, Int.reduceNeg, Int.reducePow, Int.reduceToNat, Int.reduceBNe, Int.reduceNe, Nat.zero_le, q_get, q_cst, q_lift, q_un, q_with, q_av0, q_avC, q_callN, q_callKW, q_andD, q_orD, q_notD, q_fAnd, q_fOr, q_fNot, q_fTru, q_fBoo, q_ifD, q_isN, q_fIsN, q_fNotN, startD, q_bind, q_toS, q_rt, q_nx, q_thn_nx, q_thn_rt, q_okO, q_nxO, q_pure, q_none0, q_none1, q_none2, q_none3, q_none4, q_tru_bl, q_tru_int, q_tru_lst, q_tru_tup, q_tru_non, q_boo, q_seqL, q_seqT, q_lenL, q_lenT, q_eqI, q_neI, q_lt, q_le, q_gt, q_ge, q_add, q_addL, q_sub, q_neg, q_abs, q_int, q_intB, q_max, q_gcd, q_tupL, q_gL, q_gT, q_g0, q_g1, q_g2, q_lc, q_par, q_parO, q_whS, q_slc, q_prt0, q_prt1, q_intR, q_slcL, q_slcT, q_zipL, q_zipT, q_allp, List.length_map, wipeE, List.map_cons, List.map_nil, List.length_cons, List.length_nil, List.replicate, List.cons_append, List.nil_append, List.getElem?_cons_zero, List.getElem?_cons_succ, List.set_cons_zero, List.set_cons_succ, Nat.reduceSub, Nat.reduceAdd, if_true, Bool.not_true, Bool.not_false, Bool.false_eq_true, if_false, reduceIte, setD, List.foldl_cons, List.foldl_nil, q_asgN, q_asgT, q_asgL, q_asgs0, q_asgsC, Option.bind_some, List.append_nil, is_integer_eq, is_list_eq, q_is2, w_int, i_int, w_lst, w_tup, l_lst, l_tup, l_int, Bool.true_and, Bool.false_and, Bool.and_true, Bool.and_false, *]
  rw [e14, q_thn_nx]
  have n1 := eq_otherE
  unfold r15
  clear e12 e13 e14 b0 b1 b2 b3 b4 mk mk2 en hB hO e5
  generalize wrongD = w at *
  simp only [q_def, q_seq, q_ite, q_ret, q_set, q_drop, q_asg, q_for, q_for0, q_fc, q_frd_nx, q_frd_rt, q_frd_ct, q_frd_bk, q_turn, q_mkLst, q_mkTup, Nat.reduceLeDiff, q_and_bl, q_or_bl, q_c0, q_c1, q_c2, q_c3, q_c4, q_c5, q_c6, q_c9, q_c13, decide_true, decide_false, Int.reduceEq, Int.reduceLT, Int.reduceLE, Int.reduceAdd, Int.reduceSub, Int.reduceMul, Int.reduceNeg, Int.reducePow, Int.reduceToNat, Int.reduceBNe, Int.reduceNe, Nat.zero_le, q_get, q_cst, q_lift, q_un, q_with, q_av0, q_avC, q_callN, q_callKW, q_andD, q_orD, q_notD, q_fAnd, q_fOr, q_fNot, q_fTru, q_fBoo, q_ifD, q_isN, q_fIsN, q_fNotN, startD, q_bind, q_toS, q_rt, q_nx, q_thn_nx, q_thn_rt, q_okO, q_nxO, q_pure, q_none0, q_none1, q_none2, q_none3, q_none4, q_tru_bl, q_tru_int, q_tru_lst, q_tru_tup, q_tru_non, q_boo, q_seqL, q_seqT, q_lenL, q_lenT, q_eqI, q_neI, q_lt, q_le, q_gt, q_ge, q_add, q_addL, q_sub, q_neg, q_abs, q_int, q_intB, q_max, q_gcd, q_tupL, q_gL, q_gT, q_g0, q_g1, q_g2, q_lc, q_par, q_parO, q_whS, q_slc, q_prt0, q_prt1, q_intR, q_slcL, q_slcT, q_zipL, q_zipT, q_allp, List.length_map, wipeE, List.map_cons, List.map_nil, List.length_cons, List.length_nil, List.replicate, List.cons_append, List.nil_append, List.getElem?_cons_zero, List.getElem?_cons_succ, List.set_cons_zero, List.set_cons_succ, Nat.reduceSub, Nat.reduceAdd, if_true, Bool.not_true, Bool.not_false, Bool.false_eq_true, if_false, reduceIte, setD, List.foldl_cons, List.foldl_nil, q_asgN, q_asgT, q_asgL, q_asgs0, q_asgsC, Option.bind_some, List.append_nil, is_integer_eq, is_list_eq, q_is2, w_int, i_int, w_lst, w_tup, l_lst, l_tup, l_int, Bool.true_and, Bool.false_and, Bool.and_true, Bool.and_false, *]
theorem rows_eq {b : Int} {s : Deck} (G : Good b s) (hb : b + 60 ≤ 1000000) : ∃ s', m_law_rows [.deck] s = .ok (.bl true) s' ∧ Good (b + 60) s' := by
  obtain ⟨L0, s1, e1, l0, h0, c0, G1⟩ := rows_1 G (by omega)
  obtain ⟨L, s2, e2, hl, h, cn, G2⟩ := rows_2 G1 (by omega) l0 h0 c0
  obtain ⟨M, s3, e3, hm, k, cm, G3⟩ := rows_3 G2 (by omega) hl
  obtain ⟨y2, e4⟩ := rows_45 (M := M) h s3
  have e6 := rows_68 h k hl hm y2 s3
  obtain ⟨L', M', s4, e9, mL, mM, h', k', G4⟩ := rows_9 G3 (by omega) h cn k cm hl hm y2 (some (lowI L).1) (some (highI L).1) (some wrongD) (some (.lst (dueL L M)))
  have l' := same_len mL
  have m' := same_len mM
  obtain ⟨t, t1, t2⟩ := shows_kept (by decide) h' k' (by omega) (by omega)
  have gt : ∀ i : Int, 0 ≤ i → i < 4 → atI (dueL L M) i = some (dueR L M i) := fun i i0 i4 => by
    have c : i = 0 ∨ i = 1 ∨ i = 2 ∨ i = 3 := by omega
    rcases c with rfl | rfl | rfl | rfl <;> rfl
  obtain ⟨z10, z11, s5, e11, G5⟩ := rows_loop (L' := L') (M' := M') (dueL L M) (dueR L M) (fun i i0 i4 mine s hd => told_due cn h' k' mL mM (by omega) hm.symm i i0 i4 mine s hd) (fun i i0 i4 => due_showsR h k cn (by omega) i i0 i4) gt
    (some (.lst (L.map (·.1)))) y2 (some (.lst (M.map (·.1)))) (some (lowI L).1) (some (highI L).1) (some wrongD) (some (.str t)) none none none none [0, 1, 2, 3] (b + 17 + 1 + 20 + 10) s4 none none (by decide) G4 (by show b + 17 + 1 + 20 + 10 + 4 ≤ 1000000; omega)
  have G5 : Good (b + 52) s5 := G5.mono (by show b + 17 + 1 + 20 + 10 + 4 ≤ b + 52; omega)
  obtain ⟨s6, e12, G6⟩ := rows_12 G5 (by omega) h k h' k' hl hm (by omega) (by omega) y2 (some (lowI L).1) (some (highI L).1) (some (.lst (dueL L M))) z10 z11 t t1 t2
  refine ⟨s6, ?_, G6.mono (by omega)⟩
  have e10 : r10 [some .deck, some (.lst (L.map (·.1))), y2, some (.lst (M.map (·.1))), some (lowI L).1, some (highI L).1, some wrongD, some (.lst (dueL L M)), some (.lst [.lst (L'.map (·.1)), .lst (M'.map (·.1))]), none, none, none, none, none, none, none] s4
    = .nx [some .deck, some (.lst (L.map (·.1))), y2, some (.lst (M.map (·.1))), some (lowI L).1, some (highI L).1, some wrongD, some (.lst (dueL L M)), some (.lst [.lst (L'.map (·.1)), .lst (M'.map (·.1))]), some (.str t), none, none, none, none, none, none] s4 := by
    clear e1 e2 e3 e4 e6 e9 e11 e12 gt
    unfold r10
    generalize dueL L M = u at *
    generalize wrongD = w at *
    generalize (lowI L).1 = m1 at *
    generalize (highI L).1 = m2 at *
    generalize L.map (·.1) = W at *
    generalize M.map (·.1) = Y at *
    generalize L'.map (·.1) = W' at *
    generalize M'.map (·.1) = Y' at *
    clear G G1 G2 G3 G4 G5 G6 h0 c0 h cn k cm mL mM h' k' hl hm l' m' hb l0
    simp only [q_def, q_seq, q_ite, q_ret, q_set, q_drop, q_asg, q_for, q_for0, q_fc, q_frd_nx, q_frd_rt, q_frd_ct, q_frd_bk, q_turn, q_mkLst, q_mkTup, Nat.reduceLeDiff, q_and_bl, q_or_bl, q_c0, q_c1, q_c2, q_c3, q_c4, q_c5, q_c6, q_c9, q_c13, decide_true, decide_false, Int.reduceEq, Int.reduceLT, Int.reduceLE, Int.reduceAdd, Int.reduceSub, Int.reduceMul, Int.reduceNeg, Int.reducePow, Int.reduceToNat, Int.reduceBNe, Int.reduceNe, Nat.zero_le, q_get, q_cst, q_lift, q_un, q_with, q_av0, q_avC, q_callN, q_callKW, q_andD, q_orD, q_notD, q_fAnd, q_fOr, q_fNot, q_fTru, q_fBoo, q_ifD, q_isN, q_fIsN, q_fNotN, startD, q_bind, q_toS, q_rt, q_nx, q_thn_nx, q_thn_rt, q_okO, q_nxO, q_pure, q_none0, q_none1, q_none2, q_none3, q_none4, q_tru_bl, q_tru_int, q_tru_lst, q_tru_tup, q_tru_non, q_boo, q_seqL, q_seqT, q_lenL, q_lenT, q_eqI, q_neI, q_lt, q_le, q_gt, q_ge, q_add, q_addL, q_sub, q_neg, q_abs, q_int, q_intB, q_max, q_gcd, q_tupL, q_gL, q_gT, q_g0, q_g1, q_g2, q_lc, q_par, q_parO, q_whS, q_slc, q_prt0, q_prt1, q_intR, q_slcL, q_slcT, q_zipL, q_zipT, q_allp, List.length_map, wipeE, List.map_cons, List.map_nil, List.length_cons, List.length_nil, List.replicate, List.cons_append, List.nil_append, List.getElem?_cons_zero, List.getElem?_cons_succ, List.set_cons_zero, List.set_cons_succ, Nat.reduceSub, Nat.reduceAdd, if_true, Bool.not_true, Bool.not_false, Bool.false_eq_true, if_false, reduceIte, setD, List.foldl_cons, List.foldl_nil, q_asgN, q_asgT, q_asgL, q_asgs0, q_asgsC, Option.bind_some, List.append_nil, is_integer_eq, is_list_eq, q_is2, w_int, i_int, w_lst, w_tup, l_lst, l_tup, l_int, Bool.true_and, Bool.false_and, Bool.and_true, Bool.and_false, *]
  have e11' : r11 [some .deck, some (.lst (L.map (·.1))), y2, some (.lst (M.map (·.1))), some (lowI L).1, some (highI L).1, some wrongD, some (.lst (dueL L M)), some (.lst [.lst (L'.map (·.1)), .lst (M'.map (·.1))]), some (.str t), none, none, none, none, none, none] s4
    = .nx [some .deck, some (.lst (L.map (·.1))), y2, some (.lst (M.map (·.1))), some (lowI L).1, some (highI L).1, some wrongD, some (.lst (dueL L M)), some (.lst [.lst (L'.map (·.1)), .lst (M'.map (·.1))]), some (.str t), z10, z11, none, none, none, none] s5 := by
    have rn : ∀ s : Deck, rng1M [.int 4] s = .ok ([0, 1, 2, 3].map D.int) s := fun s => rfl
    rw [← e11]
    unfold r11
    rw [q_for]
    simp only [q_with, q_avC, q_av0, q_cst, q_bind, rn, q_toS]
  unfold m_law_rows
  rw [rows_fold]
  have e1' : r1 (startD 16 [.deck]) s = _ := e1
  show toR _ = _
  rw [q_seq, e1', q_thn_nx, q_seq, e2, q_thn_nx, q_seq, e3, q_thn_nx]
  have e45 : ∀ (x : FS) (δ : DEnv) (s : Deck), (seqS r4 (seqS r5 x)) δ s = (seqS (seqS r4 r5) x) δ s := fun x δ s => by
    simp only [q_seq]
    cases r4 δ s <;> rfl
  have e678 : ∀ (x : FS) (δ : DEnv) (s : Deck), (seqS r6 (seqS r7 (seqS r8 x))) δ s = (seqS (seqS r6 (seqS r7 r8)) x) δ s := fun x δ s => by
    simp only [q_seq]
    cases r6 δ s with
    | nx δ1 s1 =>
      show (r7 δ1 s1).thn _ = ((r7 δ1 s1).thn _).thn _
      cases r7 δ1 s1 <;> rfl
    | _ => rfl
  rw [e45, q_seq, e4, q_thn_nx, e678, q_seq, e6, q_thn_nx, q_seq, e9, q_thn_nx, q_seq, e10, q_thn_nx, q_seq, e11', q_thn_nx, e12]
  rfl
theorem law_fold : g_law = (seqS (forS (fun δ s => ((avC (cst (.int 3)) av0) δ s).bind rng1M) (.nm 2) (iteS (fOr (fNot (fTru (withA (avC (getE 1) av0) (callN 1 m_law_pairs)))) (fNot (fTru (withA (avC (getE 1) av0) (callN 1 m_law_rows))))) (retS (cst (.bl false))) (fun δ s => .nx δ s)))
    (retS (cst (.bl true)))) := rfl
theorem turn3 {b : Int} {s : Deck} (G : Good b s) (hb : b + 100 ≤ 1000000) (x : D) (y0 y2 : Option D) :
    ∃ s', turnS (.nm 2) (iteS (fOr (fNot (fTru (withA (avC (getE 1) av0) (callN 1 m_law_pairs)))) (fNot (fTru (withA (avC (getE 1) av0) (callN 1 m_law_rows))))) (retS (cst (.bl false))) (fun δ s => .nx δ s)) x [y0, some .deck, y2] s = .nx [y0, some .deck, some x] s' ∧ Good (b + 100) s' := by
  obtain ⟨s1, e1, G1⟩ := pairs_eq G (by omega)
  obtain ⟨s2, e2, G2⟩ := rows_eq G1 (by omega)
  refine ⟨s2, ?_, G2.mono (by omega)⟩
  clear G G1 G2 hb
  simp only [q_def, q_seq, q_ite, q_ret, q_set, q_drop, q_asg, q_for, q_for0, q_fc, q_frd_nx, q_frd_rt, q_frd_ct, q_frd_bk, q_turn, q_mkLst, q_mkTup, Nat.reduceLeDiff, q_and_bl, q_or_bl, q_c0, q_c1, q_c2, q_c3, q_c4, q_c5, q_c6, q_c9, q_c13, decide_true, decide_false, Int.reduceEq, Int.reduceLT, Int.reduceLE, Int.reduceAdd, Int.reduceSub, Int.reduceMul, Int.reduceNeg, Int.reducePow, Int.reduceToNat, Int.reduceBNe, Int.reduceNe, Nat.zero_le, q_get, q_cst, q_lift, q_un, q_with, q_av0, q_avC, q_callN, q_callKW, q_andD, q_orD, q_notD, q_fAnd, q_fOr, q_fNot, q_fTru, q_fBoo, q_ifD, q_isN, q_fIsN, q_fNotN, startD, q_bind, q_toS, q_rt, q_nx, q_thn_nx, q_thn_rt, q_okO, q_nxO, q_pure, q_none0, q_none1, q_none2, q_none3, q_none4, q_tru_bl, q_tru_int, q_tru_lst, q_tru_tup, q_tru_non, q_boo, q_seqL, q_seqT, q_lenL, q_lenT, q_eqI, q_neI, q_lt, q_le, q_gt, q_ge, q_add, q_addL, q_sub, q_neg, q_abs, q_int, q_intB, q_max, q_gcd, q_tupL, q_gL, q_gT, q_g0, q_g1, q_g2, q_lc, q_par, q_parO, q_whS, q_slc, q_prt0, q_prt1, q_intR, q_slcL, q_slcT, q_zipL, q_zipT, q_allp, List.length_map, wipeE, List.map_cons, List.map_nil, List.length_cons, List.length_nil, List.replicate, List.cons_append, List.nil_append, List.getElem?_cons_zero, List.getElem?_cons_succ, List.set_cons_zero, List.set_cons_succ, Nat.reduceSub, Nat.reduceAdd, if_true, Bool.not_true, Bool.not_false, Bool.false_eq_true, if_false, reduceIte, setD, List.foldl_cons, List.foldl_nil, q_asgN, q_asgT, q_asgL, q_asgs0, q_asgsC, Option.bind_some, List.append_nil, is_integer_eq, is_list_eq, q_is2, w_int, i_int, w_lst, w_tup, l_lst, l_tup, l_int, Bool.true_and, Bool.false_and, Bool.and_true, Bool.and_false, *]
theorem law_true (cells : List Int) : ∃ s', g_law (deck0 N_law.length) ⟨cells, 0, 0⟩ = .rt (.bl true) s' := by
  have G : Good 0 (⟨cells, 0, 0⟩ : Deck) := ⟨Int.le_refl 0, Int.le_refl 0, Int.le_refl 0⟩
  obtain ⟨s1, e1, G1⟩ := turn3 G (by decide) (.int 0) none none
  obtain ⟨s2, e2, G2⟩ := turn3 G1 (by decide) (.int 1) none (some (.int 0))
  obtain ⟨s3, e3, G3⟩ := turn3 G2 (by decide) (.int 2) none (some (.int 1))
  refine ⟨s3, ?_⟩
  show g_law [none, some .deck, none] ⟨cells, 0, 0⟩ = _
  rw [law_fold]
  have rn : ∀ s : Deck, rng1M [.int 3] s = .ok [.int 0, .int 1, .int 2] s := fun s => rfl
  rw [q_seq, q_for]
  simp only [q_with, q_avC, q_av0, q_cst, q_bind, rn, q_toS]
  rw [q_fc, e1, q_frd_nx, q_fc, e2, q_frd_nx, q_fc, e3, q_frd_nx]
  rfl

end K03

namespace K03
open PySem L2 FL
abbrev i_BadNumber : Stmt := inClass (top 10) 0
theorem sci_BadNumber : FnScope ["self", "part"] ["self", "part"] (defScope i_BadNumber) := ⟨rfl, rfl, rfl, by decide +kernel, rfl, by decide +kernel, by decide +kernel⟩
theorem e_BadNumber {P : Program} {w : World} {K : PySem.W.Frag} {mg : Str → Option Value} {base h : Heap} {C : Addr} (X : K.In h) (G : h.Ns mainGlobals mg) (A : XAt K "BadNumber" "BadNumber.__init__" ["part"] i_BadNumber C) : ExcW P w K mg base "BadNumber" ["part"] := by
  obtain ⟨aC, T, xf, nf, fI, fd, iC, tI, Fn⟩ := A
  exact ⟨⟨C, fI, fd, ["self", "part"], PySem.W.mg_of X G aC, T, iC, tI, init1 Fn sci_BadNumber T (nf "part" (by decide)) (fun cdv A outer s H E => (pss_one (ps_ost (pv 0) (pv 1)))), Fn.binds (fun _ _ _ _ _ _ us hl => match us, hl with | [_, _], _ => rfl), xf, nf⟩, by decide⟩
abbrev i_Misfit : Stmt := inClass (top 11) 0
theorem sci_Misfit : FnScope ["self", "part"] ["self", "part"] (defScope i_Misfit) := ⟨rfl, rfl, rfl, by decide +kernel, rfl, by decide +kernel, by decide +kernel⟩
theorem e_Misfit {P : Program} {w : World} {K : PySem.W.Frag} {mg : Str → Option Value} {base h : Heap} {C : Addr} (X : K.In h) (G : h.Ns mainGlobals mg) (A : XAt K "Misfit" "Misfit.__init__" ["part"] i_Misfit C) : ExcW P w K mg base "Misfit" ["part"] := by
  obtain ⟨aC, T, xf, nf, fI, fd, iC, tI, Fn⟩ := A
  exact ⟨⟨C, fI, fd, ["self", "part"], PySem.W.mg_of X G aC, T, iC, tI, init1 Fn sci_Misfit T (nf "part" (by decide)) (fun cdv A outer s H E => (pss_one (ps_ost (pv 0) (pv 1)))), Fn.binds (fun _ _ _ _ _ _ us hl => match us, hl with | [_, _], _ => rfl), xf, nf⟩, by decide⟩
theorem all_mk {l : PySem.W.OpenLaw} {w : World} {K : PySem.W.Frag} {h : Heap} {mg : Str → Option Value} {fa : Addr} {C_PlayError C_BadNumber C_Misfit : Addr}  (X : K.In h) (G : h.Ns mainGlobals mg) (hfa : mg "law" = some (.ref fa))
    (A_is_integer : At K "is_integer" s_is_integer)
    (A_is_within : At K "is_within" s_is_within)
    (A_is_number : At K "is_number" s_is_number)
    (A_is_list : At K "is_list" s_is_list)
    (A_is_numbers : At K "is_numbers" s_is_numbers)
    (A_is_row : At K "is_row" s_is_row)
    (A_fixed : At K "fixed" s_fixed)
    (A_above_below : At K "above_below" s_above_below)
    (A_made : At K "made" s_made)
    (A_added : At K "added" s_added)
    (A_multiplied : At K "multiplied" s_multiplied)
    (A_precedes : At K "precedes" s_precedes)
    (A_matched_sum : At K "matched_sum" s_matched_sum)
    (A_check_two : At K "_check_two" s_check_two)
    (A_ratio : At K "ratio" s_ratio)
    (A_plus : At K "plus" s_plus)
    (A_minus : At K "minus" s_minus)
    (A_times : At K "times" s_times)
    (A_over : At K "over" s_over)
    (A_is_less : At K "is_less" s_is_less)
    (A_check_some : At K "_check_some" s_check_some)
    (A_least : At K "least" s_least)
    (A_greatest : At K "greatest" s_greatest)
    (A_sum_of : At K "sum_of" s_sum_of)
    (A_product_sum : At K "product_sum" s_product_sum)
    (A_law_well : At K "_law_well" s_law_well)
    (A_law_draw : At K "_law_draw" s_law_draw)
    (A_law_pick : At K "_law_pick" s_law_pick)
    (A_law_form : At K "_law_form" s_law_form)
    (A_law_two : At K "_law_two" s_law_two)
    (A_law_sum : At K "_law_sum" s_law_sum)
    (A_law_times : At K "_law_times" s_law_times)
    (A_law_before : At K "_law_before" s_law_before)
    (A_law_value : At K "_law_value" s_law_value)
    (A_law_as : At K "_law_as" s_law_as)
    (A_law_bad : At K "_law_bad" s_law_bad)
    (A_law_asked : At K "_law_asked" s_law_asked)
    (A_law_pairs : At K "_law_pairs" s_law_pairs)
    (A_law_row_told : At K "_law_row_told" s_law_row_told)
    (A_law_rows : At K "_law_rows" s_law_rows)
    (A_law : At K "law" s_law)
    (X_PlayError : PySem.W.nsIn K mainGlobals "PlayError" = some (some (.ref C_PlayError)))
    (X_BadNumber : XAt K "BadNumber" "BadNumber.__init__" ["part"] i_BadNumber C_BadNumber)
    (X_Misfit : XAt K "Misfit" "Misfit.__init__" ["part"] i_Misfit C_Misfit)
    (ec_PlayError : PySem.W.subIn K (.ref C_PlayError) (.type "BaseException") = some true) (ic_PlayError : PySem.W.isClsIn K C_PlayError = true) (tc_PlayError : PySem.W.typeIn K (.ref C_PlayError) = some (.type "type"))
    (ec_BadNumber : PySem.W.subIn K (.ref C_BadNumber) (.type "BaseException") = some true) (ic_BadNumber : PySem.W.isClsIn K C_BadNumber = true) (tc_BadNumber : PySem.W.typeIn K (.ref C_BadNumber) = some (.type "type"))
    (ec_Misfit : PySem.W.subIn K (.ref C_Misfit) (.type "BaseException") = some true) (ic_Misfit : PySem.W.isClsIn K C_Misfit = true) (tc_Misfit : PySem.W.typeIn K (.ref C_Misfit) = some (.type "type"))
    (S_PlayError_PlayError : PySem.W.subIn K (.ref C_PlayError) (.ref C_PlayError) = some true)
    (S_PlayError_BadNumber : PySem.W.subIn K (.ref C_PlayError) (.ref C_BadNumber) = some false)
    (S_PlayError_Misfit : PySem.W.subIn K (.ref C_PlayError) (.ref C_Misfit) = some false)
    (S_BadNumber_PlayError : PySem.W.subIn K (.ref C_BadNumber) (.ref C_PlayError) = some true)
    (S_BadNumber_BadNumber : PySem.W.subIn K (.ref C_BadNumber) (.ref C_BadNumber) = some true)
    (S_BadNumber_Misfit : PySem.W.subIn K (.ref C_BadNumber) (.ref C_Misfit) = some false)
    (S_Misfit_PlayError : PySem.W.subIn K (.ref C_Misfit) (.ref C_PlayError) = some true)
    (S_Misfit_BadNumber : PySem.W.subIn K (.ref C_Misfit) (.ref C_BadNumber) = some false)
    (S_Misfit_Misfit : PySem.W.subIn K (.ref C_Misfit) (.ref C_Misfit) = some true)
    (Z_abs : PySem.W.nsIn K mainGlobals "abs" = some none)
    (Z_all : PySem.W.nsIn K mainGlobals "all" = some none)
    (Z_bool : PySem.W.nsIn K mainGlobals "bool" = some none)
    (Z_int : PySem.W.nsIn K mainGlobals "int" = some none)
    (Z_isinstance : PySem.W.nsIn K mainGlobals "isinstance" = some none)
    (Z_len : PySem.W.nsIn K mainGlobals "len" = some none)
    (Z_list : PySem.W.nsIn K mainGlobals "list" = some none)
    (Z_range : PySem.W.nsIn K mainGlobals "range" = some none)
    (Z_repr : PySem.W.nsIn K mainGlobals "repr" = some none)
    (Z_tuple : PySem.W.nsIn K mainGlobals "tuple" = some none)
    (Z_zip : PySem.W.nsIn K mainGlobals "zip" = some none)
    (Z_gcd : PySem.W.nsIn K mainGlobals "gcd" = some (some (.builtin "math.gcd"))) :
    ∃ fd : FuncData, (∀ (s : Shared) (u : Value), BindsTo s fd ⟨[u], []⟩ [("script", u)]) ∧ ∀ base : Heap, K.In base → base.Ns mainGlobals mg → FnG l.prog w K mg base 9 fa fd ["script"] (spLawG K) := by
  have B : Blt mg := ⟨PySem.W.mg_none_of X G Z_abs, PySem.W.mg_none_of X G Z_all, PySem.W.mg_none_of X G Z_bool, PySem.W.mg_none_of X G Z_int, PySem.W.mg_none_of X G Z_isinstance, PySem.W.mg_none_of X G Z_len, PySem.W.mg_none_of X G Z_list, PySem.W.mg_none_of X G Z_range, PySem.W.mg_none_of X G Z_repr, PySem.W.mg_none_of X G Z_tuple, PySem.W.mg_none_of X G Z_zip, PySem.W.mg_of X G Z_gcd⟩
  have H_is_integer := A_is_integer.here X G
  have H_is_within := A_is_within.here X G
  have H_is_number := A_is_number.here X G
  have H_is_list := A_is_list.here X G
  have H_is_numbers := A_is_numbers.here X G
  have H_is_row := A_is_row.here X G
  have H_fixed := A_fixed.here X G
  have H_above_below := A_above_below.here X G
  have H_made := A_made.here X G
  have H_added := A_added.here X G
  have H_multiplied := A_multiplied.here X G
  have H_precedes := A_precedes.here X G
  have H_matched_sum := A_matched_sum.here X G
  have H_check_two := A_check_two.here X G
  have H_ratio := A_ratio.here X G
  have H_plus := A_plus.here X G
  have H_minus := A_minus.here X G
  have H_times := A_times.here X G
  have H_over := A_over.here X G
  have H_is_less := A_is_less.here X G
  have H_check_some := A_check_some.here X G
  have H_least := A_least.here X G
  have H_greatest := A_greatest.here X G
  have H_sum_of := A_sum_of.here X G
  have H_product_sum := A_product_sum.here X G
  have H_law_well := A_law_well.here X G
  have H_law_draw := A_law_draw.here X G
  have H_law_pick := A_law_pick.here X G
  have H_law_form := A_law_form.here X G
  have H_law_two := A_law_two.here X G
  have H_law_sum := A_law_sum.here X G
  have H_law_times := A_law_times.here X G
  have H_law_before := A_law_before.here X G
  have H_law_value := A_law_value.here X G
  have H_law_as := A_law_as.here X G
  have H_law_bad := A_law_bad.here X G
  have H_law_asked := A_law_asked.here X G
  have H_law_pairs := A_law_pairs.here X G
  have H_law_row_told := A_law_row_told.here X G
  have H_law_rows := A_law_rows.here X G
  have H_law := A_law.here X G
  have m_PlayError : mg "PlayError" = some (.ref C_PlayError) := PySem.W.mg_of X G X_PlayError
  have m_BadNumber : mg "BadNumber" = some (.ref C_BadNumber) := PySem.W.mg_of X G X_BadNumber.1
  have m_Misfit : mg "Misfit" = some (.ref C_Misfit) := PySem.W.mg_of X G X_Misfit.1
  have M_PlayError : ∃ C, mg "PlayError" = some (.ref C) := ⟨_, m_PlayError⟩
  have M_BadNumber : ∃ C, mg "BadNumber" = some (.ref C) := ⟨_, m_BadNumber⟩
  have M_Misfit : ∃ C, mg "Misfit" = some (.ref C) := ⟨_, m_Misfit⟩
  have HT : TblOk K mg tbl := by
    intro x y b Cx Cy h hx hy
    unfold tbl at h
    split at h
    · rename_i c
      obtain ⟨rfl, rfl⟩ := c
      cases h
      rw [m_PlayError] at hx
      cases hx
      rw [m_PlayError] at hy
      cases hy
      exact exm_of ec_PlayError ic_PlayError tc_PlayError S_PlayError_PlayError
    split at h
    · rename_i c
      obtain ⟨rfl, rfl⟩ := c
      cases h
      rw [m_PlayError] at hx
      cases hx
      rw [m_BadNumber] at hy
      cases hy
      exact exm_of ec_BadNumber ic_BadNumber tc_BadNumber S_PlayError_BadNumber
    split at h
    · rename_i c
      obtain ⟨rfl, rfl⟩ := c
      cases h
      rw [m_PlayError] at hx
      cases hx
      rw [m_Misfit] at hy
      cases hy
      exact exm_of ec_Misfit ic_Misfit tc_Misfit S_PlayError_Misfit
    split at h
    · rename_i c
      obtain ⟨rfl, rfl⟩ := c
      cases h
      rw [m_BadNumber] at hx
      cases hx
      rw [m_PlayError] at hy
      cases hy
      exact exm_of ec_PlayError ic_PlayError tc_PlayError S_BadNumber_PlayError
    split at h
    · rename_i c
      obtain ⟨rfl, rfl⟩ := c
      cases h
      rw [m_BadNumber] at hx
      cases hx
      rw [m_BadNumber] at hy
      cases hy
      exact exm_of ec_BadNumber ic_BadNumber tc_BadNumber S_BadNumber_BadNumber
    split at h
    · rename_i c
      obtain ⟨rfl, rfl⟩ := c
      cases h
      rw [m_BadNumber] at hx
      cases hx
      rw [m_Misfit] at hy
      cases hy
      exact exm_of ec_Misfit ic_Misfit tc_Misfit S_BadNumber_Misfit
    split at h
    · rename_i c
      obtain ⟨rfl, rfl⟩ := c
      cases h
      rw [m_Misfit] at hx
      cases hx
      rw [m_PlayError] at hy
      cases hy
      exact exm_of ec_PlayError ic_PlayError tc_PlayError S_Misfit_PlayError
    split at h
    · rename_i c
      obtain ⟨rfl, rfl⟩ := c
      cases h
      rw [m_Misfit] at hx
      cases hx
      rw [m_BadNumber] at hy
      cases hy
      exact exm_of ec_BadNumber ic_BadNumber tc_BadNumber S_Misfit_BadNumber
    split at h
    · rename_i c
      obtain ⟨rfl, rfl⟩ := c
      cases h
      rw [m_Misfit] at hx
      cases hx
      rw [m_Misfit] at hy
      cases hy
      exact exm_of ec_Misfit ic_Misfit tc_Misfit S_Misfit_Misfit
    cases h
  obtain ⟨f, fd, Fn, hm⟩ := H_law
  obtain rfl : f = fa := by
    rw [hfa] at hm
    cases hm
    rfl
  refine ⟨fd, ?_, fun base _ _ => ?_⟩
  · obtain ⟨oc, od, kV, dc, pm, an, cd, ct, osl, rfl, _, _⟩ := Fn.ex
    exact fun s u => .of_eq rfl
  have E_BadNumber := e_BadNumber (P := l.prog) (w := w) (base := base) X G X_BadNumber
  have E_Misfit := e_Misfit (P := l.prog) (w := w) (base := base) X G X_Misfit
  have W_is_integer := w_is_integer (P := l.prog) (w := w) (base := base) B H_is_integer 
  have W_is_within := w_is_within (P := l.prog) (w := w) (base := base) B H_is_within W_is_integer
  have W_is_list := w_is_list (P := l.prog) (w := w) (base := base) B H_is_list 
  have W_is_number := w_is_number (P := l.prog) (w := w) (base := base) B H_is_number W_is_integer W_is_within W_is_list
  have W_is_numbers := w_is_numbers (P := l.prog) (w := w) (base := base) B H_is_numbers W_is_number W_is_list
  have W_is_row := w_is_row (P := l.prog) (w := w) (base := base) B H_is_row W_is_integer W_is_list W_is_numbers
  have W_fixed := w_fixed (P := l.prog) (w := w) (base := base) B H_fixed  3
  have W_above_below := w_above_below (P := l.prog) (w := w) (base := base) B H_above_below W_is_integer
  have W_made := w_made (P := l.prog) (w := w) (base := base) B H_made 
  have W_added := w_added (P := l.prog) (w := w) (base := base) B H_added W_above_below W_made
  have W_multiplied := w_multiplied (P := l.prog) (w := w) (base := base) B H_multiplied W_above_below W_made
  have W_precedes := w_precedes (P := l.prog) (w := w) (base := base) B H_precedes W_above_below
  have W_matched_sum := w_matched_sum (P := l.prog) (w := w) (base := base) B H_matched_sum W_added W_multiplied
  have W_check_two := w_check_two (P := l.prog) (w := w) (base := base) B H_check_two E_BadNumber W_is_number
  have W_ratio := w_ratio (P := l.prog) (w := w) (base := base) B H_ratio E_BadNumber W_is_integer W_made
  have W_plus := w_plus (P := l.prog) (w := w) (base := base) B H_plus W_added W_check_two
  have W_minus := w_minus (P := l.prog) (w := w) (base := base) B H_minus W_added W_multiplied W_check_two
  have W_times := w_times (P := l.prog) (w := w) (base := base) B H_times W_multiplied W_check_two
  have W_over := w_over (P := l.prog) (w := w) (base := base) B H_over E_Misfit W_above_below W_made W_multiplied W_check_two
  have W_is_less := w_is_less (P := l.prog) (w := w) (base := base) B H_is_less W_precedes W_check_two
  have W_check_some := w_check_some (P := l.prog) (w := w) (base := base) B H_check_some E_BadNumber W_is_numbers
  have W_least := w_least (P := l.prog) (w := w) (base := base) B H_least W_fixed W_precedes W_check_some
  have W_greatest := w_greatest (P := l.prog) (w := w) (base := base) B H_greatest W_fixed W_precedes W_check_some
  have W_sum_of := w_sum_of (P := l.prog) (w := w) (base := base) B H_sum_of E_BadNumber W_is_numbers W_added
  have W_product_sum := w_product_sum (P := l.prog) (w := w) (base := base) B H_product_sum E_BadNumber W_is_numbers W_is_row W_matched_sum
  have W_law_draw := w_law_draw (P := l.prog) (w := w) (base := base) B H_law_draw 
  have W_law_pick := w_law_pick (P := l.prog) (w := w) (base := base) B H_law_pick W_law_draw
  have W_law_form := w_law_form (P := l.prog) (w := w) (base := base) B H_law_form 
  have W_law_two := w_law_two (P := l.prog) (w := w) (base := base) B H_law_two 
  have W_law_sum := w_law_sum (P := l.prog) (w := w) (base := base) B H_law_sum W_law_form W_law_two
  have W_law_times := w_law_times (P := l.prog) (w := w) (base := base) B H_law_times W_law_form W_law_two
  have W_law_before := w_law_before (P := l.prog) (w := w) (base := base) B H_law_before W_law_two
  have W_law_value := w_law_value (P := l.prog) (w := w) (base := base) B H_law_value W_law_draw W_law_pick W_law_form
  have W_law_as := w_law_as (P := l.prog) (w := w) (base := base) B H_law_as W_law_draw
  have W_law_bad := w_law_bad (P := l.prog) (w := w) (base := base) B H_law_bad W_law_pick
  have W_law_asked := w_law_asked (P := l.prog) (w := w) (base := base) B H_law_asked E_BadNumber E_Misfit M_BadNumber M_Misfit M_PlayError HT W_ratio W_plus W_minus W_times W_over W_is_less
  have W_law_pairs := w_law_pairs (P := l.prog) (w := w) (base := base) B H_law_pairs W_law_draw W_law_pick W_law_form W_law_two W_law_sum W_law_times W_law_before W_law_value W_law_as W_law_bad W_law_asked
  have W_law_row_told := w_law_row_told (P := l.prog) (w := w) (base := base) B H_law_row_told E_BadNumber M_BadNumber M_PlayError HT W_least W_greatest W_sum_of W_product_sum
  have W_law_rows := w_law_rows (P := l.prog) (w := w) (base := base) B H_law_rows W_law_draw W_law_sum W_law_times W_law_before W_law_value W_law_as W_law_bad W_law_row_told
  have Wd := w_law_well (P := l.prog) (w := w) (base := base) B H_law_well
  obtain ⟨f', fd', Gn, Fn', hm'⟩ := w_law (P := l.prog) (w := w) (base := base) B ⟨f, fd, Fn, hm⟩ Wd  W_law_pairs W_law_rows (fun cells _ => law_true cells)
  obtain rfl : f' = f := by
    rw [hm] at hm'
    cases hm'
    rfl
  obtain rfl : fd' = fd := fun_one Fn' Fn
  exact Gn
end K03
open PySem PySem.W PyProof.Rows in
set_option maxRecDepth 100000 in
set_option maxHeartbeats 0 in
theorem PySem.Challenge.cw_planless_k03_numbers_reckoned_holds : PySem.Challenge.rw_planless_k03_numbers_reckoned.Holds := by
  w_on; o_law; k_head; (case hw => w_witness2)
  k_fill
  refine FL.walkG (l := PySem.Challenge.rw_planless_k03_numbers_reckoned) (k := 9) (x := "script") rfl rfl ⟨rfl, by decide, by decide⟩ (fun w h Y => PySem.W.kIn_of Y) ?F
  case F =>
    intro w mg fa h KX G hmg
    refine' K03.all_mk KX G hmg ?A_is_integer ?A_is_within ?A_is_number ?A_is_list ?A_is_numbers ?A_is_row ?A_fixed ?A_above_below ?A_made ?A_added ?A_multiplied ?A_precedes ?A_matched_sum ?A_check_two ?A_ratio ?A_plus ?A_minus ?A_times ?A_over ?A_is_less ?A_check_some ?A_least ?A_greatest ?A_sum_of ?A_product_sum ?A_law_well ?A_law_draw ?A_law_pick ?A_law_form ?A_law_two ?A_law_sum ?A_law_times ?A_law_before ?A_law_value ?A_law_as ?A_law_bad ?A_law_asked ?A_law_pairs ?A_law_row_told ?A_law_rows ?A_law ?X_PlayError ?X_BadNumber ?X_Misfit ?ec_PlayError ?ic_PlayError ?tc_PlayError ?ec_BadNumber ?ic_BadNumber ?tc_BadNumber ?ec_Misfit ?ic_Misfit ?tc_Misfit ?S_PlayError_PlayError ?S_PlayError_BadNumber ?S_PlayError_Misfit ?S_BadNumber_PlayError ?S_BadNumber_BadNumber ?S_BadNumber_Misfit ?S_Misfit_PlayError ?S_Misfit_BadNumber ?S_Misfit_Misfit ?Z_abs ?Z_all ?Z_bool ?Z_int ?Z_isinstance ?Z_len ?Z_list ?Z_range ?Z_repr ?Z_tuple ?Z_zip ?Z_gcd
    (case A_is_integer => (refine' FL.At.mk ?a ?l ?c ?k; (case a => k_is); (case l => k_is); (case c => k_is); (case k => k_is)))
    (case A_is_within => (refine' FL.At.mk ?a ?l ?c ?k; (case a => k_is); (case l => k_is); (case c => k_is); (case k => k_is)))
    (case A_is_number => (refine' FL.At.mk ?a ?l ?c ?k; (case a => k_is); (case l => k_is); (case c => k_is); (case k => k_is)))
    (case A_is_list => (refine' FL.At.mk ?a ?l ?c ?k; (case a => k_is); (case l => k_is); (case c => k_is); (case k => k_is)))
    (case A_is_numbers => (refine' FL.At.mk ?a ?l ?c ?k; (case a => k_is); (case l => k_is); (case c => k_is); (case k => k_is)))
    (case A_is_row => (refine' FL.At.mk ?a ?l ?c ?k; (case a => k_is); (case l => k_is); (case c => k_is); (case k => k_is)))
    (case A_fixed => (refine' FL.At.mk ?a ?l ?c ?k; (case a => k_is); (case l => k_is); (case c => k_is); (case k => k_is)))
    (case A_above_below => (refine' FL.At.mk ?a ?l ?c ?k; (case a => k_is); (case l => k_is); (case c => k_is); (case k => k_is)))
    (case A_made => (refine' FL.At.mk ?a ?l ?c ?k; (case a => k_is); (case l => k_is); (case c => k_is); (case k => k_is)))
    (case A_added => (refine' FL.At.mk ?a ?l ?c ?k; (case a => k_is); (case l => k_is); (case c => k_is); (case k => k_is)))
    (case A_multiplied => (refine' FL.At.mk ?a ?l ?c ?k; (case a => k_is); (case l => k_is); (case c => k_is); (case k => k_is)))
    (case A_precedes => (refine' FL.At.mk ?a ?l ?c ?k; (case a => k_is); (case l => k_is); (case c => k_is); (case k => k_is)))
    (case A_matched_sum => (refine' FL.At.mk ?a ?l ?c ?k; (case a => k_is); (case l => k_is); (case c => k_is); (case k => k_is)))
    (case A_check_two => (refine' FL.At.mk ?a ?l ?c ?k; (case a => k_is); (case l => k_is); (case c => k_is); (case k => k_is)))
    (case A_ratio => (refine' FL.At.mk ?a ?l ?c ?k; (case a => k_is); (case l => k_is); (case c => k_is); (case k => k_is)))
    (case A_plus => (refine' FL.At.mk ?a ?l ?c ?k; (case a => k_is); (case l => k_is); (case c => k_is); (case k => k_is)))
    (case A_minus => (refine' FL.At.mk ?a ?l ?c ?k; (case a => k_is); (case l => k_is); (case c => k_is); (case k => k_is)))
    (case A_times => (refine' FL.At.mk ?a ?l ?c ?k; (case a => k_is); (case l => k_is); (case c => k_is); (case k => k_is)))
    (case A_over => (refine' FL.At.mk ?a ?l ?c ?k; (case a => k_is); (case l => k_is); (case c => k_is); (case k => k_is)))
    (case A_is_less => (refine' FL.At.mk ?a ?l ?c ?k; (case a => k_is); (case l => k_is); (case c => k_is); (case k => k_is)))
    (case A_check_some => (refine' FL.At.mk ?a ?l ?c ?k; (case a => k_is); (case l => k_is); (case c => k_is); (case k => k_is)))
    (case A_least => (refine' FL.At.mk ?a ?l ?c ?k; (case a => k_is); (case l => k_is); (case c => k_is); (case k => k_is)))
    (case A_greatest => (refine' FL.At.mk ?a ?l ?c ?k; (case a => k_is); (case l => k_is); (case c => k_is); (case k => k_is)))
    (case A_sum_of => (refine' FL.At.mk ?a ?l ?c ?k; (case a => k_is); (case l => k_is); (case c => k_is); (case k => k_is)))
    (case A_product_sum => (refine' FL.At.mk ?a ?l ?c ?k; (case a => k_is); (case l => k_is); (case c => k_is); (case k => k_is)))
    (case A_law_well => (refine' FL.At.mk ?a ?l ?c ?k; (case a => k_is); (case l => k_is); (case c => k_is); (case k => k_is)))
    (case A_law_draw => (refine' FL.At.mk ?a ?l ?c ?k; (case a => k_is); (case l => k_is); (case c => k_is); (case k => k_is)))
    (case A_law_pick => (refine' FL.At.mk ?a ?l ?c ?k; (case a => k_is); (case l => k_is); (case c => k_is); (case k => k_is)))
    (case A_law_form => (refine' FL.At.mk ?a ?l ?c ?k; (case a => k_is); (case l => k_is); (case c => k_is); (case k => k_is)))
    (case A_law_two => (refine' FL.At.mk ?a ?l ?c ?k; (case a => k_is); (case l => k_is); (case c => k_is); (case k => k_is)))
    (case A_law_sum => (refine' FL.At.mk ?a ?l ?c ?k; (case a => k_is); (case l => k_is); (case c => k_is); (case k => k_is)))
    (case A_law_times => (refine' FL.At.mk ?a ?l ?c ?k; (case a => k_is); (case l => k_is); (case c => k_is); (case k => k_is)))
    (case A_law_before => (refine' FL.At.mk ?a ?l ?c ?k; (case a => k_is); (case l => k_is); (case c => k_is); (case k => k_is)))
    (case A_law_value => (refine' FL.At.mk ?a ?l ?c ?k; (case a => k_is); (case l => k_is); (case c => k_is); (case k => k_is)))
    (case A_law_as => (refine' FL.At.mk ?a ?l ?c ?k; (case a => k_is); (case l => k_is); (case c => k_is); (case k => k_is)))
    (case A_law_bad => (refine' FL.At.mk ?a ?l ?c ?k; (case a => k_is); (case l => k_is); (case c => k_is); (case k => k_is)))
    (case A_law_asked => (refine' FL.At.mk ?a ?l ?c ?k; (case a => k_is); (case l => k_is); (case c => k_is); (case k => k_is)))
    (case A_law_pairs => (refine' FL.At.mk ?a ?l ?c ?k; (case a => k_is); (case l => k_is); (case c => k_is); (case k => k_is)))
    (case A_law_row_told => (refine' FL.At.mk ?a ?l ?c ?k; (case a => k_is); (case l => k_is); (case c => k_is); (case k => k_is)))
    (case A_law_rows => (refine' FL.At.mk ?a ?l ?c ?k; (case a => k_is); (case l => k_is); (case c => k_is); (case k => k_is)))
    (case A_law => (refine' FL.At.mk ?a ?l ?c ?k; (case a => k_is); (case l => k_is); (case c => k_is); (case k => k_is)))
    (case X_PlayError => k_is)
    (case X_BadNumber => (refine' FL.XAt.mk1 ?aC ?xL ?hb ?sa ?ga ?gg ?n1 ?i1 ?t1 ?l1 ?c1 ?kf ?kC ?eC ?tC ?hC; (case aC => k_is); (case xL => k_is); (case hb => decide +kernel); (case sa => k_is); (case ga => k_is); (case gg => k_is); (case n1 => k_is); (case i1 => k_is); (case t1 => k_is); (case l1 => k_is); (case c1 => k_is); (case kf => k_is); (case kC => k_is); (case eC => k_is); (case tC => k_is); (case hC => k_is)))
    (case X_Misfit => (refine' FL.XAt.mk1 ?aC ?xL ?hb ?sa ?ga ?gg ?n1 ?i1 ?t1 ?l1 ?c1 ?kf ?kC ?eC ?tC ?hC; (case aC => k_is); (case xL => k_is); (case hb => decide +kernel); (case sa => k_is); (case ga => k_is); (case gg => k_is); (case n1 => k_is); (case i1 => k_is); (case t1 => k_is); (case l1 => k_is); (case c1 => k_is); (case kf => k_is); (case kC => k_is); (case eC => k_is); (case tC => k_is); (case hC => k_is)))
    (case ec_PlayError => first | k_is | rfl)
    (case ic_PlayError => first | k_is | rfl)
    (case tc_PlayError => first | k_is | rfl)
    (case ec_BadNumber => first | k_is | rfl)
    (case ic_BadNumber => first | k_is | rfl)
    (case tc_BadNumber => first | k_is | rfl)
    (case ec_Misfit => first | k_is | rfl)
    (case ic_Misfit => first | k_is | rfl)
    (case tc_Misfit => first | k_is | rfl)
    (case S_PlayError_PlayError => first | k_is | rfl)
    (case S_PlayError_BadNumber => first | k_is | rfl)
    (case S_PlayError_Misfit => first | k_is | rfl)
    (case S_BadNumber_PlayError => first | k_is | rfl)
    (case S_BadNumber_BadNumber => first | k_is | rfl)
    (case S_BadNumber_Misfit => first | k_is | rfl)
    (case S_Misfit_PlayError => first | k_is | rfl)
    (case S_Misfit_BadNumber => first | k_is | rfl)
    (case S_Misfit_Misfit => first | k_is | rfl)
    (case Z_abs => k_is)
    (case Z_all => k_is)
    (case Z_bool => k_is)
    (case Z_int => k_is)
    (case Z_isinstance => k_is)
    (case Z_len => k_is)
    (case Z_list => k_is)
    (case Z_range => k_is)
    (case Z_repr => k_is)
    (case Z_tuple => k_is)
    (case Z_zip => k_is)
    (case Z_gcd => k_is)
#print axioms PySem.Challenge.cw_planless_k03_numbers_reckoned_holds

