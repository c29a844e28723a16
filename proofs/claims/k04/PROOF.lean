import PyProof.Rows.All
import Wide.All
import OpenK.AllK
import Wide.FinOn
import HandS.ForMost
import HandS.Flow
import HandS.NoneIn
import HandS.Style
import HandS.ForExc
import HandS.Gcd
import HandS.IsInst
import HandS.Wide
import HandS.Zip
import HandS.TryMany
import HandS.ExcCtx
import HandS.ExcInit
import HandS.ExcField
import HandS.CallSlots
import HandS.Defaults
import HandS.FStr
import HandS.StrMore
import HandS.TupLe
import HandS.TupAny
import HandS.SortInts
import PyProof.ReprReads
import PyProof.ReprRoads
import KE.IntTextLaws
import PySem.Challenge.RW_planless_k04_numbers_written_and_read
set_option Elab.async false
set_option linter.all false
set_option maxRecDepth 100000
set_option maxHeartbeats 8000000
/-! a functional reading of the program's text: values as trees, a mixer's state -/
namespace FL
open PySem PySem.Spec L2

/-! ### trees -/
inductive D where
  | non
  | bl (b : Bool)
  | int (i : Int)
  | str (s : Str)
  | lst (xs : List D)
  | tup (xs : List D)
  | dct (kvs : List (Key × D))
  | deck
  deriving Inhabited

structure Deck where
  cells : List Int
  turn : Int
  left : Int

/-- an error of an own class: its name, its fields -/
structure Ex where
  cls : Str
  flds : List (Str × D)

inductive R (α : Type) where
  | ok (a : α) (s : Deck)
  | raise (e : Ex) (s : Deck)
  | bad
def R.bind {α β : Type} : R α → (α → Deck → R β) → R β
  | .ok a s, f => f a s
  | .raise e s, _ => .raise e s
  | .bad, _ => .bad
abbrev M (α : Type) := Deck → R α
abbrev DEnv := List (Option D)

mutual
inductive Rp (K : PySem.W.Frag) (dk : Addr) (F : Hp) : V → D → Prop
  | non : Rp K dk F .non .non
  | bl (b : Bool) : Rp K dk F (.bl b) (.bl b)
  | int (i : Int) : Rp K dk F (.int i) (.int i)
  | str (x : Str) : Rp K dk F (.str x) (.str x)
  | lst {a : Addr} {xs : List V} {ds : List D} : F a = some (.lst xs) → RpAll K dk F xs ds → Rp K dk F (.ref a) (.lst ds)
  | tup {a : Addr} {xs : List V} {ds : List D} : SqT K F a xs → RpAll K dk F xs ds → Rp K dk F (.ref a) (.tup ds)
  | dct {a : Addr} {kvs : List (Key × V)} {ds : List (Key × D)} : F a = some (.dK kvs) → kvs.map (·.1) = ds.map (·.1) → RpAll K dk F (kvs.map (·.2)) (ds.map (·.2)) → Rp K dk F (.ref a) (.dct ds)
  | deck : Rp K dk F (.ref dk) .deck
inductive RpAll (K : PySem.W.Frag) (dk : Addr) (F : Hp) : List V → List D → Prop
  | nil : RpAll K dk F [] []
  | cons {v : V} {vs : List V} {d : D} {ds : List D} : Rp K dk F v d → RpAll K dk F vs ds → RpAll K dk F (v :: vs) (d :: ds)
end

section
variable {K : PySem.W.Frag} {dk : Addr} {F F' : Hp}
theorem seqT {a : Addr} {xs : List V} (e : Same F F') (h : SqT K F a xs) : SqT K F' a xs := by
  rcases h with (h | ⟨o, h⟩) | h
  · exact .inl (.inl (e _ _ h))
  · exact .inl (.inr ⟨o, e _ _ h⟩)
  · exact .inr h
mutual
theorem Rp.mono (e : Same F F') : ∀ {v : V} {d : D}, Rp K dk F v d → Rp K dk F' v d
  | _, _, .non => .non
  | _, _, .bl b => .bl b
  | _, _, .int i => .int i
  | _, _, .str x => .str x
  | _, _, .lst h1 h2 => .lst (e _ _ h1) (RpAll.mono e h2)
  | _, _, .tup h1 h2 => .tup (seqT e h1) (RpAll.mono e h2)
  | _, _, .dct h1 hk h2 => .dct (e _ _ h1) hk (RpAll.mono e h2)
  | _, _, .deck => .deck
theorem RpAll.mono (e : Same F F') : ∀ {vs : List V} {ds : List D}, RpAll K dk F vs ds → RpAll K dk F' vs ds
  | _, _, .nil => .nil
  | _, _, .cons h1 h2 => .cons (Rp.mono e h1) (RpAll.mono e h2)
end
theorem RpAll.length : ∀ {vs : List V} {ds : List D}, RpAll K dk F vs ds → vs.length = ds.length
  | _, _, .nil => rfl
  | _, _, .cons _ h2 => congrArg (· + 1) (RpAll.length h2)
theorem RpAll.get : ∀ {vs : List V} {ds : List D} {i : Nat} {d : D}, RpAll K dk F vs ds → ds[i]? = some d → ∃ v, vs[i]? = some v ∧ Rp K dk F v d
  | _, _, _, _, .nil, e => by simp at e
  | _, _, 0, _, .cons r _, e => by simp at e; subst e; exact ⟨_, rfl, r⟩
  | _, _, i + 1, d, .cons _ t, e => by
    obtain ⟨u, h1, h2⟩ := RpAll.get (i := i) (d := d) t (by simpa using e)
    exact ⟨u, by simpa using h1, h2⟩
theorem RpAll.getV : ∀ {vs : List V} {ds : List D} {i : Nat} {v : V}, RpAll K dk F vs ds → vs[i]? = some v → ∃ d, ds[i]? = some d ∧ Rp K dk F v d
  | _, _, _, _, .nil, e => by simp at e
  | _, _, 0, _, .cons r _, e => by simp at e; subst e; exact ⟨_, rfl, r⟩
  | _, _, i + 1, d, .cons _ t, e => by
    obtain ⟨u, h1, h2⟩ := RpAll.getV (i := i) (v := d) t (by simpa using e)
    exact ⟨u, by simpa using h1, h2⟩
theorem RpAll.append : ∀ {vs us : List V} {ds es : List D}, RpAll K dk F vs ds → RpAll K dk F us es → RpAll K dk F (vs ++ us) (ds ++ es)
  | _, _, _, _, .nil, h => h
  | _, _, _, _, .cons r t, h => .cons r (RpAll.append t h)
theorem RpAll.drop : ∀ {vs : List V} {ds : List D} (n : Nat), RpAll K dk F vs ds → RpAll K dk F (vs.drop n) (ds.drop n)
  | _, _, 0, h => h
  | _, _, _ + 1, .nil => .nil
  | _, _, n + 1, .cons _ t => RpAll.drop n t
theorem RpAll.take : ∀ {vs : List V} {ds : List D} (n : Nat), RpAll K dk F vs ds → RpAll K dk F (vs.take n) (ds.take n)
  | _, _, 0, _ => .nil
  | _, _, _ + 1, .nil => .nil
  | _, _, n + 1, .cons r t => .cons r (RpAll.take n t)
end

/-! ### the state -/
structure Stt (K : PySem.W.Frag) (dk : Addr) (F H : Hp) (s : Deck) : Prop where
  sub : Same F H
  fdk : F dk = none
  deck : ∃ cl, H dk = some (.lst [.ref cl, .int s.turn, .int s.left]) ∧ F cl = some (.lst (s.cells.map V.int))
def Fr (dk : Addr) (H H' : Hp) : Prop := ∀ b o, b ≠ dk → H b = some o → H' b = some o
theorem Fr.refl (dk : Addr) (H : Hp) : Fr dk H H := fun _ _ _ h => h
theorem Fr.trans {dk : Addr} {H H1 H2 : Hp} (a : Fr dk H H1) (b : Fr dk H1 H2) : Fr dk H H2 := fun c o h q => b c o h (a c o h q)
structure Nxt (K : PySem.W.Frag) (dk : Addr) (F H F' H' : Hp) (s' : Deck) : Prop where
  sm : Same F F'
  st : Stt K dk F' H' s'
  fr : Fr dk H H'
  pv : ∀ b, F b = none → H b ≠ none → F' b = none
theorem Nxt.refl {K : PySem.W.Frag} {dk : Addr} {F H : Hp} {s : Deck} (h : Stt K dk F H s) : Nxt K dk F H F H s := ⟨Same.refl _, h, Fr.refl _ _, fun _ e _ => e⟩
theorem Fr.there {dk : Addr} {H H' : Hp} (h : Fr dk H H') {b : Addr} (hb : b ≠ dk) (e : H b ≠ none) : H' b ≠ none := by
  cases q : H b with
  | none => exact absurd q e
  | some o => rw [h b o hb q]; exact fun z => by cases z
theorem Nxt.trans {K : PySem.W.Frag} {dk : Addr} {F H F1 H1 F2 H2 : Hp} {s1 s2 : Deck} (a : Nxt K dk F H F1 H1 s1) (b : Nxt K dk F1 H1 F2 H2 s2) : Nxt K dk F H F2 H2 s2 := by
  refine ⟨a.sm.trans b.sm, b.st, a.fr.trans b.fr, fun c e h => ?_⟩
  by_cases hc : c = dk
  · rw [hc]; exact b.st.fdk
  · exact b.pv c (a.pv c e h) (a.fr.there hc h)

structure EnvR (K : PySem.W.Frag) (dk : Addr) (F : Hp) (σ : St) (δ : DEnv) : Prop where
  len : σ.length = δ.length
  get : ∀ (i : Nat) (d : D), δ[i]? = some (some d) → ∃ v, σ[i]? = some (some v) ∧ Rp K dk F v d
theorem EnvR.mono {K : PySem.W.Frag} {dk : Addr} {F F' : Hp} {σ : St} {δ : DEnv} (e : Same F F') (h : EnvR K dk F σ δ) : EnvR K dk F' σ δ := ⟨h.len, fun i d q => let ⟨v, h1, h2⟩ := h.get i d q; ⟨v, h1, h2.mono e⟩⟩
theorem EnvR.set {K : PySem.W.Frag} {dk : Addr} {F : Hp} {σ : St} {δ : DEnv} {i : Nat} {v : V} {d : D} (h : EnvR K dk F σ δ) (r : Rp K dk F v d) : EnvR K dk F (σ.set i (some v)) (δ.set i (some d)) := by
  refine ⟨by simp [h.len], fun j e q => ?_⟩
  by_cases hj : i = j
  · subst hj
    by_cases hl : i < δ.length
    · rw [List.getElem?_set_self hl] at q
      cases q
      exact ⟨v, List.getElem?_set_self (by rw [h.len]; exact hl), r⟩
    · rw [List.getElem?_eq_none (by simpa using hl)] at q
      cases q
  · rw [List.getElem?_set_ne hj] at q
    obtain ⟨u, h1, h2⟩ := h.get j e q
    exact ⟨u, by rw [List.getElem?_set_ne hj]; exact h1, h2⟩
theorem EnvR.unset {K : PySem.W.Frag} {dk : Addr} {F : Hp} {σ : St} {δ : DEnv} {i : Nat} {o : Option V} (h : EnvR K dk F σ δ) : EnvR K dk F (σ.set i o) (δ.set i none) := by
  refine ⟨by simp [h.len], fun j e q => ?_⟩
  by_cases hj : i = j
  · subst hj
    by_cases hl : i < δ.length
    · rw [List.getElem?_set_self hl] at q
      cases q
    · rw [List.getElem?_eq_none (by simpa using hl)] at q
      cases q
  · rw [List.getElem?_set_ne hj] at q
    obtain ⟨u, h1, h2⟩ := h.get j e q
    exact ⟨u, by rw [List.getElem?_set_ne hj]; exact h1, h2⟩

/-- an error of the class named, its own dict at dd -/
def ExAt (K : PySem.W.Frag) (dk : Addr) (F H : Hp) (dd : Addr) (e : Ex) : Prop :=
  ∃ fs : List (Str × V), H dd = some (.xd fs) ∧ ∀ (f : Str) (d : D), e.flds.lookup f = some d → ∃ v, fs.lookup f = some v ∧ Rp K dk F v d

/-- what is wanted behind: of a value in relation RR to the tree, of an error -/
def EPost {α β : Type} (K : PySem.W.Frag) (mg : Str → Option Value) (dk : Addr) (RR : Hp → β → α → Prop) (W : XK) (F H : Hp) (Q : β → Hp → Prop) : R α → Prop
  | .ok a s' => ∀ v F' H', Nxt K dk F H F' H' s' → RR F' v a → Q v H'
  | .raise e s' => ∀ C dd F' H', Nxt K dk F H F' H' s' → mg e.cls = some (.ref C) → ExAt K dk F' H' dd e → W (.ref C) (some dd) H'
  | .bad => False
theorem EPost.later {α β : Type} {K : PySem.W.Frag} {mg : Str → Option Value} {dk : Addr} {RR : Hp → β → α → Prop} {W : XK} {F H F1 H1 : Hp} {s1 : Deck} {Q : β → Hp → Prop} {r : R α} (n : Nxt K dk F H F1 H1 s1) (h : EPost K mg dk RR W F H Q r) : EPost K mg dk RR W F1 H1 Q r := by
  cases r with
  | ok a s' => exact fun v F' H' n' rr => h v F' H' (n.trans n') rr
  | raise e s' => exact fun C dd F' H' n' hm hx => h C dd F' H' (n.trans n') hm hx
  | bad => exact h
theorem EPost.bind {α β γ δ : Type} {K : PySem.W.Frag} {mg : Str → Option Value} {dk : Addr} {RR : Hp → β → α → Prop} {RS : Hp → δ → γ → Prop} {W : XK} {F H : Hp} {Q : δ → Hp → Prop} {r : R α} {g : α → Deck → R γ} {P : β → Hp → Prop}
    (h : EPost K mg dk RS W F H Q (r.bind g))
    (k : ∀ a s1 v F1 H1, Nxt K dk F H F1 H1 s1 → RR F1 v a → EPost K mg dk RS W F1 H1 Q (g a s1) → P v H1) : EPost K mg dk RR W F H P r := by
  cases r with
  | ok a s' => exact fun v F' H' n rr => k a s' v F' H' n rr (EPost.later n h)
  | raise e s' => exact h
  | bad => exact h
theorem EPost.ok {α β : Type} {K : PySem.W.Frag} {mg : Str → Option Value} {dk : Addr} {RR : Hp → β → α → Prop} {W : XK} {F H : Hp} {s : Deck} {Q : β → Hp → Prop} {a : α} {v : β} (h : EPost K mg dk RR W F H Q (.ok a s)) (st : Stt K dk F H s) (r : RR F v a) : Q v H :=
  h v F H (Nxt.refl st) r

/-! ### judgements -/
abbrev RelD (K : PySem.W.Frag) (dk : Addr) : Hp → V → D → Prop := fun F v d => Rp K dk F v d
abbrev RelL (K : PySem.W.Frag) (dk : Addr) : Hp → List V → List D → Prop := fun F v d => RpAll K dk F v d
abbrev RelB : Hp → Bool → Bool → Prop := fun _ a b => a = b
abbrev FE := DEnv → M D
abbrev FA := DEnv → M (List D)
abbrev FT := DEnv → M Bool
def tEV (K : PySem.W.Frag) (mg : Str → Option Value) (W : WX) (f : FE) : TE := fun σ H Q => ∃ dk δ s F, EnvR K dk F σ δ ∧ Stt K dk F H s ∧ EPost K mg dk (RelD K dk) (WE W σ) F H Q (f δ s)
def tAV (K : PySem.W.Frag) (mg : Str → Option Value) (W : WX) (f : FA) : TA := fun σ H Q => ∃ dk δ s F, EnvR K dk F σ δ ∧ Stt K dk F H s ∧ EPost K mg dk (RelL K dk) (WE W σ) F H Q (f δ s)
def tTV (K : PySem.W.Frag) (mg : Str → Option Value) (W : WX) (f : FT) : TT := fun σ H Q => ∃ dk δ s F, EnvR K dk F σ δ ∧ Stt K dk F H s ∧ EPost K mg dk RelB (WE W σ) F H Q (f δ s)
def EV (X : Cx) (W : WX) (e : Expr) (f : FE) : Prop := PE X e (tEV X.K X.mg W f)
def AV (X : Cx) (W : WX) (es : List Expr) (f : FA) : Prop := PA X es (tAV X.K X.mg W f)
def TV (X : Cx) (W : WX) (e : Expr) (f : FT) : Prop := PT X e (tTV X.K X.mg W f)
theorem pe_weak {X : Cx} {e : Expr} {t t' : TE} (h : PE X e t) (k : ∀ σ H Q, t' σ H Q → t σ H Q) : PE X e t' := ⟨fun pins s σ H Q I q => h.run pins s σ H Q I (k σ H Q q)⟩
theorem pt_weak {X : Cx} {e : Expr} {t t' : TT} (h : PT X e t) (k : ∀ σ H Q, t' σ H Q → t σ H Q) : PT X e t' := ⟨fun pins s σ H Q I q => h.run pins s σ H Q I (k σ H Q q)⟩
theorem pw_weak {X : Cx} {e : Expr} {t t' : TT} (h : PW X e t) (k : ∀ σ H Q, t' σ H Q → t σ H Q) : PW X e t' := ⟨fun wh pins s σ H Q I q => h.run wh pins s σ H Q I (k σ H Q q)⟩
theorem pa_weak {X : Cx} {e : List Expr} {t t' : TA} (h : PA X e t) (k : ∀ σ H Q, t' σ H Q → t σ H Q) : PA X e t' := ⟨fun pos pins s σ H Q I q => h.run pos pins s σ H Q I (k σ H Q q)⟩
theorem ps_weak {X : Cx} {e : Stmt} {t t' : TS} (h : PS X e t) (k : ∀ Dn σ H, t' Dn σ H → t Dn σ H) : PS X e t' := ⟨fun pins s σ H Dn I q => h.run pins s σ H Dn I (k Dn σ H q)⟩
theorem pss_weak {X : Cx} {e : List Stmt} {t t' : TS} (h : PSs X e t) (k : ∀ Dn σ H, t' Dn σ H → t Dn σ H) : PSs X e t' := ⟨fun pins s σ H Dn I q => h.run pins s σ H Dn I (k Dn σ H q)⟩

section
variable {X : Cx} {W : WX} {a b : Expr} {f g : FE} {pos : Pos}
def getE (i : Nat) : FE := fun δ s => match δ[i]? with
  | some (some d) => .ok d s
  | _ => .bad
def cst (d : D) : FE := fun _ s => .ok d s
theorem ev_var {e : Expr} {i : Nat} (h : PE X e (tVar i)) : EV X W e (getE i) := by
  refine pe_weak h fun σ H Q q => ?_
  obtain ⟨dk, δ, s, F, er, st, q⟩ := q
  unfold getE at q
  split at q
  · rename_i d hd
    obtain ⟨v, h1, h2⟩ := er.get i d hd
    exact ⟨v, h1, q.ok st h2⟩
  · exact q.elim
theorem ev_int {i : Int} {j} : EV X W (.Constant (.int i) j pos) (cst (.int i)) := pe_weak pe_int fun σ H Q ⟨dk, δ, s, F, er, st, q⟩ => EPost.ok q st (.int i)
theorem ev_bl {i : Bool} {j} : EV X W (.Constant (.bool i) j pos) (cst (.bl i)) := pe_weak pe_bl fun σ H Q ⟨dk, δ, s, F, er, st, q⟩ => EPost.ok q st (.bl i)
theorem ev_non {j} : EV X W (.Constant .none j pos) (cst .non) := pe_weak pe_non fun σ H Q ⟨dk, δ, s, F, er, st, q⟩ => EPost.ok q st .non
theorem ev_str {i : Str} {j} : EV X W (.Constant (.str i) j pos) (cst (.str i)) := pe_weak pe_str fun σ H Q ⟨dk, δ, s, F, er, st, q⟩ => EPost.ok q st (.str i)

/-! ### operators -/
/-- an operator by values -/
def OpM (X : Cx) (r : R2) (m : D → D → M D) : Prop := ∀ (dk : Addr) (W : XK) (F H : Hp) (s : Deck) (x y : V) (dx dy : D) (Q : VK), Stt X.K dk F H s → Rp X.K dk F x dx → Rp X.K dk F y dy →
  EPost X.K X.mg dk (RelD X.K dk) W F H Q (m dx dy s) → r x y H Q
def lift2 (m : D → D → M D) (f g : FE) : FE := fun δ s => (f δ s).bind fun x s => (g δ s).bind fun y s => m x y s
/-- two in a row -/
theorem two {ta tb : TE} {m : D → D → M D} {σ : St} {H : Hp} {Q : VK} {r : R2} (ha : ∀ σ H Q, tEV X.K X.mg W f σ H Q → ta σ H Q) (hb : ∀ σ H Q, tEV X.K X.mg W g σ H Q → tb σ H Q) (hr : OpM X r m) (q : tEV X.K X.mg W (lift2 m f g) σ H Q) :
    tOp r ta tb σ H Q := by
  obtain ⟨dk, δ, s, F, er, st, q⟩ := q
  refine ha _ _ _ ⟨dk, δ, s, F, er, st, EPost.bind q fun x s1 v F1 H1 n rx q1 => ?_⟩
  refine hb _ _ _ ⟨dk, δ, s1, F1, er.mono n.sm, n.st, EPost.bind q1 fun y s2 u F2 H2 n2 ry q2 => ?_⟩
  exact hr dk _ F2 H2 s2 v u x y Q n2.st (rx.mono n2.sm) ry q2
theorem ev_op {op : Operator} {r : R2} {m : D → D → M D} (ho : OpR X (binaryOp op) r) (hr : OpM X r m) (ha : EV X W a f) (hb : EV X W b g) : EV X W (.BinOp a op b pos) (lift2 m f g) :=
  pe_weak (pe_op ho ha hb) fun σ H Q q => two (fun _ _ _ z => z) (fun _ _ _ z => z) hr q
theorem ev_cmp {op : CmpOp} {r : R2} {m : D → D → M D} (ho : OpR X (compareOp op) r) (hr : OpM X r m) (ha : EV X W a f) (hb : EV X W b g) (hm : behindInMarks op b = false := by first | exact nomark _ | rfl) : EV X W (.Compare a [op] [b] pos) (lift2 m f g) :=
  pe_weak (pe_cmpR ho ha hb hm) fun σ H Q q => two (fun _ _ _ z => z) (fun _ _ _ z => z) hr q
end
end FL

namespace FL
open PySem PySem.Spec L2

section
variable {X : Cx} {W : WX} {a b c : Expr} {es : List Expr} {f g h : FE} {fs : FA} {pos p : Pos}
/-! ### arguments, displays -/
def av0 : FA := fun _ s => .ok [] s
def avC (f : FE) (g : FA) : FA := fun δ s => (f δ s).bind fun x s => (g δ s).bind fun xs s => .ok (x :: xs) s
theorem av_nil : AV X W [] av0 := pa_weak pa_nil fun σ H Q ⟨dk, δ, s, F, er, st, q⟩ => EPost.ok q st .nil
theorem av_cons (ha : EV X W a f) (hb : AV X W es fs) (hs : starEach (a :: es) X.env = (false, eval a X.env) :: starEach es X.env := by rfl) : AV X W (a :: es) (avC f fs) := by
  refine pa_weak (pa_cons ha hb hs) fun σ H Q ⟨dk, δ, s, F, er, st, q⟩ => ?_
  refine ⟨dk, δ, s, F, er, st, EPost.bind q fun x s1 v F1 H1 n rx q1 => ?_⟩
  refine ⟨dk, δ, s1, F1, er.mono n.sm, n.st, EPost.bind q1 fun xs s2 us F2 H2 n2 rxs q2 => ?_⟩
  exact q2.ok n2.st (.cons (rx.mono n2.sm) rxs)
/-- a new object is laid -/
theorem Nxt.new {K : PySem.W.Frag} {dk : Addr} {F H : Hp} {s : Deck} {q : Addr} {o : HO} (st : Stt K dk F H s) (hq : H q = none) : Nxt K dk F H (upd F q o) (upd H q o) s := by
  have fq : F q = none := st.sub.free hq
  obtain ⟨cl, h1, h2⟩ := st.deck
  have hdq : dk ≠ q := ne_of_none h1 hq
  have sm : Same F (upd F q o) := fun b u e => by rw [upd_ne (ne_of_none e fq)]; exact e
  refine ⟨sm, ⟨fun b u e => ?_, ?_, cl, ?_, sm _ _ h2⟩, fun b u _ e => by rw [upd_ne (ne_of_none e hq)]; exact e, fun b e h => by rw [upd_ne (fun z => h (by rw [z]; exact hq))]; exact e⟩
  · by_cases hb : b = q
    · subst hb; rw [upd_same] at e ⊢; exact e
    · rw [upd_ne hb] at e ⊢; exact st.sub b u e
  · rw [upd_ne hdq]; exact st.fdk
  · rw [upd_ne hdq]; exact h1
def small (xs : List D) : Bool := decide (xs.length ≤ 16777216)
theorem small_le {xs : List D} (h : small xs = true) : xs.length ≤ sizeLine := by
  rw [sizeLine_eq]
  exact of_decide_eq_true h
def mkLst (xs : List D) : M D := fun s => if small xs = true then .ok (.lst xs) s else .bad
def mkTup (xs : List D) : M D := fun s => if small xs = true then .ok (.tup xs) s else .bad
theorem epost_lst {K : PySem.W.Frag} {mg : Str → Option Value} {dk : Addr} {Wx : XK} {F H : Hp} {s : Deck} {vs : List V} {xs : List D} {Q : VK} (st : Stt K dk F H s) (r : RpAll K dk F vs xs) (q : EPost K mg dk (RelD K dk) Wx F H Q (mkLst xs s)) :
    vs.length ≤ sizeLine ∧ ∀ p, H p = none → Q (.ref p) (upd H p (.lst vs)) := by
  unfold mkLst at q
  split at q
  · rename_i hz
    refine ⟨by rw [r.length]; exact small_le hz, fun p hp => ?_⟩
    have n := Nxt.new (o := .lst vs) st hp
    exact q _ _ _ n (.lst upd_same (r.mono n.sm))
  · exact q.elim
theorem epost_tup {K : PySem.W.Frag} {mg : Str → Option Value} {dk : Addr} {Wx : XK} {F H : Hp} {s : Deck} {vs : List V} {xs : List D} {Q : VK} (st : Stt K dk F H s) (r : RpAll K dk F vs xs) (q : EPost K mg dk (RelD K dk) Wx F H Q (mkTup xs s)) :
    vs.length ≤ sizeLine ∧ ∀ p, H p = none → Q (.ref p) (upd H p (.tup vs)) := by
  unfold mkTup at q
  split at q
  · rename_i hz
    refine ⟨by rw [r.length]; exact small_le hz, fun p hp => ?_⟩
    have n := Nxt.new (o := .tup vs) st hp
    exact q _ _ _ n (.tup (SqT.of upd_same) (r.mono n.sm))
  · exact q.elim
def withA (fs : FA) (m : List D → M D) : FE := fun δ s => (fs δ s).bind m
theorem ev_lst {k} (ha : AV X W es fs) : EV X W (.List es k) (withA fs mkLst) := by
  refine pe_weak (pe_lst ha) fun σ H Q ⟨dk, δ, s, F, er, st, q⟩ => ?_
  exact ⟨dk, δ, s, F, er, st, EPost.bind q fun xs s1 vs F1 H1 n r q1 => epost_lst n.st r q1⟩
theorem ev_tup {x1} (ha : AV X W es fs) : EV X W (.Tuple es x1 pos) (withA fs mkTup) := by
  refine pe_weak (pe_tup ha) fun σ H Q ⟨dk, δ, s, F, er, st, q⟩ => ?_
  exact ⟨dk, δ, s, F, er, st, EPost.bind q fun xs s1 vs F1 H1 n r q1 => epost_tup n.st r q1⟩

/-! ### calls -/
def CallM (X : Cx) (r : List V → Hp → VK → Prop) (m : List D → M D) : Prop := ∀ (dk : Addr) (Wx : XK) (F H : Hp) (s : Deck) (vs : List V) (ds : List D) (Q : VK), Stt X.K dk F H s → RpAll X.K dk F vs ds →
  EPost X.K X.mg dk (RelD X.K dk) Wx F H Q (m ds s) → r vs H Q
theorem tcb {r : List V → Hp → VK → Prop} {m : List D → M D} (hm : CallM X r m) : ∀ σ H Q, tEV X.K X.mg W (withA fs m) σ H Q → tCB r (tAV X.K X.mg W fs) σ H Q := fun σ H Q ⟨dk, δ, s, F, er, st, q⟩ =>
  ⟨dk, δ, s, F, er, st, EPost.bind q fun xs s1 vs F1 H1 n r q1 => hm dk _ F1 H1 s1 vs xs Q n.st r q1⟩
theorem ev_callB {id : String} {x : Str} {r : List V → Hp → VK → Prop} {m : List D → M D} (hc : CallR X (.builtin id) r) (hm : CallM X r m) (hg : Gl X x) (hmg : X.mg x = none) (hv : bootBuiltins x = some (.builtin id)) (ha : AV X W (a :: es) fs)
    (hn : x ≠ "__name__" := by decide) (hdb : (x == ("__debug__" : Str)) = false := by decide) (he : starEach (a :: es) X.env = (false, eval a X.env) :: starEach es X.env := by rfl) (hpl : (backTo pos (starEach es X.env)).any (·.1) = false := by rfl) :
    EV X W (.Call (.Name x p) (a :: es) [] pos) (withA fs m) := pe_weak (pe_callB hc hg hmg hv ha hn hdb he hpl) (tcb hm)
theorem ev_callTy {T : String} {x : Str} {r : List V → Hp → VK → Prop} {m : List D → M D} (hc : CallR X (.type T) r) (hm : CallM X r m) (hg : Gl X x) (hmg : X.mg x = none) (hv : bootBuiltins x = some (.type T)) (ha : AV X W (a :: es) fs)
    (hn : x ≠ "__name__" := by decide) (hdb : (x == ("__debug__" : Str)) = false := by decide) (he : starEach (a :: es) X.env = (false, eval a X.env) :: starEach es X.env := by rfl) (hpl : (backTo pos (starEach es X.env)).any (·.1) = false := by rfl) :
    EV X W (.Call (.Name x p) (a :: es) [] pos) (withA fs m) := pe_weak (pe_callTy hc hg hmg hv ha hn hdb he hpl) (tcb hm)
/-- what a def of the text is worth -/
def spD (K : PySem.W.Frag) (mg : Str → Option Value) (n : Nat) (m : List D → M D) : Sp := fun vs H Q E => ∃ dk ds s F, Stt K dk F H s ∧ RpAll K dk F vs ds ∧ ds.length = n ∧ EPost K mg dk (RelD K dk) E F H Q (m ds s)
def callN (n : Nat) (m : List D → M D) : List D → M D := fun ds s => if ds.length = n then m ds s else .bad
theorem ev_call {x : Str} {k n : Nat} {fn : Addr} {fd : FuncData} {ps : List Str} {m : List D → M D} (G : FnOk X.prog X.w X.K X.mg X.base (L2.CX X.prog X.w) k fn fd ps (spD X.K X.mg n m)) (hr : Room k X.A) (hg : Gl X x) (hm : X.mg x = some (.ref fn)) (hk : PySem.W.keepIn X.K (.ref fn) = true) (hb : Binds X.K fd ps [])
    (tk : Takes X W) (ha : AV X W (a :: es) fs) (hdb : (x == ("__debug__" : Str)) = false := by decide) (he : starEach (a :: es) X.env = (false, eval a X.env) :: starEach es X.env := by rfl) (hpl : (backTo pos (starEach es X.env)).any (·.1) = false := by rfl) :
    EV X W (.Call (.Name x p) (a :: es) [] pos) (withA fs (callN n m)) := by
  refine pe_weak (pe_callS (E := WE W) G hr hg hm hk hb (fun σ => passAt tk σ) ha hdb he hpl) fun σ H Q ⟨dk, δ, s, F, er, st, q⟩ => ?_
  refine ⟨dk, δ, s, F, er, st, EPost.bind q fun xs s1 vs F1 H1 n r q1 => ?_⟩
  unfold callN at q1
  split at q1
  · rename_i hl
    exact ⟨dk, xs, s1, F1, n.st, r, hl, q1⟩
  · exact q1.elim

/-! ### and, or, not, if .. else -/
def truD : D → Option Bool
  | .non => some false
  | .bl b => some b
  | .int i => some (i != 0)
  | .str y => if y.length ≤ 16777216 then some ((y.length : Int) != 0) else none
  | .lst xs => some (!xs.isEmpty)
  | .tup xs => some (!xs.isEmpty)
  | _ => none
theorem isEmpty_eq {K : PySem.W.Frag} {dk : Addr} {F : Hp} : ∀ {vs : List V} {ds : List D}, RpAll K dk F vs ds → vs.isEmpty = ds.isEmpty
  | _, _, .nil => rfl
  | _, _, .cons _ _ => rfl
theorem truV_of {K : PySem.W.Frag} {dk : Addr} {F H : Hp} {v : V} {d : D} {k : Bool} (sm : Same F H) (r : Rp K dk F v d) (h : truD d = some k) : TruV K v H k := by
  cases r with
  | non => unfold truD at h; cases h; exact rfl
  | bl b => unfold truD at h; cases h; exact rfl
  | int i => unfold truD at h; cases h; exact rfl
  | str x =>
    have h' : (if x.length ≤ 16777216 then some ((x.length : Int) != 0) else none) = some k := h
    by_cases hz : x.length ≤ 16777216
    · rw [if_pos hz] at h'; cases h'; exact ⟨by rw [sizeLine_eq]; exact hz, rfl⟩
    · rw [if_neg hz] at h'; cases h'
  | lst hs ha => unfold truD at h; cases h; exact .inl ⟨_, SqL.of (sm _ _ hs), by rw [isEmpty_eq ha]⟩
  | tup hs ha => unfold truD at h; cases h; exact .inr (.inl ⟨_, seqT sm hs, by rw [isEmpty_eq ha]⟩)
  | dct _ _ _ => unfold truD at h; cases h
  | deck => unfold truD at h; cases h
def tru (d : D) : M Bool := fun s => match truD d with
  | some b => .ok b s
  | none => .bad
def fTru (f : FE) : FT := fun δ s => (f δ s).bind tru
theorem epost_tru {K : PySem.W.Frag} {mg : Str → Option Value} {dk : Addr} {α β : Type} {RR : Hp → β → α → Prop} {Wx : XK} {F H : Hp} {s : Deck} {v : V} {d : D} {g : Bool → Deck → R α} {Q : β → Hp → Prop} (st : Stt K dk F H s) (r : Rp K dk F v d)
    (q : EPost K mg dk RR Wx F H Q ((tru d s).bind g)) : ∃ k, TruV K v H k ∧ EPost K mg dk RR Wx F H Q (g k s) := by
  unfold tru at q
  split at q
  · rename_i k hk
    exact ⟨k, truV_of st.sub r hk, q⟩
  · exact q.elim
def orD (f g : FE) : FE := fun δ s => (f δ s).bind fun x s => (tru x s).bind fun k s => if k = true then .ok x s else g δ s
def andD (f g : FE) : FE := fun δ s => (f δ s).bind fun x s => (tru x s).bind fun k s => if k = true then g δ s else .ok x s
def notD (f : FE) : FE := fun δ s => (f δ s).bind fun x s => (tru x s).bind fun k s => .ok (.bl (!k)) s
theorem ev_or {rest : List Expr} (ha : EV X W a f) (hb : EV X W (.BoolOp .Or (b :: rest) pos) g) : EV X W (.BoolOp .Or (a :: b :: rest) pos) (orD f g) := by
  refine pe_weak (pe_orT ha hb) fun σ H Q ⟨dk, δ, s, F, er, st, q⟩ => ?_
  refine ⟨dk, δ, s, F, er, st, EPost.bind q fun x s1 v F1 H1 n rx q1 => ?_⟩
  obtain ⟨k, ht, q2⟩ := epost_tru n.st rx q1
  refine ⟨k, ht, ?_⟩
  cases k with
  | true => exact EPost.ok q2 n.st rx
  | false => exact ⟨dk, δ, s1, F1, er.mono n.sm, n.st, q2⟩
theorem ev_and {rest : List Expr} (ha : EV X W a f) (hb : EV X W (.BoolOp .And (b :: rest) pos) g) : EV X W (.BoolOp .And (a :: b :: rest) pos) (andD f g) := by
  refine pe_weak (pe_andT ha hb) fun σ H Q ⟨dk, δ, s, F, er, st, q⟩ => ?_
  refine ⟨dk, δ, s, F, er, st, EPost.bind q fun x s1 v F1 H1 n rx q1 => ?_⟩
  obtain ⟨k, ht, q2⟩ := epost_tru n.st rx q1
  refine ⟨k, ht, ?_⟩
  cases k with
  | false => exact EPost.ok q2 n.st rx
  | true => exact ⟨dk, δ, s1, F1, er.mono n.sm, n.st, q2⟩
theorem ev_one {op} (ha : EV X W a f) : EV X W (.BoolOp op [a] pos) f := pe_one ha
theorem ev_not (ha : EV X W a f) : EV X W (.UnaryOp .Not a pos) (notD f) := by
  refine pe_weak (pe_notT ha) fun σ H Q ⟨dk, δ, s, F, er, st, q⟩ => ?_
  refine ⟨dk, δ, s, F, er, st, EPost.bind q fun x s1 v F1 H1 n rx q1 => ?_⟩
  obtain ⟨k, ht, q2⟩ := epost_tru n.st rx q1
  exact ⟨k, ht, EPost.ok q2 n.st (.bl _)⟩
/-- tests -/
theorem tv_of (ha : EV X W a f) (he : ∀ whole, isTrue a X.env whole = (do let v ← whole; standAt a.pos; holding [v] (truthy v)) := by intro _; rfl) : TV X W a (fTru f) := by
  refine pt_weak (pt_truth ha he) fun σ H Q ⟨dk, δ, s, F, er, st, q⟩ => ?_
  refine ⟨dk, δ, s, F, er, st, EPost.bind q fun x s1 v F1 H1 n rx q1 => ?_⟩
  have q1' : EPost X.K X.mg dk RelB (WE W σ) F1 H1 Q ((tru x s1).bind fun k s => .ok k s) := by
    have e : (tru x s1).bind (fun k s => R.ok k s) = tru x s1 := by cases tru x s1 <;> rfl
    rw [e]; exact q1
  obtain ⟨k, ht, q2⟩ := epost_tru n.st rx q1'
  exact ⟨k, ht, EPost.ok q2 n.st rfl⟩
def boo (d : D) : M Bool := fun s => match d with
  | .bl b => .ok b s
  | _ => .bad
def fBoo (f : FE) : FT := fun δ s => (f δ s).bind boo
theorem tv_cmp {op : CmpOp} {r : R2} {m : D → D → M D} (ho : OpR X (compareOp op) r) (hr : OpM X r m) (ha : EV X W a f) (hb : EV X W b g) (hm : behindInMarks op b = false := by first | exact nomark _ | rfl) : TV X W (.Compare a [op] [b] pos) (fBoo (lift2 m f g)) := by
  refine pt_weak (pt_cmpR ho ha hb hm) fun σ H Q ⟨dk, δ, s, F, er, st, q⟩ => ?_
  refine two (W := W) (fun _ _ _ z => z) (fun _ _ _ z => z) hr ⟨dk, δ, s, F, er, st, EPost.bind q fun x s1 v F1 H1 n rx q1 => ?_⟩
  unfold boo at q1
  split at q1
  · cases rx
    exact ⟨_, rfl, EPost.ok q1 n.st rfl⟩
  · exact q1.elim
def fAnd (f g : FT) : FT := fun δ s => (f δ s).bind fun k s => if k = true then g δ s else .ok false s
def fOr (f g : FT) : FT := fun δ s => (f δ s).bind fun k s => if k = true then .ok true s else g δ s
def fNot (f : FT) : FT := fun δ s => (f δ s).bind fun k s => .ok (!k) s
def WV (X : Cx) (W : WX) (e : Expr) (f : FT) : Prop := PW X e (tTV X.K X.mg W f)
variable {fa fb : FT} {rest : List Expr}
theorem wv_and1 (ha : TV X W a fa) : WV X W (.BoolOp .And [a] pos) fa := pw_and1 ha
theorem wv_or1 (ha : TV X W a fa) : WV X W (.BoolOp .Or [a] pos) fa := pw_or1 ha
theorem wv_and (ha : TV X W a fa) (hb : WV X W (.BoolOp .And (b :: rest) pos) fb) : WV X W (.BoolOp .And (a :: b :: rest) pos) (fAnd fa fb) := by
  refine pw_weak (pw_and ha hb) fun σ H Q ⟨dk, δ, s, F, er, st, q⟩ => ?_
  refine ⟨dk, δ, s, F, er, st, EPost.bind q fun k s1 v F1 H1 n rx q1 => ?_⟩
  have rx : v = k := rx
  subst rx
  cases v with
  | true => exact ⟨dk, δ, s1, F1, er.mono n.sm, n.st, q1⟩
  | false => exact EPost.ok q1 n.st rfl
theorem wv_or (ha : TV X W a fa) (hb : WV X W (.BoolOp .Or (b :: rest) pos) fb) : WV X W (.BoolOp .Or (a :: b :: rest) pos) (fOr fa fb) := by
  refine pw_weak (pw_or ha hb) fun σ H Q ⟨dk, δ, s, F, er, st, q⟩ => ?_
  refine ⟨dk, δ, s, F, er, st, EPost.bind q fun k s1 v F1 H1 n rx q1 => ?_⟩
  have rx : v = k := rx
  subst rx
  cases v with
  | false => exact ⟨dk, δ, s1, F1, er.mono n.sm, n.st, q1⟩
  | true => exact EPost.ok q1 n.st rfl
theorem tv_w (h : WV X W a fa) : TV X W a fa := PW.pt h
theorem tv_not (ha : TV X W a fa) : TV X W (.UnaryOp .Not a pos) (fNot fa) := by
  refine pt_weak (pt_not ha) fun σ H Q ⟨dk, δ, s, F, er, st, q⟩ => ?_
  refine ⟨dk, δ, s, F, er, st, EPost.bind q fun k s1 v F1 H1 n rx q1 => ?_⟩
  have rx : v = k := rx
  subst rx
  exact EPost.ok q1 n.st rfl
def ifD (c : FT) (f g : FE) : FE := fun δ s => (c δ s).bind fun k s => if k = true then f δ s else g δ s
theorem ev_if (hc : TV X W c fa) (ha : EV X W a f) (hb : EV X W b g) : EV X W (.IfExp c a b pos) (ifD fa f g) := by
  refine pe_weak (pe_ifExp hc ha hb) fun σ H Q ⟨dk, δ, s, F, er, st, q⟩ => ?_
  refine ⟨dk, δ, s, F, er, st, EPost.bind q fun k s1 v F1 H1 n rx q1 => ?_⟩
  have rx : v = k := rx
  subst rx
  cases v with
  | true => exact ⟨dk, δ, s1, F1, er.mono n.sm, n.st, q1⟩
  | false => exact ⟨dk, δ, s1, F1, er.mono n.sm, n.st, q1⟩
/-- is None -/
def isNone : D → Bool
  | .non => true
  | _ => false
def isN (f : FE) : FE := fun δ s => (f δ s).bind fun x s => .ok (.bl (isNone x)) s
def notN (f : FE) : FE := fun δ s => (f δ s).bind fun x s => .ok (.bl (!isNone x)) s
def fIsN (f : FE) : FT := fun δ s => (f δ s).bind fun x s => .ok (isNone x) s
def fNotN (f : FE) : FT := fun δ s => (f δ s).bind fun x s => .ok (!isNone x) s
theorem rp_non {K : PySem.W.Frag} {dk : Addr} {F : Hp} {v : V} {d : D} (r : Rp K dk F v d) : decide (v = .non) = isNone d := by
  cases r <;> simp [isNone]
theorem ev_isN {j pos'} (ha : EV X W a f) : EV X W (.Compare a [.Is] [.Constant .none j pos'] pos) (isN f) := by
  refine pe_weak (pe_cmp (pc_isN ha)) fun σ H Q ⟨dk, δ, s, F, er, st, q⟩ => ?_
  refine ⟨dk, δ, s, F, er, st, EPost.bind q fun x s1 v F1 H1 n rx q1 => ?_⟩
  show Q (.bl (decide (v = .non))) H1
  rw [rp_non rx]
  exact EPost.ok q1 n.st (.bl _)
theorem ev_notN {j pos'} (ha : EV X W a f) : EV X W (.Compare a [.IsNot] [.Constant .none j pos'] pos) (notN f) := by
  refine pe_weak (pe_cmp (pc_notN ha)) fun σ H Q ⟨dk, δ, s, F, er, st, q⟩ => ?_
  refine ⟨dk, δ, s, F, er, st, EPost.bind q fun x s1 v F1 H1 n rx q1 => ?_⟩
  show Q (.bl (!decide (v = .non))) H1
  rw [rp_non rx]
  exact EPost.ok q1 n.st (.bl _)
theorem tv_isN {j pos'} (ha : EV X W a f) : TV X W (.Compare a [.Is] [.Constant .none j pos'] pos) (fIsN f) := by
  refine pt_weak (pt_cmp (pc_isN ha)) fun σ H Q ⟨dk, δ, s, F, er, st, q⟩ => ?_
  refine ⟨dk, δ, s, F, er, st, EPost.bind q fun x s1 v F1 H1 n rx q1 => ?_⟩
  refine ⟨_, rfl, ?_⟩
  rw [rp_non rx]
  exact EPost.ok q1 n.st rfl
theorem tv_notN {j pos'} (ha : EV X W a f) : TV X W (.Compare a [.IsNot] [.Constant .none j pos'] pos) (fNotN f) := by
  refine pt_weak (pt_cmp (pc_notN ha)) fun σ H Q ⟨dk, δ, s, F, er, st, q⟩ => ?_
  refine ⟨dk, δ, s, F, er, st, EPost.bind q fun x s1 v F1 H1 n rx q1 => ?_⟩
  refine ⟨_, rfl, ?_⟩
  rw [rp_non rx]
  exact EPost.ok q1 n.st rfl
end
end FL

namespace FL
open PySem PySem.Spec L2

/-! ### what is walked -/
def ItD (K : PySem.W.Frag) (dk : Addr) (F0 : Hp) (J : It) (ds : List D) : Prop := ∀ (i : Nat) (F H : Hp) (s : Deck), Same F0 F → Stt K dk F H s →
  (i < ds.length → J.go i H) ∧ (ds.length ≤ i → J.stop i H) ∧ ∀ x H', i < ds.length → J.yld i H x H' → ∃ F' d, ds[i]? = some d ∧ Nxt K dk F H F' H' s ∧ Rp K dk F' x d
def tIV (K : PySem.W.Frag) (mg : Str → Option Value) (W : WX) (f : FA) : TI := fun σ H R => ∃ dk δ s F, EnvR K dk F σ δ ∧ Stt K dk F H s ∧ EPost K mg dk (fun F J ds => ItD K dk F J ds) (WE W σ) F H R (f δ s)
def IV (X : Cx) (W : WX) (tg it : Expr) (f : FA) : Prop := PI X tg it (tIV X.K X.mg W f)
theorem pi_weak {X : Cx} {tg e : Expr} {t t' : TI} (h : PI X tg e t) (k : ∀ σ H Q, t' σ H Q → t σ H Q) : PI X tg e t' := ⟨fun pins s σ H Q I q => h.run pins s σ H Q I (k σ H Q q)⟩
theorem pi_or {X : Cx} {tg e : Expr} {t t' : TI} (h : PI X tg e t) (h' : PI X tg e t') : PI X tg e (fun σ H R => t σ H R ∨ t' σ H R) := ⟨fun pins s σ H Q I q => q.elim (h.run pins s σ H Q I) (h'.run pins s σ H Q I)⟩
section
variable {X : Cx} {W : WX} {a b tg : Expr} {es : List Expr} {f g : FE} {fs : FA} {pos p : Pos}
/-- its items -/
def seqOf : D → Option (List D)
  | .lst xs => some xs
  | .tup xs => some xs
  | _ => none
def seqM (d : D) : M (List D) := fun s => match seqOf d with
  | some xs => .ok xs s
  | none => .bad
theorem itl_ok {K : PySem.W.Frag} {dk : Addr} {F0 : Hp} {a : Addr} {xs : List V} {ds : List D} (h : SqL K F0 a xs) (r : RpAll K dk F0 xs ds) : ItD K dk F0 (Itl K a) ds := by
  intro i F H s sm st
  have hq : SqL K H a xs := st.sub.seq (sm.seq h)
  have hl := r.length
  refine ⟨fun hi => ⟨xs, xs[i]'(by omega), hq, List.getElem?_eq_getElem (by omega)⟩, fun hi => ⟨xs, hq, by omega⟩, fun x H' hi y => ?_⟩
  obtain ⟨e, y⟩ := y
  subst e
  have hx := y xs hq
  obtain ⟨d, hd, rd⟩ := r.getV hx
  exact ⟨F, d, hd, Nxt.refl st, rd.mono sm⟩
theorem itt_ok {K : PySem.W.Frag} {dk : Addr} {F0 : Hp} {a : Addr} {xs : List V} {ds : List D} (h : SqT K F0 a xs) (r : RpAll K dk F0 xs ds) : ItD K dk F0 (Itt K a) ds := by
  intro i F H s sm st
  have hq : SqT K H a xs := seqT st.sub (seqT sm h)
  have hl := r.length
  refine ⟨fun hi => ⟨xs, xs[i]'(by omega), hq, List.getElem?_eq_getElem (by omega)⟩, fun hi => ⟨xs, hq, by omega⟩, fun x H' hi y => ?_⟩
  obtain ⟨e, y⟩ := y
  subst e
  have hx := y xs hq
  obtain ⟨d, hd, rd⟩ := r.getV hx
  exact ⟨F, d, hd, Nxt.refl st, rd.mono sm⟩
theorem iv_seq (ha : EV X W a f) : IV X W tg a (fun δ s => (f δ s).bind seqM) := by
  refine pi_weak (pi_or (pi_list ha) (pi_tup ha)) fun σ H RQ ⟨dk, δ, s, F, er, st, q⟩ => ?_
  dsimp only at q
  have key : ∀ r : R D, (∃ xs s1, r = .ok (.lst xs) s1) ∨ ¬ (∃ xs s1, r = .ok (.lst xs) s1) := fun r => Classical.em _
  rcases key (f δ s) with ⟨xs, s1, e⟩ | ne
  · refine .inl ⟨dk, δ, s, F, er, st, ?_⟩
    rw [e] at q ⊢
    intro v F1 H1 n rv
    cases rv with
    | @lst a0 vs _ hs hr => exact ⟨a0, rfl, ⟨_, SqL.of (n.st.sub _ _ hs)⟩, q _ F1 H1 n (itl_ok (SqL.of hs) hr)⟩
  · refine .inr ⟨dk, δ, s, F, er, st, ?_⟩
    cases hr : f δ s with
    | bad => rw [hr] at q; exact q
    | raise e s1 => rw [hr] at q; exact q
    | ok d s1 =>
      rw [hr] at q
      intro v F1 H1 n rv
      cases rv with
      | @tup a0 vs xs hs hr2 => exact ⟨a0, rfl, ⟨_, seqT n.st.sub hs⟩, q _ F1 H1 n (itt_ok hs hr2)⟩
      | lst hs _ => exact absurd ⟨_, _, hr⟩ ne
      | non => exact q.elim
      | bl _ => exact q.elim
      | int _ => exact q.elim
      | str _ => exact q.elim
      | dct _ _ _ => exact q.elim
      | deck => exact q.elim
/-! ### range, enumerate, zip -/
def rng (lo : Int) (n : Nat) : List D := (List.range n).map fun (i : Nat) => D.int (lo + (i : Int))
theorem itr_ok {K : PySem.W.Frag} {dk : Addr} {F0 : Hp} {lo : Int} {n : Nat} : ItD K dk F0 (Itr lo n) (rng lo n) := by
  intro i F H s sm st
  unfold rng
  refine ⟨fun hi => (show i < n by simpa using hi), fun hi => (show n ≤ i by simpa using hi), fun x H' hi y => ?_⟩
  obtain ⟨e1, e2⟩ := y
  subst e1 e2
  have hi' : i < n := by simpa using hi
  exact ⟨F, .int (lo + i), by simp [List.getElem?_range hi'], Nxt.refl st, .int _⟩
def small62 (i : Int) : Bool := decide (-(2 ^ 62) ≤ i ∧ i < 2 ^ 62)
def rng1M (ds : List D) : M (List D) := fun s => match ds with
  | [.int n] => if small62 n = true then .ok (rng 0 n.toNat) s else .bad
  | _ => .bad
def rng2M (ds : List D) : M (List D) := fun s => match ds with
  | [.int i, .int j] => if small62 i = true then (if small62 j = true then .ok (rng i (j - i).toNat) s else .bad) else .bad
  | _ => .bad
theorem iv_range1 (hg : Gl X "range") (hm : X.mg "range" = none) (ha : AV X W [a] fs) (hs : starEach [a] X.env = [(false, eval a X.env)] := by rfl) : IV X W tg (.Call (.Name "range" p) [a] [] pos) (fun δ s => (fs δ s).bind rng1M) := by
  refine pi_weak (pi_range1 hg hm ha hs) fun σ H RQ ⟨dk, δ, s, F, er, st, q⟩ => ?_
  refine ⟨dk, δ, s, F, er, st, EPost.bind q fun xs s1 vs F1 H1 n r q1 => ?_⟩
  unfold rng1M at q1
  split at q1
  · rename_i k
    split at q1
    · rename_i hk
      cases r with
      | cons r1 r2 =>
        cases r1; cases r2
        have hk' := of_decide_eq_true hk
        exact ⟨k, rfl, hk'.1, hk'.2, EPost.ok q1 n.st itr_ok⟩
    · exact q1.elim
  · exact q1.elim
theorem iv_range2 (hg : Gl X "range") (hm : X.mg "range" = none) (ha : AV X W [a, b] fs) (hs : starEach [a, b] X.env = [(false, eval a X.env), (false, eval b X.env)] := by rfl) (hs2 : starEach [b] X.env = [(false, eval b X.env)] := by rfl) :
    IV X W tg (.Call (.Name "range" p) [a, b] [] pos) (fun δ s => (fs δ s).bind rng2M) := by
  refine pi_weak (pi_range2 hg hm ha hs hs2) fun σ H RQ ⟨dk, δ, s, F, er, st, q⟩ => ?_
  refine ⟨dk, δ, s, F, er, st, EPost.bind q fun xs s1 vs F1 H1 n r q1 => ?_⟩
  unfold rng2M at q1
  split at q1
  · rename_i k l
    split at q1
    · rename_i hk
      split at q1
      · rename_i hl
        cases r with
        | cons r1 r2 =>
          cases r2 with
          | cons r3 r4 =>
            cases r1; cases r3; cases r4
            have hk' := of_decide_eq_true hk
            have hl' := of_decide_eq_true hl
            exact ⟨k, l, rfl, ⟨hk'.1, hk'.2, hl'.1, hl'.2⟩, EPost.ok q1 n.st itr_ok⟩
      · exact q1.elim
    · exact q1.elim
  · exact q1.elim
/-- pairs -/
def pairsI : Nat → List D → List D
  | _, [] => []
  | i, x :: xs => .tup [.int (i : Nat), x] :: pairsI (i + 1) xs
theorem pairsI_len : ∀ (i : Nat) (xs : List D), (pairsI i xs).length = xs.length
  | _, [] => rfl
  | i, _ :: xs => congrArg (· + 1) (pairsI_len (i + 1) xs)
theorem pairsI_get : ∀ (k : Nat) (xs : List D) (i : Nat) (d : D), xs[i]? = some d → (pairsI k xs)[i]? = some (.tup [.int ((k + i : Nat) : Int), d])
  | _, [], _, _, h => by simp at h
  | k, x :: xs, 0, d, h => by
    simp at h; subst h; rfl
  | k, x :: xs, i + 1, d, h => by
    have e := pairsI_get (k + 1) xs i d (by simpa using h)
    have e2 : k + 1 + i = k + (i + 1) := by omega
    rw [e2] at e
    simpa [pairsI] using e
theorem tup2 {K : PySem.W.Frag} {dk : Addr} {F H : Hp} {s : Deck} {T : Addr} {x y : V} {d e : D} (st : Stt K dk F H s) (hT : H T = none) (r1 : Rp K dk F x d) (r2 : Rp K dk F y e) :
    Nxt K dk F H (upd F T (.tup [x, y])) (upd H T (.tup [x, y])) s ∧ Rp K dk (upd F T (.tup [x, y])) (.ref T) (.tup [d, e]) := by
  have n := Nxt.new (o := .tup [x, y]) st hT
  exact ⟨n, .tup (SqT.of upd_same) (.cons (r1.mono n.sm) (.cons (r2.mono n.sm) .nil))⟩
theorem ite_ok {K : PySem.W.Frag} {dk : Addr} {F0 : Hp} {a : Addr} {xs : List V} {ds : List D} (h : SqL K F0 a xs) (r : RpAll K dk F0 xs ds) : ItD K dk F0 (Ite K a) (pairsI 0 ds) := by
  intro i F H s sm st
  have hq : SqL K H a xs := st.sub.seq (sm.seq h)
  have hl := r.length
  rw [pairsI_len]
  refine ⟨fun hi => ⟨xs, xs[i]'(by omega), hq, List.getElem?_eq_getElem (by omega)⟩, fun hi => ⟨xs, hq, by omega⟩, fun x H' hi y => ?_⟩
  obtain ⟨T, x, rfl, hT, rfl, y⟩ := y
  have hx := y xs hq
  obtain ⟨d, hd, rd⟩ := r.getV hx
  obtain ⟨n, rt⟩ := tup2 st hT (.int (i : Nat)) (rd.mono sm)
  have e := pairsI_get 0 ds i d hd
  rw [Nat.zero_add] at e
  exact ⟨_, _, e, n, rt⟩
def enumM (ds : List D) : M (List D) := fun s => match ds with
  | [.lst xs] => .ok (pairsI 0 xs) s
  | _ => .bad
theorem iv_enum {elts : List Expr} {kk : Nat} {tpos : Pos} (hg : Gl X "enumerate") (hm : X.mg "enumerate" = none) (ha : AV X W [a] fs) (hs : starEach [a] X.env = [(false, eval a X.env)] := by rfl) :
    IV X W (.Tuple elts kk tpos) (.Call (.Name "enumerate" p) [a] [] pos) (fun δ s => (fs δ s).bind enumM) := by
  refine pi_weak (pi_enum hg hm ha hs) fun σ H RQ ⟨dk, δ, s, F, er, st, q⟩ => ?_
  refine ⟨dk, δ, s, F, er, st, EPost.bind q fun xs s1 vs F1 H1 n r q1 => ?_⟩
  unfold enumM at q1
  split at q1
  · cases r with
    | cons r1 r2 =>
      cases r2
      cases r1 with
      | lst hs2 hr => exact ⟨_, _, rfl, SqL.of (n.st.sub _ _ hs2), EPost.ok q1 n.st (ite_ok (SqL.of hs2) hr)⟩
  · exact q1.elim
def pairsZ : List D → List D → List D
  | x :: xs, y :: ys => .tup [x, y] :: pairsZ xs ys
  | _, _ => []
theorem pairsZ_len : ∀ (xs ys : List D), (pairsZ xs ys).length = min xs.length ys.length
  | [], ys => by simp [pairsZ]
  | x :: xs, [] => by simp [pairsZ]
  | x :: xs, y :: ys => by
    have := pairsZ_len xs ys
    simp only [pairsZ, List.length_cons, this]
    omega
theorem pairsZ_get : ∀ (xs ys : List D) (i : Nat) (d e : D), xs[i]? = some d → ys[i]? = some e → (pairsZ xs ys)[i]? = some (.tup [d, e])
  | [], _, _, _, _, h, _ => by simp at h
  | _ :: _, [], _, _, _, _, h => by simp at h
  | x :: xs, y :: ys, 0, d, e, h, h' => by simp at h h'; subst h h'; rfl
  | x :: xs, y :: ys, i + 1, d, e, h, h' => by simpa [pairsZ] using pairsZ_get xs ys i d e (by simpa using h) (by simpa using h')
theorem itz_ok {K : PySem.W.Frag} {dk : Addr} {F0 : Hp} {a b : Addr} {xs ys : List V} {ds es : List D} (h : SqL K F0 a xs) (r : RpAll K dk F0 xs ds) (h' : SqL K F0 b ys) (r' : RpAll K dk F0 ys es) : ItD K dk F0 (Itz K a b) (pairsZ ds es) := by
  intro i F H s sm st
  have hq : SqL K H a xs := st.sub.seq (sm.seq h)
  have hq' : SqL K H b ys := st.sub.seq (sm.seq h')
  have hl := r.length
  have hl' := r'.length
  rw [pairsZ_len]
  refine ⟨fun hi => ⟨xs, ys, xs[i]'(by omega), ys[i]'(by omega), hq, hq', List.getElem?_eq_getElem (by omega), List.getElem?_eq_getElem (by omega)⟩, fun hi => ⟨xs, ys, hq, hq', by omega⟩, fun x H' hi y => ?_⟩
  obtain ⟨T, x, z, rfl, hT, rfl, y, y'⟩ := y
  obtain ⟨d, hd, rd⟩ := r.getV (y xs hq)
  obtain ⟨e, he, re⟩ := r'.getV (y' ys hq')
  obtain ⟨n, rt⟩ := tup2 st hT (rd.mono sm) (re.mono sm)
  exact ⟨_, _, pairsZ_get ds es i d e hd he, n, rt⟩
theorem itzT_ok {K : PySem.W.Frag} {dk : Addr} {F0 : Hp} {a b : Addr} {xs ys : List V} {ds es : List D} (h : SqT K F0 a xs) (r : RpAll K dk F0 xs ds) (h' : SqT K F0 b ys) (r' : RpAll K dk F0 ys es) : ItD K dk F0 (RZ.ItzT K a b) (pairsZ ds es) := by
  intro i F H s sm st
  have hq : SqT K H a xs := seqT st.sub (seqT sm h)
  have hq' : SqT K H b ys := seqT st.sub (seqT sm h')
  have hl := r.length
  have hl' := r'.length
  rw [pairsZ_len]
  refine ⟨fun hi => ⟨xs, ys, xs[i]'(by omega), ys[i]'(by omega), hq, hq', List.getElem?_eq_getElem (by omega), List.getElem?_eq_getElem (by omega)⟩, fun hi => ⟨xs, ys, hq, hq', by omega⟩, fun x H' hi y => ?_⟩
  obtain ⟨T, x, z, rfl, hT, rfl, y, y'⟩ := y
  obtain ⟨d, hd, rd⟩ := r.getV (y xs hq)
  obtain ⟨e, he, re⟩ := r'.getV (y' ys hq')
  obtain ⟨n, rt⟩ := tup2 st hT (rd.mono sm) (re.mono sm)
  exact ⟨_, _, pairsZ_get ds es i d e hd he, n, rt⟩
def zipM (ds : List D) : M (List D) := fun s => match ds with
  | [.lst xs, .lst ys] => .ok (pairsZ xs ys) s
  | [.tup xs, .tup ys] => .ok (pairsZ xs ys) s
  | _ => .bad
theorem iv_zip {elts : List Expr} {kk : Nat} {tpos : Pos} (hg : Gl X "zip") (hm : X.mg "zip" = none) (ha : AV X W [a, b] fs) (hs : starEach [a, b] X.env = (false, eval a X.env) :: starEach [b] X.env := by rfl) (hpl : (backTo pos (starEach [b] X.env)).any (·.1) = false := by rfl) :
    IV X W (.Tuple elts kk tpos) (.Call (.Name "zip" p) [a, b] [] pos) (fun δ s => (fs δ s).bind zipM) := by
  refine pi_weak (RZ.pi_zipA hg hm ha hs hpl) fun σ H RQ ⟨dk, δ, s, F, er, st, q⟩ => ?_
  refine ⟨dk, δ, s, F, er, st, EPost.bind q fun xs s1 vs F1 H1 n r q1 => ?_⟩
  unfold zipM at q1
  split at q1
  · cases r with
    | cons r1 r2 =>
      cases r2 with
      | cons r3 r4 =>
        cases r4
        cases r1 with
        | lst h1 k1 =>
          cases r3 with
          | lst h2 k2 => exact ⟨_, _, _, _, rfl, .inl ⟨SqL.of (n.st.sub _ _ h1), SqL.of (n.st.sub _ _ h2), EPost.ok q1 n.st (itz_ok (SqL.of h1) k1 (SqL.of h2) k2)⟩⟩
  · cases r with
    | cons r1 r2 =>
      cases r2 with
      | cons r3 r4 =>
        cases r4
        cases r1 with
        | tup h1 k1 =>
          cases r3 with
          | tup h2 k2 => exact ⟨_, _, _, _, rfl, .inr ⟨seqT n.st.sub h1, seqT n.st.sub h2, EPost.ok q1 n.st (itzT_ok h1 k1 h2 k2)⟩⟩
  · exact q1.elim

/-! ### targets -/
inductive Pat where
  | nm (i : Nat)
  | tp (ps : List Pat)
mutual
def asgP : Pat → D → Option (List (Nat × D))
  | .nm i, d => some [(i, d)]
  | .tp ps, .tup xs => asgPs ps xs
  | .tp ps, .lst xs => asgPs ps xs
  | .tp _, _ => none
def asgPs : List Pat → List D → Option (List (Nat × D))
  | [], [] => some []
  | p :: ps, x :: xs => (asgP p x).bind fun l => (asgPs ps xs).bind fun m => some (l ++ m)
  | _, _ => none
end
def setD (δ : DEnv) (l : List (Nat × D)) : DEnv := l.foldl (fun δ p => δ.set p.1 (some p.2)) δ
def setV (σ : List (Option V)) (l : List (Nat × V)) : List (Option V) := l.foldl (fun δ p => δ.set p.1 (some p.2)) σ
def PairsR (K : PySem.W.Frag) (dk : Addr) (F : Hp) (lv : List (Nat × V)) (l : List (Nat × D)) : Prop := lv.map (·.1) = l.map (·.1) ∧ RpAll K dk F (lv.map (·.2)) (l.map (·.2))
theorem EnvR.setAll {K : PySem.W.Frag} {dk : Addr} {F : Hp} : ∀ {lv : List (Nat × V)} {l : List (Nat × D)} {σ : List (Option V)} {δ : DEnv}, PairsR K dk F lv l → EnvR K dk F σ δ → EnvR K dk F (setV σ lv) (setD δ l)
  | [], [], _, _, _, h => h
  | (i, v) :: lv, (j, d) :: l, σ, δ, ⟨e, r⟩, h => by
    have e1 : i = j := by simp at e; exact e.1
    have e2 : lv.map (·.1) = l.map (·.1) := by simp at e; exact e.2
    subst e1
    cases r with
    | cons r1 r2 => exact EnvR.setAll (lv := lv) (l := l) ⟨e2, r2⟩ (h.set r1)
  | [], _ :: _, _, _, ⟨e, _⟩, _ => by simp at e
  | _ :: _, [], _, _, ⟨e, _⟩, _ => by simp at e
def tGV (K : PySem.W.Frag) (p : Pat) : TG := fun v σ H Q => ∃ dk F d l, Same F H ∧ Rp K dk F v d ∧ asgP p d = some l ∧ ∀ lv, PairsR K dk F lv l → Q (setV σ lv) H
def tGVs (K : PySem.W.Frag) (ps : List Pat) : TGs := fun vs σ H Q => ∃ dk F ds l, Same F H ∧ RpAll K dk F vs ds ∧ asgPs ps ds = some l ∧ ∀ lv, PairsR K dk F lv l → Q (setV σ lv) H
def GV (X : Cx) (tg : Expr) (p : Pat) : Prop := PG X tg (tGV X.K p)
def GVs (X : Cx) (tg : List Expr) (p : List Pat) : Prop := PGs X tg (tGVs X.K p)
theorem pg_weak {X : Cx} {tg : Expr} {t t' : TG} (h : PG X tg t) (k : ∀ v σ H Q, t' v σ H Q → t v σ H Q) : PG X tg t' := ⟨fun pins s σ H v u Q I r q => h.run pins s σ H v u Q I r (k v σ H Q q)⟩
theorem pgs_weak {X : Cx} {tg : List Expr} {t t' : TGs} (h : PGs X tg t) (k : ∀ v σ H Q, t' v σ H Q → t v σ H Q) : PGs X tg t' := ⟨fun pins s σ H v u Q I r q => h.run pins s σ H v u Q I r (k v σ H Q q)⟩
theorem pg_or {X : Cx} {tg : Expr} {t t' : TG} (h : PG X tg t) (h' : PG X tg t') : PG X tg (fun v σ H Q => t v σ H Q ∨ t' v σ H Q) := ⟨fun pins s σ H v u Q I r q => q.elim (h.run pins s σ H v u Q I r) (h'.run pins s σ H v u Q I r)⟩
theorem gv_name {i : Nat} (h : PG X tg (gName i)) : GV X tg (.nm i) := by
  refine pg_weak h fun v σ H Q ⟨dk, F, d, l, sm, r, e, q⟩ => ?_
  have e' : some [(i, d)] = some l := by rw [← e]; unfold asgP; rfl
  cases e'
  exact q [(i, v)] ⟨rfl, .cons r .nil⟩
theorem gvs_nil : GVs X [] [] := by
  refine pgs_weak pgs_nil fun vs σ H Q ⟨dk, F, ds, l, sm, r, e, q⟩ => ?_
  cases r with
  | nil =>
    have e' : some [] = some l := by rw [← e]; unfold asgPs; rfl
    cases e'
    exact ⟨rfl, q [] ⟨rfl, .nil⟩⟩
  | cons _ _ => unfold asgPs at e; cases e
theorem gvs_cons {t : Expr} {ts : List Expr} {p : Pat} {ps : List Pat} (h1 : GV X t p) (h2 : GVs X ts ps) (hs : (assignEach (t :: ts) X.env).map (·.2) = assign t X.env :: (assignEach ts X.env).map (·.2) := by rfl) : GVs X (t :: ts) (p :: ps) := by
  refine pgs_weak (pgs_cons h1 h2 hs) fun vs σ H Q ⟨dk, F, ds, l, sm, r, e, q⟩ => ?_
  cases r with
  | nil => unfold asgPs at e; cases e
  | @cons v vr d dr r1 r2 =>
    have e' : ((asgP p d).bind fun l => (asgPs ps dr).bind fun m => some (l ++ m)) = some l := by rw [← e]; rw [asgPs]
    cases e1 : asgP p d with
    | none => rw [e1] at e'; cases e'
    | some l1 =>
      rw [e1] at e'
      cases e2 : asgPs ps dr with
      | none => rw [e2] at e'; cases e'
      | some l2 =>
        rw [e2] at e'
        cases e'
        refine ⟨v, vr, rfl, dk, F, d, l1, sm, r1, e1, fun lv1 p1 => ?_⟩
        refine ⟨dk, F, dr, l2, sm, r2, e2, fun lv2 p2 => ?_⟩
        have z : setV (setV σ lv1) lv2 = setV σ (lv1 ++ lv2) := by unfold setV; rw [List.foldl_append]
        rw [z]
        refine q _ ⟨?_, ?_⟩
        · rw [List.map_append, List.map_append, p1.1, p2.1]
        · rw [List.map_append, List.map_append]; exact p1.2.append p2.2
theorem asgPs_len : ∀ {ps : List Pat} {xs : List D} {l : List (Nat × D)}, asgPs ps xs = some l → xs.length = ps.length
  | [], [], _, _ => rfl
  | [], _ :: _, _, h => by unfold asgPs at h; cases h
  | _ :: _, [], _, h => by unfold asgPs at h; cases h
  | p :: ps, x :: xs, l, h => by
    rw [asgPs] at h
    cases e1 : asgP p x with
    | none => rw [e1] at h; cases h
    | some l1 =>
      rw [e1] at h
      cases e2 : asgPs ps xs with
      | none => rw [e2] at h; cases h
      | some l2 => exact congrArg (· + 1) (asgPs_len e2)
theorem gv_tup {ts : List Expr} {k : Nat} {ps : List Pat} (hc : X.calm = true) (h : GVs X ts ps) (hn : (assignEach ts X.env).length = ps.length := by rfl) (hst : (assignEach ts X.env).findIdx? (·.1) = none := by rfl) : GV X (.Tuple ts k pos) (.tp ps) := by
  refine pg_weak (pg_or (pg_tup hc h hn hst) (pg_unl hc h hn hst)) fun v σ H Q ⟨dk, F, d, l, sm, r, e, q⟩ => ?_
  cases r with
  | @tup _ _ ds0 hs hr =>
    have e' : asgPs ps ds0 = some l := by rw [← e]; rw [asgP]
    exact .inl ⟨_, _, rfl, seqT sm hs, by rw [hr.length]; exact asgPs_len e', dk, F, _, l, sm, hr, e', q⟩
  | @lst _ _ ds0 hs hr =>
    have e' : asgPs ps ds0 = some l := by rw [← e]; rw [asgP]
    exact .inr ⟨_, _, rfl, SqL.of (sm _ _ hs), by rw [hr.length]; exact asgPs_len e', dk, F, _, l, sm, hr, e', q⟩
  | non => unfold asgP at e; cases e
  | bl _ => unfold asgP at e; cases e
  | int _ => unfold asgP at e; cases e
  | str _ => unfold asgP at e; cases e
  | dct _ _ _ => unfold asgP at e; cases e
  | deck => unfold asgP at e; cases e
end
end FL

namespace FL
open PySem PySem.Spec L2

/-! ### comprehensions -/
def wipeE (δ : DEnv) : List Nat → DEnv
  | [] => δ
  | v :: vs => (wipeE δ vs).set v none
theorem EnvR.wipe {K : PySem.W.Frag} {dk : Addr} {F : Hp} {σ : List (Option V)} {δ : DEnv} (h : EnvR K dk F σ δ) : ∀ vs, EnvR K dk F (L2.wipe σ vs) (wipeE δ vs)
  | [] => h
  | v :: vs => (EnvR.wipe h vs).unset
/-- its slots all among vs -/
def patIn (vs : List Nat) : List (Nat × D) → Bool := fun l => l.all fun p => vs.contains p.1
theorem wipe_get (σ : List (Option V)) : ∀ (vs : List Nat) (j : Nat), (L2.wipe σ vs)[j]? = if j ∈ vs ∧ j < σ.length then some none else σ[j]?
  | [], j => by simp [L2.wipe]
  | v :: vs, j => by
    have ih := wipe_get σ vs j
    unfold L2.wipe
    by_cases hv : v = j
    · subst hv
      by_cases hl : v < σ.length
      · rw [List.getElem?_set_self (by rw [wipe_length]; exact hl)]
        simp [hl]
      · rw [List.getElem?_eq_none (by rw [List.length_set, wipe_length]; omega)]
        simp [hl]
    · rw [List.getElem?_set_ne hv, ih]
      have : (j ∈ v :: vs) ↔ j ∈ vs := by
        simp only [List.mem_cons]
        constructor
        · rintro (e | h)
          · exact absurd e.symm hv
          · exact h
        · exact Or.inr
      simp only [this]
theorem setV_get : ∀ (lv : List (Nat × V)) (σ : List (Option V)) (j : Nat), (∀ p ∈ lv, p.1 ≠ j) → (setV σ lv)[j]? = σ[j]?
  | [], _, _, _ => rfl
  | (i, v) :: lv, σ, j, h => by
    show (setV (σ.set i (some v)) lv)[j]? = _
    rw [setV_get lv _ j fun p hp => h p (List.mem_cons_of_mem _ hp), List.getElem?_set_ne (h (i, v) List.mem_cons_self)]
theorem setV_len : ∀ (lv : List (Nat × V)) (σ : List (Option V)), (setV σ lv).length = σ.length
  | [], _ => rfl
  | (i, v) :: lv, σ => by
    show (setV (σ.set i (some v)) lv).length = _
    rw [setV_len lv, List.length_set]
theorem wipe_setV {σ : List (Option V)} {vs : List Nat} {lv : List (Nat × V)} (h : ∀ p ∈ lv, p.1 ∈ vs) : L2.wipe (setV (L2.wipe σ vs) lv) vs = L2.wipe σ vs := by
  apply List.ext_getElem?
  intro j
  rw [wipe_get, setV_len, wipe_length]
  by_cases hj : j ∈ vs ∧ j < σ.length
  · rw [if_pos hj, wipe_get, if_pos hj]
  · rw [if_neg hj]
    by_cases hv : j ∈ vs
    · have hl : ¬ j < σ.length := fun q => hj ⟨hv, q⟩
      rw [List.getElem?_eq_none (by rw [setV_len, wipe_length]; omega), List.getElem?_eq_none (by rw [wipe_length]; omega)]
    · rw [setV_get lv _ j fun p hp e => hv (e ▸ h p hp)]

/-- what a comprehension makes: errors do not leave it -/
def compD (b : D → Deck → R (Option D)) : List D → M (List D)
  | [], s => .ok [] s
  | x :: xs, s => match b x s with
    | .ok o s => (compD b xs s).bind fun ys s => .ok (o.toList ++ ys) s
    | _ => .bad
def elemD (p : Pat) (vs : List Nat) (c : FT) (e : FE) (δ : DEnv) : D → Deck → R (Option D) := fun x s => match asgP p x with
  | some l => if patIn vs l = true then (c (setD (wipeE δ vs) l) s).bind fun k s => if k = true then (e (setD (wipeE δ vs) l) s).bind fun y s => .ok (some y) s else .ok none s else .bad
  | none => .bad
def lcD (src : FA) (p : Pat) (vs : List Nat) (c : FT) (e : FE) : FE := fun δ s => (src δ s).bind fun xs s => (compD (elemD p vs c e δ) xs s).bind mkLst
abbrev W0 : WX := fun _ _ _ _ => False
def yesT : FT := fun _ s => .ok true s
def TsV (X : Cx) (W : WX) (ifs : List Expr) (f : FT) : Prop := PTs X ifs (tTV X.K X.mg W f)
theorem pts_weak {X : Cx} {e : List Expr} {t t' : TT} (h : PTs X e t) (k : ∀ σ H Q, t' σ H Q → t σ H Q) : PTs X e t' := ⟨fun pins s σ H Q I q => h.run pins s σ H Q I (k σ H Q q)⟩
theorem tsv_nil {X : Cx} {W : WX} : TsV X W [] yesT := pts_weak pts_nil fun σ H Q ⟨dk, δ, s, F, er, st, q⟩ => EPost.ok q st rfl
theorem tsv_one {X : Cx} {W : WX} {c : Expr} {f : FT} (h : TV X W c f) : TsV X W [c] f := pts_one h

/-- the comprehension's new list, made so far -/
theorem Nxt.upd {K : PySem.W.Frag} {dk Dl : Addr} {F H : Hp} {s : Deck} {o o' : HO} (st : Stt K dk F H s) (hF : F Dl = none) (hD : Dl ≠ dk) : Stt K dk F (upd H Dl o') s := by
  obtain ⟨cl, h1, h2⟩ := st.deck
  refine ⟨fun b u e => ?_, st.fdk, cl, ?_, h2⟩
  · by_cases hb : b = Dl
    · rw [hb, hF] at e; cases e
    · rw [upd_ne hb]; exact st.sub b u e
  · rw [upd_ne (Ne.symm hD)]; exact h1
theorem comp_len {b : D → Deck → R (Option D)} : ∀ {xs : List D} {s s' : Deck} {ys : List D}, compD b xs s = .ok ys s' → ys.length ≤ xs.length
  | [], s, s', ys, h => by
    have h' : R.ok [] s = R.ok ys s' := h
    cases h'
    exact Nat.le_refl _
  | x :: xs, s, s', ys, h => by
    rw [compD] at h
    cases e : b x s with
    | bad => rw [e] at h; cases h
    | raise _ _ => rw [e] at h; cases h
    | ok o s1 =>
      rw [e] at h
      have h' : ((compD b xs s1).bind fun ys s => .ok (o.toList ++ ys) s) = R.ok ys s' := h
      cases e2 : compD b xs s1 with
      | bad => rw [e2] at h'; cases h'
      | raise _ _ => rw [e2] at h'; cases h'
      | ok zs s2 =>
        rw [e2] at h'
        have h2 : R.ok (o.toList ++ zs) s2 = R.ok ys s' := h'
        cases h2
        have := comp_len e2
        rw [List.length_append, List.length_cons]
        cases o <;> simp <;> omega

/-- behind the turns: what is left to be made, over the list so far; F1, H1: where the comprehension began -/
structure LcInv (K : PySem.W.Frag) (dk Dl : Addr) (F1 H1 : Hp) (b : D → Deck → R (Option D)) (ds all : List D) (s' : Deck) (i : Nat) (H : Hp) (F : Hp) (s : Deck) (acc : List V) (done rest : List D) : Prop where
  sm : Same F1 F
  st : Stt K dk F H s
  fr : ∀ b o, b ≠ dk → H1 b = some o → H b = some o
  pv : ∀ b, F1 b = none → H1 b ≠ none → F b = none
  fd : F Dl = none
  hd : H Dl = some (.lst acc)
  ra : RpAll K dk F acc done
  le : i ≤ ds.length
  dl : done.length ≤ i
  cm : compD b (ds.drop i) s = .ok rest s'
  al : all = done ++ rest
theorem drop_cons {α : Type} {l : List α} {i : Nat} {d : α} (h : l[i]? = some d) : l.drop i = d :: l.drop (i + 1) := by
  obtain ⟨hi, e⟩ := List.getElem?_eq_some_iff.mp h
  rw [List.drop_eq_getElem_cons hi, e]

section
variable {X : Cx} {W : WX} {tg iter elt : Expr} {ifs : List Expr} {scope : Scope} {own : List (Str × Nat)} {pos : Pos} {src : FA} {p : Pat} {c : FT} {e : FE}
theorem lc_core {σ : List (Option V)} {H : Hp} {Q : VK} {te : TE} {tt : TT} {g : TG} {wi : TI} (hi : ∀ σ H RQ, tIV X.K X.mg W src σ H RQ → wi σ H RQ) (hg : ∀ v σ H Q, tGV X.K p v σ H Q → g v σ H Q) (ht : ∀ σ H Q, tTV X.K X.mg W0 c σ H Q → tt σ H Q) (he : ∀ σ H Q, tEV X.K X.mg W0 e σ H Q → te σ H Q)
    (q : tEV X.K X.mg W (lcD src p (own.map (·.2)) c e) σ H Q) : tLc wi g tt te (own.map (·.2)) σ H Q := by
  obtain ⟨dk, δ, s, F, er, st, q⟩ := q
  unfold lcD at q
  refine hi _ _ _ ⟨dk, δ, s, F, er, st, EPost.bind q fun ds s1 J F1 H1 n1 it q1 => ?_⟩
  intro Dl hDl
  generalize hb : elemD p (own.map (·.2)) c e δ = b at q1
  -- the whole is known
  cases hall : compD b ds s1 with
  | bad => rw [hall] at q1; exact q1.elim
  | raise _ _ =>
    exfalso
    have no : ∀ (xs : List D) (s s' : Deck) (e : Ex), compD b xs s ≠ .raise e s' := by
      intro xs
      induction xs with
      | nil => intro s s' e h; cases h
      | cons x xs ih =>
        intro s s' e h
        rw [compD] at h
        cases hx : b x s with
        | bad => rw [hx] at h; cases h
        | raise _ _ => rw [hx] at h; cases h
        | ok o s2 =>
          rw [hx] at h
          have h' : ((compD b xs s2).bind fun ys s => R.ok (o.toList ++ ys) s) = R.raise e s' := h
          cases h2 : compD b xs s2 with
          | bad => rw [h2] at h'; cases h'
          | raise _ _ => exact ih _ _ _ h2
          | ok _ _ => rw [h2] at h'; cases h'
    exact no _ _ _ _ hall
  | ok all s' =>
    rw [hall] at q1
    have q2 : EPost X.K X.mg dk (RelD X.K dk) (WE W σ) F1 H1 Q (mkLst all s') := q1
    unfold mkLst at q2
    split at q2
    case isFalse => exact q2.elim
    rename_i hsm
    have hlen := small_le hsm
    obtain ⟨cl, hdk, _⟩ := n1.st.deck
    have hne : Dl ≠ dk := fun z => by rw [z, hdk] at hDl; cases hDl
    have hF1 : F1 Dl = none := n1.st.sub.free hDl
    have hnD : ∀ {b : Addr} {o : HO}, H1 b = some o → b ≠ Dl := fun h => ne_of_none h hDl
    refine ⟨fun i m H' => m = ds.length - i ∧ ∃ F s acc done rest, LcInv X.K dk Dl F1 H1 b ds all s' i H' F s acc done rest, ⟨ds.length, by simp, F1, s1, [], [], all, Same.refl _, Nxt.upd (o := .lst []) n1.st hF1 hne, fun b o _ h => by rw [upd_ne (hnD h)]; exact h, fun _ h _ => h, hF1, upd_same, .nil, Nat.zero_le _, Nat.le_refl _, by simpa using hall, rfl⟩, ?_⟩
    rintro i m H2 ⟨rfl, F2, s2, acc, done, rest, I⟩
    obtain ⟨J1, J2, J3⟩ := it i F2 H2 s2 I.sm I.st
    by_cases hlt : i < ds.length
    · refine .inr ⟨J1 hlt, fun H' => ∃ F s acc done rest, LcInv X.K dk Dl F1 H1 b ds all s' (i + 1) H' F s acc done rest, fun H' z => ⟨ds.length - (i + 1), by omega, rfl, z⟩, fun x H' y => ?_⟩
      obtain ⟨F3, d, hd, n3, rd⟩ := J3 x H' hlt y
      have hc2 := I.cm
      rw [drop_cons hd, compD] at hc2
      -- the turn
      cases hx : b d s2 with
      | bad => rw [hx] at hc2; cases hc2
      | raise _ _ => rw [hx] at hc2; cases hc2
      | ok o s3 =>
        rw [hx] at hc2
        have hc3 : ((compD b (ds.drop (i + 1)) s3).bind fun ys s => R.ok (o.toList ++ ys) s) = R.ok rest s' := hc2
        cases hr : compD b (ds.drop (i + 1)) s3 with
        | bad => rw [hr] at hc3; cases hc3
        | raise _ _ => rw [hr] at hc3; cases hc3
        | ok rest' s4 =>
          rw [hr] at hc3
          have hc4 : R.ok (o.toList ++ rest') s4 = R.ok rest s' := hc3
          have erest : rest = o.toList ++ rest' := by cases hc4; rfl
          have es4 : s4 = s' := by cases hc4; rfl
          subst es4
          rw [← hb] at hx
          unfold elemD at hx
          split at hx
          case h_2 => cases hx
          rename_i l hl
          split at hx
          case isFalse => cases hx
          rename_i hpi
          refine hg _ _ _ _ ⟨dk, F3, d, l, n3.st.sub, rd, hl, fun lv pr => ?_⟩
          have hin : ∀ p ∈ lv, p.1 ∈ own.map (·.2) := by
            intro p' hp
            have h1 : p'.1 ∈ l.map (·.1) := by rw [← pr.1]; exact List.mem_map.mpr ⟨p', hp, rfl⟩
            obtain ⟨p2, hp2, e2⟩ := List.mem_map.mp h1
            have z := List.all_eq_true.mp hpi p2 hp2
            rw [← e2]
            simpa using z
          refine ⟨wipe_setV hin, ?_⟩
          have er3 : EnvR X.K dk F3 (setV (L2.wipe σ (own.map (·.2))) lv) (setD (wipeE δ (own.map (·.2))) l) := EnvR.setAll pr ((er.mono (n1.sm.trans (I.sm.trans n3.sm))).wipe _)
          have hD3 : H' Dl = some (.lst acc) := n3.fr _ _ hne I.hd
          refine ht _ _ _ ⟨dk, _, s2, F3, er3, n3.st, ?_⟩
          cases hct : c (setD (wipeE δ (own.map (·.2))) l) s2 with
          | bad => rw [hct] at hx; cases hx
          | raise _ _ => rw [hct] at hx; cases hx
          | ok k s5 =>
            rw [hct] at hx
            have hx' : (if k = true then (e (setD (wipeE δ (own.map (·.2))) l) s5).bind fun y s => R.ok (some y) s else R.ok none s5) = R.ok o s3 := hx
            intro k' F4 H4 n4 rk
            have rk : k' = k := rk
            subst rk
            have hD4 : H4 Dl = some (.lst acc) := n4.fr _ _ hne hD3
            have hF3 : F3 Dl = none := n3.pv _ I.fd (by rw [I.hd]; exact fun z => by cases z)
            have hF4 : F4 Dl = none := n4.pv _ hF3 (by rw [hD3]; exact fun z => by cases z)
            have n24 := n3.trans n4
            have pv4 : ∀ b, F1 b = none → H1 b ≠ none → F4 b = none := fun b h1 h2 => by
              by_cases hb : b = dk
              · rw [hb]; exact n4.st.fdk
              · exact n24.pv b (I.pv b h1 h2) (Fr.there (dk := dk) (fun c o hc h => I.fr c o hc h) hb h2)
            cases k' with
            | false =>
              rw [if_neg Bool.false_ne_true] at hx' ⊢
              cases hx'
              exact ⟨F4, _, acc, done, rest', I.sm.trans n24.sm, n4.st, fun b u hb h => n24.fr _ _ hb (I.fr b u hb h), pv4, hF4, hD4, I.ra.mono n24.sm, hlt, Nat.le_succ_of_le I.dl, hr, by rw [I.al, erest]; rfl⟩
            | true =>
              rw [if_pos rfl] at hx' ⊢
              refine he _ _ _ ⟨dk, _, s5, F4, er3.mono n4.sm, n4.st, ?_⟩
              cases hey : e (setD (wipeE δ (own.map (·.2))) l) s5 with
              | bad => rw [hey] at hx'; cases hx'
              | raise _ _ => rw [hey] at hx'; cases hx'
              | ok y s6 =>
                rw [hey] at hx'
                have hx2 : R.ok (some y) s6 = R.ok o s3 := hx'
                cases hx2
                intro v F5 H5 n5 rv
                have hD5 : H5 Dl = some (.lst acc) := n5.fr _ _ hne hD4
                have hF5 : F5 Dl = none := n5.pv _ hF4 (by rw [hD4]; exact fun z => by cases z)
                have n25 := n24.trans n5
                have hal2 : all = (done ++ [y]) ++ rest' := by rw [I.al, erest, List.append_assoc]; rfl
                have hlen2 : done.length + 1 ≤ all.length := by rw [hal2, List.length_append, List.length_append]; simp only [List.length_cons, List.length_nil]; omega
                have hacc := I.ra.length
                have hle : done.length + 1 ≤ sizeLine := Nat.le_trans hlen2 hlen
                refine ⟨acc, hD5, by omega, F5, _, acc ++ [v], done ++ [y], rest', I.sm.trans n25.sm, Nxt.upd (o := .lst []) n5.st hF5 hne, fun b u hb hu => ?_, fun b h1 h2 => ?_, hF5, upd_same, (I.ra.mono n25.sm).append (.cons rv .nil), hlt, by have := I.dl; simp; omega, hr, hal2⟩
                · rw [upd_ne (hnD hu)]
                  exact n25.fr _ _ hb (I.fr b u hb hu)
                · by_cases hb : b = dk
                  · rw [hb]; exact n5.st.fdk
                  · exact n25.pv b (I.pv b h1 h2) (Fr.there (dk := dk) (fun c o hc h => I.fr c o hc h) hb h2)
    · have ei : i = ds.length := by have := I.le; omega
      subst ei
      refine .inl ⟨J2 (Nat.le_refl _), ?_⟩
      have hc2 := I.cm
      rw [List.drop_length] at hc2
      have hc3 : R.ok [] s2 = R.ok rest s' := hc2
      cases hc3
      have hal := I.al
      rw [List.append_nil] at hal
      subst hal
      have sm2 : Same F2 (upd F2 Dl (.lst acc)) := fun b u h => by rw [upd_ne (fun z => by rw [z, I.fd] at h; cases h)]; exact h
      obtain ⟨cl2, k1, k2⟩ := I.st.deck
      refine q2 (.ref Dl) (upd F2 Dl (.lst acc)) H2 ⟨I.sm.trans sm2, ⟨fun b u h => ?_, by rw [upd_ne (Ne.symm hne)]; exact I.st.fdk, cl2, k1, sm2 _ _ k2⟩, fun b o hb h => I.fr b o hb h, fun b h1 h2 => ?_⟩ (.lst upd_same (I.ra.mono sm2))
      · by_cases hb : b = Dl
        · rw [hb] at h ⊢; rw [upd_same] at h; rw [I.hd]; exact h
        · rw [upd_ne hb] at h; exact I.st.sub b u h
      · rw [upd_ne (fun z => h2 (by rw [z]; exact hDl))]
        exact I.pv b h1 h2
theorem ev_lc (hc : X.calm = true) (hN : X.N.Nodup) (hi : IV X W tg iter src) (ok : BlkOk X.N X.env.scope scope own)
    (hg : ∀ (s : Shared) (H : Hp) (C : Addr) (cl : List (Str × Addr)) (fp : List Addr), GV (X.blk s H scope (compEnvC scope cl C X.env) fp) tg p) (ht : ∀ (s : Shared) (H : Hp) (C : Addr) (cl : List (Str × Addr)) (fp : List Addr), TsV (X.blk s H scope (compEnvC scope cl C X.env) fp) W0 ifs c)
    (he : ∀ (s : Shared) (H : Hp) (C : Addr) (cl : List (Str × Addr)) (fp : List Addr), EV (X.blk s H scope (compEnvC scope cl C X.env) fp) W0 elt e) (hs : ∀ x, foldedSetIterable iter X.env x = pure x := by intro _; rfl) :
    EV X W (.ListComp elt [⟨tg, iter, ifs, 0⟩] scope pos) (lcD src p (own.map (·.2)) c e) :=
  pe_weak (pe_lc (wi := tIV X.K X.mg W src) (g := tGV X.K p) (tt := tTV X.K X.mg W0 c) (te := tEV X.K X.mg W0 e) hc hN hi ok hg ht he hs) fun σ H Q q => lc_core (fun _ _ _ z => z) (fun _ _ _ _ z => z) (fun _ _ _ z => z) (fun _ _ _ z => z) q
end
end FL

namespace FL
open PySem PySem.Spec L2

/-! ### statements -/
inductive RS where
  | nx (δ : DEnv) (s : Deck)
  | rt (d : D) (s : Deck)
  | bk (δ : DEnv) (s : Deck)
  | ct (δ : DEnv) (s : Deck)
  | raise (e : Ex) (δ : DEnv) (s : Deck)
  | bad
abbrev FS := DEnv → Deck → RS
/-- what is wanted behind a statement that began at slots σ0 -/
def SPost (K : PySem.W.Frag) (mg : Str → Option Value) (dk : Addr) (W : WX) (F H : Hp) (Dn : Ends) : RS → Prop
  | .nx δ s => ∀ σ' F' H', Nxt K dk F H F' H' s → EnvR K dk F' σ' δ → Dn.nx σ' H'
  | .bk δ s => ∀ σ' F' H', Nxt K dk F H F' H' s → EnvR K dk F' σ' δ → Dn.bk σ' H'
  | .ct δ s => ∀ σ' F' H', Nxt K dk F H F' H' s → EnvR K dk F' σ' δ → Dn.ct σ' H'
  | .rt d s => ∀ v F' H', Nxt K dk F H F' H' s → Rp K dk F' v d → Dn.rt v H'
  | .raise e δ s => ∀ σ' C dd F' H', Nxt K dk F H F' H' s → EnvR K dk F' σ' δ → mg e.cls = some (.ref C) → ExAt K dk F' H' dd e → W (.ref C) (some dd) σ' H'
  | .bad => False
theorem SPost.later {K : PySem.W.Frag} {mg : Str → Option Value} {dk : Addr} {W : WX} {F H F1 H1 : Hp} {s1 : Deck} {Dn : Ends} {r : RS} (n : Nxt K dk F H F1 H1 s1) (h : SPost K mg dk W F H Dn r) : SPost K mg dk W F1 H1 Dn r := by
  cases r with
  | nx δ s => exact fun σ' F' H' n' er => h σ' F' H' (n.trans n') er
  | bk δ s => exact fun σ' F' H' n' er => h σ' F' H' (n.trans n') er
  | ct δ s => exact fun σ' F' H' n' er => h σ' F' H' (n.trans n') er
  | rt d s => exact fun v F' H' n' rr => h v F' H' (n.trans n') rr
  | raise e δ s => exact fun σ' C dd F' H' n' er hm hx => h σ' C dd F' H' (n.trans n') er hm hx
  | bad => exact h
def tSV (K : PySem.W.Frag) (mg : Str → Option Value) (W : WX) (g : FS) : TS := fun Dn σ H => ∃ dk δ s F, EnvR K dk F σ δ ∧ Stt K dk F H s ∧ SPost K mg dk W F H Dn (g δ s)
def SV (X : Cx) (W : WX) (st : Stmt) (g : FS) : Prop := PS X st (tSV X.K X.mg W g)
def BV (X : Cx) (W : WX) (st : List Stmt) (g : FS) : Prop := PSs X st (tSV X.K X.mg W g)
/-- an expression's value goes on to a statement's end -/
def R.toS {α : Type} (δ : DEnv) (r : R α) (k : α → Deck → RS) : RS := match r with
  | .ok a s => k a s
  | .raise e s => .raise e δ s
  | .bad => .bad
theorem SPost.ofE {α β : Type} {K : PySem.W.Frag} {mg : Str → Option Value} {dk : Addr} {RR : Hp → β → α → Prop} {W : WX} {σ : List (Option V)} {δ : DEnv} {F H : Hp} {Dn : Ends} {r : R α} {k : α → Deck → RS} {P : β → Hp → Prop} (er : EnvR K dk F σ δ)
    (h : SPost K mg dk W F H Dn (r.toS δ k)) (kk : ∀ a s1 v F1 H1, Nxt K dk F H F1 H1 s1 → RR F1 v a → SPost K mg dk W F1 H1 Dn (k a s1) → P v H1) : EPost K mg dk RR (WE W σ) F H P r := by
  cases r with
  | ok a s1 => exact fun v F' H' n rr => kk a s1 v F' H' n rr (SPost.later n h)
  | raise e s1 => exact fun C dd F' H' n hm hx => h σ C dd F' H' n (er.mono n.sm) hm hx
  | bad => exact h
def seqS (f g : FS) : FS := fun δ s => match f δ s with
  | .nx δ' s' => g δ' s'
  | r => r
section
variable {X : Cx} {W : WX} {st : Stmt} {rest body : List Stmt} {e c tg iter : Expr} {f : FE} {fc : FT} {g h : FS} {fs src : FA} {pos : Pos} {p : Pat}
theorem bv_nil : BV X W [] (fun δ s => .nx δ s) := pss_weak pss_nil fun Dn σ H ⟨dk, δ, s, F, er, st, q⟩ => q σ F H (Nxt.refl st) er
theorem bv_cons (h1 : SV X W st g) (h2 : BV X W rest h) : BV X W (st :: rest) (seqS g h) := by
  refine pss_weak (pss_cons h1 h2) fun Dn σ H ⟨dk, δ, s, F, er, st, q⟩ => ?_
  refine ⟨dk, δ, s, F, er, st, ?_⟩
  unfold seqS at q
  cases hg : g δ s with
  | nx δ' s' =>
    rw [hg] at q
    exact fun σ' F' H' n er' => ⟨dk, δ', s', F', er', n.st, SPost.later n q⟩
  | bk δ' s' => rw [hg] at q; exact q
  | ct δ' s' => rw [hg] at q; exact q
  | rt d s' => rw [hg] at q; exact q
  | raise e δ' s' => rw [hg] at q; exact q
  | bad => rw [hg] at q; exact q
theorem bv_one (h1 : SV X W st g) : BV X W [st] g := pss_one h1
theorem sv_pass : SV X W (.Pass pos) (fun δ s => .nx δ s) := ps_weak ps_pass fun Dn σ H ⟨dk, δ, s, F, er, st, q⟩ => q σ F H (Nxt.refl st) er
def dropS (f : FE) : FS := fun δ s => (f δ s).toS δ fun _ s => .nx δ s
theorem sv_expr (he : EV X W e f) (hs : swapsWith e none pos.line X.env = pure false := by rfl) : SV X W (.Expr e pos) (dropS f) := by
  refine ps_weak (ps_expr he hs) fun Dn σ H ⟨dk, δ, s, F, er, st, q⟩ => ?_
  exact ⟨dk, δ, s, F, er, st, SPost.ofE er q fun a s1 v F1 H1 n rr q1 => q1 σ F1 H1 (Nxt.refl n.st) (er.mono n.sm)⟩
def retS (f : FE) : FS := fun δ s => (f δ s).toS δ fun d s => .rt d s
theorem sv_ret (he : EV X W e f) : SV X W (.Return (some e) pos) (retS f) := by
  refine ps_weak (ps_ret he) fun Dn σ H ⟨dk, δ, s, F, er, st, q⟩ => ?_
  exact ⟨dk, δ, s, F, er, st, SPost.ofE er q fun a s1 v F1 H1 n rr q1 => q1 v F1 H1 (Nxt.refl n.st) rr⟩
def setS (i : Nat) (f : FE) : FS := fun δ s => (f δ s).toS δ fun d s => .nx (δ.set i (some d)) s
theorem sv_set {i : Nat} {e' : Expr} (h : ∀ te, PE X e te → PS X st (tAsg te (gName i))) (he : EV X W e f) : SV X W st (setS i f) := by
  refine ps_weak (h _ he) fun Dn σ H ⟨dk, δ, s, F, er, st, q⟩ => ?_
  exact ⟨dk, δ, s, F, er, st, SPost.ofE er q fun a s1 v F1 H1 n rr q1 => q1 _ F1 H1 (Nxt.refl n.st) ((er.mono n.sm).set rr)⟩
theorem sv_name {i : Nat} {x : Str} {pos' : Pos} (hN : X.N.Nodup) (hi : X.N[i]? = some x) (hx : Loc X.env.scope x) (he : EV X W e f) (hs : swapsWith e (some (.Name x pos')) pos.line X.env = pure false := by rfl) (hf : X.fn x = true ∨ X.env.scope.names.lookup x = some .local := by first | exact .inl rfl | exact .inr rfl | assumption) :
    SV X W (.Assign [.Name x pos'] e pos) (setS i f) := by
  refine ps_weak (ps_set hN hi hx he hs hf) fun Dn σ H ⟨dk, δ, s, F, er, st, q⟩ => ?_
  exact ⟨dk, δ, s, F, er, st, SPost.ofE er q fun a s1 v F1 H1 n rr q1 => q1 _ F1 H1 (Nxt.refl n.st) ((er.mono n.sm).set rr)⟩
/-- name = [..] -/
theorem sv_nameLc {i : Nat} {y : Str} {py : Pos} {elt : Expr} {ifs : List Expr} {scope : Scope} {own : List (Str × Nat)} {spos : Pos} {p : Pat} {fc : FT} {f : FE} (hc : X.calm = true) (hN : X.N.Nodup) (hy : X.N[i]? = some y) (hyl : X.env.scope.names.lookup y = some .local)
    (hsw : swapsWith (.ListComp elt [⟨tg, iter, ifs, 0⟩] scope pos) (some (.Name y py)) spos.line X.env = pure true) (hi : IV X W tg iter src) (ok : BlkOk X.N X.env.scope scope own)
    (hg : ∀ (s : Shared) (H : Hp) (C : Addr) (cl : List (Str × Addr)) (fp : List Addr), GV (X.blk s H scope (compEnvC scope cl C X.env) fp) tg p) (ht : ∀ (s : Shared) (H : Hp) (C : Addr) (cl : List (Str × Addr)) (fp : List Addr), TsV (X.blk s H scope (compEnvC scope cl C X.env) fp) W0 ifs fc)
    (he : ∀ (s : Shared) (H : Hp) (C : Addr) (cl : List (Str × Addr)) (fp : List Addr), EV (X.blk s H scope (compEnvC scope cl C X.env) fp) W0 elt f) (hs : ∀ x, foldedSetIterable iter X.env x = pure x := by intro _; rfl) :
    SV X W (.Assign [.Name y py] (.ListComp elt [⟨tg, iter, ifs, 0⟩] scope pos) spos) (setS i (lcD src p (own.map (·.2)) fc f)) := by
  refine ps_weak (ps_setLc (wi := tIV X.K X.mg W src) (g := tGV X.K p) (tt := tTV X.K X.mg W0 fc) (te := tEV X.K X.mg W0 f) hc hN hy hyl hsw hi ok hg ht he hs) fun Dn σ H ⟨dk, δ, s, F, er, st, q⟩ => ?_
  refine lc_core (W := W) (src := src) (p := p) (c := fc) (e := f) (fun _ _ _ z => z) (fun _ _ _ _ z => z) (fun _ _ _ z => z) (fun _ _ _ z => z) ⟨dk, δ, s, F, er, st, SPost.ofE er q fun a s1 v F1 H1 n rr q1 => q1 _ F1 H1 (Nxt.refl n.st) ((er.mono n.sm).set rr)⟩
def asgS (p : Pat) (f : FE) : FS := fun δ s => (f δ s).toS δ fun d s => match asgP p d with
  | some l => .nx (setD δ l) s
  | none => .bad
theorem sv_asg (he : EV X W e f) (hg : GV X tg p) (hs : swapsWithSole [tg] e pos.line X.env = pure false := by rfl) (hw : swappedStores [tg] e X.env = pure none := by rfl) (h1 : (assignEach [tg] X.env).map (·.2) = [assign tg X.env] := by rfl) :
    SV X W (.Assign [tg] e pos) (asgS p f) := by
  refine ps_weak (ps_asg he hg hs hw h1) fun Dn σ H ⟨dk, δ, s, F, er, st, q⟩ => ?_
  refine ⟨dk, δ, s, F, er, st, SPost.ofE er q fun a s1 v F1 H1 n rr q1 => ?_⟩
  split at q1
  · rename_i l hl
    exact ⟨dk, F1, a, l, n.st.sub, rr, hl, fun lv pr => q1 _ F1 H1 (Nxt.refl n.st) (EnvR.setAll pr (er.mono n.sm))⟩
  · exact q1.elim
/-- a, b = x, y -/
def parS (i j : Nat) (fs : FA) : FS := fun δ s => (fs δ s).toS δ fun ds s => match ds with
  | [d, e] => .nx ((δ.set i (some d)).set j (some e)) s
  | _ => .bad
theorem sv_par {i j : Nat} {x y : Str} {a b : Expr} {px py pt : Pos} {kt k2 pt2} (hc : X.calm = true) (hN : X.N.Nodup) (hi : X.N[i]? = some x) (hj : X.N[j]? = some y) (hij : i ≠ j)
    (hx : X.env.scope.names.lookup x = some .local) (hy : X.env.scope.names.lookup y = some .local) (ha : AV X W [a, b] fs)
    (hw : swappedStores [.Tuple [.Name x px, .Name y py] kt pt] (.Tuple [a, b] k2 pt2) X.env = pure (some [x, y]))
    (hs : swapsWithSole [.Tuple [.Name x px, .Name y py] kt pt] (.Tuple [a, b] k2 pt2) pos.line X.env = pure false := by rfl) :
    SV X W (.Assign [.Tuple [.Name x px, .Name y py] kt pt] (.Tuple [a, b] k2 pt2) pos) (parS i j fs) := by
  refine ps_weak (ps_par hc hN hi hj hij hx hy ha hw hs) fun Dn σ H ⟨dk, δ, s, F, er, st, q⟩ => ?_
  refine ⟨dk, δ, s, F, er, st, SPost.ofE er q fun a s1 v F1 H1 n rr q1 => ?_⟩
  split at q1
  · cases rr with
    | cons r1 r2 =>
      cases r2 with
      | cons r3 r4 =>
        cases r4
        exact ⟨_, _, rfl, q1 _ F1 H1 (Nxt.refl n.st) (((er.mono n.sm).set r1).set r3)⟩
  · exact q1.elim
def parS3 (i j l : Nat) (fs : FA) : FS := fun δ s => (fs δ s).toS δ fun ds s => match ds with
  | [d, e, h] => .nx (((δ.set i (some d)).set j (some e)).set l (some h)) s
  | _ => .bad
def iteS (c : FT) (g h : FS) : FS := fun δ s => (c δ s).toS δ fun k s => if k = true then g δ s else h δ s
theorem sv_if {a b : List Stmt} (hc : TV X W c fc) (ha : BV X W a g) (hb : BV X W b h) : SV X W (.If c a b pos) (iteS fc g h) := by
  refine ps_weak (ps_if hc ha hb) fun Dn σ H ⟨dk, δ, s, F, er, st, q⟩ => ?_
  refine ⟨dk, δ, s, F, er, st, SPost.ofE er q fun k s1 v F1 H1 n rr q1 => ?_⟩
  have rr : v = k := rr
  subst rr
  cases v with
  | true => exact ⟨dk, δ, s1, F1, er.mono n.sm, n.st, q1⟩
  | false => exact ⟨dk, δ, s1, F1, er.mono n.sm, n.st, q1⟩
theorem sv_break : SV X W (.Break pos) (fun δ s => .bk δ s) := ps_weak ps_break fun Dn σ H ⟨dk, δ, s, F, er, st, q⟩ => q σ F H (Nxt.refl st) er
theorem sv_cont : SV X W (.Continue pos) (fun δ s => .ct δ s) := ps_weak ps_continue fun Dn σ H ⟨dk, δ, s, F, er, st, q⟩ => q σ F H (Nxt.refl st) er

/-! ### for -/
def forD (b : D → FS) : List D → FS
  | [], δ, s => .nx δ s
  | x :: xs, δ, s => match b x δ s with
    | .nx δ' s' => forD b xs δ' s'
    | .ct δ' s' => forD b xs δ' s'
    | .bk δ' s' => .nx δ' s'
    | r => r
def turnS (p : Pat) (b : FS) : D → FS := fun x δ s => match asgP p x with
  | some l => b (setD δ l) s
  | none => .bad
def forS (src : FA) (p : Pat) (b : FS) : FS := fun δ s => (src δ s).toS δ fun xs s => forD (turnS p b) xs δ s
theorem sv_for (hp : PassesOwn (model X.prog X.w) X.A X.env X.xe) (hc : X.calm = true) (hi : IV X W tg iter src) (hg : GV X tg p) (hb : BV X W body g) (hs : ∀ x, foldedSetIterable iter X.env x = pure x := by intro _; rfl) :
    SV X W (.For tg iter body [] pos) (forS src p g) := by
  refine ps_weak (ps_for hp hc hi hg hb hs) fun Dn σ H ⟨dk, δ, s, F, er, st, q⟩ => ?_
  refine ⟨dk, δ, s, F, er, st, SPost.ofE er q fun ds s1 J F1 H1 n1 it q1 => ?_⟩
  refine ⟨fun i m σ' H' => m = ds.length - i ∧ i ≤ ds.length ∧ ∃ δ' s' F', Nxt X.K dk F1 H1 F' H' s' ∧ EnvR X.K dk F' σ' δ' ∧ SPost X.K X.mg dk W F' H' Dn (forD (turnS p g) (ds.drop i) δ' s'), ⟨ds.length, by simp, Nat.zero_le _, δ, s1, F1, Nxt.refl n1.st, er.mono n1.sm, q1⟩, ?_⟩
  rintro i m σ2 H2 ⟨rfl, hi2, δ2, s2, F2, n2, er2, q2⟩
  obtain ⟨J1, J2, J3⟩ := it i F2 H2 s2 n2.sm n2.st
  by_cases hlt : i < ds.length
  · refine .inr ⟨J1 hlt, fun σ' H' => ∃ δ' s' F', Nxt X.K dk F1 H1 F' H' s' ∧ EnvR X.K dk F' σ' δ' ∧ SPost X.K X.mg dk W F' H' Dn (forD (turnS p g) (ds.drop (i + 1)) δ' s'), fun σ' H' z => ⟨ds.length - (i + 1), by omega, rfl, hlt, z⟩, fun x H' y => ?_⟩
    obtain ⟨F3, d, hd, n3, rd⟩ := J3 x H' hlt y
    rw [drop_cons hd, forD] at q2
    unfold turnS at q2
    cases hl : asgP p d with
    | none => rw [hl] at q2; exact q2.elim
    | some l =>
      rw [hl] at q2
      refine ⟨dk, F3, d, l, n3.st.sub, rd, hl, fun lv pr => ?_⟩
      refine ⟨dk, _, s2, F3, EnvR.setAll pr (er2.mono n3.sm), n3.st, ?_⟩
      have q3 := SPost.later n3 q2
      dsimp only at q3
      cases hg : g (setD δ2 l) s2 with
      | nx δ' s' =>
        rw [hg] at q3
        exact fun σ' F' H4 n4 er4 => ⟨δ', s', F', n2.trans (n3.trans n4), er4, SPost.later n4 q3⟩
      | ct δ' s' =>
        rw [hg] at q3
        exact fun σ' F' H4 n4 er4 => ⟨δ', s', F', n2.trans (n3.trans n4), er4, SPost.later n4 q3⟩
      | bk δ' s' => rw [hg] at q3; exact q3
      | rt d s' => rw [hg] at q3; exact q3
      | raise e δ' s' => rw [hg] at q3; exact q3
      | bad => rw [hg] at q3; exact q3
  · have ei : i = ds.length := by omega
    subst ei
    rw [List.drop_length, forD] at q2
    exact .inl ⟨J2 (Nat.le_refl _), q2 σ2 F2 H2 (Nxt.refl n2.st) er2⟩

/-! ### while: with so many turns at most -/
def whileD (c : FT) (b : FS) : Nat → FS
  | 0, _, _ => .bad
  | n + 1, δ, s => (c δ s).toS δ fun k s => if k = true then (match b δ s with
    | .nx δ' s' => whileD c b n δ' s'
    | .ct δ' s' => whileD c b n δ' s'
    | .bk δ' s' => .nx δ' s'
    | r => r) else .nx δ s
def whileS (fuel : DEnv → Deck → Nat) (c : FT) (b : FS) : FS := fun δ s => whileD c b (fuel δ s) δ s
theorem sv_while {fuel : DEnv → Deck → Nat} (hp : PassesOwn (model X.prog X.w) X.A X.env X.xe) (hc : TV X W c fc) (hb : BV X W body g) : SV X W (.While c body [] pos) (whileS fuel fc g) := by
  refine ps_weak (ps_while hp hc hb) fun Dn σ H ⟨dk, δ, s, F, er, st, q⟩ => ?_
  refine ⟨fun m σ' H' => ∃ δ' s' F', Stt X.K dk F' H' s' ∧ EnvR X.K dk F' σ' δ' ∧ SPost X.K X.mg dk W F' H' Dn (whileD fc g m δ' s'), ⟨fuel δ s, δ, s, F, st, er, q⟩, ?_⟩
  rintro m σ2 H2 ⟨δ2, s2, F2, st2, er2, q2⟩
  cases m with
  | zero => exact q2.elim
  | succ m =>
    rw [whileD] at q2
    refine ⟨dk, δ2, s2, F2, er2, st2, SPost.ofE er2 q2 fun k s3 v F3 H3 n3 rr q3 => ?_⟩
    have rr : v = k := rr
    subst rr
    cases v with
    | false => exact q3 σ2 F3 H3 (Nxt.refl n3.st) (er2.mono n3.sm)
    | true =>
      rw [if_pos rfl] at q3 ⊢
      refine ⟨fun σ' H' => ∃ δ' s' F', Stt X.K dk F' H' s' ∧ EnvR X.K dk F' σ' δ' ∧ SPost X.K X.mg dk W F' H' Dn (whileD fc g m δ' s'), fun σ' H' z => ⟨m, Nat.lt_succ_self m, z⟩, dk, δ2, s3, F3, er2.mono n3.sm, n3.st, ?_⟩
      cases hg : g δ2 s3 with
      | nx δ' s' =>
        rw [hg] at q3
        exact fun σ' F' H4 n4 er4 => ⟨δ', s', F', n4.st, er4, SPost.later n4 q3⟩
      | ct δ' s' =>
        rw [hg] at q3
        exact fun σ' F' H4 n4 er4 => ⟨δ', s', F', n4.st, er4, SPost.later n4 q3⟩
      | bk δ' s' => rw [hg] at q3; exact q3
      | rt d s' => rw [hg] at q3; exact q3
      | raise e δ' s' => rw [hg] at q3; exact q3
      | bad => rw [hg] at q3; exact q3
end

/-! ### a def -/
/-- a def's worth, by its body's -/
def toR : RS → R D
  | .rt d s => .ok d s
  | .nx _ s => .ok .non s
  | .raise e _ s => .raise e s
  | _ => .bad
/-- the slots at the start: the arguments, then nothing -/
def startD (n : Nat) (ds : List D) : DEnv := ds.map some ++ List.replicate (n - ds.length) none
def defM (n : Nat) (g : FS) : List D → M D := fun ds s => toR (g (startD n ds) s)
section
variable {P : Program} {w : World} {K : PySem.W.Frag} {mg : Str → Option Value} {base : Heap}
theorem start_env {K : PySem.W.Frag} {dk : Addr} {F : Hp} {N : List Str} {vs : List V} {ds : List D} (h : RpAll K dk F vs ds) (hl : vs.length ≤ N.length) : EnvR K dk F (L2.start N vs) (startD N.length ds) := by
  have e := h.length
  refine ⟨by unfold L2.start startD; simp; omega, fun i d q => ?_⟩
  unfold startD at q
  by_cases hi : i < ds.length
  · rw [List.getElem?_append_left (by simpa using hi), List.getElem?_map] at q
    cases hd : ds[i]? with
    | none => rw [hd] at q; cases q
    | some d' =>
      rw [hd] at q
      have q' : some (some d') = some (some d) := q
      cases q'
      obtain ⟨v, hv, r⟩ := h.get hd
      refine ⟨v, ?_, r⟩
      unfold L2.start
      rw [List.getElem?_append_left (by simp; omega), List.getElem?_map, hv]
      rfl
  · rw [List.getElem?_append_right (by simpa using Nat.le_of_not_lt hi)] at q
    have z := List.mem_of_getElem? q
    have z2 := List.eq_of_mem_replicate z
    cases z2
theorem fn_def {x qual : Str} {st : Stmt} {f : Addr} {fd : FuncData} {N ps : List Str} {k : Nat} {g : FS} (Fn : Fun K x qual st f fd) (S : FnScope N ps (defScope st)) (hN : ps.length ≤ N.length)
    (hbody : ∀ (cdv : Value) (A : Around) (outer : List Env) (s : Shared) (H : Hp) (E : XK), Room k (A.deeper (PyProof.Rows.envOfC qual (defScope st) s.heap.objs.size f cdv)) →
      BV (cxOf (L2.CX P w) P w K mg base N qual (defScope st) f cdv A outer s H E) (fun cls d _ H => E cls d H) (defBody st) g) : FnOk P w K mg base (L2.CX P w) (k + 1) f fd ps (spD K mg ps.length (defM N.length g)) := by
  refine Fn.okX S (fun vs H Q E h => ?_) (fun cdv A outer s H vs Q E hr h => ?_)
  · obtain ⟨dk, ds, s, F, st, r, hl, _⟩ := h
    rw [r.length, hl]
  · obtain ⟨dk, ds, sd, F, st, r, hl, q⟩ := h
    refine ⟨_, hbody cdv A outer s H E hr, dk, startD N.length ds, sd, F, start_env r (by rw [r.length, hl]; exact hN), st, ?_⟩
    unfold defM at q
    cases hg : g (startD N.length ds) sd with
    | nx δ' s' => rw [hg] at q; exact fun σ' F' H' n er => q .non F' H' n .non
    | rt d s' => rw [hg] at q; exact fun v F' H' n rr => q v F' H' n rr
    | raise e δ' s' => rw [hg] at q; exact fun σ' C dd F' H' n er hm hx => q C dd F' H' n hm hx
    | bk δ' s' => rw [hg] at q; exact q.elim
    | ct δ' s' => rw [hg] at q; exact q.elim
    | bad => rw [hg] at q; exact q.elim
end
end FL

namespace FL
open PySem PySem.Spec L2

/-! ### defs that are called where nothing is being shown (repr) -/
structure FnG (P : Program) (w : World) (K : PySem.W.Frag) (mg : Str → Option Value) (base : Heap) (k : Nat) (f : Addr) (fd : FuncData) (ps : List Str) (sp : Sp) : Prop where
  len : ∀ vs H Q E, sp vs H Q E → vs.length = ps.length
  run : ∀ (A : Around) (outer : List Env) (s : Shared) (H : Hp) (args : Args) (us : List Value) (vs : List V) (Q : VK) (E : XK), Room k A → A.guards = some [] → Env0 P w K mg base A outer s H →
    BindsTo s fd args (ps.zip us) → Vals vs us → sp vs H Q E → codeAny (model P w) A (.call (.ref f) args) (CR (L2.CX P w) outer P w H s Q E) s
theorem FnG.mono {P : Program} {w : World} {K : PySem.W.Frag} {mg : Str → Option Value} {base : Heap} {j k : Nat} {f : Addr} {fd : FuncData} {ps : List Str} {sp : Sp} (Fn : FnG P w K mg base j f fd ps sp) (h : j ≤ k) : FnG P w K mg base k f fd ps sp :=
  ⟨Fn.len, fun A outer s H args us vs Q E hr => Fn.run A outer s H args us vs Q E (hr.mono h)⟩
theorem FnG.imp {P : Program} {w : World} {K : PySem.W.Frag} {mg : Str → Option Value} {base : Heap} {k : Nat} {f : Addr} {fd : FuncData} {ps : List Str} {sp sp' : Sp} (Fn : FnG P w K mg base k f fd ps sp) (h : ∀ vs H Q E, sp' vs H Q E → sp vs H Q E) : FnG P w K mg base k f fd ps sp' :=
  ⟨fun vs H Q E q => Fn.len vs H Q E (h _ _ _ _ q), fun A outer s H args us vs Q E hr hg e0 hb hv hs => Fn.run A outer s H args us vs Q E hr hg e0 hb hv (h _ _ _ _ hs)⟩
theorem fn_ofG {P : Program} {w : World} {K : PySem.W.Frag} {mg : Str → Option Value} {base : Heap} {x qual : Str} {st : Stmt} {f : Addr} {fd : FuncData} {N ps : List Str} {k : Nat} {sp : Sp} (Fn : Fun K x qual st f fd) (S : FnScope N ps (defScope st))
    (len : ∀ vs H Q E, sp vs H Q E → vs.length = ps.length)
    (hbody : ∀ (cdv : Value) (A : Around) (outer : List Env) (s : Shared) (H : Hp) (vs : List V) (Q : VK) (E : XK), Room k (A.deeper (PyProof.Rows.envOfC qual (defScope st) s.heap.objs.size f cdv)) → A.guards = some [] → sp vs H Q E →
      ∃ t, PSs (cxOf (L2.CX P w) P w K mg base N qual (defScope st) f cdv A outer s H E) (defBody st) t ∧ t { nx := fun _ H' => Q .non H', rt := Q } (L2.start N vs) H) : FnG P w K mg base (k + 1) f fd ps sp := by
  obtain ⟨oc, od, kV, doc, pm, an, cdv, ct, osl, rfl, lk, hcd⟩ := Fn.ex
  refine ⟨len, fun A outer s H args us vs Q E room hgd e0 bnd rel hsp => ?_⟩
  have hlen := len _ _ _ _ hsp
  have keep0 : ∀ b o, base.get? b = some o → s.heap.get? b = some o := fun b o e => (e0.bs b o e).1
  have kin : K.In s.heap := e0.mod.kin.keeps keep0
  have lim : s.heap.NoLimit := e0.mod.nolimit.keeps keep0
  refine codeAny_call_function room.depth (kin _ _ lk) rfl S.co S.gen rfl (PySem.W.codeRec_of kin hcd) (bnd _ _ _ _ ?_)
  refine wpAny_newFunctionEnv_cells S.kind (fun y hy => ?_) fun env he s1 cells => ?_
  · obtain ⟨n, v⟩ := y
    cases S.par n (List.of_mem_zip hy).1 with
    | inl q => exact .inl q
    | inr q => exact .inr ⟨q, PySem.W.cellsFrom_some _ _ _ (.inl q)⟩
  subst he
  refine ⟨lim.keeps cells.toInCall.keep, codeAny_func ?_⟩
  obtain ⟨t, ht, hq⟩ := hbody cdv A outer s H vs Q E (room.deeper _) hgd hsp
  have I := inv_start (CX := L2.CX P w) (E := E) S room.hd e0 hlen rel cells
  refine wpAny_mono (ht.run [] s1 (L2.start N vs) H _ I hq) (fun fl s' hs => ?_) fun e s' hs => hs
  cases fl with
  | ret u =>
    obtain ⟨v, σ', H', J, rv, q⟩ := hs
    exact ⟨v, H', J.os, J.bare, J.base, J.hok, rv, q⟩
  | next =>
    obtain ⟨σ', H', J, q⟩ := hs
    exact ⟨V.non, H', J.os, J.bare, J.base, J.hok, rfl, q⟩
  | brk => exact hs.elim fun _ h => h.elim fun _ h => h.2.elim
  | cont => exact hs.elim fun _ h => h.elim fun _ h => h.2.elim
section
variable {X : Cx} {k : Nat} {f : Addr} {fd : FuncData} {ps : List Str} {sp : Sp} {E : List (Option V) → XK} {x : Str} {p pos : Pos} {e : Expr} {es : List Expr} {t : TA} {ds : List Value} {dvs : List V}
theorem run_fnG {pins : List (Addr × Obj)} {σ : List (Option V)} {H : Hp} {s : Shared} {Q : VK} {us : List Value} {vs : List V} (Fn : FnG X.prog X.w X.K X.mg X.base k f fd ps sp) (hr : Room k X.A) (hgd : X.A.guards = some []) (hb : Binds X.K fd ps ds) (hd : Vals dvs ds) (hx : PassesAt (L2.CX X.prog X.w) X σ (E σ))
    (I : Inv X pins σ H s) (r : Vals vs us) (h : sp (vs ++ dvs) H Q (E σ)) : wpAny (model X.prog X.w) X.A (call (.ref f) us) (EP X pins σ Q) X.xe s := by
  have r2 := r.append hd
  have len2 : (us ++ ds).length = ps.length := by rw [← r2.length]; exact Fn.len _ _ _ _ h
  refine wpAny_call (codeAny_mono (Fn.run X.A X.stack s H ⟨us, []⟩ (us ++ ds) (vs ++ dvs) Q (E σ) hr hgd I.env0 (hb s us I.kIn len2) r2 h) fun r' s' hq => ?_)
  cases r' with
  | error er => exact hx pins H s er s' I hq
  | ok fl =>
    cases fl with
    | ret u => exact I.after hq
    | next => exact hq.elim
    | brk => exact hq.elim
    | cont => exact hq.elim
theorem pe_callG (Fn : FnG X.prog X.w X.K X.mg X.base k f fd ps sp) (hr : Room k X.A) (hgd : X.A.guards = some []) (hg : Gl X x) (hm : X.mg x = some (.ref f)) (hk : PySem.W.keepIn X.K (.ref f) = true) (hb : Binds X.K fd ps ds) (hd : Vals dvs ds) (hx : ∀ σ, PassesAt (L2.CX X.prog X.w) X σ (E σ))
    (ha : PA X (e :: es) t) (hdb : (x == ("__debug__" : Str)) = false := by decide) (he : starEach (e :: es) X.env = (false, eval e X.env) :: starEach es X.env := by rfl) (hpl : (backTo pos (starEach es X.env)).any (·.1) = false := by rfl) :
    PE X (.Call (.Name x p) (e :: es) [] pos) (fun σ H Q => t σ H fun vs H1 => sp (vs ++ dvs) H1 Q (E σ)) := by
  refine ⟨fun pins s σ H Q I h => ?_⟩
  refine wpAny_Call_Name_kw (ld_glob I hg hm ?_ hdb)
  refine PySem.W.callWith_K (h₀ := X.base) I.ok.mod.kin hk (thn (ha.run pos pins s σ H _ I h) fun us s1 hh => ?_) he hpl
  obtain ⟨vs, H1, I1, r, q⟩ := hh
  exact ⟨I1.kIn, run_fnG Fn hr hgd hb hd (hx σ) I1 r q⟩
end
section
variable {X : Cx} {W : WX} {a : Expr} {es : List Expr} {fs : FA} {pos p : Pos}
theorem ev_callG {x : Str} {k n : Nat} {fn : Addr} {fd : FuncData} {ps : List Str} {m : List D → M D} (G : FnG X.prog X.w X.K X.mg X.base k fn fd ps (spD X.K X.mg n m)) (hr : Room k X.A) (hgd : X.A.guards = some []) (hg : Gl X x) (hm : X.mg x = some (.ref fn)) (hk : PySem.W.keepIn X.K (.ref fn) = true) (hb : Binds X.K fd ps [])
    (tk : Takes X W) (ha : AV X W (a :: es) fs) (hdb : (x == ("__debug__" : Str)) = false := by decide) (he : starEach (a :: es) X.env = (false, eval a X.env) :: starEach es X.env := by rfl) (hpl : (backTo pos (starEach es X.env)).any (·.1) = false := by rfl) :
    EV X W (.Call (.Name x p) (a :: es) [] pos) (withA fs (callN n m)) := by
  refine pe_weak (pe_callG (E := WE W) (dvs := []) G hr hgd hg hm hk hb .nil (fun σ => passAt tk σ) ha hdb he hpl) fun σ H Q ⟨dk, δ, s, F, er, st, q⟩ => ?_
  refine ⟨dk, δ, s, F, er, st, EPost.bind q fun xs s1 vs F1 H1 n r q1 => ?_⟩
  unfold callN at q1
  split at q1
  · rename_i hl
    rw [List.append_nil]
    exact ⟨dk, xs, s1, F1, n.st, r, hl, q1⟩
  · exact q1.elim
end
section
variable {P : Program} {w : World} {K : PySem.W.Frag} {mg : Str → Option Value} {base : Heap}
theorem fn_defG {x qual : Str} {st : Stmt} {f : Addr} {fd : FuncData} {N ps : List Str} {k : Nat} {g : FS} (Fn : Fun K x qual st f fd) (S : FnScope N ps (defScope st)) (hN : ps.length ≤ N.length)
    (hbody : ∀ (cdv : Value) (A : Around) (outer : List Env) (s : Shared) (H : Hp) (E : XK), Room k (A.deeper (PyProof.Rows.envOfC qual (defScope st) s.heap.objs.size f cdv)) → A.guards = some [] →
      BV (cxOf (L2.CX P w) P w K mg base N qual (defScope st) f cdv A outer s H E) (fun cls d _ H => E cls d H) (defBody st) g) : FnG P w K mg base (k + 1) f fd ps (spD K mg ps.length (defM N.length g)) := by
  refine fn_ofG Fn S (fun vs H Q E h => ?_) (fun cdv A outer s H vs Q E hr hgd h => ?_)
  · obtain ⟨dk, ds, s, F, st, r, hl, _⟩ := h
    rw [r.length, hl]
  · obtain ⟨dk, ds, sd, F, st, r, hl, q⟩ := h
    refine ⟨_, hbody cdv A outer s H E hr hgd, dk, startD N.length ds, sd, F, start_env r (by rw [r.length, hl]; exact hN), st, ?_⟩
    unfold defM at q
    cases hg : g (startD N.length ds) sd with
    | nx δ' s' => rw [hg] at q; exact fun σ' F' H' n er => q .non F' H' n .non
    | rt d s' => rw [hg] at q; exact fun v F' H' n rr => q v F' H' n rr
    | raise e δ' s' => rw [hg] at q; exact fun σ' C dd F' H' n er hm hx => q C dd F' H' n hm hx
    | bk δ' s' => rw [hg] at q; exact q.elim
    | ct δ' s' => rw [hg] at q; exact q.elim
    | bad => rw [hg] at q; exact q.elim
end
end FL

namespace FL
open PySem PySem.Spec L2

/-! ### operators on trees -/
def pureM (o : Option D) : M D := fun s => match o with
  | some d => .ok d s
  | none => .bad
theorem epost_pure {K : PySem.W.Frag} {mg : Str → Option Value} {dk : Addr} {Wx : XK} {F H : Hp} {s : Deck} {o : Option D} {Q : VK} (st : Stt K dk F H s) (q : EPost K mg dk (RelD K dk) Wx F H Q (pureM o s)) : ∃ d, o = some d ∧ ∀ v, Rp K dk F v d → Q v H := by
  cases o with
  | none => exact q.elim
  | some d => exact ⟨d, rfl, fun v r => EPost.ok q st r⟩
def addM (a b : D) : M D := match a, b with
  | .int i, .int j => fun s => .ok (.int (i + j)) s
  | .str x, .str y => fun s => if x.length + y.length ≤ 16777216 then .ok (.str (x ++ y)) s else .bad
  | .lst x, .lst y => mkLst (x ++ y)
  | _, _ => fun _ => .bad
def rAddM : R2 := fun x y H Q => (rI0 fun i j => .int (i + j)) x y H Q ∨ (∃ i j, x = .str i ∧ y = .str j ∧ i.length + j.length ≤ sizeLine ∧ Q (.str (i ++ j)) H) ∨ rCat x y H Q
section
variable {X : Cx}
theorem op_addM : OpR X (binaryOp .Add) rAddM := op_add.or (op_add_str.or op_cat)
theorem m_add : OpM X rAddM addM := by
  intro dk Wx F H s x y dx dy Q st rx ry q
  unfold addM at q
  split at q
  · cases rx; cases ry
    exact .inl ⟨_, _, rfl, rfl, EPost.ok q st (.int _)⟩
  · cases rx; cases ry
    split at q
    · rename_i hz
      exact .inr (.inl ⟨_, _, rfl, rfl, by rw [sizeLine_eq]; exact hz, EPost.ok q st (.str _)⟩)
    · exact q.elim
  · cases rx with
    | lst h1 k1 =>
      cases ry with
      | lst h2 k2 =>
        obtain ⟨hz, hq⟩ := epost_lst st (k1.append k2) q
        rw [List.length_append] at hz
        exact .inr (.inr ⟨_, _, _, _, rfl, rfl, st.sub _ _ h1, st.sub _ _ h2, hz, hq⟩)
  · exact q.elim
/-- ints, under a condition -/
def intM (c : Int → Int → Bool) (g : Int → Int → D) (a b : D) : M D := match a, b with
  | .int i, .int j => fun s => if c i j = true then .ok (g i j) s else .bad
  | _, _ => fun _ => .bad
theorem m_int {C : Int → Int → Prop} {c : Int → Int → Bool} {g : Int → Int → V} {g' : Int → Int → D} (hc : ∀ i j, c i j = true → C i j) (hg : ∀ i j K dk F, Rp K dk F (g i j) (g' i j)) : OpM X (rI C g) (intM c g') := by
  intro dk Wx F H s x y dx dy Q st rx ry q
  unfold intM at q
  split at q
  · cases rx; cases ry
    split at q
    · rename_i hz
      exact ⟨_, _, rfl, rfl, hc _ _ hz, EPost.ok q st (hg _ _ _ _ _)⟩
    · exact q.elim
  · exact q.elim
theorem m_int0 {g : Int → Int → V} {g' : Int → Int → D} (hg : ∀ i j K dk F, Rp K dk F (g i j) (g' i j)) : OpM X (rI0 g) (intM (fun _ _ => true) g') := by
  intro dk Wx F H s x y dx dy Q st rx ry q
  unfold intM at q
  split at q
  · cases rx; cases ry
    rw [if_pos rfl] at q
    exact ⟨_, _, rfl, rfl, EPost.ok q st (hg _ _ _ _ _)⟩
  · exact q.elim
def subM : D → D → M D := intM (fun _ _ => true) fun i j => .int (i - j)
theorem m_sub : OpM X (rI0 fun i j => .int (i - j)) subM := m_int0 fun _ _ _ _ _ => .int _
def mulB (i j : Int) : Bool := decide (i.natAbs.log2 + j.natAbs.log2 < 1000000)
def mul64 (i j : Int) : Bool := decide ((-(2 ^ 64) < i ∧ i < 2 ^ 64) ∨ (-(2 ^ 64) < j ∧ j < 2 ^ 64))
def mulM : D → D → M D := intM (fun i j => mulB i j || mul64 i j) fun i j => .int (i * j)
theorem op_mulA : OpR X (binaryOp .Mult) (rI (fun i j => CMulW i j ∨ CMul i j) fun i j => .int (i * j)) := opI fun i j t u s Q E hc q => PyProof.Rows.mul_int q (hc.elim CMulW.ok CMul.ok)
theorem m_mul : OpM X (rI (fun i j => CMulW i j ∨ CMul i j) fun i j => .int (i * j)) mulM := m_int (fun i j h => by
  rcases Bool.or_eq_true_iff.mp h with h | h
  · exact .inl (show i.natAbs.log2 + j.natAbs.log2 < 1000000 from of_decide_eq_true h)
  · exact .inr (show (-(2 ^ 64) < i ∧ i < 2 ^ 64) ∨ (-(2 ^ 64) < j ∧ j < 2 ^ 64) from of_decide_eq_true h)) fun _ _ _ _ _ => .int _
def modM : D → D → M D := intM (fun _ j => decide (0 < j)) fun i j => .int (i % j)
theorem m_mod : OpM X (rI (fun _ j => 0 < j) fun i j => .int (i % j)) modM := m_int (fun _ _ h => of_decide_eq_true h) fun _ _ _ _ _ => .int _
def divB (j : Int) : Bool := decide (0 < j ∧ j.natAbs.log2 < 9000)
def fdivM : D → D → M D := intM (fun _ j => divB j) fun i j => .int (i / j)
theorem m_fdiv : OpM X (rI CDivW fun i j => .int (i / j)) fdivM := m_int (fun _ j h => (show 0 < j ∧ j.natAbs.log2 < 9000 from of_decide_eq_true h)) fun _ _ _ _ _ => .int _
def powB (i j : Int) : Bool := decide (0 ≤ j ∧ j ≤ 1000000 ∧ i.natAbs < 2 ^ 64)
def powM : D → D → M D := intM powB fun i j => .int (i ^ j.toNat)
theorem m_pow : OpM X (rI CPow fun i j => .int (i ^ j.toNat)) powM := m_int (fun i j h => (show 0 ≤ j ∧ j ≤ 1000000 ∧ i.natAbs < 2 ^ 64 from of_decide_eq_true h)) fun _ _ _ _ _ => .int _
def ltM : D → D → M D := intM (fun _ _ => true) fun i j => .bl (decide (i < j))
def leM : D → D → M D := intM (fun _ _ => true) fun i j => .bl (decide (i ≤ j))
def gtM : D → D → M D := intM (fun _ _ => true) fun i j => .bl (decide (j < i))
def geM : D → D → M D := intM (fun _ _ => true) fun i j => .bl (decide (j ≤ i))
theorem m_lt : OpM X (rI0 fun i j => .bl (decide (i < j))) ltM := m_int0 fun _ _ _ _ _ => .bl _
theorem m_le : OpM X (rI0 fun i j => .bl (decide (i ≤ j))) leM := m_int0 fun _ _ _ _ _ => .bl _
theorem m_gt : OpM X (rI0 fun i j => .bl (decide (j < i))) gtM := m_int0 fun _ _ _ _ _ => .bl _
theorem m_ge : OpM X (rI0 fun i j => .bl (decide (j ≤ i))) geM := m_int0 fun _ _ _ _ _ => .bl _
def negM (d : D) : M D := match d with
  | .int i => fun s => .ok (.int (-i)) s
  | _ => fun _ => .bad

/-! ### equality -/
mutual
def py : D → Option PyData
  | .non => some .none
  | .bl b => some (.bool b)
  | .int i => some (.int i)
  | .str x => some (.str x)
  | .lst xs => (pys xs).map .list
  | .tup xs => (pys xs).map .tuple
  | .dct kvs => (pykv kvs).map .dict
  | .deck => none
def pys : List D → Option (List PyData)
  | [] => some []
  | x :: xs => (py x).bind fun a => (pys xs).map fun b => a :: b
def pykv : List (Key × D) → Option (List (PyData × PyData))
  | [] => some []
  | (k, x) :: xs => (py x).bind fun a => (pykv xs).map fun b => ((match k with | .inl i => PyData.int i | .inr z => PyData.str z), a) :: b
end
mutual
theorem dp_of {K : PySem.W.Frag} {dk : Addr} {F H : Hp} (sm : Same F H) : ∀ {v : V} {d : D} {p : PyData}, Rp K dk F v d → py d = some p → p.canLay0 = true → Dp K H v p
  | _, _, _, .non, e, _ => by unfold py at e; cases e; exact .non
  | _, _, _, .bl b, e, _ => by unfold py at e; cases e; exact .bl b
  | _, _, _, .int b, e, _ => by unfold py at e; cases e; exact .int b
  | _, _, _, .str b, e, _ => by unfold py at e; cases e; exact .str b
  | _, _, p, .lst (ds := ds) h k, e, c => by
    rw [py] at e
    cases e2 : pys ds with
    | none => rw [e2] at e; cases e
    | some ps =>
      rw [e2] at e; cases e
      exact .lst (SqL.of (sm _ _ h)) (dpAll_of sm k e2 (by simpa [PyData.canLay0] using c))
  | _, _, p, .tup (ds := ds) h k, e, c => by
    rw [py] at e
    cases e2 : pys ds with
    | none => rw [e2] at e; cases e
    | some ps =>
      rw [e2] at e; cases e
      exact .tup (seqT sm h) (dpAll_of sm k e2 (by simpa [PyData.canLay0] using c))
  | _, _, p, .dct (ds := ds) h k1 k, e, c => by
    rw [py] at e
    cases e2 : pykv ds with
    | none => rw [e2] at e; cases e
    | some ps =>
      rw [e2] at e; cases e
      simp [PyData.canLay0] at c
  | _, _, _, .deck, e, _ => by unfold py at e; cases e
theorem dpAll_of {K : PySem.W.Frag} {dk : Addr} {F H : Hp} (sm : Same F H) : ∀ {v : List V} {d : List D} {p : List PyData}, RpAll K dk F v d → pys d = some p → PyData.canLayAll0 p = true → DpAll K H v p
  | _, _, _, .nil, e, _ => by unfold pys at e; cases e; exact .nil
  | _, _, p, .cons (d := d) (ds := ds) h k, e, c => by
    rw [pys] at e
    cases e1 : py d with
    | none => rw [e1] at e; cases e
    | some a =>
      rw [e1] at e
      cases e2 : pys ds with
      | none => rw [e2] at e; cases e
      | some b =>
        rw [e2] at e; cases e
        have c' : a.canLay0 = true ∧ PyData.canLayAll0 b = true := by simpa [PyData.canLayAll0] using c
        exact .cons (dp_of sm h e1 c'.1) (dpAll_of sm k e2 c'.2)
end
def eqO (a b : D) : Option Bool := match py a, py b with
  | some p, some q => if SeqAt.shaped p = true then (if SeqAt.shaped q = true then some (PyData.eqv p q) else none) else none
  | _, _ => none
def eqM (a b : D) : M D := pureM ((eqO a b).map .bl)
def neM (a b : D) : M D := pureM ((eqO a b).map fun k => .bl (!k))
theorem eqO_some {K : PySem.W.Frag} {dk : Addr} {F H : Hp} {x y : V} {a b : D} {k : Bool} (sm : Same F H) (rx : Rp K dk F x a) (ry : Rp K dk F y b) (h : eqO a b = some k) : ∃ d e, Dp K H x d ∧ Dp K H y e ∧ SeqAt.shaped d = true ∧ SeqAt.shaped e = true ∧ k = PyData.eqv d e := by
  unfold eqO at h
  split at h
  · rename_i p q hp hq
    split at h
    · rename_i s1
      split at h
      · rename_i s2
        cases h
        exact ⟨p, q, dp_of sm rx hp (SeqAt.canLay_of_shaped s1), dp_of sm ry hq (SeqAt.canLay_of_shaped s2), s1, s2, rfl⟩
      · cases h
    · cases h
  · cases h
theorem m_eq : OpM X (rEqD X.K) eqM := by
  intro dk Wx F H s x y dx dy Q st rx ry q
  obtain ⟨d, e, hq⟩ := epost_pure st q
  cases h : eqO dx dy with
  | none => rw [h] at e; cases e
  | some k =>
    rw [h] at e; cases e
    obtain ⟨d1, d2, a1, a2, a3, a4, rfl⟩ := eqO_some st.sub rx ry h
    exact ⟨d1, d2, a1, a2, a3, a4, hq _ (.bl _)⟩
theorem m_ne : OpM X (rNeD X.K) neM := by
  intro dk Wx F H s x y dx dy Q st rx ry q
  obtain ⟨d, e, hq⟩ := epost_pure st q
  cases h : eqO dx dy with
  | none => rw [h] at e; cases e
  | some k =>
    rw [h] at e; cases e
    obtain ⟨d1, d2, a1, a2, a3, a4, rfl⟩ := eqO_some st.sub rx ry h
    exact ⟨d1, d2, a1, a2, a3, a4, hq _ (.bl _)⟩

/-! ### subscripts, slices -/
def getM (a b : D) : M D := match a, b with
  | .lst xs, .int i => pureM (atI xs i)
  | .tup xs, .int i => pureM (atI xs i)
  | .str z, .int i => fun s => if z.length ≤ 16777216 then (match atI z.cps.toList i with | some c => .ok (.str ⟨#[c]⟩) s | none => .bad) else .bad
  | .deck, .int 0 => fun s => .ok (.lst (s.cells.map .int)) s
  | .deck, .int 1 => fun s => .ok (.int s.turn) s
  | .deck, .int 2 => fun s => .ok (.int s.left) s
  | _, _ => fun _ => .bad
theorem atI_rp {K : PySem.W.Frag} {dk : Addr} {F : Hp} {vs : List V} {ds : List D} {i : Int} {d : D} (r : RpAll K dk F vs ds) (h : atI ds i = some d) : ∃ v, atI vs i = some v ∧ Rp K dk F v d := by
  unfold atI at h ⊢
  rw [r.length]
  cases e : ixN ds.length i with
  | none => rw [e] at h; cases h
  | some j =>
    rw [e] at h
    exact r.get h
theorem ints_rp {K : PySem.W.Frag} {dk : Addr} {F : Hp} : ∀ ns : List Int, RpAll K dk F (ns.map V.int) (ns.map D.int)
  | [] => .nil
  | n :: ns => .cons (.int n) (ints_rp ns)
def rGet (K : PySem.W.Frag) : R2 := fun x y H Q => (∃ p xs i v, x = .ref p ∧ y = .int i ∧ SqL K H p xs ∧ atI xs i = some v ∧ Q v H) ∨ rIxT K x y H Q ∨ rIxS x y H Q
theorem m_get : OpM X (rIx X.K) getM := by
  intro dk Wx F H s x y dx dy Q st rx ry q
  unfold getM at q
  split at q
  · cases rx with
    | lst h k =>
      cases ry
      obtain ⟨d, e, hq⟩ := epost_pure st q
      obtain ⟨v, hv, r⟩ := atI_rp k e
      exact .inl ⟨_, _, _, v, rfl, rfl, SqL.of (st.sub _ _ h), hv, hq v r⟩
  · cases rx with
    | tup h k =>
      cases ry
      obtain ⟨d, e, hq⟩ := epost_pure st q
      obtain ⟨v, hv, r⟩ := atI_rp k e
      exact .inr (.inl ⟨_, _, _, v, rfl, rfl, seqT st.sub h, hv, hq v r⟩)
  · cases rx; cases ry
    split at q
    · rename_i hz
      split at q
      · rename_i c hc
        exact .inr (.inr ⟨_, _, _, rfl, rfl, by rw [sizeLine_eq]; exact hz, hc, EPost.ok q st (.str _)⟩)
      · exact q.elim
    · exact q.elim
  · cases rx; cases ry
    obtain ⟨cl, h1, h2⟩ := st.deck
    exact .inl ⟨dk, _, 0, .ref cl, rfl, rfl, SqL.of h1, rfl, EPost.ok q st (.lst h2 (ints_rp _))⟩
  · cases rx; cases ry
    obtain ⟨cl, h1, h2⟩ := st.deck
    exact .inl ⟨dk, _, 1, .int s.turn, rfl, rfl, SqL.of h1, rfl, EPost.ok q st (.int _)⟩
  · cases rx; cases ry
    obtain ⟨cl, h1, h2⟩ := st.deck
    exact .inl ⟨dk, _, 2, .int s.left, rfl, rfl, SqL.of h1, rfl, EPost.ok q st (.int _)⟩
  · exact q.elim
variable {W : WX} {a b e : Expr} {f g : FE} {pos p2 : Pos}
theorem ev_get (ha : EV X W a f) (hb : EV X W b g) (hs : PlainIx b := by exact fun _ _ => rfl) : EV X W (.Subscript a b pos) (lift2 getM f g) :=
  pe_weak (pe_ix ix_seq ha hb hs) fun σ H Q q => two (fun _ _ _ z => z) (fun _ _ _ z => z) m_get q
/-- a slice's part -/
inductive Prt where
  | no
  | at (f : FE)
def prtM : Prt → DEnv → M (Option Int)
  | .no, _, s => .ok none s
  | .at f, δ, s => (f δ s).bind fun d s => match d with
    | .int i => .ok (some i) s
    | _ => .bad
def tPV (K : PySem.W.Frag) (mg : Str → Option Value) (W : WX) (f : DEnv → M (Option Int)) : TO := fun σ H Q => ∃ dk δ s F, EnvR K dk F σ δ ∧ Stt K dk F H s ∧ EPost K mg dk (fun _ (a b : Option Int) => a = b) (WE W σ) F H Q (f δ s)
def PV (X : Cx) (W : WX) (e : Option Expr) (f : Prt) : Prop := PO X e (tPV X.K X.mg W (prtM f))
theorem po_weak {X : Cx} {e : Option Expr} {t t' : TO} (h : PO X e t) (k : ∀ σ H Q, t' σ H Q → t σ H Q) : PO X e t' := ⟨fun pins s σ H Q I q => h.run pins s σ H Q I (k σ H Q q)⟩
theorem pv_no : PV X W none .no := po_weak po_none fun σ H Q ⟨dk, δ, s, F, er, st, q⟩ => EPost.ok (v := (none : Option Int)) q st rfl
theorem pv_at (h : EV X W a f) : PV X W (some a) (.at f) := by
  refine po_weak (po_some h) fun σ H Q ⟨dk, δ, s, F, er, st, q⟩ => ?_
  refine ⟨dk, δ, s, F, er, st, EPost.bind q fun x s1 v F1 H1 n rx q1 => ?_⟩
  cases rx with
  | int i => exact ⟨i, rfl, EPost.ok (v := some i) q1 n.st rfl⟩
  | _ => exact q1.elim
def cutD (xs : List D) (lo hi : Option Int) : List D := (xs.drop (HT.sIx xs.length 0 lo)).take (HT.sIx xs.length xs.length hi - HT.sIx xs.length 0 lo)
theorem cut_rp {K : PySem.W.Frag} {dk : Addr} {F : Hp} {vs : List V} {ds : List D} (lo hi : Option Int) (r : RpAll K dk F vs ds) : RpAll K dk F (cutV vs lo hi) (cutD ds lo hi) := by
  unfold cutV cutD
  rw [r.length]
  exact (r.drop _).take _
theorem sIx_le' (n : Nat) (lo : Option Int) (k : Nat) (h : k ≤ n) : HT.sIx n k lo ≤ n := HT.sIx_le _ _ h _
def slcM (d : D) (lo hi : Option Int) : M D := match d with
  | .lst xs => fun s => .ok (.lst (cutD xs lo hi)) s
  | .tup xs => fun s => .ok (.tup (cutD xs lo hi)) s
  | .str z => fun s => if z.length ≤ 16777216 then .ok (.str (cutS z lo hi)) s else .bad
  | _ => fun _ => .bad
def rSlc (K : PySem.W.Frag) : V → Option Int → Option Int → Hp → VK → Prop := fun x lo hi H Q => rSlL K x lo hi H Q ∨ rSlA K x lo hi H Q ∨ rSlS x lo hi H Q
theorem sl_all : SlR X (rSlc X.K) := sl_list.or (sl_tupA.or sl_str)
theorem cutD_whole {xs : List D} {lo hi : Option Int} (h : HT.sIx xs.length 0 lo = 0 ∧ HT.sIx xs.length xs.length hi = xs.length) : cutD xs lo hi = xs := by
  unfold cutD
  rw [h.1, h.2, List.drop_zero, Nat.sub_zero, List.take_length]
theorem m_slc {dk : Addr} {Wx : XK} {F H : Hp} {s : Deck} {x : V} {dx : D} {lo hi : Option Int} {Q : VK} (st : Stt X.K dk F H s) (rx : Rp X.K dk F x dx) (q : EPost X.K X.mg dk (RelD X.K dk) Wx F H Q (slcM dx lo hi s)) : rSlc X.K x lo hi H Q := by
  unfold slcM at q
  split at q
  · cases rx with
    | @lst a0 vs0 _ h k =>
      refine .inl ⟨_, _, rfl, SqL.of (st.sub _ _ h), fun p hp => ?_⟩
      have n := Nxt.new (o := .lst (cutV vs0 lo hi)) st hp
      exact q _ _ _ n (.lst upd_same ((cut_rp lo hi k).mono n.sm))
  · cases rx with
    | @tup a0 vs0 _ h k =>
      refine .inr (.inl ⟨_, _, rfl, seqT st.sub h, fun hw => ?_, fun hw p hp => ?_⟩)
      · rw [k.length] at hw
        rw [cutD_whole hw] at q
        exact EPost.ok q st (.tup h k)
      · have n := Nxt.new (o := .tup (cutV vs0 lo hi)) st hp
        exact q _ _ _ n (.tup (SqT.of upd_same) ((cut_rp lo hi k).mono n.sm))
  · cases rx
    split at q
    · rename_i hz
      exact .inr (.inr ⟨_, rfl, by rw [sizeLine_eq]; exact hz, EPost.ok q st (.str _)⟩)
    · exact q.elim
  · exact q.elim
def slcD (f : FE) (lo hi : Prt) : FE := fun δ s => (f δ s).bind fun x s => (prtM lo δ s).bind fun l s => (prtM hi δ s).bind fun u s => slcM x l u s
theorem ev_slc {lo hi : Option Expr} {pl ph : Prt} (ha : EV X W a f) (hl : PV X W lo pl) (hh : PV X W hi ph) : EV X W (.Subscript a (.Slice lo hi none p2) pos) (slcD f pl ph) := by
  refine pe_weak (pe_slice sl_all ha hl hh) fun σ H Q ⟨dk, δ, s, F, er, st, q⟩ => ?_
  refine ⟨dk, δ, s, F, er, st, EPost.bind q fun x s1 v F1 H1 n rx q1 => ?_⟩
  refine ⟨dk, δ, s1, F1, er.mono n.sm, n.st, EPost.bind q1 fun l s2 vl F2 H2 n2 rl q2 => ?_⟩
  have rl : vl = l := rl
  subst rl
  refine ⟨dk, δ, s2, F2, er.mono (n.sm.trans n2.sm), n2.st, EPost.bind q2 fun u s3 vu F3 H3 n3 ru q3 => ?_⟩
  have ru : vu = u := ru
  subst ru
  exact m_slc n3.st (rx.mono (n2.sm.trans n3.sm)) q3

/-! ### stores into the mixer -/
def putM (k : Int) (v : D) (s : Deck) : Option Deck := match k, v with
  | 1, .int i => some { s with turn := i }
  | 2, .int i => some { s with left := i }
  | _, _ => none
def putS (f : FE) (o : FE) (k : Int) : FS := fun δ s => (f δ s).toS δ fun v s => (o δ s).toS δ fun d s => match d with
  | .deck => match putM k v s with
    | some s' => .nx δ s'
    | none => .bad
  | _ => .bad
theorem Stt.put {K : PySem.W.Frag} {dk : Addr} {F H : Hp} {s : Deck} {cl : Addr} {i j : Int} (st : Stt K dk F H s) (h2 : F cl = some (.lst (s.cells.map V.int))) : Nxt K dk F H F (upd H dk (.lst [.ref cl, .int i, .int j])) { s with turn := i, left := j } := by
  refine ⟨Same.refl _, ⟨fun b u h => ?_, st.fdk, cl, upd_same, h2⟩, fun b o hb h => by rw [upd_ne hb]; exact h, fun b h _ => h⟩
  rw [upd_ne (fun z => by rw [z, st.fdk] at h; cases h)]
  exact st.sub b u h
theorem sv_put {o e : Expr} {k : Int} {fo : FE} {tpos : Pos} {j : Nat} {ip : Pos} (he : EV X W e f) (ho : EV X W o fo) (hsw : swapsWithSole [.Subscript o (.Constant (.int k) j ip) tpos] e pos.line X.env = pure false := by rfl) (hw : swappedStores [.Subscript o (.Constant (.int k) j ip) tpos] e X.env = pure none := by rfl)
    (h1 : (assignEach [.Subscript o (.Constant (.int k) j ip) tpos] X.env).map (·.2) = [assign (.Subscript o (.Constant (.int k) j ip) tpos) X.env] := by rfl)
    (ha : ∀ v, assign (.Subscript o (.Constant (.int k) j ip) tpos) X.env v = (do
      let ov ← holding [v] (eval o X.env)
      let iv ← holding [v, ov] (eval (.Constant (.int k) j ip) X.env)
      standAt tpos
      holding [v, ov, iv] (setItem ov iv v)
      release [v, ov, iv] []) := by intro _; rfl) :
    SV X W (.Assign [.Subscript o (.Constant (.int k) j ip) tpos] e pos) (putS f fo k) := by
  refine ps_weak (ps_asg he (pg_sub ho pe_int set_list ha) hsw hw h1) fun Dn σ H ⟨dk, δ, s, F, er, st, q⟩ => ?_
  refine ⟨dk, δ, s, F, er, st, SPost.ofE er q fun v s1 x F1 H1 n rx q1 => ?_⟩
  refine ⟨dk, δ, s1, F1, er.mono n.sm, n.st, SPost.ofE (er.mono n.sm) q1 fun d s2 y F2 H2 n2 ry q2 => ?_⟩
  cases ry with
  | deck =>
    dsimp only at q2
    obtain ⟨cl, c1, c2⟩ := n2.st.deck
    unfold putM at q2
    split at q2
    · rename_i s' hs
      split at hs
      · cases hs
        cases rx
        exact ⟨dk, _, 1, 1, rfl, rfl, c1, rfl, q2 σ F2 _ (Stt.put n2.st c2) (er.mono (n.sm.trans n2.sm))⟩
      · cases hs
        cases rx
        exact ⟨dk, _, 2, 2, rfl, rfl, c1, rfl, q2 σ F2 _ (Stt.put n2.st c2) (er.mono (n.sm.trans n2.sm))⟩
      · cases hs
    · exact q2.elim
  | _ => exact q2.elim
end
end FL

namespace FL
open PySem PySem.Spec L2

section
variable {X : Cx} {W : WX} {a b e : Expr} {es : List Expr} {f g : FE} {fs : FA} {pos p p1 p2 : Pos}
/-! ### len, abs, max, min, int, tuple, list, all, sorted, gcd -/
def lenM (ds : List D) : M D := fun s => match ds with
  | [.lst xs] => .ok (.int xs.length) s
  | [.tup xs] => .ok (.int xs.length) s
  | [.str z] => if z.length ≤ 16777216 then .ok (.int z.length) s else .bad
  | [.dct k] => .ok (.int k.length) s
  | _ => .bad
def rLen (X : Cx) : List V → Hp → VK → Prop := fun xs H Q => (∃ p ys, xs = [.ref p] ∧ (SqL X.K H p ys ∨ SqT X.K H p ys) ∧ Q (.int ys.length) H) ∨ (∃ z, xs = [.str z] ∧ z.length ≤ sizeLine ∧ Q (.int z.length) H) ∨ (∃ a kvs, xs = [V.ref a] ∧ H a = some (.dK kvs) ∧ Q (.int kvs.length) H)
theorem call_lenA : CallR X (.builtin "len") (rLen X) := call_len_seq.or (call_len_str.or call_lenD)
theorem m_len : CallM X (rLen X) lenM := by
  intro dk Wx F H s vs ds Q st r q
  unfold lenM at q
  split at q
  · cases r with
    | cons r1 r2 =>
      cases r2
      cases r1 with
      | lst h k =>
        rw [← k.length] at q
        exact .inl ⟨_, _, rfl, .inl (SqL.of (st.sub _ _ h)), EPost.ok q st (.int _)⟩
  · cases r with
    | cons r1 r2 =>
      cases r2
      cases r1 with
      | tup h k =>
        rw [← k.length] at q
        exact .inl ⟨_, _, rfl, .inr (seqT st.sub h), EPost.ok q st (.int _)⟩
  · cases r with
    | cons r1 r2 =>
      cases r2; cases r1
      split at q
      · rename_i hz
        exact .inr (.inl ⟨_, rfl, by rw [sizeLine_eq]; exact hz, EPost.ok q st (.int _)⟩)
      · exact q.elim
  · cases r with
    | cons r1 r2 =>
      cases r2
      cases r1 with
      | dct h e k =>
        have hl := congrArg List.length e
        simp only [List.length_map] at hl
        rw [← hl] at q
        exact .inr (.inr ⟨_, _, rfl, st.sub _ _ h, EPost.ok q st (.int _)⟩)
  · exact q.elim
def absM (ds : List D) : M D := fun s => match ds with
  | [.int i] => .ok (.int (if i < 0 then -i else i)) s
  | _ => .bad
theorem m_abs : CallM X (fun xs H Q => ∃ i, xs = [.int i] ∧ Q (.int (if i < 0 then -i else i)) H) absM := by
  intro dk Wx F H s vs ds Q st r q
  unfold absM at q
  split at q
  · cases r with
    | cons r1 r2 => cases r2; cases r1; exact ⟨_, rfl, EPost.ok q st (.int _)⟩
  · exact q.elim
def max2M (ds : List D) : M D := fun s => match ds with
  | [.int i, .int j] => .ok (.int (if j > i then j else i)) s
  | _ => .bad
theorem m_max2 : CallM X (fun xs H Q => ∃ i j, xs = [.int i, .int j] ∧ Q (.int (if j > i then j else i)) H) max2M := by
  intro dk Wx F H s vs ds Q st r q
  unfold max2M at q
  split at q
  · cases r with
    | cons r1 r2 => cases r2 with
      | cons r3 r4 => cases r4; cases r1; cases r3; exact ⟨_, _, rfl, EPost.ok q st (.int _)⟩
  · exact q.elim
def min2M (ds : List D) : M D := fun s => match ds with
  | [.int i, .int j] => .ok (.int (if j < i then j else i)) s
  | _ => .bad
theorem m_min2 : CallM X (fun xs H Q => ∃ i j, xs = [.int i, .int j] ∧ Q (.int (if j < i then j else i)) H) min2M := by
  intro dk Wx F H s vs ds Q st r q
  unfold min2M at q
  split at q
  · cases r with
    | cons r1 r2 => cases r2 with
      | cons r3 r4 => cases r4; cases r1; cases r3; exact ⟨_, _, rfl, EPost.ok q st (.int _)⟩
  · exact q.elim
def gcdM (ds : List D) : M D := fun s => match ds with
  | [.int i, .int j] => .ok (.int ((Nat.gcd i.natAbs j.natAbs : Nat) : Int)) s
  | _ => .bad
theorem m_gcd : CallM X rGcd gcdM := by
  intro dk Wx F H s vs ds Q st r q
  unfold gcdM at q
  split at q
  · cases r with
    | cons r1 r2 => cases r2 with
      | cons r3 r4 => cases r4; cases r1; cases r3; exact ⟨_, _, rfl, EPost.ok q st (.int _)⟩
  · exact q.elim
/-- a call of a module's name for a built-in function -/
theorem ev_callF {id : String} {x : Str} {r : List V → Hp → VK → Prop} {m : List D → M D} (hc : CallR X (.builtin id) r) (hm : CallM X r m) (hg : Gl X x) (hmg : X.mg x = some (.builtin id)) (ha : AV X W (a :: es) fs)
    (hdb : (x == ("__debug__" : Str)) = false := by decide) (he : starEach (a :: es) X.env = (false, eval a X.env) :: starEach es X.env := by rfl) (hpl : (backTo pos (starEach es X.env)).any (·.1) = false := by rfl) :
    EV X W (.Call (.Name x p) (a :: es) [] pos) (withA fs m) := pe_weak (pe_callBfun hc hg hmg ha hdb he hpl) (tcb hm)
def intM1 (ds : List D) : M D := fun s => match ds with
  | [.int i] => .ok (.int i) s
  | [.bl k] => .ok (.int (if k then 1 else 0)) s
  | [.str z] => match PySem.intText? z with
    | some n => if z.length ≤ 640 then .ok (.int n) s else .bad
    | none => .bad
  | _ => .bad
def rInt : List V → Hp → VK → Prop := fun xs H Q => ((∃ i, xs = [.int i] ∧ Q (.int i) H) ∨ ∃ k, xs = [.bl k] ∧ Q (.int (if k then 1 else 0)) H) ∨ (∃ a n, xs = [.str a] ∧ PySem.intText? a = some n ∧ a.length ≤ 640 ∧ Q (.int n) H)
theorem call_intA : CallR X (.type "int") rInt := call_int1.or call_int_str
theorem m_intc : CallM X rInt intM1 := by
  intro dk Wx F H s vs ds Q st r q
  unfold intM1 at q
  split at q
  · cases r with
    | cons r1 r2 => cases r2; cases r1; exact .inl (.inl ⟨_, rfl, EPost.ok q st (.int _)⟩)
  · cases r with
    | cons r1 r2 => cases r2; cases r1; exact .inl (.inr ⟨_, rfl, EPost.ok q st (.int _)⟩)
  · cases r with
    | cons r1 r2 =>
      cases r2; cases r1
      split at q
      · rename_i n hn
        split at q
        · rename_i hz; exact .inr ⟨_, _, rfl, hn, hz, EPost.ok q st (.int _)⟩
        · exact q.elim
      · exact q.elim
  · exact q.elim
def tupM (ds : List D) : M D := fun s => match ds with
  | [.lst xs] => .ok (.tup xs) s
  | [.tup xs] => .ok (.tup xs) s
  | _ => .bad
theorem m_tup : CallM X (fun xs H Q => ∃ p ys, xs = [.ref p] ∧ ((SqL X.K H p ys ∧ ∀ l, H l = none → Q (.ref l) (upd H l (.tup ys))) ∨ (SqT X.K H p ys ∧ Q (.ref p) H))) tupM := by
  intro dk Wx F H s vs ds Q st r q
  unfold tupM at q
  split at q
  · cases r with
    | cons r1 r2 =>
      cases r2
      cases r1 with
      | @lst a0 vs0 _ h k =>
        refine ⟨_, _, rfl, .inl ⟨SqL.of (st.sub _ _ h), fun l hl => ?_⟩⟩
        have n := Nxt.new (o := .tup vs0) st hl
        exact q _ _ _ n (.tup (SqT.of upd_same) (k.mono n.sm))
  · cases r with
    | cons r1 r2 =>
      cases r2
      cases r1 with
      | tup h k => exact ⟨_, _, rfl, .inr ⟨seqT st.sub h, EPost.ok q st (.tup h k)⟩⟩
  · exact q.elim
def lstM (ds : List D) : M D := fun s => match ds with
  | [.lst xs] => .ok (.lst xs) s
  | [.tup xs] => .ok (.lst xs) s
  | _ => .bad
theorem m_lst : CallM X (fun xs H Q => ∃ p ys, xs = [.ref p] ∧ (SqL X.K H p ys ∨ SqT X.K H p ys) ∧ ∀ l, H l = none → Q (.ref l) (upd H l (.lst ys))) lstM := by
  intro dk Wx F H s vs ds Q st r q
  unfold lstM at q
  split at q
  · cases r with
    | cons r1 r2 =>
      cases r2
      cases r1 with
      | @lst a0 vs0 _ h k =>
        refine ⟨_, _, rfl, .inl (SqL.of (st.sub _ _ h)), fun l hl => ?_⟩
        have n := Nxt.new (o := .lst vs0) st hl
        exact q _ _ _ n (.lst upd_same (k.mono n.sm))
  · cases r with
    | cons r1 r2 =>
      cases r2
      cases r1 with
      | @tup a0 vs0 _ h k =>
        refine ⟨_, _, rfl, .inr (seqT st.sub h), fun l hl => ?_⟩
        have n := Nxt.new (o := .lst vs0) st hl
        exact q _ _ _ n (.lst upd_same (k.mono n.sm))
  · exact q.elim
def boolsOf : List D → Option (List Bool)
  | [] => some []
  | .bl b :: r => (boolsOf r).map (b :: ·)
  | _ => none
def intsOf : List D → Option (List Int)
  | [] => some []
  | .int b :: r => (intsOf r).map (b :: ·)
  | _ => none
theorem bools_eq {K : PySem.W.Frag} {dk : Addr} {F : Hp} : ∀ {vs : List V} {ds : List D} {bs : List Bool}, RpAll K dk F vs ds → boolsOf ds = some bs → vs = bs.map V.bl
  | _, _, _, .nil, h => by unfold boolsOf at h; cases h; rfl
  | _, _, bs, .cons (ds := dr) (.bl b) t, h => by
    rw [boolsOf] at h
    cases e : boolsOf dr with
    | none => rw [e] at h; cases h
    | some l => rw [e] at h; cases h; rw [bools_eq t e]; rfl
  | _, _, _, .cons .non _, h => by unfold boolsOf at h; cases h
  | _, _, _, .cons (.int _) _, h => by unfold boolsOf at h; cases h
  | _, _, _, .cons (.str _) _, h => by unfold boolsOf at h; cases h
  | _, _, _, .cons (.lst _ _) _, h => by unfold boolsOf at h; cases h
  | _, _, _, .cons (.tup _ _) _, h => by unfold boolsOf at h; cases h
  | _, _, _, .cons (.dct _ _ _) _, h => by unfold boolsOf at h; cases h
  | _, _, _, .cons .deck _, h => by unfold boolsOf at h; cases h
theorem ints_eq {K : PySem.W.Frag} {dk : Addr} {F : Hp} : ∀ {vs : List V} {ds : List D} {bs : List Int}, RpAll K dk F vs ds → intsOf ds = some bs → vs = bs.map V.int
  | _, _, _, .nil, h => by unfold intsOf at h; cases h; rfl
  | _, _, bs, .cons (ds := dr) (.int b) t, h => by
    rw [intsOf] at h
    cases e : intsOf dr with
    | none => rw [e] at h; cases h
    | some l => rw [e] at h; cases h; rw [ints_eq t e]; rfl
  | _, _, _, .cons .non _, h => by unfold intsOf at h; cases h
  | _, _, _, .cons (.bl _) _, h => by unfold intsOf at h; cases h
  | _, _, _, .cons (.str _) _, h => by unfold intsOf at h; cases h
  | _, _, _, .cons (.lst _ _) _, h => by unfold intsOf at h; cases h
  | _, _, _, .cons (.tup _ _) _, h => by unfold intsOf at h; cases h
  | _, _, _, .cons (.dct _ _ _) _, h => by unfold intsOf at h; cases h
  | _, _, _, .cons .deck _, h => by unfold intsOf at h; cases h
def allM (ds : List D) : M D := fun s => match ds with
  | [.lst xs] => match boolsOf xs with
    | some bs => .ok (.bl (bs.all id)) s
    | none => .bad
  | _ => .bad
theorem m_all : CallM X (rAll X.K) allM := by
  intro dk Wx F H s vs ds Q st r q
  unfold allM at q
  split at q
  · cases r with
    | cons r1 r2 =>
      cases r2
      cases r1 with
      | lst h k =>
        split at q
        · rename_i bs hb
          have e := bools_eq k hb
          subst e
          exact ⟨_, bs, rfl, SqL.of (st.sub _ _ h), EPost.ok q st (.bl _)⟩
        · exact q.elim
  · exact q.elim
def anyM (ds : List D) : M D := fun s => match ds with
  | [.lst xs] => match boolsOf xs with
    | some bs => .ok (.bl (bs.any id)) s
    | none => .bad
  | _ => .bad
theorem m_any : CallM X (rAny X.K) anyM := by
  intro dk Wx F H s vs ds Q st r q
  unfold anyM at q
  split at q
  · cases r with
    | cons r1 r2 =>
      cases r2
      cases r1 with
      | lst h k =>
        split at q
        · rename_i bs hb
          have e := bools_eq k hb
          subst e
          exact ⟨_, bs, rfl, SqL.of (st.sub _ _ h), EPost.ok q st (.bl _)⟩
        · exact q.elim
  · exact q.elim
def insI (x : Int) : List Int → List Int
  | [] => [x]
  | y :: r => if x ≤ y then x :: y :: r else y :: insI x r
def sortI : List Int → List Int
  | [] => []
  | x :: r => insI x (sortI r)
theorem insI_perm (x : Int) : ∀ l, (insI x l).Perm (x :: l)
  | [] => .refl _
  | y :: r => by
    unfold insI
    split
    · exact .refl _
    · exact ((insI_perm x r).cons y).trans (.swap x y r)
theorem sortI_perm : ∀ l, (sortI l).Perm l
  | [] => .refl _
  | x :: r => (insI_perm x (sortI r)).trans ((sortI_perm r).cons x)
theorem insI_sorted (x : Int) : ∀ l, l.Pairwise (· ≤ ·) → (insI x l).Pairwise (· ≤ ·)
  | [], _ => List.pairwise_singleton _ _
  | y :: r, h => by
    unfold insI
    obtain ⟨h1, h2⟩ := List.pairwise_cons.mp h
    split
    · rename_i hxy
      refine List.pairwise_cons.mpr ⟨fun z hz => ?_, h⟩
      rcases List.mem_cons.mp hz with e | hz
      · rw [e]; exact hxy
      · exact Int.le_trans hxy (h1 z hz)
    · rename_i hxy
      refine List.pairwise_cons.mpr ⟨fun z hz => ?_, insI_sorted x r h2⟩
      rcases List.mem_cons.mp ((insI_perm x r).subset hz) with e | hz
      · rw [e]; omega
      · exact h1 z hz
theorem sortI_sorted : ∀ l, (sortI l).Pairwise (· ≤ ·)
  | [] => .nil
  | x :: r => insI_sorted x _ (sortI_sorted r)
def sortedM (ds : List D) : M D := fun s => match ds with
  | [.lst xs] => match intsOf xs with
    | some ns => .ok (.lst ((sortI ns).map .int)) s
    | none => .bad
  | _ => .bad
theorem m_sorted : CallM X (rSortedI X.K) sortedM := by
  intro dk Wx F H s vs ds Q st r q
  unfold sortedM at q
  split at q
  · cases r with
    | cons r1 r2 =>
      cases r2
      cases r1 with
      | lst h k =>
        split at q
        · rename_i ns hb
          have e := ints_eq k hb
          subst e
          refine ⟨_, ns, rfl, SqL.of (st.sub _ _ h), fun ns' p hp hs hn => ?_⟩
          have ee : ns' = sortI ns := PySem.W.ksm_same (hp.trans (sortI_perm ns).symm) hs (sortI_sorted ns)
          subst ee
          have n := Nxt.new (o := .lst ((sortI ns).map V.int)) st hn
          exact q _ _ _ n (.lst upd_same (ints_rp _))
        · exact q.elim
  · exact q.elim

/-! ### isinstance -/
def tyD : D → Option String
  | .non => some "NoneType"
  | .bl _ => some "bool"
  | .int _ => some "int"
  | .str _ => some "str"
  | .lst _ => some "list"
  | .tup _ => some "tuple"
  | .dct _ => some "dict"
  | .deck => some "list"
theorem tyX_of {K : PySem.W.Frag} {dk : Addr} {F H : Hp} {s : Deck} {v : V} {d : D} {t : String} (st : Stt K dk F H s) (r : Rp K dk F v d) (h : tyD d = some t) : TyX K H v (.type t) := by
  cases r with
  | non => cases h; exact .base .non
  | bl b => cases h; exact .base (.bl b)
  | int b => cases h; exact .base (.int b)
  | str b => cases h; exact .base (.str b)
  | lst h1 _ => cases h; exact .base (.lst (st.sub _ _ h1))
  | tup h1 _ =>
    cases h
    rcases h1 with (h1 | ⟨o, h1⟩) | ⟨o, its, n, h1, h2, _⟩
    · exact .base (.tup (st.sub _ _ h1))
    · exact .fTuple (st.sub _ _ h1)
    · exact .kTuple h1 h2
  | dct h1 _ _ => cases h; exact .base (.dK (st.sub _ _ h1))
  | deck =>
    cases h
    obtain ⟨cl, h1, _⟩ := st.deck
    exact .base (.lst h1)
def isiD (T : String) (d : D) : Option Bool := (tyD d).bind fun t => kitB t T
def isiF (f : FE) (T : String) : FE := fun δ s => (f δ s).bind fun x s => pureM ((isiD T x).map .bl) s
theorem ev_isi {T : Str} {Tn : String} (hg : Gl X "isinstance") (hm : X.mg "isinstance" = none) (hgT : Gl X T) (hmT : X.mg T = none) (hv : bootBuiltins T = some (.type Tn)) (ha : EV X W a f)
    (hnT : T ≠ "__name__" := by decide) (hdT : (T == ("__debug__" : Str)) = false := by decide)
    (h1 : starEach (a :: [.Name T p1]) X.env = (false, eval a X.env) :: starEach [.Name T p1] X.env := by rfl) (h2 : starEach (Expr.Name T p1 :: []) X.env = (false, eval (.Name T p1) X.env) :: starEach [] X.env := by rfl)
    (hpl : (backTo pos (starEach [.Name T p1] X.env)).any (·.1) = false := by rfl) :
    EV X W (.Call (.Name "isinstance" p) [a, .Name T p1] [] pos) (isiF f Tn) := by
  refine pe_weak (pe_callB call_isi hg hm (by decide +kernel) (pa_cons ha (pa_cons (pe_bltn (v := .ty Tn) hgT hmT hv rfl hnT hdT) pa_nil h2) h1) (by decide) (by decide) h1 hpl) fun σ H Q ⟨dk, δ, s, F, er, st, q⟩ => ?_
  refine ⟨dk, δ, s, F, er, st, EPost.bind q fun y s1 v F1 H1 n ry q1 => ?_⟩
  obtain ⟨d, e, hq⟩ := epost_pure n.st q1
  unfold isiD at e
  cases ht : tyD y with
  | none => rw [ht] at e; cases e
  | some t =>
    rw [ht] at e
    have e' : (kitB t Tn).map D.bl = some d := e
    cases hk : kitB t Tn with
    | none => rw [hk] at e'; cases e'
    | some k =>
      rw [hk] at e'; cases e'
      exact ⟨v, .ty Tn, .type t, .type Tn, k, rfl, .ty Tn, tyX_of n.st ry ht, kit_ty hk, hq _ (.bl _)⟩
/-- isinstance(x, (T, U)) -/
def isi2D (T U : String) (d : D) : Option Bool := (tyD d).bind fun t => (kitB t T).bind fun k => if k = true then some true else kitB t U
def isi2F (f : FE) (T U : String) : FE := fun δ s => (f δ s).bind fun x s => pureM ((isi2D T U x).map .bl) s
theorem ev_isi2 {T U : Str} {Tn Un : String} {kk : Nat} {tp : Pos} (hg : Gl X "isinstance") (hm : X.mg "isinstance" = none) (hgT : Gl X T) (hmT : X.mg T = none) (hv : bootBuiltins T = some (.type Tn)) (hgU : Gl X U) (hmU : X.mg U = none) (hvU : bootBuiltins U = some (.type Un)) (ha : EV X W a f)
    (hnT : T ≠ "__name__" := by decide) (hdT : (T == ("__debug__" : Str)) = false := by decide) (hnU : U ≠ "__name__" := by decide) (hdU : (U == ("__debug__" : Str)) = false := by decide)
    (h1 : starEach (a :: [.Tuple [.Name T p1, .Name U p2] kk tp]) X.env = (false, eval a X.env) :: starEach [.Tuple [.Name T p1, .Name U p2] kk tp] X.env := by rfl) (h2 : starEach (Expr.Tuple [.Name T p1, .Name U p2] kk tp :: []) X.env = (false, eval (.Tuple [.Name T p1, .Name U p2] kk tp) X.env) :: starEach [] X.env := by rfl)
    (h3 : starEach (Expr.Name T p1 :: [.Name U p2]) X.env = (false, eval (.Name T p1) X.env) :: starEach [.Name U p2] X.env := by rfl) (h4 : starEach (Expr.Name U p2 :: []) X.env = (false, eval (.Name U p2) X.env) :: starEach [] X.env := by rfl)
    (hpl : (backTo pos (starEach [.Tuple [.Name T p1, .Name U p2] kk tp] X.env)).any (·.1) = false := by rfl) :
    EV X W (.Call (.Name "isinstance" p) [a, .Tuple [.Name T p1, .Name U p2] kk tp] [] pos) (isi2F f Tn Un) := by
  refine pe_weak (pe_callB call_isiT hg hm (by decide +kernel) (pa_cons ha (pa_cons (pe_tup (pa_cons (pe_bltn (v := .ty Tn) hgT hmT hv rfl hnT hdT) (pa_cons (pe_bltn (v := .ty Un) hgU hmU hvU rfl hnU hdU) pa_nil h4) h3)) pa_nil h2) h1) (by decide) (by decide) h1 hpl) fun σ H Q ⟨dk, δ, s, F, er, st, q⟩ => ?_
  refine ⟨dk, δ, s, F, er, st, EPost.bind q fun y s1 v F1 H1 n ry q1 => ?_⟩
  refine ⟨by show 2 ≤ sizeLine; decide, fun tpA htp => ?_⟩
  have n2 := Nxt.new (o := .tup [.ty Tn, .ty Un]) n.st htp
  obtain ⟨d, e, hq⟩ := epost_pure n2.st (EPost.later n2 q1)
  unfold isi2D at e
  cases ht : tyD y with
  | none => rw [ht] at e; cases e
  | some t =>
    rw [ht] at e
    have e' : ((kitB t Tn).bind fun k => if k = true then some true else kitB t Un).map D.bl = some d := e
    cases hk : kitB t Tn with
    | none => rw [hk] at e'; cases e'
    | some k =>
      rw [hk] at e'
      have e2 : (if k = true then some true else kitB t Un).map D.bl = some d := e'
      have fin : ∀ r : Bool, (if k = true then some true else kitB t Un) = some r → PySem.W.kitAny X.K (.type t) [.type Tn, .type Un] = some r := by
        intro r hr
        refine kitAny_cons (kit_ty hk) (fun z => ?_) (fun z => ?_)
        · rw [z, if_neg Bool.false_ne_true] at hr
          refine kitAny_cons (kit_ty hr) (fun z => ?_) (fun z => z)
          rw [z]; rfl
        · rw [z, if_pos rfl] at hr; cases hr; rfl
      cases hr : (if k = true then some true else kitB t Un) with
      | none => rw [hr] at e2; cases e2
      | some r =>
        rw [hr] at e2; cases e2
        exact ⟨v, tpA, [.ty Tn, .ty Un], .type t, [.type Tn, .type Un], r, rfl, upd_same, .cons (.ty Tn) (.cons (.ty Un) .nil), tyX_of n2.st (ry.mono n2.sm) ht, fin r hr, hq _ (.bl _)⟩

/-! ### repr, where nothing is being shown -/
def rRepr (K : PySem.W.Frag) : List V → Hp → VK → Prop := fun xs H Q => ∃ (a : Addr) (p : PyData), xs = [.ref a] ∧ Dp K H (.ref a) p ∧ p.canLay0 = true ∧ p.showable = true ∧ p.depth ≤ 60 ∧ p.shown.length ≤ sizeLine ∧ Q (.str p.shown) H
theorem call_repr (hg : X.A.guards = some []) (hu : X.A.units + 64 < cLine) : CallR X (.builtin "repr") (rRepr X.K) := by
  intro pins s σ H xs us Q I r h
  obtain ⟨a, p, rfl, hd, hc, hs, hz, hl, q⟩ := h
  cases r with
  | cons r1 r2 =>
    cases r2
    cases r1
    obtain ⟨as, rd⟩ := Dp.reads I p _ _ hd rfl
    refine repr_of_reads' rd hs (PyData.noDict_hsm (PyData.hasDict_of_canLay p hc)) hg (by omega) (fun _ _ e => e) (fun h' u tk k => ?_) hl
    exact ⟨.str _, H, I.kept (t' := tk) k, ⟨_, rfl⟩, q⟩
def showP (p : PyData) : Bool := p.canLay0 && p.showable && decide (p.depth ≤ 60) && decide (p.shown.length ≤ 16777216)
def isRefD : D → Bool
  | .lst _ => true
  | .tup _ => true
  | _ => false
def reprM (ds : List D) : M D := fun s => match ds with
  | [d] => if isRefD d = true then (match py d with
    | some p => if showP p = true then .ok (.str p.shown) s else .bad
    | none => .bad) else .bad
  | _ => .bad
theorem m_repr : CallM X (rRepr X.K) reprM := by
  intro dk Wx F H s vs ds Q st r q
  unfold reprM at q
  split at q
  · rename_i d
    split at q
    · rename_i hr
      split at q
      · rename_i p hp
        split at q
        · rename_i hs
          unfold showP at hs
          simp only [Bool.and_eq_true, decide_eq_true_eq] at hs
          cases r with
          | cons r1 r2 =>
            cases r2
            have hD := dp_of st.sub r1 hp hs.1.1.1
            cases r1 with
            | lst h k => exact ⟨_, p, rfl, hD, hs.1.1.1, hs.1.1.2, hs.1.2, by rw [sizeLine_eq]; exact hs.2, EPost.ok q st (.str _)⟩
            | tup h k => exact ⟨_, p, rfl, hD, hs.1.1.1, hs.1.1.2, hs.1.2, by rw [sizeLine_eq]; exact hs.2, EPost.ok q st (.str _)⟩
            | _ => cases hr
        · exact q.elim
      · exact q.elim
    · exact q.elim
  · exact q.elim
end
end FL

namespace FL
open PySem PySem.Spec L2

section
variable {X : Cx} {W : WX} {a b e : Expr} {es : List Expr} {f g : FE} {fs : FA} {pos p p1 p2 kpos : Pos} {kws : List Keyword} {nm : Option Str}
def un1 (m : D → M D) (f : FE) : FE := fun δ s => (f δ s).bind m
theorem ev_neg (ha : EV X W a f) : EV X W (.UnaryOp .USub a pos) (un1 negM f) := by
  refine pe_weak (pe_un un_neg ha) fun σ H Q ⟨dk, δ, s, F, er, st, q⟩ => ?_
  refine ⟨dk, δ, s, F, er, st, EPost.bind q fun x s1 v F1 H1 n rx q1 => ?_⟩
  cases rx with
  | int i => exact ⟨i, rfl, EPost.ok q1 n.st (.int _)⟩
  | _ => exact q1.elim
/-! ### keywords -/
def KV' (X : Cx) (W : WX) (kws : List Keyword) (f : FA) : Prop := PK X kws (tAV X.K X.mg W f)
theorem pk_weak {t t' : TA} (h : PK X kws t) (k : ∀ σ H Q, t' σ H Q → t σ H Q) : PK X kws t' := ⟨fun pos pins s σ H Q I q => h.run pos pins s σ H Q I (k σ H Q q)⟩
theorem kv_nil : KV' X W [] av0 := pk_weak pk_nil fun σ H Q ⟨dk, δ, s, F, er, st, q⟩ => EPost.ok q st .nil
theorem kv_cons (ha : EV X W a f) (hb : KV' X W kws fs) : KV' X W (⟨nm, a, kpos⟩ :: kws) (avC f fs) := by
  refine pk_weak (pk_cons ha hb) fun σ H Q ⟨dk, δ, s, F, er, st, q⟩ => ?_
  refine ⟨dk, δ, s, F, er, st, EPost.bind q fun x s1 v F1 H1 n rx q1 => ?_⟩
  refine ⟨dk, δ, s1, F1, er.mono n.sm, n.st, EPost.bind q1 fun xs s2 us F2 H2 n2 rxs q2 => ?_⟩
  exact q2.ok n2.st (.cons (rx.mono n2.sm) rxs)
/-- all by keywords: parameter j is the perm[j]-th keyword -/
def permL {α : Type} (z : α) (perm : List Nat) (l : List α) : List α := perm.map fun i => l.getD i z
def KBind (K : PySem.W.Frag) (fd : FuncData) (ps ks : List Str) (perm : List Nat) : Prop := ∀ (s : Shared) (ws : List Value), K.In s.heap → ws.length = ks.length → BindsTo s fd ⟨[], ks.zip ws⟩ (ps.zip (permL .none perm ws))
theorem vals_perm {vs : List V} {us : List Value} (r : Vals vs us) (perm : List Nat) : Vals (permL .non perm vs) (permL .none perm us) := by
  induction perm with
  | nil => exact .nil
  | cons i r' ih =>
    refine .cons ?_ ih
    show RelV (vs.getD i V.non) (us.getD i Value.none)
    by_cases hi : i < vs.length
    · obtain ⟨u, h1, h2⟩ := r.get (List.getElem?_eq_getElem hi)
      rw [List.getD_eq_getElem?_getD, List.getD_eq_getElem?_getD, List.getElem?_eq_getElem hi, h1]
      exact h2
    · have hl := r.length
      rw [List.getD_eq_getElem?_getD, List.getD_eq_getElem?_getD, List.getElem?_eq_none (by omega), List.getElem?_eq_none (by omega)]
      exact rfl
theorem rp_perm {K : PySem.W.Frag} {dk : Addr} {F : Hp} {vs : List V} {ds : List D} (r : RpAll K dk F vs ds) (perm : List Nat) : RpAll K dk F (permL .non perm vs) (permL .non perm ds) := by
  induction perm with
  | nil => exact .nil
  | cons i r' ih =>
    refine .cons ?_ ih
    show Rp K dk F (vs.getD i V.non) (ds.getD i D.non)
    by_cases hi : i < ds.length
    · obtain ⟨u, h1, h2⟩ := r.get (List.getElem?_eq_getElem hi)
      rw [List.getD_eq_getElem?_getD, List.getD_eq_getElem?_getD, List.getElem?_eq_getElem hi, h1]
      exact h2
    · have hl := r.length
      rw [List.getD_eq_getElem?_getD, List.getD_eq_getElem?_getD, List.getElem?_eq_none (by omega), List.getElem?_eq_none (by omega)]
      exact .non
def callP (perm : List Nat) (n : Nat) (m : List D → M D) : List D → M D := fun ds => callN n m (permL .non perm ds)
theorem ev_callK {x : Str} {k n nk : Nat} {fn : Addr} {fd : FuncData} {ps ks : List Str} {m : List D → M D} {perm : List Nat} (G : FnG X.prog X.w X.K X.mg X.base k fn fd ps (spD X.K X.mg n m)) (hr : Room k X.A) (hgd : X.A.guards = some []) (hg : Gl X x) (hm : X.mg x = some (.ref fn)) (hk : PySem.W.keepIn X.K (.ref fn) = true) (hb : KBind X.K fd ps ks perm)
    (tk : Takes X W) (ha : KV' X W kws fs) (hall : (backToKw pos (keywordEach kws X.env)).all (·.1.isSome) = true := by rfl) (hks : (backToKw pos (keywordEach kws X.env)).filterMap (·.1) = ks := by rfl) (hnk : ks.length = nk := by rfl) (hdb : (x == ("__debug__" : Str)) = false := by decide)
    (hpl : ((backTo pos (starEach [] X.env)).any (·.1) || (backToKw pos (keywordEach kws X.env)).any (·.1.isNone)) = false := by rfl) :
    EV X W (.Call (.Name x p) [] kws pos) (withA fs fun ds => if ds.length = nk then callP perm n m ds else fun _ => .bad) := by
  refine ⟨fun pins s σ H Q I h => ?_⟩
  refine wpAny_Call_Name_kw (ld_glob I hg hm ?_ hdb)
  refine PySem.W.callWith_KW0 (h₀ := X.base) I.ok.mod.kin hk hall ?_ hpl
  obtain ⟨dk, δ, sd, F, er, st, q⟩ := h
  refine thn (ha.run pos pins s σ H _ I ⟨dk, δ, sd, F, er, st, EPost.bind q fun xs s1 vs F1 H1 n r q1 => (show ∃ xs s1 F1, Nxt X.K dk F H F1 H1 s1 ∧ RpAll X.K dk F1 vs xs ∧ EPost X.K X.mg dk (RelD X.K dk) (WE W σ) F1 H1 Q ((if xs.length = nk then callP perm _ m xs else fun _ => .bad) s1) from ⟨xs, s1, F1, n, r, q1⟩)⟩) fun ws s2 hh => ?_
  obtain ⟨vs, H2, I2, rz, xs, s1, F1, n, r, q1⟩ := hh
  refine ⟨I2.kIn, ?_⟩
  rw [hks]
  split at q1
  · rename_i hl
    unfold callP callN at q1
    split at q1
    · rename_i hln
      have len1 : ws.length = ks.length := by rw [← rz.length, r.length, hl, hnk]
      have r2 := vals_perm rz perm
      have hsp : spD X.K X.mg _ m (permL .non perm vs) H2 Q (WE W σ) := ⟨dk, _, s1, F1, n.st, rp_perm r perm, hln, q1⟩
      refine wpAny_call (codeAny_mono (G.run X.A X.stack s2 H2 ⟨[], ks.zip ws⟩ _ _ Q (WE W σ) hr hgd I2.env0 (hb s2 ws I2.kIn len1) r2 hsp) fun r' s' hq => ?_)
      cases r' with
      | error er => exact passAt tk σ pins H2 s2 er s' I2 hq
      | ok fl =>
        cases fl with
        | ret u => exact I2.after hq
        | next => exact hq.elim
        | brk => exact hq.elim
        | cont => exact hq.elim
    · exact q1.elim
  · exact q1.elim
/-! ### dict displays -/
def keyOf : D → Option Key
  | .int i => some (.inl i)
  | .str x => some (.inr x)
  | _ => none
def dctOf : List (D × D) → Option (List (Key × D))
  | [] => some []
  | (k, v) :: r => (keyOf k).bind fun k => (dctOf r).map fun r => (k, v) :: r
def mkDct (ps : List (D × D)) : M D := fun s => match dctOf ps with
  | some kvs => if decide ((kvs.map (·.1)).Nodup) = true then (if decide (kvs.length ≤ 15) = true then .ok (.dct kvs) s else .bad) else .bad
  | none => .bad
abbrev FP := DEnv → M (List (D × D))
def dv0 : FP := fun _ s => .ok [] s
def dvC (f g : FE) (h : FP) : FP := fun δ s => (f δ s).bind fun x s => (g δ s).bind fun y s => (h δ s).bind fun r s => .ok ((x, y) :: r) s
theorem ev_dict0 : EV X W (.Dict [] [] pos) (cst (.dct [])) := by
  refine pe_weak pe_dnewK fun σ H Q ⟨dk, δ, s, F, er, st, q⟩ => ?_
  intro pA hp
  have n := Nxt.new (o := .dK []) st hp
  exact q _ _ _ n (.dct upd_same rfl .nil)
def PairsP (K : PySem.W.Frag) (dk : Addr) (F : Hp) (vs : List (V × V)) (ds : List (D × D)) : Prop := RpAll K dk F (vs.map (·.1)) (ds.map (·.1)) ∧ RpAll K dk F (vs.map (·.2)) (ds.map (·.2))
def DVs (X : Cx) (W : WX) (trs : List (TE × TE)) (h : FP) : Prop := ∀ σ H (Q : List (V × V) → Hp → Prop), (∃ dk δ s F, EnvR X.K dk F σ δ ∧ Stt X.K dk F H s ∧ EPost X.K X.mg dk (fun F v d => PairsP X.K dk F v d) (WE W σ) F H Q (h δ s)) → tPairs trs σ H Q
theorem dvs_nil : DVs X W [] dv0 := fun σ H Q ⟨dk, δ, s, F, er, st, q⟩ => EPost.ok (v := []) q st ⟨.nil, .nil⟩
theorem dvs_cons {trs : List (TE × TE)} {h : FP} (hr : DVs X W trs h) : DVs X W ((tEV X.K X.mg W f, tEV X.K X.mg W g) :: trs) (dvC f g h) := fun σ H Q ⟨dk, δ, s, F, er, st, q⟩ => by
  refine ⟨dk, δ, s, F, er, st, EPost.bind q fun x s1 v F1 H1 n rx q1 => ?_⟩
  refine ⟨dk, δ, s1, F1, er.mono n.sm, n.st, EPost.bind q1 fun y s2 u F2 H2 n2 ry q2 => ?_⟩
  refine hr σ H2 _ ⟨dk, δ, s2, F2, er.mono (n.sm.trans n2.sm), n2.st, EPost.bind q2 fun r s3 rv F3 H3 n3 rr q3 => ?_⟩
  exact EPost.ok q3 n3.st ⟨.cons (rx.mono (n2.sm.trans n3.sm)) rr.1, .cons (ry.mono n3.sm) rr.2⟩
theorem putK_new {acc : List (Key × V)} {k : Key} {v : V} (h : k ∉ acc.map (·.1)) : putK acc k v = acc ++ [(k, v)] := by
  unfold putK
  rw [if_neg]
  intro z
  obtain ⟨kv, h1, h2⟩ := List.any_eq_true.mp z
  exact h (List.mem_map.mpr ⟨kv, h1, of_decide_eq_true h2⟩)
theorem merge_new : ∀ (more acc : List (Key × V)), ((acc ++ more).map (·.1)).Nodup → mergeK acc more = acc ++ more
  | [], acc, _ => by simp [mergeK]
  | (k, v) :: r, acc, h => by
    have h1 : k ∉ acc.map (·.1) := fun z => by
      rw [List.map_append] at h
      exact (List.nodup_append.mp h).2.2 k z k (by simp) rfl
    show mergeK (putK acc k v) r = _
    rw [putK_new h1, merge_new r (acc ++ [(k, v)]) (by rw [List.append_assoc]; exact h), List.append_assoc]
    rfl
theorem dct_pairs {K : PySem.W.Frag} {dk : Addr} {F : Hp} : ∀ {vs : List (V × V)} {ds : List (D × D)} {kds : List (Key × D)}, PairsP K dk F vs ds → dctOf ds = some kds →
    ∃ kvs : List (Key × V), vs = kvs.map (fun kv => (kV kv.1, kv.2)) ∧ kvs.map (·.1) = kds.map (·.1) ∧ RpAll K dk F (kvs.map (·.2)) (kds.map (·.2))
  | [], [], kds, _, h => by unfold dctOf at h; cases h; exact ⟨[], rfl, rfl, .nil⟩
  | [], _ :: _, _, ⟨h, _⟩, _ => by cases h
  | _ :: _, [], _, ⟨h, _⟩, _ => by cases h
  | (x, y) :: vr, (dx, dy) :: dr, kds, ⟨h1, h2⟩, h => by
    rw [dctOf] at h
    cases hk : keyOf dx with
    | none => rw [hk] at h; cases h
    | some k =>
      rw [hk] at h
      cases hr : dctOf dr with
      | none => rw [hr] at h; cases h
      | some kr =>
        rw [hr] at h; cases h
        cases h1 with
        | cons a1 a2 =>
          cases h2 with
          | cons b1 b2 =>
            obtain ⟨kvs, e1, e2, e3⟩ := dct_pairs (vs := vr) ⟨a2, b2⟩ hr
            have ek : x = kV k := by
              cases a1 with
              | int i => unfold keyOf at hk; cases hk; rfl
              | str i => unfold keyOf at hk; cases hk; rfl
              | _ => unfold keyOf at hk; cases hk
            exact ⟨(k, y) :: kvs, by rw [e1, ek]; rfl, by simp [e2], .cons b1 e3⟩
theorem EPost.bindAt {α β γ δ : Type} {K : PySem.W.Frag} {mg : Str → Option Value} {dk : Addr} {RR : Hp → β → α → Prop} {RS : Hp → δ → γ → Prop} {W : XK} {F H F' H' : Hp} {s : Deck} {Q : δ → Hp → Prop} {r : R α} {g : α → Deck → R γ} {P : β → Hp → Prop}
    (n1 : Nxt K dk F H F' H' s) (h : EPost K mg dk RS W F H Q (r.bind g)) (k : ∀ a s1 v F1 H1, Nxt K dk F' H' F1 H1 s1 → RR F1 v a → EPost K mg dk RS W F H Q (g a s1) → P v H1) : EPost K mg dk RR W F' H' P r := by
  cases r with
  | ok a s' => exact fun v F2 H2 n rr => k a s' v F2 H2 n rr h
  | raise e s' => exact EPost.later n1 h
  | bad => exact h
theorem ev_dict {keys : List (Option Expr)} {values : List Expr} {trs : List (TE × TE)} {h : FP} (hp : PPs X pos keys values trs) (hd : DVs X W trs h) (hall : keys.all (·.isSome) = true := by rfl) (hl : keys.length = values.length := by rfl) (h0 : keys ≠ [] := by exact List.cons_ne_nil _ _) (h15 : keys.length ≤ 15 := by decide) :
    EV X W (.Dict keys values pos) (fun δ s => (h δ s).bind mkDct) := by
  refine pe_weak (pe_disp hp hall hl h0 h15) fun σ H Q ⟨dk, δ, s, F, er, st, q⟩ => ?_
  intro pA hpA
  have fpA : F pA = none := st.sub.free hpA
  obtain ⟨cl, hdk, _⟩ := st.deck
  have hne : pA ≠ dk := fun z => by rw [z, hdk] at hpA; cases hpA
  have st1 : Stt X.K dk F (upd H pA (.dK [])) s := Nxt.upd (o := .dK []) st fpA hne
  have fr1 : Fr dk H (upd H pA (.dK [])) := fun b u _ e => by rw [upd_ne (ne_of_none e hpA)]; exact e
  have n1 : Nxt X.K dk F H F (upd H pA (.dK [])) s := ⟨Same.refl _, st1, fr1, fun _ e _ => e⟩
  refine hd σ _ _ ⟨dk, δ, s, F, er, st1, EPost.bindAt n1 q fun ds s2 vs F2 H2 n2 rv q2 => ?_⟩
  have hD2 : H2 pA = some (.dK []) := n2.fr _ _ hne upd_same
  have hF2 : F2 pA = none := n2.pv _ fpA (by rw [upd_same]; exact fun z => by cases z)
  unfold mkDct at q2
  split at q2
  · rename_i kds hk
    split at q2
    · rename_i hn
      split at q2
      · rename_i hz
        have hn' := of_decide_eq_true hn
        have hz' := of_decide_eq_true hz
        obtain ⟨kvs, e1, e2, e3⟩ := dct_pairs rv hk
        have hlen : kvs.length = kds.length := by have := congrArg List.length e2; simpa using this
        refine ⟨hD2, kvs, e1, by omega, ?_⟩
        rw [merge_new kvs [] (by rw [List.nil_append, e2]; exact hn'), List.nil_append]
        obtain ⟨cl2, k1, k2⟩ := n2.st.deck
        have sm2 : Same F2 (upd F2 pA (.dK kvs)) := fun b u e => by rw [upd_ne (fun z => by rw [z, hF2] at e; cases e)]; exact e
        have n12 := n1.trans n2
        refine q2 (.ref pA) (upd F2 pA (.dK kvs)) (upd H2 pA (.dK kvs)) ⟨n12.sm.trans sm2, ⟨fun b u e => ?_, by rw [upd_ne (Ne.symm hne)]; exact n2.st.fdk, cl2, by rw [upd_ne (Ne.symm hne)]; exact k1, sm2 _ _ k2⟩, fun b o hb e => by rw [upd_ne (ne_of_none e hpA)]; exact n12.fr b o hb e, fun b e1 e2 => ?_⟩ (.dct upd_same e2 (e3.mono sm2))
        · by_cases hb : b = pA
          · rw [hb] at e ⊢; rw [upd_same] at e ⊢; exact e
          · rw [upd_ne hb] at e ⊢; exact n2.st.sub b u e
        · rw [upd_ne (fun z => e2 (by rw [z]; exact hpA))]
          exact n12.pv b e1 e2
      · exact q2.elim
    · exact q2.elim
  · exact q2.elim
end
end FL

namespace FL
open PySem PySem.Spec L2

theorem hu64 {A : Around} {k : Nat} (hr : Room k A) : A.units + 64 < cLine := Nat.lt_of_le_of_lt (by omega) hr.un
/-- a def of the text stands under its name -/
def Here (K : PySem.W.Frag) (mg : Str → Option Value) (x : Str) (st : Stmt) : Prop := ∃ f fd, Fun K x x st f fd ∧ mg x = some (.ref f)
/-- .. and is worth m -/
def Worth (P : Program) (w : World) (K : PySem.W.Frag) (mg : Str → Option Value) (base : Heap) (k : Nat) (x : Str) (st : Stmt) (ps : List Str) (n : Nat) (m : List D → M D) : Prop :=
  ∃ f fd, FnG P w K mg base k f fd ps (spD K mg n m) ∧ Fun K x x st f fd ∧ mg x = some (.ref f)
section
variable {P : Program} {w : World} {K : PySem.W.Frag} {mg : Str → Option Value} {base : Heap} {x : Str} {st : Stmt} {ps N : List Str} {k n : Nat} {m : List D → M D} {g : FS}
theorem worth_mk (h : Here K mg x st) (S : FnScope N ps (defScope st)) (hN : ps.length ≤ N.length)
    (hbody : ∀ {f : Addr} (cdv : Value) (A : Around) (outer : List Env) (s : Shared) (H : Hp) (E : XK), Room k (A.deeper (PyProof.Rows.envOfC x (defScope st) s.heap.objs.size f cdv)) → A.guards = some [] →
      BV (cxOf (L2.CX P w) P w K mg base N x (defScope st) f cdv A outer s H E) (fun cls d _ H => E cls d H) (defBody st) g) : Worth P w K mg base (k + 1) x st ps ps.length (defM N.length g) := by
  obtain ⟨f, fd, Fn, hm⟩ := h
  exact ⟨f, fd, fn_defG Fn S hN hbody, Fn, hm⟩
theorem worth_zero (h : Here K mg x st) (hb : ∀ ds s, m ds s = .bad) : Worth P w K mg base k x st ps n m := by
  obtain ⟨f, fd, Fn, hm⟩ := h
  have no : ∀ vs H Q E, ¬ spD K mg n m vs H Q E := fun vs H Q E ⟨dk, ds, s, F, st, r, hl, q⟩ => by rw [hb] at q; exact q
  exact ⟨f, fd, ⟨fun vs H Q E q => absurd q (no _ _ _ _), fun A outer s H args us vs Q E _ _ _ _ _ q => absurd q (no _ _ _ _)⟩, Fn, hm⟩
theorem Worth.mono (h : Worth P w K mg base k x st ps n m) {j : Nat} (hk : k ≤ j) : Worth P w K mg base j x st ps n m := by
  obtain ⟨f, fd, G, r⟩ := h
  exact ⟨f, fd, G.mono hk, r⟩
theorem Worth.imp (h : Worth P w K mg base k x st ps n m) {m' : List D → M D} (hm : ∀ ds s, ds.length = n → m' ds s ≠ .bad → m ds s = m' ds s) : Worth P w K mg base k x st ps n m' := by
  obtain ⟨f, fd, G, r⟩ := h
  refine ⟨f, fd, G.imp fun vs H Q E ⟨dk, ds, s, F, st, rr, hl, q⟩ => ⟨dk, ds, s, F, st, rr, hl, ?_⟩, r⟩
  by_cases hb : m' ds s = .bad
  · rw [hb] at q; exact q.elim
  · rw [hm ds s hl hb]; exact q
end
section
variable {X : Cx} {W : WX} {a : Expr} {es : List Expr} {fs : FA} {pos p : Pos} {kws : List Keyword} {x : Str} {st : Stmt} {k n : Nat} {ps : List Str} {m : List D → M D}
theorem ev_callW (Wt : Worth X.prog X.w X.K X.mg X.base k x st ps n m) (hr : Room k X.A) (hgd : X.A.guards = some []) (hg : Gl X x)
    (hbind : ∀ (kV doc pm : Value) (an : Option Addr) (cdv ct : Value) (us : List Value), us.length = ps.length → bindArgs (PySem.W.fnOf x x (defArgs st) (defBody st) (defScope st) .none kV doc pm an cdv ct) ⟨us, []⟩ = pure (ps.zip us))
    (tk : Takes X W) (ha : AV X W (a :: es) fs) (hdb : (x == ("__debug__" : Str)) = false := by decide) (he : starEach (a :: es) X.env = (false, eval a X.env) :: starEach es X.env := by rfl) (hpl : (backTo pos (starEach es X.env)).any (·.1) = false := by rfl) :
    EV X W (.Call (.Name x p) (a :: es) [] pos) (withA fs (callN n m)) := by
  obtain ⟨f, fd, G, Fn, hm⟩ := Wt
  exact ev_callG G hr hgd hg hm Fn.kp (Fn.binds hbind) tk ha hdb he hpl
def callKW (nk : Nat) (perm : List Nat) (n : Nat) (m : List D → M D) : List D → M D := fun ds => if ds.length = nk then callP perm n m ds else fun _ => .bad
theorem ev_callKW {ks : List Str} {perm : List Nat} (Wt : Worth X.prog X.w X.K X.mg X.base k x st ps n m) (hr : Room k X.A) (hgd : X.A.guards = some []) (hg : Gl X x)
    (hbind : ∀ (kV doc pm : Value) (an : Option Addr) (cdv ct : Value) (ws : List Value), ws.length = ks.length → bindArgs (PySem.W.fnOf x x (defArgs st) (defBody st) (defScope st) .none kV doc pm an cdv ct) ⟨[], ks.zip ws⟩ = pure (ps.zip (permL .none perm ws)))
    (tk : Takes X W) (ha : KV' X W kws fs) (hall : (backToKw pos (keywordEach kws X.env)).all (·.1.isSome) = true := by rfl) (hks : (backToKw pos (keywordEach kws X.env)).filterMap (·.1) = ks := by rfl) (hdb : (x == ("__debug__" : Str)) = false := by decide)
    (hpl : ((backTo pos (starEach [] X.env)).any (·.1) || (backToKw pos (keywordEach kws X.env)).any (·.1.isNone)) = false := by rfl) :
    EV X W (.Call (.Name x p) [] kws pos) (withA fs (callKW ks.length perm n m)) := by
  obtain ⟨f, fd, G, Fn, hm⟩ := Wt
  have kp := Fn.kp
  refine ev_callK (ks := ks) (perm := perm) G hr hgd hg hm kp (fun s ws _ hl => ?_) tk ha hall hks rfl hdb hpl
  obtain ⟨oc, od, kV, doc, pm, an, cdv, ct, osl, rfl, lk, hcd⟩ := Fn.ex
  exact .of_eq (hbind kV doc pm an cdv ct ws hl)
end
end FL

namespace FL
open PySem PySem.Spec L2

/-! ### the mixer is made -/
def spDeck (K : PySem.W.Frag) (N : Nat) : Sp := fun vs H Q _ => ∃ (a : Addr) (ns : List Int), vs = [.ref a] ∧ SqL K H a (ns.map V.int) ∧ ns.length ≤ 63 ∧
  ∀ (H' : Hp) (p cl : Addr), Same H H' → H p = none → p ≠ cl → H' p = some (.lst [.ref cl, .int 0, .int 0]) → H' cl = some (.lst ((ns.take N).map V.int)) → Q (.ref p) H'
def rIntT : List V → Hp → VK → Prop := fun xs H Q => (∃ i, xs = [.int i] ∧ Q (.int i) H) ∨ ∃ k, xs = [.bl k] ∧ Q (.int (if k then 1 else 0)) H
def tDeck (K : PySem.W.Frag) (N : Nat) : TS := tRet (tLst (tCons (tLc (iList K (tSl (rSlL K) (tVar 0) tNoPart (tPart (tC (.int N))))) (gName 1) tYes (tCB rIntT (tCons (tVar 1) tNil)) [1]) (tCons (tC (.int 0)) (tCons (tC (.int 0)) tNil))))
theorem cut_take (xs : List V) (N : Nat) : cutV xs none (some (N : Int)) = xs.take N := by
  unfold cutV HT.sIx
  simp only [List.drop_zero, Nat.sub_zero]
  have h : ¬ ((N : Int) < 0) := by omega
  rw [if_neg h]
  by_cases hn : N ≤ xs.length
  · congr 1
    omega
  · rw [List.take_of_length_le (by omega), List.take_of_length_le (by omega)]
theorem deck_reads {K : PySem.W.Frag} {N : Nat} {vs : List V} {H : Hp} {Q : VK} {E : XK} {n1 n2 : Str} (h : spDeck K N vs H Q E) : tDeck K N { nx := fun _ H' => Q .non H', rt := Q } (L2.start [n1, n2] vs) H := by
  obtain ⟨a, ns, rfl, hS, hl, k⟩ := h
  obtain ⟨ms, hms⟩ : ∃ ms, ms = ns.take N := ⟨_, rfl⟩
  rw [← hms] at k
  have hcut : cutV (ns.map V.int) none (some (N : Int)) = ms.map V.int := by rw [cut_take, ← List.map_take, hms]
  refine ⟨_, rfl, (N : Int), rfl, a, _, rfl, hS, fun p1 hp1 => ?_⟩
  rw [hcut]
  have s1 : Same H (upd H p1 (.lst (ms.map V.int))) := fun b o e => by rw [upd_ne (ne_of_none e hp1)]; exact e
  refine ⟨p1, rfl, ⟨_, SqL.of upd_same⟩, fun Dl hD => ?_⟩
  have hD0 : H Dl = none := s1.free hD
  have ne1 : p1 ≠ Dl := fun z => by rw [← z, upd_same] at hD; cases hD
  have hml : ms.length ≤ 63 := by rw [hms, List.length_take]; omega
  refine lc_list (K := K) (a := p1) (xs := ms.map V.int) (fun i H' => Same (upd H p1 (.lst (ms.map V.int))) H' ∧ H' Dl = some (.lst ((ms.take i).map V.int)))
    ⟨fun b o e => by rw [upd_ne (fun z => by rw [z, upd_ne (Ne.symm ne1), hD0] at e; cases e)]; exact e, by rw [upd_same]; rfl⟩ (fun i H' _ z => z.1.seq (SqL.of upd_same)) ?_ ?_
  · rintro i x H' hi ⟨sm, hd⟩
    obtain ⟨z, hz, rfl⟩ : ∃ z, ms[i]? = some z ∧ x = V.int z := by
      rw [List.getElem?_map] at hi
      cases e : ms[i]? with
      | none => rw [e] at hi; cases hi
      | some z => rw [e] at hi; exact ⟨z, rfl, (Option.some.inj hi).symm⟩
    refine ⟨rfl, ?_⟩
    unfold tYes
    refine iteT ?_
    refine ⟨V.int z, rfl, .inl ⟨z, rfl, ?_⟩⟩
    refine ⟨_, hd, ?_, ?_, ?_⟩
    · rw [List.length_map, List.length_take, sizeLine_eq]; omega
    · exact fun b o e => by
        rw [upd_ne (fun q => by rw [q, upd_ne (Ne.symm ne1), hD0] at e; cases e)]
        exact sm b o e
    · rw [upd_same]
      have e2 : ms.take (i + 1) = ms.take i ++ [z] := by
        obtain ⟨hlt, e3⟩ := List.getElem?_eq_some_iff.mp hz
        rw [List.take_succ, hz]
        rfl
      rw [e2, List.map_append]
      rfl
  · rintro H' ⟨sm, hd⟩
    rw [List.length_map, List.take_length] at hd
    refine ⟨by show 3 ≤ sizeLine; decide, fun p hp => ?_⟩
    have ne2 : Dl ≠ p := ne_of_none hd hp
    have hp0 : H p = none := s1.free (sm.free hp)
    refine k _ p Dl (fun b o e => ?_) hp0 (Ne.symm ne2) upd_same (by rw [upd_ne ne2, hd])
    rw [upd_ne (ne_of_none e hp0)]
    exact sm b o (by rw [upd_ne (ne_of_none e hp1)]; exact e)

/-! ### the law -/
def spLawG (K : PySem.W.Frag) : Sp := fun vs H Q _ => ∃ (a : Addr) (ns : List Int), vs = [.ref a] ∧ SqL K H a (ns.map V.int) ∧ ns.length ≤ 63 ∧ ∀ H', Q (.bl true) H'
def deck0 (n : Nat) : DEnv := (List.replicate n none).set 1 (some .deck)
/-- the def that makes the mixer -/
def DeckOk (P : Program) (w : World) (K : PySem.W.Frag) (mg : Str → Option Value) (base : Heap) (k : Nat) (x : Str) (st : Stmt) (ps : List Str) (N : Nat) : Prop :=
  ∃ f fd, FnG P w K mg base k f fd ps (spDeck K N) ∧ Fun K x x st f fd ∧ mg x = some (.ref f)
theorem deck_mk {P : Program} {w : World} {K : PySem.W.Frag} {mg : Str → Option Value} {base : Heap} {k N : Nat} {x n1 n2 : Str} {st : Stmt} (h : Here K mg x st) (S : FnScope [n1, n2] [n1] (defScope st))
    (hbody : ∀ {f : Addr} (cdv : Value) (A : Around) (outer : List Env) (s : Shared) (H : Hp) (E : XK), Room k (A.deeper (PyProof.Rows.envOfC x (defScope st) s.heap.objs.size f cdv)) → A.guards = some [] →
      PSs (cxOf (L2.CX P w) P w K mg base [n1, n2] x (defScope st) f cdv A outer s H E) (defBody st) (tDeck K N)) : DeckOk P w K mg base (k + 1) x st [n1] N := by
  obtain ⟨f, fd, Fn, hm⟩ := h
  refine ⟨f, fd, fn_ofG Fn S (fun vs H Q E h => ?_) (fun cdv A outer s H vs Q E hr hgd h => ?_), Fn, hm⟩
  · obtain ⟨a, ns, rfl, _⟩ := h
    rfl
  · exact ⟨_, hbody cdv A outer s H E hr hgd, deck_reads h⟩
def tDeckCall (K : PySem.W.Frag) (N : Nat) (E : List (Option V) → XK) : TS := tAsg (fun σ H Q => (tCons (tVar 0) tNil) σ H fun vs H1 => spDeck K N (vs ++ []) H1 Q (E σ)) (gName 1)
theorem law_reads {K : PySem.W.Frag} {mg : Str → Option Value} {W : WX} {N : Nat} {Nl : List Str} {g : FS} {vs : List V} {H : Hp} {Q : VK} {E : XK} {E' : List (Option V) → XK} (h : spLawG K vs H Q E) (hN : 2 ≤ Nl.length)
    (hm : ∀ cells : List Int, cells.length ≤ 63 → ∃ s', g (deck0 Nl.length) ⟨cells, 0, 0⟩ = .rt (.bl true) s') :
    tSeq (tDeckCall K N E') (tSV K mg W g) { nx := fun _ H' => Q .non H', rt := Q } (L2.start Nl vs) H := by
  obtain ⟨a, ns, rfl, hS, hl, k⟩ := h
  refine ⟨V.ref a, rfl, a, ns, rfl, hS, hl, fun H' p cl sm hp ne h1 h2 => ?_⟩
  obtain ⟨s', hs⟩ := hm (ns.take N) (by rw [List.length_take]; omega)
  refine ⟨p, deck0 Nl.length, ⟨ns.take N, 0, 0⟩, fun b => if b = p then none else H' b, ⟨?_, fun i d e => ?_⟩, ⟨fun b o e => ?_, if_pos rfl, cl, h1, ?_⟩, ?_⟩
  · unfold L2.start deck0
    simp
    omega
  · unfold deck0 at e
    by_cases hi : i = 1
    · subst hi
      rw [List.getElem?_set_self (by simp; omega)] at e
      cases e
      refine ⟨.ref p, List.getElem?_set_self (by unfold L2.start; simp; omega), .deck⟩
    · rw [List.getElem?_set_ne (Ne.symm hi)] at e
      have z := List.eq_of_mem_replicate (List.mem_of_getElem? e)
      cases z
  · by_cases hb : b = p
    · rw [if_pos hb] at e; cases e
    · rw [if_neg hb] at e; exact e
  · rw [if_neg (Ne.symm ne)]; exact h2
  · rw [hs]
    intro v F' H2 _ r
    cases r
    exact k H2
theorem law_mk {P : Program} {w : World} {K : PySem.W.Frag} {mg : Str → Option Value} {base : Heap} {k N : Nat} {st : Stmt} {Nl : List Str} {x0 : Str} {g : FS} (h : Here K mg "law" st) (S : FnScope Nl [x0] (defScope st)) (hN : 2 ≤ Nl.length)
    (hm : ∀ cells : List Int, cells.length ≤ 63 → ∃ s', g (deck0 Nl.length) ⟨cells, 0, 0⟩ = .rt (.bl true) s')
    (hbody : ∀ {f : Addr} (cdv : Value) (A : Around) (outer : List Env) (s : Shared) (H : Hp) (E : XK), Room k (A.deeper (PyProof.Rows.envOfC "law" (defScope st) s.heap.objs.size f cdv)) → A.guards = some [] →
      PSs (cxOf (L2.CX P w) P w K mg base Nl "law" (defScope st) f cdv A outer s H E) (defBody st) (tSeq (tDeckCall K N (WE fun cls d _ H => E cls d H)) (tSV K mg (fun cls d _ H => E cls d H) g))) :
    ∃ f fd, FnG P w K mg base (k + 1) f fd [x0] (spLawG K) ∧ Fun K "law" "law" st f fd ∧ mg "law" = some (.ref f) := by
  obtain ⟨f, fd, Fn, hm'⟩ := h
  refine ⟨f, fd, fn_ofG Fn S (fun vs H Q E h => ?_) (fun cdv A outer s H vs Q E hr hgd h => ?_), Fn, hm'⟩
  · obtain ⟨a, ns, rfl, _⟩ := h
    rfl
  · exact ⟨_, hbody cdv A outer s H E hr hgd, law_reads h hN hm⟩
theorem ps_deck {X : Cx} {k N : Nat} {x y n1 : Str} {st : Stmt} {W : WX} {arg : Expr} {p pos pos' pos2 : Pos} (Wd : DeckOk X.prog X.w X.K X.mg X.base k x st [n1] N) (hr : Room k X.A) (hgd : X.A.guards = some []) (hg : Gl X x)
    (hbind : ∀ (kV doc pm : Value) (an : Option Addr) (cdv ct : Value) (us : List Value), us.length = [n1].length → bindArgs (PySem.W.fnOf x x (defArgs st) (defBody st) (defScope st) .none kV doc pm an cdv ct) ⟨us, []⟩ = pure ([n1].zip us))
    (tk : Takes X W) (hN : X.N.Nodup) (hi : X.N[1]? = some y) (hy : Loc X.env.scope y) (ha : PE X arg (tVar 0)) (hdb : (x == ("__debug__" : Str)) = false := by decide) (he : starEach (arg :: []) X.env = (false, eval arg X.env) :: starEach [] X.env := by rfl) (hpl : (backTo pos (starEach [] X.env)).any (·.1) = false := by rfl)
    (hs : swapsWith (.Call (.Name x p) [arg] [] pos) (some (.Name y pos')) pos2.line X.env = pure false := by rfl) (hf : X.fn y = true ∨ X.env.scope.names.lookup y = some .local := by first | exact .inl rfl | exact .inr rfl | assumption) :
    PS X (.Assign [.Name y pos'] (.Call (.Name x p) [arg] [] pos) pos2) (tDeckCall X.K N (WE W)) := by
  obtain ⟨f, fd, G, Fn, hm⟩ := Wd
  exact ps_set (i := 1) hN hi hy (pe_callG (E := WE W) (dvs := []) G hr hgd hg hm Fn.kp (Fn.binds hbind) .nil (fun σ => passAt tk σ) (pa_cons ha pa_nil he) hdb he hpl) hs hf
end FL

namespace FL
open PySem PySem.Spec L2

/-! ### the end: the law's call, from a promise that holds where nothing is being shown -/
theorem callG {P : Program} {w : World} {K : PySem.W.Frag} {mg mb : Str → Option Value} {k : Nat} {fa a : Addr} {fd : FuncData} {x : Str} {st : Shared} {vs : List Value} {ns : List Int}
    (inK : K.In st.heap) (hmn : st.heap.Ns mainGlobals mg) (hbu : st.heap.Ns builtinsNs mb) (hbo : ∀ y : Str, y ≠ "__name__" → mb y = bootBuiltins y) (hno : st.heap.NoLimit) (hge : st.gens = #[])
    (hat : st.heap.get? a = some { cls := .type "list", data := .seq vs.toArray }) (hin : PyProof.Rows.IntsAre vs ns) (h63 : ns.length ≤ 63) (room : Room k callerA)
    (F : ∀ base : Heap, K.In base → base.Ns mainGlobals mg → FnG P w K mg base k fa fd [x] (spLawG K)) (hbd : ∀ (s : Shared) (u : Value), BindsTo s fd ⟨[u], []⟩ [(x, u)]) :
    codeAny (model P w) callerA (.call (.ref fa) ⟨[.ref a], []⟩) (fun r s' => r = .ok (.ret (.bool true)) ∧ OldK st.heap s'.heap ∧ s'.os = st.os ∧ PyProof.Rows.AllBare s'.gens) st := by
  have rel := L2.vals_ints hin
  have nV := hin.length
  have hsz : ns.length ≤ sizeLine := by rw [sizeLine_eq]; omega
  have main : ∀ H : Hp, L2.Only H → SqL K H a (ns.map V.int) → HOk P w H st.heap → (∀ b, H b ≠ none → b = a) → (H a ≠ none → K.lookup a = none) →
      codeAny (model P w) callerA (.call (.ref fa) ⟨[.ref a], []⟩) (fun r s' => r = .ok (.ret (.bool true)) ∧ OldK st.heap s'.heap ∧ s'.os = st.os ∧ PyProof.Rows.AllBare s'.gens) st := by
    intro H only scr ok one noK
    have hid : ∀ {b : Addr} {o : Obj}, st.heap.get? b = some o → H b = none → (hidT st.heap H).get? b = some o := fun z n => hidT_get z n
    have dictless : ∀ {b : Addr} {o : Obj} {es : Array DictEntry} {ep : Nat}, st.heap.get? b = some o → o.data = .dict es ep → H b = none := by
      intro b o es ep z dz
      cases q : H b with
      | none => rfl
      | some u =>
        have eb : b = a := one b (by rw [q]; simp)
        rw [eb, hat] at z
        cases z
        exact absurd dz (fun y => by cases (show Data.seq vs.toArray _ = Data.dict es ep from y))
    have nsH : ∀ {b : Addr} {m : Str → Option Value}, st.heap.Ns b m → (hidT st.heap H).Ns b m := by
      rintro b m ⟨o, es, ep, z, dz, r⟩
      exact ⟨o, es, ep, hid z (dictless z dz), dz, r⟩
    have kb : K.In (hidT st.heap H) := by
      intro b o z
      refine hid (inK b o z) ?_
      cases q : H b with
      | none => rfl
      | some u =>
        have eb : b = a := one b (by rw [q]; simp)
        rw [eb, noK (by rw [← eb, q]; simp)] at z
        cases z
    obtain ⟨mc, l1, l2⟩ := hno
    have md : Mod K mg (hidT st.heap H) := ⟨kb, nsH hmn, ⟨mb, nsH hbu, hbo⟩, ⟨mc, nsH l1, l2⟩⟩
    have env : Env0 P w K mg (hidT st.heap H) callerA [] st H := ⟨rfl, md, fun b o z => of_hidT z, Nat.le_of_eq (hidT_size _ _), trivial, fun b hb => absurd (show b ∈ ([] : List Addr) from hb) (by simp), ok, .of_eq hge⟩
    refine codeAny_mono ((F _ kb (nsH hmn)).run callerA [] st H ⟨[.ref a], []⟩ [.ref a] [.ref a] (fun v _ => v = .bl true) (fun _ _ _ => False) room rfl env (hbd st (.ref a)) (.cons rfl .nil) ⟨a, ns, rfl, scr, h63, fun _ => rfl⟩) fun r s' hr => ?_
    cases r with
    | error e =>
      obtain ⟨_, _, _, _, _, _, _, _, _, _, _, _, no⟩ := hr
      exact no.elim
    | ok fl =>
      cases fl with
      | next => exact hr.elim
      | brk => exact hr.elim
      | cont => exact hr.elim
      | ret u =>
        obtain ⟨v, H', os, bare, un, ok', rr, q⟩ := hr
        cases (show v = .bl true from q)
        cases (show u = Value.bool true from rr)
        refine ⟨rfl, OldK.of_keep fun b o z => ?_, os, bare⟩
        cases q2 : H b with
        | none => exact un.keep b o z q2 (fun y => absurd (show b ∈ ([] : List Addr) from y) (by simp)) (by simp)
        | some u =>
          rcases only b with y | ⟨ob, xs, y⟩
          · rw [q2] at y
            cases y
          · obtain ⟨g1, _⟩ := ok b _ y
            obtain ⟨g2, _⟩ := ok' b _ (un.frzs b ob _ y)
            rw [z] at g1
            cases g1
            exact g2
  cases hk : K.lookup a with
  | some o =>
    have z := inK a o hk
    rw [hat] at z
    cases z
    exact main (fun _ => none) (fun _ => .inl rfl) (.inr ⟨_, vs.toArray, _, hk, rfl, rfl, rfl, by rw [List.size_toArray, nV]; exact hsz, by simpa using rel⟩) (fun b u y => nomatch y) (fun b y => absurd rfl y) fun y => absurd rfl y
  | none =>
    obtain ⟨H, hH⟩ : ∃ H : Hp, H = fun b => if b = a then some (.frz { cls := .type "list", data := .seq vs.toArray } (.lst (ns.map V.int))) else none := ⟨_, rfl⟩
    have at_a : H a = some (.frz { cls := .type "list", data := .seq vs.toArray } (.lst (ns.map V.int))) := by rw [hH]; exact if_pos rfl
    have not_a : ∀ b, b ≠ a → H b = none := fun b n => by rw [hH]; exact if_neg n
    refine main H (fun b => ?_) (.inl (.inr ⟨_, at_a⟩)) (fun b u y => ?_) (fun b y => ?_) fun _ => hk
    · by_cases e : b = a
      · rw [e]; exact .inr ⟨_, _, at_a⟩
      · exact .inl (not_a b e)
    · by_cases e : b = a
      · subst e
        rw [at_a] at y
        cases y
        exact ⟨hat, by rw [List.length_map]; exact hsz, vs, _, rel, hat⟩
      · rw [not_a b e] at y
        cases y
    · by_cases e : b = a
      · exact e
      · exact absurd (not_a b e) y
theorem walkG {l : PySem.W.OpenLaw} {k : Nat} {q : Program} {loose : List Str} {XP : (Str → Option Value) → Heap → Prop} {YP : World → Heap → Prop} {d : DefRec} {K : Params → PySem.W.Frag} {x : Str} (h63 : l.most = some 63) (hdf : d.params.defaults = []) (room : Room k callerA)
    (hY : ∀ (w : World) (h : Heap), YP w h → (K w.params).In h)
    (F : ∀ (w : World) (mg : Str → Option Value) (fa : Addr) (h : Heap), (K w.params).In h → h.Ns mainGlobals mg → mg d.name = some (.ref fa) →
      ∃ fd : FuncData, (∀ (s : Shared) (u : Value), BindsTo s fd ⟨[u], []⟩ [(x, u)]) ∧ ∀ base : Heap, (K w.params).In base → base.Ns mainGlobals mg → FnG l.prog w (K w.params) mg base k fa fd [x] (spLawG (K w.params))) :
    PySem.W.WalkO q loose XP YP l.row.toRowW d [] (fun f vs => PySem.call f vs) :=
  Att.attach_call h63 hdf fun w s₀ s₁ mg mb fa o pm cd doc a vs ns G Y ho hd hcd hmg hobj hints hlen hg =>
    have inK := hY w _ Y
    have ⟨_, hb, hF⟩ := F w mg fa _ inK G.T.g hmg
    callG inK G.T.g G.T.b G.T.builtins G.T.nolimit hg hobj hints hlen room hF hb
end FL
namespace FL
open PySem PySem.Spec L2
/-! ### what the program's top has left -/
def At (K : PySem.W.Frag) (x : Str) (st : Stmt) : Prop := ∃ (f : Addr) (oc : Value) (od : Option Addr) (osl : Array (Option Value)) (kV dc pm : Value) (an : Option Addr) (cd ct : Value),
  PySem.W.nsIn K mainGlobals x = some (some (.ref f)) ∧ K.lookup f = some ⟨oc, od, .func (PySem.W.fnOf x x (defArgs st) (defBody st) (defScope st) .none kV dc pm an cd ct), osl⟩ ∧ PySem.W.codeIn K cd x = true ∧ PySem.W.keepIn K (.ref f) = true
theorem At.mk {K : PySem.W.Frag} {x : Str} {st : Stmt} {f : Addr} {oc : Value} {od : Option Addr} {osl : Array (Option Value)} {kV dc pm : Value} {an : Option Addr} {cd ct : Value} (a : PySem.W.nsIn K mainGlobals x = some (some (.ref f)))
    (l : K.lookup f = some ⟨oc, od, .func (PySem.W.fnOf x x (defArgs st) (defBody st) (defScope st) .none kV dc pm an cd ct), osl⟩) (c : PySem.W.codeIn K cd x = true) (k : PySem.W.keepIn K (.ref f) = true) : At K x st := ⟨f, oc, od, osl, kV, dc, pm, an, cd, ct, a, l, c, k⟩
theorem At.here {K : PySem.W.Frag} {h : Heap} {mg : Str → Option Value} {x : Str} {st : Stmt} (A : At K x st) (X : K.In h) (G : h.Ns mainGlobals mg) : Here K mg x st := by
  obtain ⟨f, oc, od, osl, kV, dc, pm, an, cd, ct, a, l, c, k⟩ := A
  exact ⟨f, _, fun_mk l c k, PySem.W.mg_of X G a⟩
theorem fun_one {K : PySem.W.Frag} {x y : Str} {st : Stmt} {f : Addr} {fd fd' : FuncData} (F : Fun K x y st f fd) (F' : Fun K x y st f fd') : fd = fd' := by
  obtain ⟨_, _, _, _, _, _, _, _, _, e1, l1, _⟩ := F.ex
  obtain ⟨_, _, _, _, _, _, _, _, _, e2, l2, _⟩ := F'.ex
  rw [l1] at l2
  have := congrArg (fun o => o.map Obj.data) l2
  simp only [Option.map_some] at this
  injection this with h
  injection h
end FL

namespace FL
open PySem PySem.Spec L2
/-! ### reckoning with mirrors: what each piece gives at what is known -/
section
variable {α β : Type} {a : α} {s s' : Deck} {e : Ex} {f g : FE} {fs gs : FS} {δ δ' : DEnv} {d d' : D} {k : Bool} {i j : Int} {xs ys : List D} {n : Nat} {m : List D → M D} {fa : FA} {ft fu : FT} {p : Pat}
@[simp] theorem q_bind {h : α → Deck → R β} : (R.ok a s).bind h = h a s := rfl
@[simp] theorem q_toS {h : α → Deck → RS} : (R.ok a s).toS δ h = h a s := rfl
@[simp] theorem q_toS_raise {h : α → Deck → RS} : (R.raise e s).toS δ h = .raise e δ s := rfl
@[simp] theorem q_rt : toR (.rt d s) = .ok d s := rfl
@[simp] theorem q_nx : toR (.nx δ s) = .ok .non s := rfl
@[simp] theorem q_raise : toR (.raise e δ s) = .raise e s := rfl
def RS.thn (r : RS) (g : FS) : RS := match r with
  | .nx δ s => g δ s
  | r => r
theorem q_seq : seqS fs gs δ s = (fs δ s).thn gs := by unfold seqS RS.thn; cases fs δ s <;> rfl
@[simp] theorem q_thn_nx : (RS.nx δ s).thn gs = gs δ s := rfl
@[simp] theorem q_thn_rt : (RS.rt d s).thn gs = .rt d s := rfl
@[simp] theorem q_thn_raise : (RS.raise e δ s).thn gs = .raise e δ s := rfl
theorem q_def {g : FS} {ds : List D} : defM n g ds s = toR (g (startD n ds) s) := rfl
theorem q_ite : iteS ft fs gs δ s = (ft δ s).toS δ fun k s => if k = true then fs δ s else gs δ s := rfl
theorem q_ret : retS f δ s = (f δ s).toS δ fun d s => .rt d s := rfl
theorem q_set {i : Nat} : setS i f δ s = (f δ s).toS δ fun d s => .nx (δ.set i (some d)) s := rfl
theorem q_drop : dropS f δ s = (f δ s).toS δ fun d s => .nx δ s := rfl
def nxO (l : Option (List (Nat × D))) (δ : DEnv) (s : Deck) : RS := match l with
  | some l => .nx (setD δ l) s
  | none => .bad
theorem q_asg : asgS p f δ s = (f δ s).toS δ fun d s => nxO (asgP p d) δ s := by unfold asgS nxO; rfl
@[simp] theorem q_nxO {l : List (Nat × D)} : nxO (some l) δ s = .nx (setD δ l) s := rfl
theorem q_for : forS fa p fs δ s = (fa δ s).toS δ fun xs s => forD (turnS p fs) xs δ s := rfl
@[simp] theorem q_for0 {b : D → FS} : forD b [] δ s = .nx δ s := rfl
theorem q_forC {b : D → FS} {x : D} (h : b x δ s = .nx δ' s') : forD b (x :: xs) δ s = forD b xs δ' s' := by show (match b x δ s with | .nx δ' s' => forD b xs δ' s' | .ct δ' s' => forD b xs δ' s' | .bk δ' s' => .nx δ' s' | r => r) = _; rw [h]
theorem q_forR {b : D → FS} {x : D} (h : b x δ s = .rt d s') : forD b (x :: xs) δ s = .rt d s' := by show (match b x δ s with | .nx δ' s' => forD b xs δ' s' | .ct δ' s' => forD b xs δ' s' | .bk δ' s' => .nx δ' s' | r => r) = _; rw [h]
def RS.frd (r : RS) (g : FS) : RS := match r with
  | .nx δ s => g δ s
  | .ct δ s => g δ s
  | .bk δ s => .nx δ s
  | r => r
theorem q_fc {b : D → FS} {x : D} : forD b (x :: xs) δ s = (b x δ s).frd fun δ s => forD b xs δ s := by
  show (match b x δ s with | .nx δ' s' => forD b xs δ' s' | .ct δ' s' => forD b xs δ' s' | .bk δ' s' => .nx δ' s' | r => r) = _
  unfold RS.frd
  cases b x δ s <;> rfl
@[simp] theorem q_frd_nx : (RS.nx δ s).frd gs = gs δ s := rfl
@[simp] theorem q_frd_rt : (RS.rt d s).frd gs = .rt d s := rfl
@[simp] theorem q_frd_ct : (RS.ct δ s).frd gs = gs δ s := rfl
@[simp] theorem q_frd_bk : (RS.bk δ s).frd gs = .nx δ s := rfl
theorem q_turn {i : Nat} : turnS (.nm i) fs d δ s = fs (δ.set i (some d)) s := rfl
def okO (o : Option (Option D)) (s : Deck) : R D := match o with
  | some (some d) => .ok d s
  | _ => .bad
theorem q_get {i : Nat} : getE i δ s = okO δ[i]? s := by unfold getE okO; rfl
@[simp] theorem q_okO : okO (some (some d)) s = .ok d s := rfl
theorem q_cst : cst d δ s = .ok d s := rfl
theorem q_lift {h : D → D → M D} : lift2 h f g δ s = (f δ s).bind fun x s => (g δ s).bind fun y s => h x y s := rfl
theorem q_un {h : D → M D} : un1 h f δ s = (f δ s).bind h := rfl
theorem q_with : withA fa m δ s = (fa δ s).bind m := rfl
theorem q_av0 : av0 δ s = .ok [] s := rfl
theorem q_avC : avC f fa δ s = (f δ s).bind fun x s => (fa δ s).bind fun xs s => .ok (x :: xs) s := rfl
theorem q_callN {ds : List D} : callN n m ds s = if ds.length = n then m ds s else .bad := rfl
theorem q_callKW {nk : Nat} {perm : List Nat} {ds : List D} : callKW nk perm n m ds s = if ds.length = nk then callN n m (permL .non perm ds) s else .bad := by unfold callKW callP; split <;> rfl
theorem q_andD : andD f g δ s = (f δ s).bind fun x s => (tru x s).bind fun k s => if k = true then g δ s else .ok x s := rfl
theorem q_orD : orD f g δ s = (f δ s).bind fun x s => (tru x s).bind fun k s => if k = true then .ok x s else g δ s := rfl
theorem q_notD : notD f δ s = (f δ s).bind fun x s => (tru x s).bind fun k s => .ok (.bl (!k)) s := rfl
theorem q_fAnd : fAnd ft fu δ s = (ft δ s).bind fun k s => if k = true then fu δ s else .ok false s := rfl
theorem q_fOr : fOr ft fu δ s = (ft δ s).bind fun k s => if k = true then .ok true s else fu δ s := rfl
theorem q_fNot : fNot ft δ s = (ft δ s).bind fun k s => .ok (!k) s := rfl
theorem q_fTru : fTru f δ s = (f δ s).bind tru := rfl
theorem q_fBoo : fBoo f δ s = (f δ s).bind boo := rfl
theorem q_ifD : ifD ft f g δ s = (ft δ s).bind fun k s => if k = true then f δ s else g δ s := rfl
theorem q_isN : isN f δ s = (f δ s).bind fun x s => .ok (.bl (isNone x)) s := rfl
theorem q_fIsN : fIsN f δ s = (f δ s).bind fun x s => .ok (isNone x) s := rfl
theorem q_fNotN : fNotN f δ s = (f δ s).bind fun x s => .ok (!isNone x) s := rfl
theorem q_isi {T : String} : isiF f T δ s = (f δ s).bind fun x s => pureM ((isiD T x).map .bl) s := rfl
theorem q_isi2 {T U : String} : isi2F f T U δ s = (f δ s).bind fun x s => pureM ((isi2D T U x).map .bl) s := rfl
@[simp] theorem q_pure : pureM (some d) s = .ok d s := rfl
@[simp] theorem q_none0 : isNone .non = true := rfl
@[simp] theorem q_none1 : isNone (.int i) = false := rfl
@[simp] theorem q_none2 : isNone (.lst xs) = false := rfl
@[simp] theorem q_none3 : isNone (.tup xs) = false := rfl
@[simp] theorem q_none4 : isNone (.bl k) = false := rfl
@[simp] theorem q_tru_bl : tru (.bl k) s = .ok k s := rfl
@[simp] theorem q_tru_int : tru (.int i) s = .ok (i != 0) s := rfl
@[simp] theorem q_tru_lst : tru (.lst xs) s = .ok (!xs.isEmpty) s := rfl
@[simp] theorem q_tru_tup : tru (.tup xs) s = .ok (!xs.isEmpty) s := rfl
@[simp] theorem q_tru_non : tru .non s = .ok false s := rfl
@[simp] theorem q_boo : boo (.bl k) s = .ok k s := rfl
theorem q_mkLst (h : xs.length ≤ 16777216) : mkLst xs s = .ok (.lst xs) s := by unfold mkLst small; rw [if_pos (decide_eq_true h)]
theorem q_mkTup (h : xs.length ≤ 16777216) : mkTup xs s = .ok (.tup xs) s := by unfold mkTup small; rw [if_pos (decide_eq_true h)]
@[simp] theorem q_seqL : seqM (.lst xs) s = .ok xs s := rfl
@[simp] theorem q_seqT : seqM (.tup xs) s = .ok xs s := rfl
@[simp] theorem q_lenL : lenM [.lst xs] s = .ok (.int xs.length) s := rfl
@[simp] theorem q_lenT : lenM [.tup xs] s = .ok (.int xs.length) s := rfl
@[simp] theorem q_eqI : eqM (.int i) (.int j) s = .ok (.bl (decide (i = j))) s := by
  have h : ∀ n : Int, SeqAt.shaped (PyData.int n) = true := fun n => rfl
  unfold eqM eqO pureM
  simp only [py, h, PyData.eqv, if_true, Option.map_some]
  by_cases e : i = j <;> simp [e]
@[simp] theorem q_neI : neM (.int i) (.int j) s = .ok (.bl (!decide (i = j))) s := by
  have h : ∀ n : Int, SeqAt.shaped (PyData.int n) = true := fun n => rfl
  unfold neM eqO pureM
  simp only [py, h, PyData.eqv, if_true, Option.map_some]
  by_cases e : i = j <;> simp [e]
@[simp] theorem q_lt : ltM (.int i) (.int j) s = .ok (.bl (decide (i < j))) s := rfl
@[simp] theorem q_le : leM (.int i) (.int j) s = .ok (.bl (decide (i ≤ j))) s := rfl
@[simp] theorem q_gt : gtM (.int i) (.int j) s = .ok (.bl (decide (j < i))) s := rfl
@[simp] theorem q_ge : geM (.int i) (.int j) s = .ok (.bl (decide (j ≤ i))) s := rfl
@[simp] theorem q_add : addM (.int i) (.int j) s = .ok (.int (i + j)) s := rfl
@[simp] theorem q_addL : addM (.lst xs) (.lst ys) s = mkLst (xs ++ ys) s := rfl
@[simp] theorem q_sub : subM (.int i) (.int j) s = .ok (.int (i - j)) s := rfl
@[simp] theorem q_neg : negM (.int i) s = .ok (.int (-i)) s := rfl
@[simp] theorem q_abs : absM [.int i] s = .ok (.int (if i < 0 then -i else i)) s := rfl
@[simp] theorem q_int : intM1 [.int i] s = .ok (.int i) s := rfl
@[simp] theorem q_intB : intM1 [.bl k] s = .ok (.int (if k then 1 else 0)) s := rfl
@[simp] theorem q_max : max2M [.int i, .int j] s = .ok (.int (if j > i then j else i)) s := rfl
@[simp] theorem q_gcd : gcdM [.int i, .int j] s = .ok (.int ((Nat.gcd i.natAbs j.natAbs : Nat) : Int)) s := rfl
@[simp] theorem q_tupL : tupM [.lst xs] s = .ok (.tup xs) s := rfl
theorem q_mod (h : 0 < j) : modM (.int i) (.int j) s = .ok (.int (i % j)) s := by unfold modM intM; simp [h]
theorem q_fdiv (h : 0 < j) (h2 : j.natAbs.log2 < 9000) : fdivM (.int i) (.int j) s = .ok (.int (i / j)) s := by unfold fdivM intM; simp [divB, h, h2]
theorem q_mul (h : -(2 ^ 64) < i ∧ i < 2 ^ 64) : mulM (.int i) (.int j) s = .ok (.int (i * j)) s := by
  unfold mulM intM
  simp only []
  rw [if_pos]
  exact Bool.or_eq_true_iff.mpr (.inr (decide_eq_true (.inl h)))
theorem q_mulR (h : -(2 ^ 64) < j ∧ j < 2 ^ 64) : mulM (.int i) (.int j) s = .ok (.int (i * j)) s := by
  unfold mulM intM
  simp only []
  rw [if_pos]
  exact Bool.or_eq_true_iff.mpr (.inr (decide_eq_true (.inr h)))
theorem q_pow (h : 0 ≤ j ∧ j ≤ 1000000 ∧ i.natAbs < 2 ^ 64) : powM (.int i) (.int j) s = .ok (.int (i ^ j.toNat)) s := by
  unfold powM intM
  simp only []
  rw [if_pos (show powB i j = true from decide_eq_true h)]
@[simp] theorem q_gL : getM (.lst xs) (.int i) s = pureM (atI xs i) s := rfl
@[simp] theorem q_gT : getM (.tup xs) (.int i) s = pureM (atI xs i) s := rfl
@[simp] theorem q_g0 : getM .deck (.int 0) s = .ok (.lst (s.cells.map .int)) s := rfl
@[simp] theorem q_g1 : getM .deck (.int 1) s = .ok (.int s.turn) s := rfl
@[simp] theorem q_g2 : getM .deck (.int 2) s = .ok (.int s.left) s := rfl
theorem q_put1 : putS f g 1 δ s = (f δ s).toS δ fun v s => (g δ s).toS δ fun d s => match d with
  | .deck => match putM 1 v s with
    | some s' => .nx δ s'
    | none => .bad
  | _ => .bad := rfl
theorem q_comp {b : D → Deck → R (Option D)} {h : D → D} : ∀ {xs : List D}, (∀ x ∈ xs, b x s = .ok (some (h x)) s) → compD b xs s = .ok (xs.map h) s
  | [], _ => rfl
  | x :: xs, hx => by
    unfold compD
    rw [hx x (List.mem_cons_self ..)]
    simp only []
    rw [q_comp fun y hy => hx y (List.mem_cons_of_mem _ hy)]
    rfl
theorem q_lc {src : FA} {vs : List Nat} : lcD src p vs ft f δ s = (src δ s).bind fun xs s => (compD (elemD p vs ft f δ) xs s).bind mkLst := rfl
theorem q_elem {vs : List Nat} {x : D} {l : List (Nat × D)} (h : asgP p x = some l) (h2 : patIn vs l = true) : elemD p vs yesT f δ x s = (f (setD (wipeE δ vs) l) s).bind fun y s => .ok (some y) s := by
  unfold elemD
  rw [h]
  simp only [h2, if_true]
  rfl
theorem q_bools : ∀ (l : List Bool), boolsOf (l.map D.bl) = some l
  | [] => rfl
  | b :: l => by simp [boolsOf, q_bools l]
theorem q_all {l : List Bool} : allM [.lst (l.map D.bl)] s = .ok (.bl (l.all id)) s := by
  unfold allM
  simp only [q_bools]
theorem q_isi2lt (d : D) : isi2D "list" "tuple" d = some (match d with | .lst _ => true | .tup _ => true | .deck => true | _ => false) := by cases d <;> rfl
end
theorem q_slc {f : FE} {lo hi : Prt} {δ : DEnv} {s : Deck} : slcD f lo hi δ s = (f δ s).bind fun x s => (prtM lo δ s).bind fun l s => (prtM hi δ s).bind fun u s => slcM x l u s := rfl
theorem q_prt0 {δ : DEnv} {s : Deck} : prtM .no δ s = .ok none s := rfl
def intR (r : R D) : R (Option Int) := r.bind fun d s => match d with
  | .int i => .ok (some i) s
  | _ => .bad
theorem q_prt1 {f : FE} {δ : DEnv} {s : Deck} : prtM (.at f) δ s = intR (f δ s) := rfl
theorem q_intR {i : Int} {s : Deck} : intR (.ok (.int i) s) = .ok (some i) s := rfl
theorem q_slcL {xs : List D} {lo hi : Option Int} {s : Deck} : slcM (.lst xs) lo hi s = .ok (.lst (cutD xs lo hi)) s := rfl
theorem q_slcT {xs : List D} {lo hi : Option Int} {s : Deck} : slcM (.tup xs) lo hi s = .ok (.tup (cutD xs lo hi)) s := rfl
theorem q_zipL {xs ys : List D} {s : Deck} : zipM [.lst xs, .lst ys] s = .ok (pairsZ xs ys) s := rfl
theorem q_zipT {xs ys : List D} {s : Deck} : zipM [.tup xs, .tup ys] s = .ok (pairsZ xs ys) s := rfl
theorem q_allp {α : Type} {p : α → Bool} {xs : List α} {s : Deck} : allM [.lst (xs.map fun x => D.bl (p x))] s = .ok (.bl (xs.all p)) s := by
  have h := q_all (l := xs.map p) (s := s)
  rw [List.map_map] at h
  rw [show (xs.map p).all id = xs.all p from by rw [List.all_map]; rfl] at h
  exact h
theorem q_asgN {i : Nat} {d : D} : asgP (.nm i) d = some [(i, d)] := by simp only [asgP]
theorem q_asgT {ps : List Pat} {xs : List D} : asgP (.tp ps) (.tup xs) = asgPs ps xs := by simp only [asgP]
theorem q_asgL {ps : List Pat} {xs : List D} : asgP (.tp ps) (.lst xs) = asgPs ps xs := by simp only [asgP]
theorem q_asgs0 : asgPs [] [] = some [] := by simp only [asgPs]
theorem q_asgsC {p : Pat} {ps : List Pat} {x : D} {xs : List D} : asgPs (p :: ps) (x :: xs) = (asgP p x).bind fun l => (asgPs ps xs).bind fun m => some (l ++ m) := by simp only [asgPs]
theorem q_and_bl {b c : Bool} {s : Deck} : (if b = true then R.ok (D.bl c) s else R.ok (D.bl b) s) = R.ok (D.bl (b && c)) s := by cases b <;> rfl
theorem q_or_bl {b c : Bool} {s : Deck} : (if b = true then R.ok (D.bl b) s else R.ok (D.bl c) s) = R.ok (D.bl (b || c)) s := by cases b <;> rfl
theorem q_c0 : ((0 : Nat) : Int) = 0 := rfl
theorem q_c1 : ((1 : Nat) : Int) = 1 := rfl
theorem q_c2 : ((2 : Nat) : Int) = 2 := rfl
theorem q_c3 : ((3 : Nat) : Int) = 3 := rfl
theorem q_c4 : ((4 : Nat) : Int) = 4 := rfl
theorem q_c5 : ((5 : Nat) : Int) = 5 := rfl
theorem q_c6 : ((6 : Nat) : Int) = 6 := rfl
theorem q_c9 : ((9 : Nat) : Int) = 9 := rfl
theorem q_c13 : ((13 : Nat) : Int) = 13 := rfl
def parO (i j : Nat) (ds : List D) (δ : DEnv) (s : Deck) : RS := match ds with
  | [d, e] => .nx ((δ.set i (some d)).set j (some e)) s
  | _ => .bad
theorem q_par {i j : Nat} {fa : FA} {δ : DEnv} {s : Deck} : parS i j fa δ s = (fa δ s).toS δ fun ds s => parO i j ds δ s := by unfold parS parO; rfl
theorem q_parO {i j : Nat} {d e : D} {δ : DEnv} {s : Deck} : parO i j [d, e] δ s = .nx ((δ.set i (some d)).set j (some e)) s := rfl
theorem q_whS {c : FT} {b : FS} {fu : DEnv → Deck → Nat} {δ : DEnv} {s : Deck} : whileS fu c b δ s = whileD c b (fu δ s) δ s := rfl
theorem q_whD {c : FT} {b : FS} {n : Nat} {δ : DEnv} {s : Deck} : whileD c b (n + 1) δ s = (c δ s).toS δ fun k s => if k = true then (b δ s).frd (whileD c b n) else .nx δ s := rfl
end FL

namespace FL
open PySem PySem.Spec PyProof.Rows L2

/-! ### try with several clauses, each with a name -/
abbrev Su := Addr → Value → Option Addr → TS
def unD (i : Nat) (D : Ends) : Ends := { nx := fun σ' H' => D.nx (σ'.set i none) H', rt := D.rt, bk := fun σ' H' => D.bk (σ'.set i none) H', ct := fun σ' H' => D.ct (σ'.set i none) H' }
/-- the clauses' wishes, one after the other -/
def wAll (K : PySem.W.Frag) (Wout : WX) (D : Ends) : List (Nat × Value × Su) → WX
  | [] => Wout
  | (i, c, ts) :: r => fun cls d σ H => ∃ b, PySem.W.exmOne K cls c = some b ∧ (b = true → ∀ a, H a = none → ts a cls d (unD i D) (σ.set i (some (.ref a))) H) ∧ (b = false → wAll K Wout D r cls d σ H)
inductive HdsN (X : Cx) : List ExceptHandler → List (Nat × Value × Su) → Prop
  | nil : HdsN X [] []
  | cons {x n : Str} {i : Nat} {c : Value} {ts : Su} {b0 : Stmt} {sts : List Stmt} {np po : Pos} {hds : List ExceptHandler} {l : List (Nat × Value × Su)} (hc : Names X x c) (hi : X.N[i]? = some n) (hk : X.env.kindOf n = some .local)
      (hsu : ∀ (a : Addr) (oe : Obj) (cls : Value) (d : Option Addr) (pn : List (Addr × Obj)), Zc cls d oe → (∃ vs, oe.data = .fields vs) → PSs (X.suite a ((a, oe) :: pn)) (b0 :: sts) (ts a cls d)) (r : HdsN X hds l) :
      HdsN X (.ExceptHandler (some (.Name x np)) (some n) (b0 :: sts) po :: hds) ((i, c, ts) :: l)
theorem ps_tryN {X : Cx} {body : List Stmt} {h0 : ExceptHandler} {hds : List ExceptHandler} {l : List (Nat × Value × Su)} {pos : Pos} {tb : WX → TS} {Wout : WX} (hs : X.stack = X.env :: X.outer) (hf : X.env.frame = some X.env.locals) (hN : X.N.Nodup) (tk : Takes X Wout)
    (hb : ∀ (W : WX) (pn : List (Addr × Obj)) (xe : Value → Shared → Prop), Takes (X.tr pn xe) W → PassesOwn (model X.prog X.w) X.A X.env xe → PSs (X.tr pn xe) body (tb W))
    (hh : HdsN X (h0 :: hds) l) : PS X (.Try body (h0 :: hds) [] [] pos) (fun D σ H => tb (wAll X.K Wout D l) D σ H) := by
  refine ⟨fun pins s σ H D inv red => wpAny_Try_except ?_⟩
  have okI := inv.ok
  have frm : X.A.frames = some (X.env :: X.outer) := by rw [okI.frames, hs]
  refine wpAny_mono ((hb (wAll X.K Wout D l) (X.pn ++ pins)
    (fun e s1 => wpAny (model X.prog X.w) X.A (noteFrame e X.env) (fun _ s2 => wpAny (model X.prog X.w) X.A (setFlight e none) (fun _ s3 => wpAny (model X.prog X.w) X.A (handleBy e X.env (h0 :: hds)) (SP X pins D) X.xe s3) X.xe s2) X.xe s1)
    (fun u s' caught => ?_) PassesOwn.looking).run [] s σ H D (inv.toTry _) red) (fun fl s1 post => ?_) (fun e s1 z => z)
  · obtain ⟨a, B, sI, pinsB, σ1, H1, cls, d, rfl, invB, nb, upB, skyB, na, os, ag, wish⟩ := caught
    have inv1 : Inv X pins σ1 H1 sI := invB.ofTry okI
    have sky1 : Sky B (X.env :: X.outer) a (Zc cls d) X.env.locals s'.heap := by rw [← hs]; exact skyB
    show wpAny (model X.prog X.w) X.A (noteFrame (.ref a) X.env) _ _ _
    refine Sky.land Zc.steady frm hf sky1 fun h3 fl3 up3 => ?_
    have inv3 : Inv X pins σ1 H1 { s' with heap := h3 } := inv1.landed nb fl3.1 (upB.trans up3) os ag
    obtain ⟨oe3, vs3, he3, hz3, hd3⟩ := fl3.there
    have off : a ∉ frs (X.env :: X.outer) := fun hm => by
      obtain ⟨_, oz, ez, hnf⟩ := fl3.2.2.1.mem hm
      rw [he3] at ez
      cases ez
      exact hnf _ hd3
    have notL : a ≠ X.env.locals := fun z => off (List.mem_filterMap.mpr ⟨X.env, List.mem_cons_self, by rw [hf, z]⟩)
    have notF : a ∉ X.fs := fun hm => by
      obtain ⟨e, he, q⟩ := List.mem_filterMap.mp hm
      exact off (List.mem_filterMap.mpr ⟨e, List.mem_cons_of_mem _ he, q⟩)
    have suite3 := inv3.suite he3 hd3 na notL notF
    have each : ∀ {hs2 : List ExceptHandler} {l2 : List (Nat × Value × Su)}, HdsN X hs2 l2 → wAll X.K Wout D l2 cls d σ1 H1 → wpAny (model X.prog X.w) X.A (handleBy (.ref a) X.env hs2) (SP X pins D) X.xe { s' with heap := h3 } := by
      intro hs2 l2 hk
      induction hk with
      | nil =>
        intro wn
        refine wpAny_handleBy_nil ?_
        obtain ⟨_, _, _, oeZ, vsZ, T, _, _, heZ, _, hdZ, h1Z, _⟩ := id fl3
        unfold PySem.passOn
        refine wpAny_bind (wpAny_field heZ hdZ h1Z ?_)
        rw [if_neg (show ¬ ((Value.ref T == Value.none) = true) from by simp)]
        have out : wpAny (model X.prog X.w) X.A (setFlight (.ref a) X.env.frame) (fun _ s4 => wpAny (model X.prog X.w) X.A (throw (.ref a) : Sem Flow) (SP X pins D) X.xe s4) X.xe { s' with heap := h3 } := by
          rw [hf]
          exact HandSPX.setFlight_upZ fl3 fun h4 sk4 up4 => wpAny_throw (tk _ _ ⟨a, B, sI, pins, σ1, H1, cls, d, rfl, inv1, nb, (upB.trans up3).trans up4, .inr (.inr (by rw [hs]; exact sk4)), na, os, ag, wn⟩)
        first
          | exact wpAny_bind (wpAny_pure (wpAny_bind out))
          | exact wpAny_bind out
      | @cons x n i c ts b0 sts np po hds3 l3 hc hi hkind hsu r ih =>
        intro wn
        obtain ⟨b, hb1, yes, no⟩ := wn
        refine wpAny_handleBy_cons (codeAny_handlers_test ?_) (by intro q; cases q)
        have looksT : PySem.W.Looks (model X.prog X.w) h3 (typeOf (.ref a)) cls := fun A Q E s k q => wpAny_typeOf_ref (k _ _ he3) (by rw [hz3.1]; exact q)
        have looksM := PySem.W.exm_one (M := model X.prog X.w) inv3.kIn looksT hb1
        have named : ∀ {Q E : Value → Shared → Prop}, Q c { s' with heap := h3 } → wpAny (model X.prog X.w) (X.A.mark (some (.ref a))) (eval (.Name x np) X.env) Q E { s' with heap := h3 } := fun {Q E} q => by
          obtain ⟨hg, hdb, hm | ⟨hm, hv, hnn⟩⟩ := hc
          · exact ld_glob (X := X.suite a ((a, oe3) :: (X.pn ++ pins))) suite3 hg hm q hdb
          · exact ld_blt (X := X.suite a ((a, oe3) :: (X.pn ++ pins))) suite3 hg hm hv q hnn hdb
        refine named (looksM.here ?_)
        cases b with
        | false => exact ih (no rfl)
        | true =>
          refine codeAny_handlers_suite_as (HandSPX.lands_againZ fl3 fun h4 fl4 up4 => ?_)
          have inv4 : Inv X pins σ1 H1 { s' with heap := h4 } := inv1.landed nb fl4.1 ((upB.trans up3).trans up4) os ag
          obtain ⟨oe4, vs4, he4, hz4, hd4⟩ := fl4.there
          have suite4 := inv4.suite he4 hd4 na notL notF
          refine store_ok (X := X.suite a ((a, oe4) :: (X.pn ++ pins))) (v := .ref a) suite4 hN hi (.inl hkind) rfl (fun s5 suite5 => ?_) (.inr hkind)
          refine wpAny_mono ((hsu a oe4 cls d (X.pn ++ pins) hz4 ⟨_, hd4⟩).run [] s5 _ H1 _ suite5 (yes rfl a na)) (fun fl s6 post => ?_) (fun _ _ z => False.elim z)
          have behind : ∀ {σ6 : L2.St} {H6 : Hp} {Q : Shared → Prop}, Inv (X.suite a ((a, oe4) :: (X.pn ++ pins))) [] σ6 H6 s6 → (∀ s7, Inv X pins (σ6.set i none) H6 s7 → Q s7) →
              wpAny (model X.prog X.w) X.A (do bindName X.env n .none; unbindBehindTheSuite X.env n po) (fun _ s7 => Q s7) X.xe s6 := fun {σ6 H6 Q} S6 hq => gone_ok (S6.unsuite okI) hN hi hkind hq
          cases fl with
          | ret u =>
            obtain ⟨v6, σ6, H6, S6, r6, q6⟩ := post
            exact behind S6 fun s7 J7 => ⟨_, _, _, J7, r6, q6⟩
          | next =>
            obtain ⟨σ6, H6, S6, q6⟩ := post
            exact behind S6 fun s7 J7 => ⟨_, _, J7, q6⟩
          | brk =>
            obtain ⟨σ6, H6, S6, q6⟩ := post
            exact behind S6 fun s7 J7 => ⟨_, _, J7, q6⟩
          | cont =>
            obtain ⟨σ6, H6, S6, q6⟩ := post
            exact behind S6 fun s7 J7 => ⟨_, _, J7, q6⟩
    exact each hh wish
  · cases fl with
    | ret u =>
      obtain ⟨v, σ', H', J', r, q⟩ := post
      exact ⟨v, σ', H', J'.ofTry okI, r, q⟩
    | next =>
      obtain ⟨σ', H', J', q⟩ := post
      exact wpAny_execs_nil ⟨σ', H', J'.ofTry okI, q⟩
    | brk =>
      obtain ⟨σ', H', J', q⟩ := post
      exact ⟨σ', H', J'.ofTry okI, q⟩
    | cont =>
      obtain ⟨σ', H', J', q⟩ := post
      exact ⟨σ', H', J'.ofTry okI, q⟩
end FL

namespace FL
open PySem PySem.Spec L2

/-! ### errors of own classes -/
/-- what its __init__ does: it keeps the fields -/
def spInit (C : Addr) (fl : List Str) : Sp := fun vs H Q _ => ∃ (a : Addr) (ys : List V), vs = .ref a :: ys ∧ ys.length = fl.length ∧ H a = some (exo a C none) ∧
  ∀ (d : Addr) (H' : Hp), H d = none → d ≠ a → H' a = some (exo a C (some d)) → H' d = some (exd d (fl.zip ys).reverse) → (∀ b, b ≠ a → b ≠ d → H' b = H b) → Q .non H'
structure ExcW (P : Program) (w : World) (K : PySem.W.Frag) (mg : Str → Option Value) (base : Heap) (x : Str) (fl : List Str) : Prop where
  ex : ∃ (C fI : Addr) (fd : FuncData) (ps : List Str), mg x = some (.ref C) ∧ OexC K C ∧ PySem.W.findIn K (.ref C) "__init__" = some (some (.ref fI)) ∧ PySem.W.typeIn K (.ref fI) = some (.type "function") ∧
    FnOk P w K mg base CX0 1 fI fd ps (spInit C fl) ∧ Binds K fd ps [] ∧ XfC K C ∧ (∀ f ∈ fl, PySem.W.findIn K (.ref C) f = some none)
  nd : fl.Nodup
section
variable {P : Program} {w : World} {K : PySem.W.Frag} {mg : Str → Option Value} {base : Heap}
theorem init1 {qual f n0 n1 : Str} {st : Stmt} {fI C : Addr} {fd : FuncData} (Fn : Fun K "__init__" qual st fI fd) (S : FnScope [n0, n1] [n0, n1] (defScope st)) (T : OexC K C) (hf : PySem.W.findIn K (.ref C) f = some none)
    (hb : ∀ {fa : Addr} (cdv : Value) (A : Around) (outer : List Env) (s : Shared) (H : Hp) (E : XK), PSs (cxOf CX0 P w K mg base [n0, n1] qual (defScope st) fa cdv A outer s H E).nox (defBody st) (tOst K f (tVar 0) (tVar 1))) : FnOk P w K mg base CX0 1 fI fd [n0, n1] (spInit C [f]) := by
  refine Fn.ok S (fun vs H Q E h => ?_) (fun cdv A outer s H vs Q E hr h => ⟨tOst K f (tVar 0) (tVar 1), hb cdv A outer s H E, ?_⟩)
  · obtain ⟨a, ys, rfl, hl, _⟩ := h
    simp [hl]
  · obtain ⟨a, ys, rfl, hl, ha, k⟩ := h
    match ys, hl with
    | [y], _ =>
      refine ⟨y, rfl, .ref a, rfl, a, C, rfl, T, hf, .inl ⟨ha, fun dx hdx hne => ?_⟩⟩
      exact k dx _ hdx hne upd_same (by rw [upd_ne hne, upd_same]; rfl) fun b h1 h2 => by rw [upd_ne h1, upd_ne h2]
theorem init2 {qual f g n0 n1 n2 : Str} {st : Stmt} {fI C : Addr} {fd : FuncData} (Fn : Fun K "__init__" qual st fI fd) (S : FnScope [n0, n1, n2] [n0, n1, n2] (defScope st)) (T : OexC K C) (hf : PySem.W.findIn K (.ref C) f = some none) (hg : PySem.W.findIn K (.ref C) g = some none)
    (hb : ∀ {fa : Addr} (cdv : Value) (A : Around) (outer : List Env) (s : Shared) (H : Hp) (E : XK), PSs (cxOf CX0 P w K mg base [n0, n1, n2] qual (defScope st) fa cdv A outer s H E).nox (defBody st) (tSeq (tOst K f (tVar 0) (tVar 1)) (tOst K g (tVar 0) (tVar 2)))) : FnOk P w K mg base CX0 1 fI fd [n0, n1, n2] (spInit C [f, g]) := by
  refine Fn.ok S (fun vs H Q E h => ?_) (fun cdv A outer s H vs Q E hr h => ⟨_, hb cdv A outer s H E, ?_⟩)
  · obtain ⟨a, ys, rfl, hl, _⟩ := h
    simp [hl]
  · obtain ⟨a, ys, rfl, hl, ha, k⟩ := h
    match ys, hl with
    | [y, z], _ =>
      refine ⟨y, rfl, .ref a, rfl, a, C, rfl, T, hf, .inl ⟨ha, fun dx hdx hne => ?_⟩⟩
      have e1 : (upd (upd H dx (exd dx [(f, y)])) a (exo a C (some dx))) dx = some (exd dx [(f, y)]) := by rw [upd_ne hne, upd_same]
      refine ⟨z, rfl, .ref a, rfl, a, C, rfl, T, hg, .inr ⟨dx, [(f, y)], upd_same, e1, by show 1 ≤ 900; decide, ?_⟩⟩
      exact k dx _ hdx hne (by rw [upd_ne (Ne.symm hne), upd_same]) upd_same fun b h1 h2 => by rw [upd_ne h2, upd_ne h1, upd_ne h2]
end
/-! ### raise C(..) -/
def raiseS (x : Str) (fl : List Str) (fs : FA) : FS := fun δ s => (fs δ s).toS δ fun ds s => if ds.length = fl.length then .raise ⟨x, fl.zip ds⟩ δ s else .bad
theorem look_none {α : Type} : ∀ (fl : List Str) (ys : List α) (f : Str), f ∉ fl → (fl.zip ys).lookup f = none
  | [], _, _, _ => by simp
  | _ :: _, [], _, _ => by simp
  | g :: fl, y :: ys, f, h => by
    have hne : (f == g) = false := by
      rw [beq_eq_false_iff_ne]
      exact fun e => h (by rw [e]; exact List.mem_cons_self ..)
    rw [List.zip_cons_cons, List.lookup_cons, hne]
    exact look_none fl ys f fun hm => h (List.mem_cons_of_mem _ hm)
theorem look_rev {α : Type} : ∀ (fl : List Str) (ys : List α) (f : Str), fl.Nodup → ((fl.zip ys).reverse).lookup f = (fl.zip ys).lookup f
  | [], _, _, _ => by simp
  | _ :: _, [], _, _ => by simp
  | g :: fl, y :: ys, f, nd => by
    obtain ⟨hg, hn⟩ := List.nodup_cons.mp nd
    rw [List.zip_cons_cons, List.reverse_cons, List.lookup_append, look_rev fl ys f hn, List.lookup_cons, List.lookup_cons, List.lookup_nil]
    by_cases e : f = g
    · subst e
      rw [look_none fl ys f hg]
      simp
    · have hne : (f == g) = false := beq_eq_false_iff_ne.mpr e
      rw [hne]
      simp
theorem look_zip {K : PySem.W.Frag} {dk : Addr} {F : Hp} : ∀ {fl : List Str} {vs : List V} {ds : List D} {f : Str} {d : D}, RpAll K dk F vs ds → (fl.zip ds).lookup f = some d → ∃ v, (fl.zip vs).lookup f = some v ∧ Rp K dk F v d
  | [], _, _, _, _, _, h => by simp at h
  | _ :: _, _, _, _, _, .nil, h => by simp at h
  | g :: fl, _, _, f, d, .cons (v := v) (d := d') r rs, h => by
    rw [List.zip_cons_cons, List.lookup_cons] at h ⊢
    by_cases e : (f == g) = true
    · rw [e] at h ⊢
      cases h
      exact ⟨_, rfl, r⟩
    · have e := Bool.eq_false_iff.mpr e
      rw [e] at h ⊢
      exact look_zip rs h
section
variable {X : Cx} {W : WX}
theorem sv_raise {x : Str} {fl : List Str} {e : Expr} {es : List Expr} {fs : FA} {p pos pos2 : Pos} (Ex : ExcW X.prog X.w X.K X.mg X.base x fl) (hc : X.calm = true) (hr : Room 2 X.A) (tk : Takes X W) (hg : Gl X x) (hfl : fl.length ≤ 1000) (ha : AV X W (e :: es) fs)
    (hdb : (x == ("__debug__" : Str)) = false := by decide) (he : starEach (e :: es) X.env = (false, eval e X.env) :: starEach es X.env := by rfl) (hpl : (backTo pos (starEach es X.env)).any (·.1) = false := by rfl) :
    SV X W (.Raise (some (.Call (.Name x p) (e :: es) [] pos)) none pos2) (raiseS x fl fs) := by
  obtain ⟨⟨C, fI, fd, ps, gC, T, iC, tI, F1, hb, _, _⟩, nd⟩ := Ex
  refine ps_weak (ps_raise hc tk (pmk_oex T iC tI F1 hr hb .nil pass0 hg gC ha hdb he hpl)) fun Dn σ H ⟨dk, δ, s, F, er, st, q⟩ => ?_
  refine ⟨dk, δ, s, F, er, st, SPost.ofE er q fun ds s1 vs F1 H1 n rr q1 => ?_⟩
  have lv := RpAll.length rr
  split at q1
  · rename_i hl
    refine ⟨by omega, fun a ha => ⟨a, vs, by rw [List.append_nil], by omega, upd_same, fun d H' hd hne h1 h2 h3 => ⟨rfl, d, _, h1, h2, by rw [upd_ne hne] at hd; exact hd, ?_⟩⟩⟩
    have hd0 : H1 d = none := by rw [upd_ne hne] at hd; exact hd
    have keep : ∀ b o, H1 b = some o → upd (del H' a) d (.xd (fl.zip vs).reverse) b = some o := fun b o hbo => by
      have e1 : b ≠ d := fun z => by rw [z, hd0] at hbo; cases hbo
      have e2 : b ≠ a := fun z => by rw [z, ha] at hbo; cases hbo
      rw [upd_ne e1, del_ne e2, h3 b e2 e1, upd_ne e2]
      exact hbo
    have hdk : F1 d = none := by
      cases z : F1 d with
      | none => rfl
      | some o => rw [n.st.sub _ _ z] at hd0; cases hd0
    obtain ⟨cl, c1, c2⟩ := n.st.deck
    refine q1 σ C d F1 _ ⟨Same.refl _, ⟨fun b o hbo => keep b o (n.st.sub _ _ hbo), n.st.fdk, cl, keep _ _ c1, c2⟩, fun b o _ hbo => keep b o hbo, fun b hb _ => hb⟩ (er.mono n.sm) gC ⟨_, upd_same, fun f d0 hf => ?_⟩
    obtain ⟨v, hv, rv⟩ := look_zip rr hf
    exact ⟨v, by rw [look_rev fl vs f nd]; exact hv, rv⟩
  · exact q1.elim
end
end FL

namespace FL
open PySem PySem.Spec L2

/-! ### in a clause's suite: the error is known -/
theorem ExAt.next {K : PySem.W.Frag} {dk dd : Addr} {F H F' H' : Hp} {s s' : Deck} {e : Ex} (h : ExAt K dk F H dd e) (st : Stt K dk F H s) (n : Nxt K dk F H F' H' s') : ExAt K dk F' H' dd e := by
  obtain ⟨fs, h1, h2⟩ := h
  have ne : dd ≠ dk := fun z => by
    obtain ⟨cl, c1, _⟩ := st.deck
    rw [z, c1] at h1
    cases h1
  exact ⟨fs, n.fr _ _ ne h1, fun f d q => let ⟨v, a, b⟩ := h2 f d q; ⟨v, a, b.mono n.sm⟩⟩
structure InSu (K : PySem.W.Frag) (mg : Str → Option Value) (i : Nat) (a : Addr) (cls : Value) (d : Option Addr) (dk : Addr) (F H : Hp) (σ : L2.St) (δ : DEnv) (s : Deck) (e : Ex) (C dd : Addr) : Prop where
  c : cls = .ref C
  d : d = some dd
  m : mg e.cls = some (.ref C)
  x : ExAt K dk F H dd e
  v : σ[i]? = some (some (.ref a))
  er : EnvR K dk F σ δ
  st : Stt K dk F H s
theorem InSu.next {K : PySem.W.Frag} {mg : Str → Option Value} {i : Nat} {a : Addr} {cls : Value} {d : Option Addr} {dk : Addr} {F H F' H' : Hp} {σ : L2.St} {δ : DEnv} {s s' : Deck} {e : Ex} {C dd : Addr} (h : InSu K mg i a cls d dk F H σ δ s e C dd) (n : Nxt K dk F H F' H' s') :
    InSu K mg i a cls d dk F' H' σ δ s' e C dd := ⟨h.c, h.d, h.m, h.x.next h.st n, h.v, h.er.mono n.sm, n.st⟩
abbrev HE := Ex → FE
abbrev HA := Ex → FA
abbrev HS := Ex → FS
def tEH (K : PySem.W.Frag) (mg : Str → Option Value) (i : Nat) (a : Addr) (cls : Value) (d : Option Addr) (f : HE) : TE := fun σ H Q => ∃ dk δ s F e C dd, InSu K mg i a cls d dk F H σ δ s e C dd ∧ EPost K mg dk (RelD K dk) (fun _ _ _ => False) F H Q (f e δ s)
def tAH (K : PySem.W.Frag) (mg : Str → Option Value) (i : Nat) (a : Addr) (cls : Value) (d : Option Addr) (f : HA) : TA := fun σ H Q => ∃ dk δ s F e C dd, InSu K mg i a cls d dk F H σ δ s e C dd ∧ EPost K mg dk (RelL K dk) (fun _ _ _ => False) F H Q (f e δ s)
def tSH (K : PySem.W.Frag) (mg : Str → Option Value) (i : Nat) (a : Addr) (cls : Value) (d : Option Addr) (g : HS) : TS := fun Dn σ H => ∃ dk δ s F e C dd, InSu K mg i a cls d dk F H σ δ s e C dd ∧ SPost K mg dk W0 F H Dn (g e δ s)
/-- in every suite of X: e is worth f -/
def EH (X : Cx) (i : Nat) (e : Expr) (f : HE) : Prop := ∀ (a : Addr) (oe : Obj) (cls : Value) (d : Option Addr) (pn : List (Addr × Obj)), Zc cls d oe → (∃ vs, oe.data = .fields vs) → PE (X.suite a ((a, oe) :: pn)) e (tEH X.K X.mg i a cls d f)
def AH (X : Cx) (i : Nat) (es : List Expr) (f : HA) : Prop := ∀ (a : Addr) (oe : Obj) (cls : Value) (d : Option Addr) (pn : List (Addr × Obj)), Zc cls d oe → (∃ vs, oe.data = .fields vs) → PA (X.suite a ((a, oe) :: pn)) es (tAH X.K X.mg i a cls d f)
def SH (X : Cx) (i : Nat) (st : Stmt) (g : HS) : Prop := ∀ (a : Addr) (oe : Obj) (cls : Value) (d : Option Addr) (pn : List (Addr × Obj)), Zc cls d oe → (∃ vs, oe.data = .fields vs) → PS (X.suite a ((a, oe) :: pn)) st (tSH X.K X.mg i a cls d g)
section
variable {X : Cx} {i : Nat} {e : Expr} {es : List Expr} {pos : Pos}
theorem eh_of {f : FE} (h : ∀ (a : Addr) (pn : List (Addr × Obj)), EV (X.suite a pn) W0 e f) : EH X i e (fun _ => f) := fun a oe cls d pn hz hf =>
  pe_weak (h a ((a, oe) :: pn)) fun σ H Q ⟨dk, δ, s, F, ex, C, dd, I, q⟩ => ⟨dk, δ, s, F, I.er, I.st, q⟩
def fldH (x f : Str) : HE := fun e δ s => if e.cls = x then pureM (e.flds.lookup f) s else .bad
theorem eh_fld {x f n : Str} {fl : List Str} {p2 : Pos} (Ex : ExcW X.prog X.w X.K X.mg X.base x fl) (hf : f ∈ fl) (hN : X.N[i]? = some n) (hv : Vis X.env.scope n) (hd : (n == ("__debug__" : Str)) = false := by decide) (hcd : (n == ("__classdict__" : Str)) = false := by decide)
    (hb : attributeBase (.Name n p2) f X.env (eval (.Name n p2) X.env) = eval (.Name n p2) X.env := by rfl) : EH X i (.Attribute (.Name n p2) f pos) (fldH x f) := by
  obtain ⟨⟨C, fI, fd, ps, gC, T, iC, tI, F1, _, xf, hno⟩, nd⟩ := Ex
  intro a oe cls d pn hz hfl
  refine pe_weak (pe_xf xf (hno f hf) hz hfl (pe_var (X := X.suite a ((a, oe) :: pn)) hN hv hd hcd) hb) fun σ H Q ⟨dk, δ, s, F, e, C', dd, I, q⟩ => ?_
  unfold fldH at q
  split at q
  · rename_i hx
    have hm := I.m
    rw [hx, gC] at hm
    cases hm
    obtain ⟨d0, hd0, hq⟩ := epost_pure I.st q
    obtain ⟨fs, h1, h2⟩ := I.x
    obtain ⟨v, hv, rv⟩ := h2 f d0 hd0
    exact ⟨_, I.v, rfl, I.c, dd, fs, v, I.d, h1, hv, hq v rv⟩
  · exact q.elim
theorem ah_nil : AH X i [] (fun _ => av0) := fun a oe cls d pn hz hf => pa_weak pa_nil fun σ H Q ⟨dk, δ, s, F, ex, C, dd, I, q⟩ => EPost.ok q I.st .nil
theorem ah_cons {f : HE} {g : HA} (h1 : EH X i e f) (h2 : AH X i es g) (hs : starEach (e :: es) X.env = (false, eval e X.env) :: starEach es X.env := by rfl) : AH X i (e :: es) (fun x => avC (f x) (g x)) := fun a oe cls d pn hz hf => by
  refine pa_weak (pa_cons (h1 a oe cls d pn hz hf) (h2 a oe cls d pn hz hf) hs) fun σ H Q ⟨dk, δ, s, F, ex, C, dd, I, q⟩ => ?_
  refine ⟨dk, δ, s, F, ex, C, dd, I, EPost.bind q fun x s1 v F1 H1 n r q1 => ?_⟩
  refine ⟨dk, δ, s1, F1, ex, C, dd, I.next n, EPost.bind q1 fun xs s2 vs F2 H2 n2 rs q2 => ?_⟩
  exact EPost.ok q2 n2.st (.cons (r.mono n2.sm) rs)
end
end FL
namespace FL
open PySem PySem.Spec L2
section
variable {X : Cx} {i : Nat} {e a b : Expr} {es : List Expr} {pos : Pos} {f g : HE} {fs : HA}
theorem eh_tup {x1} (ha : AH X i es fs) : EH X i (.Tuple es x1 pos) (fun x => withA (fs x) mkTup) := fun a oe cls d pn hz hf => by
  refine pe_weak (pe_tup (ha a oe cls d pn hz hf)) fun σ H Q ⟨dk, δ, s, F, ex, C, dd, I, q⟩ => ?_
  exact ⟨dk, δ, s, F, ex, C, dd, I, EPost.bind q fun xs s1 vs F1 H1 n r q1 => epost_tup n.st r q1⟩
theorem eh_lst {k} (ha : AH X i es fs) : EH X i (.List es k) (fun x => withA (fs x) mkLst) := fun a oe cls d pn hz hf => by
  refine pe_weak (pe_lst (ha a oe cls d pn hz hf)) fun σ H Q ⟨dk, δ, s, F, ex, C, dd, I, q⟩ => ?_
  exact ⟨dk, δ, s, F, ex, C, dd, I, EPost.bind q fun xs s1 vs F1 H1 n r q1 => epost_lst n.st r q1⟩
theorem eh_cmp {op : CmpOp} {r : R2} {m : D → D → M D} (ho : ∀ (a : Addr) (pn : List (Addr × Obj)), OpR (X.suite a pn) (compareOp op) r) (hr : ∀ (a : Addr) (pn : List (Addr × Obj)), OpM (X.suite a pn) r m) (ha : EH X i a f) (hb : EH X i b g) (hm : behindInMarks op b = false := by first | exact nomark _ | rfl) : EH X i (.Compare a [op] [b] pos) (fun x => lift2 m (f x) (g x)) := fun ad oe cls d pn hz hf => by
  refine pe_weak (pe_cmpR (ho _ _) (ha ad oe cls d pn hz hf) (hb ad oe cls d pn hz hf) hm) fun σ H Q ⟨dk, δ, s, F, ex, C, dd, I, q⟩ => ?_
  refine ⟨dk, δ, s, F, ex, C, dd, I, EPost.bind q fun x s1 v F1 H1 n rx q1 => ?_⟩
  refine ⟨dk, δ, s1, F1, ex, C, dd, I.next n, EPost.bind q1 fun y s2 u F2 H2 n2 ry q2 => ?_⟩
  exact hr ad ((ad, oe) :: pn) dk _ F2 H2 s2 v u x y Q n2.st (rx.mono n2.sm) ry q2
theorem sh_set {j : Nat} {y : Str} {pos' : Pos} (hN : X.N.Nodup) (hj : X.N[j]? = some y) (hy : Loc X.env.scope y) (he : EH X i e f) (hs : swapsWith e (some (.Name y pos')) pos.line X.env = pure false := by rfl)
    (hfn : X.fn y = true ∨ X.env.scope.names.lookup y = some .local := by first | exact .inl rfl | exact .inr rfl | assumption) : SH X i (.Assign [.Name y pos'] e pos) (fun x => setS j (f x)) := fun a oe cls d pn hz hf => by
  refine ps_weak (ps_set (X := X.suite a ((a, oe) :: pn)) (i := j) hN hj hy (he a oe cls d pn hz hf) hs hfn) fun Dn σ H ⟨dk, δ, s, F, ex, C, dd, I, q⟩ => ?_
  refine ⟨dk, δ, s, F, ex, C, dd, I, SPost.ofE (W := W0) I.er q fun d s1 v F1 H1 n rr q1 => ?_⟩
  exact q1 _ F1 H1 (Nxt.refl n.st) ((I.er.mono n.sm).set rr)
theorem sh_ret (he : EH X i e f) : SH X i (.Return (some e) pos) (fun x => retS (f x)) := fun a oe cls d pn hz hf => by
  refine ps_weak (ps_ret (he a oe cls d pn hz hf)) fun Dn σ H ⟨dk, δ, s, F, ex, C, dd, I, q⟩ => ?_
  exact ⟨dk, δ, s, F, ex, C, dd, I, SPost.ofE (W := W0) I.er q fun d s1 v F1 H1 n rr q1 => q1 v F1 H1 (Nxt.refl n.st) rr⟩
end
/-! ### try -/
def unS (i : Nat) : RS → RS
  | .nx δ s => .nx (δ.set i none) s
  | .rt d s => .rt d s
  | .bk δ s => .bk (δ.set i none) s
  | .ct δ s => .ct (δ.set i none) s
  | _ => .bad
def catchS (tbl : Str → Str → Option Bool) : List (Str × Nat × HS) → HS
  | [], e => fun δ s => .raise e δ s
  | (y, i, h) :: r, e => fun δ s => if i < δ.length then (match tbl e.cls y with
    | some true => unS i (h e (δ.set i none) s)
    | some false => catchS tbl r e δ s
    | none => .bad) else .bad
def tryS (tbl : Str → Str → Option Bool) (g : FS) (l : List (Str × Nat × HS)) : FS := fun δ s => match g δ s with
  | .raise e δ' s' => catchS tbl l e δ' s'
  | r => r
def TblOk (K : PySem.W.Frag) (mg : Str → Option Value) (tbl : Str → Str → Option Bool) : Prop := ∀ x y b Cx Cy, tbl x y = some b → mg x = some (.ref Cx) → mg y = some (.ref Cy) → PySem.W.exmOne K (.ref Cx) (.ref Cy) = some b
inductive HdsD (X : Cx) : List ExceptHandler → List (Str × Nat × HS) → Prop
  | nil : HdsD X [] []
  | cons {y n : Str} {i : Nat} {h : HS} {st : Stmt} {np po : Pos} {hds : List ExceptHandler} {l : List (Str × Nat × HS)} (hg : Gl X y) (hdb : (y == ("__debug__" : Str)) = false) (hm : ∃ C, X.mg y = some (.ref C)) (hi : X.N[i]? = some n) (hk : X.env.kindOf n = some .local)
      (hsu : SH X i st h) (r : HdsD X hds l) : HdsD X (.ExceptHandler (some (.Name y np)) (some n) [st] po :: hds) ((y, i, h) :: l)
theorem spost_un {K : PySem.W.Frag} {mg : Str → Option Value} {dk : Addr} {W : WX} {F H : Hp} {Dn : Ends} {i : Nat} {r : RS} (h : SPost K mg dk W F H Dn (unS i r)) : SPost K mg dk W0 F H (unD i Dn) r := by
  cases r with
  | nx δ s => exact fun σ' F' H' n er => h _ F' H' n er.unset
  | bk δ s => exact fun σ' F' H' n er => h _ F' H' n er.unset
  | ct δ s => exact fun σ' F' H' n er => h _ F' H' n er.unset
  | rt d s => exact h
  | raise e δ s => exact h.elim
  | bad => exact h.elim
theorem hds_of {X : Cx} {tbl : Str → Str → Option Bool} (HT : TblOk X.K X.mg tbl) : ∀ {hds : List ExceptHandler} {l : List (Str × Nat × HS)}, HdsD X hds l → ∃ l', HdsN X hds l' ∧
    ∀ (W : WX) (Dn : Ends) (dk : Addr) (F H : Hp) (e : Ex) (δ : DEnv) (s : Deck) (σ : L2.St) (C dd : Addr), SPost X.K X.mg dk W F H Dn (catchS tbl l e δ s) → Stt X.K dk F H s → EnvR X.K dk F σ δ → X.mg e.cls = some (.ref C) → ExAt X.K dk F H dd e → wAll X.K W Dn l' (.ref C) (some dd) σ H
  | _, _, .nil => ⟨[], .nil, fun W Dn dk F H e δ s σ C dd q st er hm hx => q σ C dd F H (Nxt.refl st) er hm hx⟩
  | _, _, .cons (y := y) (i := i) (h := h) hg hdb hm hi hk hsu r => by
    obtain ⟨l', N, w⟩ := hds_of HT r
    obtain ⟨Cy, hy⟩ := hm
    refine ⟨(i, .ref Cy, fun a cls d => tSH X.K X.mg i a cls d h) :: l', .cons ⟨hg, hdb, .inl hy⟩ hi hk (fun a oe cls d pn hz hf => pss_one (hsu a oe cls d pn hz hf)) N, fun W Dn dk F H e δ s σ C dd q st er hm hx => ?_⟩
    unfold catchS at q
    split at q
    · rename_i hl
      split at q
      · rename_i ht
        refine ⟨true, HT _ _ _ _ _ ht hm hy, fun _ a _ => ?_, fun z => by cases z⟩
        exact ⟨dk, _, s, F, e, C, dd, ⟨rfl, rfl, hm, hx, List.getElem?_set_self (by rw [er.len]; exact hl), er.unset, st⟩, spost_un q⟩
      · rename_i ht
        exact ⟨false, HT _ _ _ _ _ ht hm hy, (fun z => nomatch z), fun _ => w W Dn dk F H e δ s σ C dd q st er hm hx⟩
      · exact q.elim
    · exact q.elim
theorem sv_try {X : Cx} {W : WX} {tbl : Str → Str → Option Bool} {body : List Stmt} {h0 : ExceptHandler} {hds : List ExceptHandler} {l : List (Str × Nat × HS)} {pos : Pos} {g : FS} (HT : TblOk X.K X.mg tbl) (hs : X.stack = X.env :: X.outer) (hf : X.env.frame = some X.env.locals) (hN : X.N.Nodup) (tk : Takes X W)
    (hb : ∀ (W' : WX) (pn : List (Addr × Obj)) (xe : Value → Shared → Prop), Takes (X.tr pn xe) W' → PassesOwn (model X.prog X.w) X.A X.env xe → BV (X.tr pn xe) W' body g) (hh : HdsD X (h0 :: hds) l) : SV X W (.Try body (h0 :: hds) [] [] pos) (tryS tbl g l) := by
  obtain ⟨l', N, w⟩ := hds_of HT hh
  refine ps_weak (ps_tryN (tb := fun W' => tSV X.K X.mg W' g) hs hf hN tk hb N) fun Dn σ H ⟨dk, δ, s, F, er, st, q⟩ => ⟨dk, δ, s, F, er, st, ?_⟩
  unfold tryS at q
  cases hg : g δ s with
  | raise e δ' s' =>
    rw [hg] at q
    exact fun σ' C dd F' H' n er' hm hx => w W Dn dk F' H' e δ' s' σ' C dd (SPost.later n q) n.st er' hm hx
  | nx δ' s' => rw [hg] at q; exact q
  | bk δ' s' => rw [hg] at q; exact q
  | ct δ' s' => rw [hg] at q; exact q
  | rt d' s' => rw [hg] at q; exact q
  | bad => rw [hg] at q; exact q
end FL

namespace FL
open PySem PySem.Spec L2

/-! ### texts -/
section
variable {X : Cx} {W : WX} {a b tg o e : Expr} {es : List Expr} {f g : FE} {fs : FA} {pos p apos : Pos}
/-- one sign in a text -/
def signIn (x z : Str) : Option Bool := match x.cps.toList with
  | [c] => some (decide (c ∈ z.cps.toList))
  | _ => none
def inM (a b : D) : M D := match a, b with
  | .str x, .str z => pureM ((signIn x z).map .bl)
  | _, _ => fun _ => .bad
def notInM (a b : D) : M D := match a, b with
  | .str x, .str z => pureM ((signIn x z).map fun k => .bl (!k))
  | _, _ => fun _ => .bad
theorem sign_one {x : Str} {c : Nat} (h : x.cps.toList = [c]) : x = ⟨#[c]⟩ := by
  obtain ⟨⟨l⟩⟩ := x
  simp at h
  rw [h]
theorem m_in : OpM X (fun x y H Q => ∃ (c : Nat) (z : Str), x = .str ⟨#[c]⟩ ∧ y = .str z ∧ Q (.bl (decide (c ∈ z.cps.toList))) H) inM := by
  intro dk Wx F H s x y dx dy Q st rx ry q
  unfold inM at q
  split at q
  · rename_i x' z'
    cases rx
    cases ry
    obtain ⟨d, hd, hq⟩ := epost_pure st q
    unfold signIn at hd
    split at hd
    · rename_i c hc
      cases hd
      exact ⟨c, z', by rw [sign_one hc], rfl, hq _ (.bl _)⟩
    · cases hd
  · exact q.elim
theorem m_notIn : OpM X (fun x y H Q => ∃ (c : Nat) (z : Str), x = .str ⟨#[c]⟩ ∧ y = .str z ∧ Q (.bl (!decide (c ∈ z.cps.toList))) H) notInM := by
  intro dk Wx F H s x y dx dy Q st rx ry q
  unfold notInM at q
  split at q
  · rename_i x' z'
    cases rx
    cases ry
    obtain ⟨d, hd, hq⟩ := epost_pure st q
    unfold signIn at hd
    split at hd
    · rename_i c hc
      cases hd
      exact ⟨c, z', by rw [sign_one hc], rfl, hq _ (.bl _)⟩
    · cases hd
  · exact q.elim
/-- methods without arguments -/
def m0M (C : Str → Bool) (k : Str → D) (d : D) : M D := match d with
  | .str z => fun s => if C z = true then .ok (k z) s else .bad
  | _ => fun _ => .bad
theorem ev_m0 {id : String} {name : Str} {C : Str → Bool} {C' : Str → Prop} {k : Str → D} {kv : Str → V} (slot : Slot "str" name id) (ty : typeOf (.builtin id) = pure (.type "method_descriptor")) (rule : MtR X id (fun x xs H Q => ∃ a, x = .str a ∧ xs = [] ∧ C' a ∧ Q (kv a) H)) (hC : ∀ a, C a = true → C' a) (hk : ∀ a K dk F, Rp K dk F (kv a) (k a)) (ho : EV X W o f)
    (hbase : attributeBase o name X.env (eval o X.env) = eval o X.env := by rfl) (hline : (apos.endLine == pos.line) = true := by rfl) : EV X W (.Call (.Attribute o name apos) [] [] pos) (un1 (m0M C k) f) := by
  refine pe_weak (pe_m0 slot ty rule ho hbase hline) fun σ H Q ⟨dk, δ, s, F, er, st, q⟩ => ?_
  refine ⟨dk, δ, s, F, er, st, EPost.bind q fun d s1 v F1 H1 n r q1 => ?_⟩
  unfold m0M at q1
  split at q1
  · split at q1
    · rename_i hc
      cases r
      exact ⟨⟨_, rfl⟩, _, rfl, rfl, hC _ hc, EPost.ok q1 n.st (hk _ _ _ _)⟩
    · exact q1.elim
  · exact q1.elim
theorem ev_isascii (ho : EV X W o f) (hbase : attributeBase o "isascii" X.env (eval o X.env) = eval o X.env := by rfl) (hline : (apos.endLine == pos.line) = true := by rfl) : EV X W (.Call (.Attribute o "isascii" apos) [] [] pos) (un1 (m0M (fun _ => true) fun a => .bl (Txt.isascii a)) f) :=
  ev_m0 F.slot_str_isascii F.type_str_isascii mt_isascii (fun _ _ => trivial) (fun _ _ _ _ => .bl _) ho hbase hline
theorem ev_isdigit (ho : EV X W o f) (hbase : attributeBase o "isdigit" X.env (eval o X.env) = eval o X.env := by rfl) (hline : (apos.endLine == pos.line) = true := by rfl) : EV X W (.Call (.Attribute o "isdigit" apos) [] [] pos) (un1 (m0M (fun _ => true) fun a => .bl (Txt.isdigit a)) f) :=
  ev_m0 F.slot_str_isdigit F.type_str_isdigit mt_isdigit (fun _ _ => trivial) (fun _ _ _ _ => .bl _) ho hbase hline
/-- methods of one text -/
def strR {α : Type} (r : Str → Deck → R α) (d : D) : M α := fun s => match d with
  | .str z => r z s
  | _ => .bad
def m1D (k : Str → Str → M D) (f g : FE) : FE := fun δ s => (f δ s).bind (strR fun z s => (g δ s).bind (strR fun y s => k z y s))
theorem ev_m1 {id : String} {name : Str} {r : V → List V → Hp → VK → Prop} {k : Str → Str → M D} (slot : Slot "str" name id) (ty : typeOf (.builtin id) = pure (.type "method_descriptor")) (rule : MtR X id r)
    (hk : ∀ (z y : Str) (dk : Addr) (Wx : XK) (F H : Hp) (s : Deck) (Q : VK), Stt X.K dk F H s → EPost X.K X.mg dk (RelD X.K dk) Wx F H Q (k z y s) → r (.str z) [.str y] H Q) (ho : EV X W o f) (he : EV X W e g)
    (hs : starEach [e] X.env = [(false, eval e X.env)] := by rfl) (hbase : attributeBase o name X.env (eval o X.env) = eval o X.env := by rfl) (hline : (apos.endLine == pos.line) = true := by rfl) : EV X W (.Call (.Attribute o name apos) [e] [] pos) (m1D k f g) := by
  refine pe_weak (pe_m1 slot ty rule ho he hs hbase hline) fun σ H Q ⟨dk, δ, s, F, er, st, q⟩ => ?_
  refine ⟨dk, δ, s, F, er, st, EPost.bind q fun d s1 v F1 H1 n r1 q1 => ?_⟩
  unfold strR at q1
  split at q1
  · rename_i z
    cases r1
    refine ⟨⟨z, rfl⟩, dk, δ, s1, F1, er.mono n.sm, n.st, EPost.bind q1 fun d2 s2 v2 F2 H2 n2 r2 q2 => ?_⟩
    dsimp only at q2
    split at q2
    · cases r2
      exact hk _ _ _ _ _ _ _ _ n2.st q2
    · exact q2.elim
  · exact q1.elim
def rmpM (z y : Str) : M D := fun s => if z.length ≤ 16777216 then .ok (.str (Txt.removeprefix z y)) s else .bad
theorem ev_removeprefix (ho : EV X W o f) (he : EV X W e g) (hs : starEach [e] X.env = [(false, eval e X.env)] := by rfl) (hbase : attributeBase o "removeprefix" X.env (eval o X.env) = eval o X.env := by rfl) (hline : (apos.endLine == pos.line) = true := by rfl) : EV X W (.Call (.Attribute o "removeprefix" apos) [e] [] pos) (m1D rmpM f g) :=
  ev_m1 F.slot_str_removeprefix F.type_str_removeprefix mt_removeprefix (fun z y dk Wx F H s Q st q => by
    unfold rmpM at q
    split at q
    · rename_i hz
      exact ⟨z, y, rfl, rfl, by rw [sizeLine_eq]; exact hz, EPost.ok q st (.str _)⟩
    · exact q.elim) ho he hs hbase hline
def findM (z y : Str) : M D := fun s => .ok (.int (Txt.find z y)) s
theorem ev_find (ho : EV X W o f) (he : EV X W e g) (hs : starEach [e] X.env = [(false, eval e X.env)] := by rfl) (hbase : attributeBase o "find" X.env (eval o X.env) = eval o X.env := by rfl) (hline : (apos.endLine == pos.line) = true := by rfl) : EV X W (.Call (.Attribute o "find" apos) [e] [] pos) (m1D findM f g) :=
  ev_m1 F.slot_str_find F.type_str_find mt_find (fun z y dk Wx F H s Q st q => ⟨z, y, rfl, rfl, EPost.ok q st (.int _)⟩) ho he hs hbase hline
def prtnM (z y : Str) : M D := fun s => if (y.length == 0) = false ∧ z.length ≤ 16777216 then mkTup [.str (Txt.partition z y).1, .str (Txt.partition z y).2.1, .str (Txt.partition z y).2.2] s else .bad
theorem ev_partition (ho : EV X W o f) (he : EV X W e g) (hs : starEach [e] X.env = [(false, eval e X.env)] := by rfl) (hbase : attributeBase o "partition" X.env (eval o X.env) = eval o X.env := by rfl) (hline : (apos.endLine == pos.line) = true := by rfl) : EV X W (.Call (.Attribute o "partition" apos) [e] [] pos) (m1D prtnM f g) :=
  ev_m1 F.slot_str_partition F.type_str_partition mt_partition (fun z y dk Wx F H s Q st q => by
    unfold prtnM at q
    split at q
    · rename_i hz
      exact ⟨z, y, rfl, rfl, hz.1, by rw [sizeLine_eq]; exact hz.2, (epost_tup st (.cons (.str _) (.cons (.str _) (.cons (.str _) .nil))) q).2⟩
    · exact q.elim) ho he hs hbase hline
/-- str(int) -/
def strM1 (ds : List D) : M D := fun s => match ds with
  | [.int i] => if i.natAbs.log2 < 1920 then .ok (.str (toString i)) s else .bad
  | _ => .bad
theorem m_strc : CallM X (fun xs H Q => ∃ i, xs = [.int i] ∧ i.natAbs.log2 < 1920 ∧ Q (.str (toString i)) H) strM1 := by
  intro dk Wx F H s vs ds Q st r q
  unfold strM1 at q
  split at q
  · split at q
    · rename_i hz
      cases r with
      | cons r1 r2 => cases r2; cases r1; exact ⟨_, rfl, hz, EPost.ok q st (.str _)⟩
    · exact q.elim
  · exact q.elim
/-- for .. in a text -/
def signs (z : Str) : List D := z.cps.toList.map fun c => .str ⟨#[c]⟩
def txtM : D → M (List D) := strR fun z s => .ok (signs z) s
theorem its_ok {K : PySem.W.Frag} {dk : Addr} {F0 : Hp} {z : Str} : ItD K dk F0 (Its z) (signs z) := by
  intro i F H s sm st
  have hl : (signs z).length = z.cps.size := by unfold signs; rw [List.length_map, Array.length_toList]
  refine ⟨fun hi => by rw [hl] at hi; exact hi, fun hi => by rw [hl] at hi; exact hi, fun x H' hi y => ?_⟩
  obtain ⟨rfl, c, hc, rfl⟩ := y
  refine ⟨F, .str ⟨#[c]⟩, ?_, Nxt.refl st, .str _⟩
  unfold signs
  rw [List.getElem?_map, Array.getElem?_toList, hc]
  rfl
theorem iv_txt (ha : EV X W a f) : IV X W tg a (fun δ s => (f δ s).bind txtM) := by
  refine pi_weak (pi_str ha) fun σ H RQ ⟨dk, δ, s, F, er, st, q⟩ => ?_
  refine ⟨dk, δ, s, F, er, st, EPost.bind q fun d s1 v F1 H1 n r q1 => ?_⟩
  unfold txtM strR at q1
  split at q1
  · cases r
    exact ⟨_, rfl, EPost.ok q1 n.st its_ok⟩
  · exact q1.elim
end
/-! ### is False, names of the module -/
def isBM (a b : D) : M D := match a, b with
  | .bl i, .bl j => fun s => .ok (.bl (decide (i = j))) s
  | _, _ => fun _ => .bad
section
variable {X : Cx} {W : WX}
theorem m_isB : OpM X rIsB isBM := by
  intro dk Wx F H s x y dx dy Q st rx ry q
  unfold isBM at q
  split at q
  · cases rx
    cases ry
    exact ⟨_, _, rfl, rfl, EPost.ok q st (.bl _)⟩
  · exact q.elim
theorem ev_glob {x : Str} {pos : Pos} {i : Int} (h : ∃ t, X.mg x = some (.int i t)) (hg : Gl X x) (hdb : (x == ("__debug__" : Str)) = false := by decide) : EV X W (.Name x pos) (cst (.int i)) := by
  obtain ⟨t, e⟩ := h
  exact pe_weak (pe_glob (v := .int i) hg e ⟨t, rfl⟩ hdb) fun σ H Q ⟨dk, δ, s, F, er, st, q⟩ => EPost.ok q st (.int i)
end
/-! ### f'..' -/
def fmtM (d : D) : M D := fun s => match d with
  | .str y => if y.length ≤ 16777216 then .ok (.str y) s else .bad
  | .int i => if i.natAbs.log2 < 1920 then .ok (.str (toString i)) s else .bad
  | _ => .bad
section
variable {X : Cx} {W : WX} {e : Expr} {es : List Expr} {f : FE} {pos : Pos}
theorem ev_fmt (he : EV X W e f) : EV X W (.FormattedValue e (-1) none pos) (un1 fmtM f) := by
  refine pe_weak (pe_fmt he) fun σ H Q ⟨dk, δ, s, F, er, st, q⟩ => ?_
  refine ⟨dk, δ, s, F, er, st, EPost.bind q fun d s1 v F1 H1 n r q1 => ?_⟩
  unfold fmtM at q1
  split at q1
  · split at q1
    · rename_i hz
      cases r
      exact .inl ⟨_, rfl, by rw [sizeLine_eq]; exact hz, EPost.ok q1 n.st (.str _)⟩
    · exact q1.elim
  · split at q1
    · rename_i hz
      cases r
      exact .inr ⟨_, rfl, hz, EPost.ok q1 n.st (.str _)⟩
    · exact q1.elim
  · exact q1.elim
abbrev FJ := Str → DEnv → M Str
def js0 : FJ := fun acc _ s => .ok acc s
def jsC (f : FE) (g : FJ) : FJ := fun acc δ s => (f δ s).bind (strR fun y s => if (acc ++ y).length ≤ 16777216 then g (acc ++ y) δ s else .bad)
def JV (X : Cx) (W : WX) (es : List Expr) (g : FJ) : Prop := ∃ ts, PJ X es ts ∧ ∀ acc σ H (Q : Str → Hp → Prop), (∃ dk δ s F, EnvR X.K dk F σ δ ∧ Stt X.K dk F H s ∧ EPost X.K X.mg dk (fun _ (a b : Str) => a = b) (WE W σ) F H Q (g acc δ s)) → tJs ts acc σ H Q
theorem jv_nil : JV X W [] js0 := ⟨[], .nil, fun acc σ H Q ⟨dk, δ, s, F, er, st, q⟩ => EPost.ok (v := acc) q st rfl⟩
theorem jv_cons {g : FJ} (he : EV X W e f) (hr : JV X W es g) : JV X W (e :: es) (jsC f g) := by
  obtain ⟨ts, P, k⟩ := hr
  refine ⟨_ :: ts, .cons he P, fun acc σ H Q ⟨dk, δ, s, F, er, st, q⟩ => ?_⟩
  refine ⟨dk, δ, s, F, er, st, EPost.bind q fun d s1 v F1 H1 n r q1 => ?_⟩
  unfold strR at q1
  split at q1
  · dsimp only at q1
    split at q1
    · rename_i hz
      cases r
      exact ⟨_, rfl, by rw [sizeLine_eq]; exact hz, k _ _ _ _ ⟨dk, δ, s1, F1, er.mono n.sm, n.st, q1⟩⟩
    · exact q1.elim
  · exact q1.elim
def joinD (g : FJ) : FE := fun δ s => (g Str.empty δ s).bind fun y s => .ok (.str y) s
theorem ev_joined {e2 : Expr} {g : FJ} (h : JV X W (e :: e2 :: es) g) : EV X W (.JoinedStr (e :: e2 :: es) pos) (joinD g) := by
  obtain ⟨ts, P, k⟩ := h
  refine pe_weak (pe_joined P) fun σ H Q ⟨dk, δ, s, F, er, st, q⟩ => ?_
  refine k _ _ _ _ ⟨dk, δ, s, F, er, st, EPost.bind q fun y s1 v F1 H1 n r q1 => ?_⟩
  have r : v = y := r
  subst r
  exact EPost.ok q1 n.st (.str _)
end
end FL

namespace FL
open PySem PySem.Spec L2
/-! ### error classes as the program's top has left them -/
def XAt (K : PySem.W.Frag) (x qual : Str) (fl : List Str) (ist : Stmt) (C : Addr) : Prop :=
  PySem.W.nsIn K mainGlobals x = some (some (.ref C)) ∧ OexC K C ∧ XfC K C ∧ (∀ f ∈ fl, PySem.W.findIn K (.ref C) f = some none) ∧
    ∃ (fI : Addr) (fd : FuncData), PySem.W.findIn K (.ref C) "__init__" = some (some (.ref fI)) ∧ PySem.W.typeIn K (.ref fI) = some (.type "function") ∧ Fun K "__init__" qual ist fI fd
section
variable {K : PySem.W.Frag} {x qual : Str} {ist : Stmt} {C N fI : Addr} {nm q : Str} {bs bm : List Value} {sn : List Str} {sub : List Value} {ab : Bool} {col : Option Bool} {dd : Option Addr} {k0 k1 k2 k3 k5 : Option Value} {od an : Option Addr} {sl : Array (Option Value)} {oc kV dc pm cd ct : Value} {f g : Str}
theorem XAt.mk1 (aC : PySem.W.nsIn K mainGlobals x = some (some (.ref C))) (xL : K.lookup C = some (excClassObj nm q C N bs bm true sn sub ab col dd k0 k1 k2 k3 k5 "ValueError.__new__")) (hb : PySem.HandSPX.refsVE bm = true)
    (sa : PySem.W.findIn K (.ref C) "__setattr__" = some (some (.builtin "object.__setattr__"))) (ga : PySem.W.findIn K (.ref C) "__getattribute__" = some (some (.builtin "BaseException.__getattribute__"))) (gg : PySem.W.findIn K (.ref C) "__getattr__" = some none)
    (n1 : PySem.W.findIn K (.ref C) f = some none) (i1 : PySem.W.findIn K (.ref C) "__init__" = some (some (.ref fI))) (t1 : PySem.W.typeIn K (.ref fI) = some (.type "function"))
    (l1 : K.lookup fI = some ⟨oc, od, .func (PySem.W.fnOf "__init__" qual (defArgs ist) (defBody ist) (defScope ist) .none kV dc pm an cd ct), sl⟩) (c1 : PySem.W.codeIn K cd qual = true) (kf : PySem.W.keepIn K (.ref fI) = true)
    (kC : PySem.W.keepIn K (.ref C) = true) (eC : PySem.W.subIn K (.ref C) (.type "BaseException") = some true) (tC : PySem.W.typeIn K (.ref C) = some (.type "type")) (hC : PySem.W.hasDictIn K C = true) : XAt K x qual [f] ist C :=
  ⟨aC, ⟨⟨nm, q, N, bs, bm, sn, sub, ab, col, dd, k0, k1, k2, k3, k5, xL, hb⟩, sa, eC, tC, kC⟩, ⟨ga, gg, eC, hC⟩, fun z hz => by
    obtain rfl : z = f := by simpa using hz
    exact n1, fI, _, i1, t1, fun_mk l1 c1 kf⟩
theorem XAt.mk2 (aC : PySem.W.nsIn K mainGlobals x = some (some (.ref C))) (xL : K.lookup C = some (excClassObj nm q C N bs bm true sn sub ab col dd k0 k1 k2 k3 k5 "ValueError.__new__")) (hb : PySem.HandSPX.refsVE bm = true)
    (sa : PySem.W.findIn K (.ref C) "__setattr__" = some (some (.builtin "object.__setattr__"))) (ga : PySem.W.findIn K (.ref C) "__getattribute__" = some (some (.builtin "BaseException.__getattribute__"))) (gg : PySem.W.findIn K (.ref C) "__getattr__" = some none)
    (n1 : PySem.W.findIn K (.ref C) f = some none) (n2 : PySem.W.findIn K (.ref C) g = some none) (i1 : PySem.W.findIn K (.ref C) "__init__" = some (some (.ref fI))) (t1 : PySem.W.typeIn K (.ref fI) = some (.type "function"))
    (l1 : K.lookup fI = some ⟨oc, od, .func (PySem.W.fnOf "__init__" qual (defArgs ist) (defBody ist) (defScope ist) .none kV dc pm an cd ct), sl⟩) (c1 : PySem.W.codeIn K cd qual = true) (kf : PySem.W.keepIn K (.ref fI) = true)
    (kC : PySem.W.keepIn K (.ref C) = true) (eC : PySem.W.subIn K (.ref C) (.type "BaseException") = some true) (tC : PySem.W.typeIn K (.ref C) = some (.type "type")) (hC : PySem.W.hasDictIn K C = true) : XAt K x qual [f, g] ist C :=
  ⟨aC, ⟨⟨nm, q, N, bs, bm, sn, sub, ab, col, dd, k0, k1, k2, k3, k5, xL, hb⟩, sa, eC, tC, kC⟩, ⟨ga, gg, eC, hC⟩, fun z hz => by
    have : z = f ∨ z = g := by simpa using hz
    rcases this with rfl | rfl
    · exact n1
    · exact n2, fI, _, i1, t1, fun_mk l1 c1 kf⟩
/-- what a clause's class must be, and which classes it takes -/
theorem exm_of {D0 : Addr} {b : Bool} (e : PySem.W.subIn K (.ref D0) (.type "BaseException") = some true) (i : PySem.W.isClsIn K D0 = true) (t : PySem.W.typeIn K (.ref D0) = some (.type "type")) (s : PySem.W.subIn K (.ref C) (.ref D0) = some b) : PySem.W.exmOne K (.ref C) (.ref D0) = some b := by
  have e1 : (PySem.W.subIn K (.ref D0) (.type "BaseException") == some true) = true := by rw [e] <;> rfl
  have e2 : ((PySem.W.clsIn K D0).isSome && PySem.W.typeIn K (.ref D0) == some (.type "type")) = true := by
    have i' : (PySem.W.clsIn K D0).isSome = true := i
    rw [i', t] <;> rfl
  show (if (PySem.W.subIn K (.ref D0) (.type "BaseException") == some true) = true then (if ((PySem.W.clsIn K D0).isSome && PySem.W.typeIn K (.ref D0) == some (.type "type")) = true then PySem.W.subIn K (.ref C) (.ref D0) else none) else none) = some b
  rw [if_pos e1, if_pos e2]
  exact s
end
end FL

namespace K04
open PySem L2 FL
def top (i : Nat) : Stmt := PySem.Challenge.pw_planless_k04_numbers_written_and_read.main.body.getD i (.Pass ⟨0, 0, 0, 0⟩)
def tbl (x y : Str) : Option Bool :=
  (if x = "PlayError" ∧ y = "PlayError" then some true else (if x = "PlayError" ∧ y = "BadNumber" then some false else (if x = "PlayError" ∧ y = "BadText" then some false else (if x = "BadNumber" ∧ y = "PlayError" then some true else (if x = "BadNumber" ∧ y = "BadNumber" then some true else (if x = "BadNumber" ∧ y = "BadText" then some false else (if x = "BadText" ∧ y = "PlayError" then some true else (if x = "BadText" ∧ y = "BadNumber" then some false else (if x = "BadText" ∧ y = "BadText" then some true else none)))))))))
def intE (δ : DEnv) (i : Nat) : Int := match δ[i]? with
  | some (some (.int n)) => n
  | _ => 0
abbrev s_is_integer : Stmt := top 2
abbrev N_is_integer : List Str := ["value"]
theorem sc_is_integer : FnScope N_is_integer ["value"] (defScope s_is_integer) := ⟨rfl, rfl, rfl, by decide +kernel, rfl, by decide +kernel, by decide +kernel⟩
abbrev s_is_within : Stmt := top 3
abbrev N_is_within : List Str := ["value", "least", "most", "bound"]
theorem sc_is_within : FnScope N_is_within ["value", "least", "most"] (defScope s_is_within) := ⟨rfl, rfl, rfl, by decide +kernel, rfl, by decide +kernel, by decide +kernel⟩
abbrev s_is_number : Stmt := top 4
abbrev N_is_number : List Str := ["value", "above", "below"]
theorem sc_is_number : FnScope N_is_number ["value"] (defScope s_is_number) := ⟨rfl, rfl, rfl, by decide +kernel, rfl, by decide +kernel, by decide +kernel⟩
abbrev s_is_list : Stmt := top 5
abbrev N_is_list : List Str := ["value"]
theorem sc_is_list : FnScope N_is_list ["value"] (defScope s_is_list) := ⟨rfl, rfl, rfl, by decide +kernel, rfl, by decide +kernel, by decide +kernel⟩
abbrev s_integer_in : Stmt := top 8
abbrev N_integer_in : List Str := ["item", "digits"]
theorem sc_integer_in : FnScope N_integer_in ["item"] (defScope s_integer_in) := ⟨rfl, rfl, rfl, by decide +kernel, rfl, by decide +kernel, by decide +kernel⟩
abbrev s_number_in : Stmt := top 9
abbrev N_number_in : List Str := ["item", "above", "_", "below", "pair"]
theorem sc_number_in : FnScope N_number_in ["item"] (defScope s_number_in) := ⟨rfl, rfl, rfl, by decide +kernel, rfl, by decide +kernel, by decide +kernel⟩
abbrev s_above_below : Stmt := top 15
abbrev N_above_below : List Str := ["number"]
theorem sc_above_below : FnScope N_above_below ["number"] (defScope s_above_below) := ⟨rfl, rfl, rfl, by decide +kernel, rfl, by decide +kernel, by decide +kernel⟩
abbrev s_number_text : Stmt := top 16
abbrev N_number_text : List Str := ["value", "above", "below"]
theorem sc_number_text : FnScope N_number_text ["value"] (defScope s_number_text) := ⟨rfl, rfl, rfl, by decide +kernel, rfl, by decide +kernel, by decide +kernel⟩
abbrev s_number_of : Stmt := top 17
abbrev N_number_of : List Str := ["text", "number"]
theorem sc_number_of : FnScope N_number_of ["text"] (defScope s_number_of) := ⟨rfl, rfl, rfl, by decide +kernel, rfl, by decide +kernel, by decide +kernel⟩
abbrev s_law_jar : Stmt := top 19
abbrev s_law_pour : Stmt := top 20
abbrev N_law_pour : List Str := ["jar", "many", "left", "turn", "cell", "mixed"]
theorem sc_law_pour : FnScope N_law_pour ["jar", "many"] (defScope s_law_pour) := ⟨rfl, rfl, rfl, by decide +kernel, rfl, by decide +kernel, by decide +kernel⟩
abbrev s_law_pick : Stmt := top 21
abbrev N_law_pick : List Str := ["jar", "some"]
theorem sc_law_pick : FnScope N_law_pick ["jar", "some"] (defScope s_law_pick) := ⟨rfl, rfl, rfl, by decide +kernel, rfl, by decide +kernel, by decide +kernel⟩
abbrev s_law_alone : Stmt := top 22
abbrev N_law_alone : List Str := ["one", "other"]
theorem sc_law_alone : FnScope N_law_alone ["one", "other"] (defScope s_law_alone) := ⟨rfl, rfl, rfl, by decide +kernel, rfl, by decide +kernel, by decide +kernel⟩
abbrev s_law_figures : Stmt := top 23
abbrev N_law_figures : List Str := ["word", "bare", ".0", "sign"]
theorem sc_law_figures : FnScope N_law_figures ["word"] (defScope s_law_figures) := ⟨rfl, rfl, rfl, by decide +kernel, rfl, by decide +kernel, by decide +kernel⟩
abbrev s_law_read : Stmt := top 24
abbrev N_law_read : List Str := ["word", "at", "number", "above", "below"]
theorem sc_law_read : FnScope N_law_read ["word"] (defScope s_law_read) := ⟨rfl, rfl, rfl, by decide +kernel, rfl, by decide +kernel, by decide +kernel⟩
abbrev s_law_told : Stmt := top 25
abbrev N_law_told : List Str := ["word", "told", "error"]
theorem sc_law_told : FnScope N_law_told ["word"] (defScope s_law_told) := ⟨rfl, rfl, rfl, by decide +kernel, rfl, by decide +kernel, by decide +kernel⟩
abbrev s_law_refused : Stmt := top 26
abbrev N_law_refused : List Str := ["value", "told", "error"]
theorem sc_law_refused : FnScope N_law_refused ["value"] (defScope s_law_refused) := ⟨rfl, rfl, rfl, by decide +kernel, rfl, by decide +kernel, by decide +kernel⟩
abbrev s_law_value : Stmt := top 27
abbrev N_law_value : List Str := ["jar", "most", "above", "below"]
theorem sc_law_value : FnScope N_law_value ["jar"] (defScope s_law_value) := ⟨rfl, rfl, rfl, by decide +kernel, rfl, by decide +kernel, by decide +kernel⟩
abbrev s_law_written : Stmt := top 28
abbrev N_law_written : List Str := ["number"]
theorem sc_law_written : FnScope N_law_written ["number"] (defScope s_law_written) := ⟨rfl, rfl, rfl, by decide +kernel, rfl, by decide +kernel, by decide +kernel⟩
abbrev s_law_bent : Stmt := top 29
abbrev N_law_bent : List Str := ["jar", "word", "at", "sign", "way"]
theorem sc_law_bent : FnScope N_law_bent ["jar", "word"] (defScope s_law_bent) := ⟨rfl, rfl, rfl, by decide +kernel, rfl, by decide +kernel, by decide +kernel⟩
abbrev s_law : Stmt := top 30
abbrev N_law : List Str := ["script", "jar", "turn", "number", "word", "listed", "bent", "value", "bad", "odd"]
theorem sc_law : FnScope N_law ["script"] (defScope s_law) := ⟨rfl, rfl, rfl, by decide +kernel, rfl, by decide +kernel, by decide +kernel⟩
theorem sc_law_jar : FnScope ["script", "cell"] ["script"] (defScope s_law_jar) := ⟨rfl, rfl, rfl, by decide +kernel, rfl, by decide +kernel, by decide +kernel⟩
def g_is_integer : FS :=
    (retS (andD (isiF (getE 0) "int") (notD (isiF (getE 0) "bool"))))
def m_is_integer : List D → M D := defM 1 g_is_integer
def g_is_within : FS :=
    (seqS (forS (fun δ s => ((withA (avC (getE 1) (avC (getE 2) av0)) mkTup) δ s).bind seqM) (.nm 3) (iteS (fAnd (fNotN (getE 3)) (fNot (fTru (withA (avC (getE 3) av0) (callN 1 m_is_integer))))) (retS (cst (.bl false))) (fun δ s => .nx δ s)))
    (seqS (iteS (fNot (fTru (withA (avC (getE 0) av0) (callN 1 m_is_integer)))) (retS (cst (.bl false))) (fun δ s => .nx δ s))
    (retS (andD (orD (isN (getE 1)) (lift2 leM (getE 1) (getE 0))) (orD (isN (getE 2)) (lift2 leM (getE 0) (getE 2)))))))
def m_is_within : List D → M D := defM 4 g_is_within
def g_is_list : FS :=
    (retS (isi2F (getE 0) "list" "tuple"))
def m_is_list : List D → M D := defM 1 g_is_list
def g_is_number : FS :=
    (seqS (iteS (fNot (fTru (withA (avC (getE 0) av0) (callN 1 m_is_list)))) (retS (withA (avC (getE 0) av0) (callN 1 m_is_integer))) (fun δ s => .nx δ s))
    (seqS (iteS (fBoo (lift2 neM (withA (avC (getE 0) av0) lenM) (cst (.int 2)))) (retS (cst (.bl false))) (fun δ s => .nx δ s))
    (seqS (asgS (.tp [(.nm 1), (.nm 2)]) (getE 0))
    (retS (andD (withA (avC (getE 1) av0) (callN 1 m_is_integer)) (andD (withA (avC (getE 2) (avC (cst (.int 2)) (avC (cst .non) av0))) (callN 3 m_is_within)) (lift2 eqM (withA (avC (getE 1) (avC (getE 2) av0)) gcdM) (cst (.int 1)))))))))
def m_is_number : List D → M D := defM 3 g_is_number
def g_integer_in : FS :=
    (seqS (setS 1 (m1D rmpM (getE 0) (cst (.str "-"))))
    (seqS (iteS (fOr (fNot (fTru (un1 (m0M (fun _ => true) fun a => .bl (Txt.isascii a)) (getE 1)))) (fOr (fNot (fTru (un1 (m0M (fun _ => true) fun a => .bl (Txt.isdigit a)) (getE 1)))) (fBoo (lift2 gtM (withA (avC (getE 1) av0) lenM) (cst (.int 60)))))) (retS (cst .non)) (fun δ s => .nx δ s))
    (seqS (iteS (fAnd (fBoo (lift2 eqM (lift2 getM (getE 1) (cst (.int 0))) (cst (.str "0")))) (fBoo (lift2 neM (getE 0) (cst (.str "0"))))) (retS (cst .non)) (fun δ s => .nx δ s))
    (retS (withA (avC (getE 0) av0) intM1)))))
def m_integer_in : List D → M D := defM 2 g_integer_in
def g_number_in : FS :=
    (seqS (iteS (fBoo (lift2 notInM (cst (.str "/")) (getE 0))) (retS (withA (avC (getE 0) av0) (callN 1 m_integer_in))) (fun δ s => .nx δ s))
    (seqS (asgS (.tp [(.nm 1), (.nm 2), (.nm 3)]) (m1D prtnM (getE 0) (cst (.str "/"))))
    (seqS (setS 4 (withA (avC (withA (avC (getE 1) av0) (callN 1 m_integer_in)) (avC (withA (avC (getE 3) av0) (callN 1 m_integer_in)) av0)) mkTup))
    (retS (ifD (fTru (withA (avC (getE 4) av0) (callN 1 m_is_number))) (getE 4) (cst .non))))))
def m_number_in : List D → M D := defM 5 g_number_in
def g_above_below : FS :=
    (seqS (iteS (fTru (withA (avC (getE 0) av0) (callN 1 m_is_integer))) (retS (withA (avC (getE 0) (avC (cst (.int 1)) av0)) mkTup)) (fun δ s => .nx δ s))
    (retS (withA (avC (lift2 getM (getE 0) (cst (.int 0))) (avC (lift2 getM (getE 0) (cst (.int 1))) av0)) mkTup)))
def m_above_below : List D → M D := defM 1 g_above_below
def g_number_text : FS :=
    (seqS (iteS (fNot (fTru (withA (avC (getE 0) av0) (callN 1 m_is_number)))) (raiseS "BadNumber" ["part"] (avC (cst (.str "value")) av0)) (fun δ s => .nx δ s))
    (seqS (asgS (.tp [(.nm 1), (.nm 2)]) (withA (avC (getE 0) av0) (callN 1 m_above_below)))
    (retS (ifD (fBoo (lift2 eqM (getE 2) (cst (.int 1)))) (withA (avC (getE 1) av0) strM1) (joinD (jsC (un1 fmtM (getE 1)) (jsC (cst (.str "/")) (jsC (un1 fmtM (getE 2)) js0))))))))
def m_number_text : List D → M D := defM 3 g_number_text
def g_number_of : FS :=
    (seqS (setS 1 (ifD (fTru (isiF (getE 0) "str")) (withA (avC (getE 0) av0) (callN 1 m_number_in)) (cst .non)))
    (seqS (iteS (fIsN (getE 1)) (raiseS "BadText" ["line", "item"] (avC (cst (.int 0)) (avC (cst (.int 0)) av0))) (fun δ s => .nx δ s))
    (retS (getE 1))))
def m_number_of : List D → M D := defM 2 g_number_of
def g_law_pour : FS :=
    (seqS (iteS (fBoo (lift2 gtM (lift2 getM (getE 0) (cst (.int 2))) (cst (.int 0)))) (seqS (setS 2 (withA (avC (lift2 getM (getE 0) (cst (.int 2))) av0) intM1))
    (seqS (putS (lift2 fdivM (getE 2) (getE 1)) (getE 0) 2)
    (retS (lift2 modM (withA (avC (getE 2) av0) intM1) (getE 1))))) (fun δ s => .nx δ s))
    (seqS (setS 3 (lift2 getM (getE 0) (cst (.int 1))))
    (seqS (putS (lift2 addM (getE 3) (cst (.int 1))) (getE 0) 1)
    (seqS (setS 4 (lift2 addM (lift2 mulM (cst (.int 108203)) (getE 3)) (cst (.int 8179))))
    (seqS (iteS (fBoo (lift2 neM (lift2 getM (getE 0) (cst (.int 0))) (withA av0 mkLst))) (setS 4 (lift2 getM (lift2 getM (getE 0) (cst (.int 0))) (lift2 modM (withA (avC (getE 3) av0) intM1) (withA (avC (lift2 getM (getE 0) (cst (.int 0))) av0) lenM)))) (fun δ s => .nx δ s))
    (seqS (iteS (fAnd (fBoo (lift2 ltM (getE 3) (withA (avC (lift2 getM (getE 0) (cst (.int 0))) av0) lenM))) (fBoo (lift2 geM (withA (avC (getE 4) av0) absM) (lift2 powM (cst (.int 10)) (cst (.int 18)))))) (seqS (setS 2 (lift2 addM (lift2 mulM (cst (.int 2)) (lift2 subM (withA (avC (withA (avC (getE 4) av0) intM1) av0) absM) (lift2 powM (cst (.int 10)) (cst (.int 18))))) (withA (avC (lift2 ltM (getE 4) (cst (.int 0))) av0) intM1)))
    (seqS (putS (lift2 fdivM (getE 2) (getE 1)) (getE 0) 2)
    (retS (lift2 modM (withA (avC (getE 2) av0) intM1) (getE 1))))) (fun δ s => .nx δ s))
    (seqS (setS 5 (lift2 modM (withA (avC (lift2 powM (lift2 addM (lift2 addM (lift2 modM (withA (avC (getE 4) av0) intM1) (cst (.int 2147483563))) (lift2 mulM (cst (.int 85199)) (getE 3))) (cst (.int 8179))) (cst (.int 5))) av0) intM1) (cst (.int 2147483579))))
    (seqS (setS 5 (lift2 modM (withA (avC (lift2 powM (lift2 addM (lift2 addM (lift2 mulM (getE 5) (lift2 addM (lift2 mulM (cst (.int 2)) (getE 3)) (cst (.int 8179)))) (lift2 mulM (lift2 mulM (cst (.int 108203)) (getE 3)) (getE 3))) (cst (.int 85199))) (cst (.int 3))) av0) intM1) (cst (.int 2147483549))))
    (retS (lift2 modM (withA (avC (lift2 fdivM (getE 5) (cst (.int 64))) av0) intM1) (getE 1)))))))))))
def m_law_pour : List D → M D := defM 6 g_law_pour
def g_law_pick : FS :=
    (retS (lift2 getM (getE 1) (withA (avC (getE 0) (avC (withA (avC (getE 1) av0) lenM) av0)) (callN 2 m_law_pour))))
def m_law_pick : List D → M D := defM 2 g_law_pick
def g_law_alone : FS :=
    (seqS (parS 0 1 (avC (withA (avC (getE 0) av0) absM) (avC (withA (avC (getE 1) av0) absM) av0)))
    (seqS (whileS (fun δ _ => (intE δ 1).natAbs + 1) (fBoo (lift2 gtM (getE 1) (cst (.int 0)))) (parS 0 1 (avC (getE 1) (avC (lift2 modM (withA (avC (getE 0) av0) intM1) (getE 1)) av0))))
    (retS (lift2 eqM (getE 0) (cst (.int 1))))))
def m_law_alone : List D → M D := defM 2 g_law_alone
def g_law_figures : FS :=
    (seqS (setS 1 (ifD (fBoo (lift2 eqM (slcD (getE 0) .no (.at (cst (.int 1)))) (cst (.str "-")))) (slcD (getE 0) (.at (cst (.int 1))) .no) (getE 0)))
    (seqS (iteS (fOr (fBoo (lift2 eqM (getE 1) (cst (.str "")))) (fOr (fBoo (lift2 gtM (withA (avC (getE 1) av0) lenM) (cst (.int 60)))) (fNot (fTru (withA (avC (lcD (fun δ s => ((getE 1) δ s).bind txtM) (.nm 3) [2, 3] yesT (lift2 inM (getE 3) (cst (.str "0123456789")))) av0) allM))))) (retS (cst .non)) (fun δ s => .nx δ s))
    (seqS (iteS (fAnd (fBoo (lift2 eqM (lift2 getM (getE 1) (cst (.int 0))) (cst (.str "0")))) (fBoo (lift2 neM (getE 0) (cst (.str "0"))))) (retS (cst .non)) (fun δ s => .nx δ s))
    (retS (withA (avC (getE 0) av0) intM1)))))
def m_law_figures : List D → M D := defM 4 g_law_figures
def g_law_read : FS :=
    (seqS (setS 1 (m1D findM (getE 0) (cst (.str "/"))))
    (seqS (iteS (fBoo (lift2 ltM (getE 1) (cst (.int 0)))) (seqS (setS 2 (withA (avC (getE 0) av0) (callN 1 m_law_figures)))
    (retS (ifD (fNotN (getE 2)) (withA (avC (getE 2) av0) mkLst) (withA (avC (cst (.str "BadText")) (avC (cst (.int 0)) (avC (cst (.int 0)) av0))) mkTup)))) (fun δ s => .nx δ s))
    (seqS (parS 3 4 (avC (withA (avC (slcD (getE 0) .no (.at (getE 1))) av0) (callN 1 m_law_figures)) (avC (withA (avC (slcD (getE 0) (.at (lift2 addM (getE 1) (cst (.int 1)))) .no) av0) (callN 1 m_law_figures)) av0)))
    (seqS (iteS (fOr (fIsN (getE 3)) (fOr (fIsN (getE 4)) (fOr (fBoo (lift2 ltM (getE 4) (cst (.int 2)))) (fNot (fTru (withA (avC (getE 3) (avC (getE 4) av0)) (callN 2 m_law_alone))))))) (retS (withA (avC (cst (.str "BadText")) (avC (cst (.int 0)) (avC (cst (.int 0)) av0))) mkTup)) (fun δ s => .nx δ s))
    (retS (withA (avC (withA (avC (getE 3) (avC (getE 4) av0)) mkTup) av0) mkLst))))))
def m_law_read : List D → M D := defM 5 g_law_read
def g_law_told : FS :=
    (seqS (setS 1 (cst .non))
    (seqS (tryS tbl (setS 1 (withA (avC (withA (avC (getE 0) av0) (callN 1 m_number_of)) av0) mkLst)) (("BadText", 2, (fun x => setS 1 ((fun x => withA ((fun x => avC ((fun _ => (cst (.str "BadText"))) x) ((fun x => avC ((fldH "BadText" "line") x) ((fun x => avC ((fldH "BadText" "item") x) ((fun _ => av0) x)) x)) x)) x) mkTup) x))) :: (("PlayError", 2, (fun x => setS 1 ((fun x => withA ((fun x => avC ((fun _ => (cst (.str "other"))) x) ((fun _ => av0) x)) x) mkTup) x))) :: [])))
    (retS (getE 1))))
def m_law_told : List D → M D := defM 3 g_law_told
def g_law_refused : FS :=
    (seqS (setS 1 (cst .non))
    (seqS (tryS tbl (setS 1 (withA (avC (getE 0) av0) (callN 1 m_number_text))) (("BadNumber", 2, (fun x => retS ((fun x => lift2 eqM ((fldH "BadNumber" "part") x) ((fun _ => (cst (.str "value"))) x)) x))) :: []))
    (retS (lift2 isBM (getE 1) (cst (.bl false))))))
def m_law_refused : List D → M D := defM 3 g_law_refused
def g_law_value : FS :=
    (seqS (setS 1 (withA (avC (getE 0) (avC (withA (avC (cst (.int 3)) (avC (cst (.int 11)) (avC (cst (.int 200)) (avC (lift2 powM (cst (.int 10)) (cst (.int 9))) (avC (lift2 subM (lift2 powM (cst (.int 10)) (cst (.int 30))) (cst (.int 1))) (avC (lift2 subM (lift2 powM (cst (.int 10)) (cst (.int 60))) (cst (.int 1))) av0)))))) mkLst) av0)) (callN 2 m_law_pick)))
    (seqS (setS 2 (lift2 subM (withA (avC (getE 0) (avC (lift2 addM (lift2 mulM (cst (.int 2)) (getE 1)) (cst (.int 1))) av0)) (callN 2 m_law_pour)) (getE 1)))
    (seqS (setS 3 (lift2 addM (cst (.int 1)) (withA (avC (getE 0) (avC (getE 1) av0)) (callN 2 m_law_pour))))
    (seqS (iteS (fOr (fBoo (lift2 eqM (withA (avC (getE 0) (avC (cst (.int 2)) av0)) (callN 2 m_law_pour)) (cst (.int 0)))) (fOr (fBoo (lift2 eqM (getE 3) (cst (.int 1)))) (fNot (fTru (withA (avC (getE 2) (avC (getE 3) av0)) (callN 2 m_law_alone)))))) (retS (getE 2)) (fun δ s => .nx δ s))
    (retS (withA (avC (getE 2) (avC (getE 3) av0)) mkTup))))))
def m_law_value : List D → M D := defM 4 g_law_value
def g_law_written : FS :=
    (retS (ifD (fTru (isiF (getE 0) "int")) (withA (avC (getE 0) av0) strM1) (lift2 addM (lift2 addM (withA (avC (lift2 getM (getE 0) (cst (.int 0))) av0) strM1) (cst (.str "/"))) (withA (avC (lift2 getM (getE 0) (cst (.int 1))) av0) strM1))))
def m_law_written : List D → M D := defM 1 g_law_written
def g_law_bent : FS :=
    (seqS (setS 2 (withA (avC (getE 0) (avC (lift2 addM (withA (avC (getE 1) av0) lenM) (cst (.int 1))) av0)) (callN 2 m_law_pour)))
    (seqS (setS 3 (withA (avC (getE 0) (avC (withA (avC (cst (.str "0")) (avC (cst (.str "1")) (avC (cst (.str "2")) (avC (cst (.str "6")) (avC (cst (.str "9")) (avC (cst (.str "-")) (avC (cst (.str "/")) (avC (cst (.str " ")) (avC (cst (.str "+")) (avC (cst (.str "_")) (avC (cst (.str "a")) (avC (cst (.str ".")) av0)))))))))))) mkLst) av0)) (callN 2 m_law_pick)))
    (seqS (setS 4 (withA (avC (getE 0) (avC (cst (.int 3)) av0)) (callN 2 m_law_pour)))
    (seqS (iteS (fBoo (lift2 eqM (getE 4) (cst (.int 0)))) (retS (lift2 addM (lift2 addM (slcD (getE 1) .no (.at (getE 2))) (getE 3)) (slcD (getE 1) (.at (getE 2)) .no))) (fun δ s => .nx δ s))
    (retS (ifD (fBoo (lift2 eqM (getE 4) (cst (.int 1)))) (lift2 addM (slcD (getE 1) .no (.at (getE 2))) (slcD (getE 1) (.at (lift2 addM (getE 2) (cst (.int 1)))) .no)) (lift2 addM (lift2 addM (slcD (getE 1) .no (.at (getE 2))) (getE 3)) (slcD (getE 1) (.at (lift2 addM (getE 2) (cst (.int 1)))) .no))))))))
def m_law_bent : List D → M D := defM 5 g_law_bent
def g_law : FS :=
    (seqS (forS (fun δ s => ((avC (cst (.int 8)) av0) δ s).bind rng1M) (.nm 2) (seqS (setS 3 (withA (avC (getE 1) av0) (callN 1 m_law_value)))
    (seqS (setS 4 (withA (avC (getE 3) av0) (callN 1 m_law_written)))
    (seqS (setS 5 (ifD (fTru (isiF (getE 3) "tuple")) (withA (avC (getE 3) av0) lstM) (getE 3)))
    (seqS (iteS (fOr (fBoo (lift2 neM (withA (avC (withA (avC (withA (avC (getE 3) av0) (callN 1 m_number_text)) (avC (withA (avC (getE 5) av0) (callKW 1 [0] 1 m_number_text)) av0)) mkLst) av0) reprM) (withA (avC (withA (avC (getE 4) (avC (getE 4) av0)) mkLst) av0) reprM))) (fBoo (lift2 neM (withA (avC (withA (avC (getE 4) av0) (callN 1 m_law_told)) av0) reprM) (withA (avC (withA (avC (getE 3) av0) mkLst) av0) reprM)))) (retS (cst (.bl false))) (fun δ s => .nx δ s))
    (seqS (setS 6 (withA (avC (getE 1) (avC (getE 4) av0)) (callN 2 m_law_bent)))
    (iteS (fBoo (lift2 neM (withA (avC (withA (avC (getE 6) av0) (callN 1 m_law_told)) av0) reprM) (withA (avC (withA (avC (getE 6) av0) (callN 1 m_law_read)) av0) reprM))) (retS (cst (.bl false))) (fun δ s => .nx δ s))))))))
    (seqS (forS (fun δ s => ((withA (avC (cst .non) (avC (cst (.bl true)) (avC (cst (.int 7)) (avC (withA (avC (cst (.str "7")) av0) mkLst) (avC (withA (avC (cst (.str "7")) av0) mkTup) (avC (fun δ s => ((dvC (cst (.str "7")) (cst (.int 7)) dv0) δ s).bind mkDct) av0)))))) mkTup) δ s).bind seqM) (.nm 7) (iteS (fBoo (lift2 neM (withA (avC (getE 7) av0) (callN 1 m_law_told)) (withA (avC (cst (.str "BadText")) (avC (cst (.int 0)) (avC (cst (.int 0)) av0))) mkTup))) (retS (cst (.bl false))) (fun δ s => .nx δ s)))
    (seqS (setS 8 (withA (avC (getE 1) (avC (withA (avC (cst .non) (avC (cst (.str "7")) (avC (cst (.bl false)) (avC (withA (avC (cst (.int 4)) (avC (cst (.int 2)) av0)) mkTup) (avC (withA (avC (cst (.int 1)) (avC (cst (.int 1)) av0)) mkTup) (avC (withA (avC (cst (.int 1)) (avC (cst (.int 0)) av0)) mkLst) (avC (withA (avC (cst (.int 1)) (avC (cst (.int 2)) (avC (cst (.int 3)) av0))) mkTup) av0))))))) mkLst) av0)) (callN 2 m_law_pick)))
    (seqS (setS 9 (withA (avC (getE 1) (avC (withA (avC (cst (.str "1_0")) (avC (cst (.str "7/1_1")) (avC (cst (.str "1\n")) (avC (cst (.str " 1")) (avC (cst (.str "+1")) (avC (cst (.str "1/-2")) (avC (cst (.str "--1")) av0))))))) mkLst) av0)) (callN 2 m_law_pick)))
    (seqS (forS (fun δ s => ((withA (avC (cst (.str "")) (avC (cst (.str "7 ")) (avC (getE 9) av0))) mkTup) δ s).bind seqM) (.nm 4) (iteS (fBoo (lift2 neM (withA (avC (getE 4) av0) (callN 1 m_law_told)) (withA (avC (cst (.str "BadText")) (avC (cst (.int 0)) (avC (cst (.int 0)) av0))) mkTup))) (retS (cst (.bl false))) (fun δ s => .nx δ s)))
    (retS (withA (avC (getE 8) av0) (callN 1 m_law_refused))))))))
structure Blt (mg : Str → Option Value) : Prop where
  abs : mg "abs" = none
  all : mg "all" = none
  bool : mg "bool" = none
  int : mg "int" = none
  isinstance : mg "isinstance" = none
  len : mg "len" = none
  list : mg "list" = none
  range : mg "range" = none
  repr : mg "repr" = none
  str : mg "str" = none
  tuple : mg "tuple" = none
  gcd : mg "gcd" = some (.builtin "math.gcd")
section
variable {P : Program} {w : World} {K : PySem.W.Frag} {mg : Str → Option Value} {base : Heap}
theorem w_is_integer (B : Blt mg) (h : Here K mg "is_integer" s_is_integer)  : Worth P w K mg base 1 "is_integer" s_is_integer ["value"] 1 m_is_integer :=
  worth_mk (k := 0) h sc_is_integer (by decide) (fun cdv A outer s H E hr hgd =>
      (bv_one (sv_ret (ev_and (ev_isi rfl B.isinstance rfl B.int (by decide +kernel) (ev_var (pv 0))) (ev_one (ev_not (ev_isi rfl B.isinstance rfl B.bool (by decide +kernel) (ev_var (pv 0)))))))))
theorem w_is_within (B : Blt mg) (h : Here K mg "is_within" s_is_within) (W_is_integer : Worth P w K mg base 1 "is_integer" s_is_integer ["value"] 1 m_is_integer) : Worth P w K mg base 2 "is_within" s_is_within ["value", "least", "most"] 3 m_is_within :=
  worth_mk (k := 1) h sc_is_within (by decide) (fun cdv A outer s H E hr hgd =>
      (bv_cons (sv_for (passes_of rfl) rfl (iv_seq (ev_tup (av_cons (ev_var (pv 1)) (av_cons (ev_var (pv 2)) av_nil)))) (gv_name (pg_name (i := 3) sc_is_within.nd rfl (Or.inl rfl))) (bv_one (sv_if (tv_w (wv_and (tv_notN (ev_var (pv 3))) (wv_and1 (tv_not (tv_of (ev_callW W_is_integer (hr.mono (by decide)) hgd rfl (fun _ _ _ _ _ _ us hl => match us, hl with | [_], _ => rfl) (takes_of rfl rfl rfl rfl) (av_cons (ev_var (pv 3)) av_nil))))))) (bv_one (sv_ret ev_bl)) bv_nil)))
      (bv_cons (sv_if (tv_not (tv_of (ev_callW W_is_integer (hr.mono (by decide)) hgd rfl (fun _ _ _ _ _ _ us hl => match us, hl with | [_], _ => rfl) (takes_of rfl rfl rfl rfl) (av_cons (ev_var (pv 0)) av_nil)))) (bv_one (sv_ret ev_bl)) bv_nil)
      (bv_one (sv_ret (ev_and (ev_or (ev_isN (ev_var (pv 1))) (ev_one (ev_cmp op_le m_le (ev_var (pv 1)) (ev_var (pv 0))))) (ev_one (ev_or (ev_isN (ev_var (pv 2))) (ev_one (ev_cmp op_le m_le (ev_var (pv 0)) (ev_var (pv 2))))))))))))
theorem w_is_list (B : Blt mg) (h : Here K mg "is_list" s_is_list)  : Worth P w K mg base 1 "is_list" s_is_list ["value"] 1 m_is_list :=
  worth_mk (k := 0) h sc_is_list (by decide) (fun cdv A outer s H E hr hgd =>
      (bv_one (sv_ret (ev_isi2 rfl B.isinstance rfl B.list (by decide +kernel) rfl B.tuple (by decide +kernel) (ev_var (pv 0))))))
theorem w_is_number (B : Blt mg) (h : Here K mg "is_number" s_is_number) (W_is_integer : Worth P w K mg base 1 "is_integer" s_is_integer ["value"] 1 m_is_integer) (W_is_within : Worth P w K mg base 2 "is_within" s_is_within ["value", "least", "most"] 3 m_is_within) (W_is_list : Worth P w K mg base 1 "is_list" s_is_list ["value"] 1 m_is_list) : Worth P w K mg base 3 "is_number" s_is_number ["value"] 1 m_is_number :=
  worth_mk (k := 2) h sc_is_number (by decide) (fun cdv A outer s H E hr hgd =>
      (bv_cons (sv_if (tv_not (tv_of (ev_callW W_is_list (hr.mono (by decide)) hgd rfl (fun _ _ _ _ _ _ us hl => match us, hl with | [_], _ => rfl) (takes_of rfl rfl rfl rfl) (av_cons (ev_var (pv 0)) av_nil)))) (bv_one (sv_ret (ev_callW W_is_integer (hr.mono (by decide)) hgd rfl (fun _ _ _ _ _ _ us hl => match us, hl with | [_], _ => rfl) (takes_of rfl rfl rfl rfl) (av_cons (ev_var (pv 0)) av_nil)))) bv_nil)
      (bv_cons (sv_if (tv_cmp (op_neD (hu64 hr)) m_ne (ev_callB call_lenA m_len rfl B.len (by decide +kernel) (av_cons (ev_var (pv 0)) av_nil)) ev_int) (bv_one (sv_ret ev_bl)) bv_nil)
      (bv_cons (sv_asg (ev_var (pv 0)) (gv_tup rfl (gvs_cons (gv_name (pg_name (i := 1) sc_is_number.nd rfl (Or.inl rfl))) (gvs_cons (gv_name (pg_name (i := 2) sc_is_number.nd rfl (Or.inl rfl))) gvs_nil))))
      (bv_one (sv_ret (ev_and (ev_callW W_is_integer (hr.mono (by decide)) hgd rfl (fun _ _ _ _ _ _ us hl => match us, hl with | [_], _ => rfl) (takes_of rfl rfl rfl rfl) (av_cons (ev_var (pv 1)) av_nil)) (ev_and (ev_callW W_is_within (hr.mono (by decide)) hgd rfl (fun _ _ _ _ _ _ us hl => match us, hl with | [_, _, _], _ => rfl) (takes_of rfl rfl rfl rfl) (av_cons (ev_var (pv 2)) (av_cons ev_int (av_cons ev_non av_nil)))) (ev_one (ev_cmp (op_eqD (hu64 hr)) m_eq (ev_callF cr_gcd m_gcd rfl B.gcd (av_cons (ev_var (pv 1)) (av_cons (ev_var (pv 2)) av_nil))) ev_int))))))))))
theorem w_integer_in (B : Blt mg) (h : Here K mg "integer_in" s_integer_in) (G_MOST_DIGITS : ∃ t, mg "MOST_DIGITS" = some (.int 60 t)) : Worth P w K mg base 1 "integer_in" s_integer_in ["item"] 1 m_integer_in :=
  worth_mk (k := 0) h sc_integer_in (by decide) (fun cdv A outer s H E hr hgd =>
      (bv_cons (sv_name (i := 1) sc_integer_in.nd rfl (Or.inl rfl) (ev_removeprefix (ev_var (pv 0)) ev_str))
      (bv_cons (sv_if (tv_w (wv_or (tv_not (tv_of (ev_isascii (ev_var (pv 1))))) (wv_or (tv_not (tv_of (ev_isdigit (ev_var (pv 1))))) (wv_or1 (tv_cmp op_gt m_gt (ev_callB call_lenA m_len rfl B.len (by decide +kernel) (av_cons (ev_var (pv 1)) av_nil)) (ev_glob G_MOST_DIGITS rfl)))))) (bv_one (sv_ret ev_non)) bv_nil)
      (bv_cons (sv_if (tv_w (wv_and (tv_cmp (op_eqD (hu64 hr)) m_eq (ev_get (ev_var (pv 1)) ev_int) ev_str) (wv_and1 (tv_cmp (op_neD (hu64 hr)) m_ne (ev_var (pv 0)) ev_str)))) (bv_one (sv_ret ev_non)) bv_nil)
      (bv_one (sv_ret (ev_callTy call_intA m_intc rfl B.int (by decide +kernel) (av_cons (ev_var (pv 0)) av_nil))))))))
theorem w_number_in (B : Blt mg) (h : Here K mg "number_in" s_number_in) (W_is_number : Worth P w K mg base 3 "is_number" s_is_number ["value"] 1 m_is_number) (W_integer_in : Worth P w K mg base 1 "integer_in" s_integer_in ["item"] 1 m_integer_in) : Worth P w K mg base 4 "number_in" s_number_in ["item"] 1 m_number_in :=
  worth_mk (k := 3) h sc_number_in (by decide) (fun cdv A outer s H E hr hgd =>
      (bv_cons (sv_if (tv_cmp op_notIn_sign m_notIn ev_str (ev_var (pv 0))) (bv_one (sv_ret (ev_callW W_integer_in (hr.mono (by decide)) hgd rfl (fun _ _ _ _ _ _ us hl => match us, hl with | [_], _ => rfl) (takes_of rfl rfl rfl rfl) (av_cons (ev_var (pv 0)) av_nil)))) bv_nil)
      (bv_cons (sv_asg (ev_partition (ev_var (pv 0)) ev_str) (gv_tup rfl (gvs_cons (gv_name (pg_name (i := 1) sc_number_in.nd rfl (Or.inl rfl))) (gvs_cons (gv_name (pg_name (i := 2) sc_number_in.nd rfl (Or.inl rfl))) (gvs_cons (gv_name (pg_name (i := 3) sc_number_in.nd rfl (Or.inl rfl))) gvs_nil)))))
      (bv_cons (sv_name (i := 4) sc_number_in.nd rfl (Or.inl rfl) (ev_tup (av_cons (ev_callW W_integer_in (hr.mono (by decide)) hgd rfl (fun _ _ _ _ _ _ us hl => match us, hl with | [_], _ => rfl) (takes_of rfl rfl rfl rfl) (av_cons (ev_var (pv 1)) av_nil)) (av_cons (ev_callW W_integer_in (hr.mono (by decide)) hgd rfl (fun _ _ _ _ _ _ us hl => match us, hl with | [_], _ => rfl) (takes_of rfl rfl rfl rfl) (av_cons (ev_var (pv 3)) av_nil)) av_nil))))
      (bv_one (sv_ret (ev_if (tv_of (ev_callW W_is_number (hr.mono (by decide)) hgd rfl (fun _ _ _ _ _ _ us hl => match us, hl with | [_], _ => rfl) (takes_of rfl rfl rfl rfl) (av_cons (ev_var (pv 4)) av_nil))) (ev_var (pv 4)) ev_non)))))))
theorem w_above_below (B : Blt mg) (h : Here K mg "above_below" s_above_below) (W_is_integer : Worth P w K mg base 1 "is_integer" s_is_integer ["value"] 1 m_is_integer) : Worth P w K mg base 2 "above_below" s_above_below ["number"] 1 m_above_below :=
  worth_mk (k := 1) h sc_above_below (by decide) (fun cdv A outer s H E hr hgd =>
      (bv_cons (sv_if (tv_of (ev_callW W_is_integer (hr.mono (by decide)) hgd rfl (fun _ _ _ _ _ _ us hl => match us, hl with | [_], _ => rfl) (takes_of rfl rfl rfl rfl) (av_cons (ev_var (pv 0)) av_nil))) (bv_one (sv_ret (ev_tup (av_cons (ev_var (pv 0)) (av_cons ev_int av_nil))))) bv_nil)
      (bv_one (sv_ret (ev_tup (av_cons (ev_get (ev_var (pv 0)) ev_int) (av_cons (ev_get (ev_var (pv 0)) ev_int) av_nil)))))))
theorem w_number_text (B : Blt mg) (h : Here K mg "number_text" s_number_text) (E_BadNumber : ExcW P w K mg base "BadNumber" ["part"]) (W_is_number : Worth P w K mg base 3 "is_number" s_is_number ["value"] 1 m_is_number) (W_above_below : Worth P w K mg base 2 "above_below" s_above_below ["number"] 1 m_above_below) : Worth P w K mg base 4 "number_text" s_number_text ["value"] 1 m_number_text :=
  worth_mk (k := 3) h sc_number_text (by decide) (fun cdv A outer s H E hr hgd =>
      (bv_cons (sv_if (tv_not (tv_of (ev_callW W_is_number (hr.mono (by decide)) hgd rfl (fun _ _ _ _ _ _ us hl => match us, hl with | [_], _ => rfl) (takes_of rfl rfl rfl rfl) (av_cons (ev_var (pv 0)) av_nil)))) (bv_one (sv_raise E_BadNumber rfl (hr.mono (by decide)) (takes_of rfl rfl rfl rfl) rfl (by decide) (av_cons ev_str av_nil))) bv_nil)
      (bv_cons (sv_asg (ev_callW W_above_below (hr.mono (by decide)) hgd rfl (fun _ _ _ _ _ _ us hl => match us, hl with | [_], _ => rfl) (takes_of rfl rfl rfl rfl) (av_cons (ev_var (pv 0)) av_nil)) (gv_tup rfl (gvs_cons (gv_name (pg_name (i := 1) sc_number_text.nd rfl (Or.inl rfl))) (gvs_cons (gv_name (pg_name (i := 2) sc_number_text.nd rfl (Or.inl rfl))) gvs_nil))))
      (bv_one (sv_ret (ev_if (tv_cmp (op_eqD (hu64 hr)) m_eq (ev_var (pv 2)) ev_int) (ev_callTy call_str_int m_strc rfl B.str (by decide +kernel) (av_cons (ev_var (pv 1)) av_nil)) (ev_joined (jv_cons (ev_fmt (ev_var (pv 1))) (jv_cons ev_str (jv_cons (ev_fmt (ev_var (pv 2))) jv_nil))))))))))
theorem w_number_of (B : Blt mg) (h : Here K mg "number_of" s_number_of) (E_BadText : ExcW P w K mg base "BadText" ["line", "item"]) (W_number_in : Worth P w K mg base 4 "number_in" s_number_in ["item"] 1 m_number_in) : Worth P w K mg base 5 "number_of" s_number_of ["text"] 1 m_number_of :=
  worth_mk (k := 4) h sc_number_of (by decide) (fun cdv A outer s H E hr hgd =>
      (bv_cons (sv_name (i := 1) sc_number_of.nd rfl (Or.inl rfl) (ev_if (tv_of (ev_isi rfl B.isinstance rfl B.str (by decide +kernel) (ev_var (pv 0)))) (ev_callW W_number_in (hr.mono (by decide)) hgd rfl (fun _ _ _ _ _ _ us hl => match us, hl with | [_], _ => rfl) (takes_of rfl rfl rfl rfl) (av_cons (ev_var (pv 0)) av_nil)) ev_non))
      (bv_cons (sv_if (tv_isN (ev_var (pv 1))) (bv_one (sv_raise E_BadText rfl (hr.mono (by decide)) (takes_of rfl rfl rfl rfl) rfl (by decide) (av_cons ev_int (av_cons ev_int av_nil)))) bv_nil)
      (bv_one (sv_ret (ev_var (pv 1)))))))
theorem w_law_pour (B : Blt mg) (h : Here K mg "_law_pour" s_law_pour)  : Worth P w K mg base 1 "_law_pour" s_law_pour ["jar", "many"] 2 m_law_pour :=
  worth_mk (k := 0) h sc_law_pour (by decide) (fun cdv A outer s H E hr hgd =>
      (bv_cons (sv_if (tv_cmp op_gt m_gt (ev_get (ev_var (pv 0)) ev_int) ev_int) (bv_cons (sv_name (i := 2) sc_law_pour.nd rfl (Or.inl rfl) (ev_callTy call_intA m_intc rfl B.int (by decide +kernel) (av_cons (ev_get (ev_var (pv 0)) ev_int) av_nil)))
      (bv_cons (sv_put (ev_op op_fdivW m_fdiv (ev_var (pv 2)) (ev_var (pv 1))) (ev_var (pv 0)))
      (bv_one (sv_ret (ev_op op_mod m_mod (ev_callTy call_intA m_intc rfl B.int (by decide +kernel) (av_cons (ev_var (pv 2)) av_nil)) (ev_var (pv 1))))))) bv_nil)
      (bv_cons (sv_name (i := 3) sc_law_pour.nd rfl (Or.inl rfl) (ev_get (ev_var (pv 0)) ev_int))
      (bv_cons (sv_put (ev_op op_addM m_add (ev_var (pv 3)) ev_int) (ev_var (pv 0)))
      (bv_cons (sv_name (i := 4) sc_law_pour.nd rfl (Or.inl rfl) (ev_op op_addM m_add (ev_op op_mulA m_mul ev_int (ev_var (pv 3))) ev_int))
      (bv_cons (sv_if (tv_cmp (op_neD (hu64 hr)) m_ne (ev_get (ev_var (pv 0)) ev_int) (ev_lst av_nil)) (bv_one (sv_name (i := 4) sc_law_pour.nd rfl (Or.inl rfl) (ev_get (ev_get (ev_var (pv 0)) ev_int) (ev_op op_mod m_mod (ev_callTy call_intA m_intc rfl B.int (by decide +kernel) (av_cons (ev_var (pv 3)) av_nil)) (ev_callB call_lenA m_len rfl B.len (by decide +kernel) (av_cons (ev_get (ev_var (pv 0)) ev_int) av_nil)))))) bv_nil)
      (bv_cons (sv_if (tv_w (wv_and (tv_cmp op_lt m_lt (ev_var (pv 3)) (ev_callB call_lenA m_len rfl B.len (by decide +kernel) (av_cons (ev_get (ev_var (pv 0)) ev_int) av_nil))) (wv_and1 (tv_cmp op_ge m_ge (ev_callB call_abs m_abs rfl B.abs (by decide +kernel) (av_cons (ev_var (pv 4)) av_nil)) (ev_op op_pow m_pow ev_int ev_int))))) (bv_cons (sv_name (i := 2) sc_law_pour.nd rfl (Or.inl rfl) (ev_op op_addM m_add (ev_op op_mulA m_mul ev_int (ev_op op_sub m_sub (ev_callB call_abs m_abs rfl B.abs (by decide +kernel) (av_cons (ev_callTy call_intA m_intc rfl B.int (by decide +kernel) (av_cons (ev_var (pv 4)) av_nil)) av_nil)) (ev_op op_pow m_pow ev_int ev_int))) (ev_callTy call_intA m_intc rfl B.int (by decide +kernel) (av_cons (ev_cmp op_lt m_lt (ev_var (pv 4)) ev_int) av_nil))))
      (bv_cons (sv_put (ev_op op_fdivW m_fdiv (ev_var (pv 2)) (ev_var (pv 1))) (ev_var (pv 0)))
      (bv_one (sv_ret (ev_op op_mod m_mod (ev_callTy call_intA m_intc rfl B.int (by decide +kernel) (av_cons (ev_var (pv 2)) av_nil)) (ev_var (pv 1))))))) bv_nil)
      (bv_cons (sv_name (i := 5) sc_law_pour.nd rfl (Or.inl rfl) (ev_op op_mod m_mod (ev_callTy call_intA m_intc rfl B.int (by decide +kernel) (av_cons (ev_op op_pow m_pow (ev_op op_addM m_add (ev_op op_addM m_add (ev_op op_mod m_mod (ev_callTy call_intA m_intc rfl B.int (by decide +kernel) (av_cons (ev_var (pv 4)) av_nil)) ev_int) (ev_op op_mulA m_mul ev_int (ev_var (pv 3)))) ev_int) ev_int) av_nil)) ev_int))
      (bv_cons (sv_name (i := 5) sc_law_pour.nd rfl (Or.inl rfl) (ev_op op_mod m_mod (ev_callTy call_intA m_intc rfl B.int (by decide +kernel) (av_cons (ev_op op_pow m_pow (ev_op op_addM m_add (ev_op op_addM m_add (ev_op op_mulA m_mul (ev_var (pv 5)) (ev_op op_addM m_add (ev_op op_mulA m_mul ev_int (ev_var (pv 3))) ev_int)) (ev_op op_mulA m_mul (ev_op op_mulA m_mul ev_int (ev_var (pv 3))) (ev_var (pv 3)))) ev_int) ev_int) av_nil)) ev_int))
      (bv_one (sv_ret (ev_op op_mod m_mod (ev_callTy call_intA m_intc rfl B.int (by decide +kernel) (av_cons (ev_op op_fdivW m_fdiv (ev_var (pv 5)) ev_int) av_nil)) (ev_var (pv 1))))))))))))))
theorem w_law_pick (B : Blt mg) (h : Here K mg "_law_pick" s_law_pick) (W_law_pour : Worth P w K mg base 1 "_law_pour" s_law_pour ["jar", "many"] 2 m_law_pour) : Worth P w K mg base 2 "_law_pick" s_law_pick ["jar", "some"] 2 m_law_pick :=
  worth_mk (k := 1) h sc_law_pick (by decide) (fun cdv A outer s H E hr hgd =>
      (bv_one (sv_ret (ev_get (ev_var (pv 1)) (ev_callW W_law_pour (hr.mono (by decide)) hgd rfl (fun _ _ _ _ _ _ us hl => match us, hl with | [_, _], _ => rfl) (takes_of rfl rfl rfl rfl) (av_cons (ev_var (pv 0)) (av_cons (ev_callB call_lenA m_len rfl B.len (by decide +kernel) (av_cons (ev_var (pv 1)) av_nil)) av_nil)))))))
theorem w_law_alone (B : Blt mg) (h : Here K mg "_law_alone" s_law_alone)  : Worth P w K mg base 1 "_law_alone" s_law_alone ["one", "other"] 2 m_law_alone :=
  worth_mk (k := 0) h sc_law_alone (by decide) (fun cdv A outer s H E hr hgd =>
      (bv_cons (sv_par (i := 0) (j := 1) rfl sc_law_alone.nd rfl rfl (by decide) rfl rfl (av_cons (ev_callB call_abs m_abs rfl B.abs (by decide +kernel) (av_cons (ev_var (pv 0)) av_nil)) (av_cons (ev_callB call_abs m_abs rfl B.abs (by decide +kernel) (av_cons (ev_var (pv 1)) av_nil)) av_nil)) rfl)
      (bv_cons (sv_while (fuel := (fun δ _ => (intE δ 1).natAbs + 1)) (passes_of rfl) (tv_cmp op_gt m_gt (ev_var (pv 1)) ev_int) (bv_one (sv_par (i := 0) (j := 1) rfl sc_law_alone.nd rfl rfl (by decide) rfl rfl (av_cons (ev_var (pv 1)) (av_cons (ev_op op_mod m_mod (ev_callTy call_intA m_intc rfl B.int (by decide +kernel) (av_cons (ev_var (pv 0)) av_nil)) (ev_var (pv 1))) av_nil)) rfl)))
      (bv_one (sv_ret (ev_cmp (op_eqD (hu64 hr)) m_eq (ev_var (pv 0)) ev_int))))))
theorem w_law_figures (B : Blt mg) (h : Here K mg "_law_figures" s_law_figures)  : Worth P w K mg base 1 "_law_figures" s_law_figures ["word"] 1 m_law_figures :=
  worth_mk (k := 0) h sc_law_figures (by decide) (fun cdv A outer s H E hr hgd =>
      (bv_cons (sv_name (i := 1) sc_law_figures.nd rfl (Or.inl rfl) (ev_if (tv_cmp (op_eqD (hu64 hr)) m_eq (ev_slc (ev_var (pv 0)) pv_no (pv_at ev_int)) ev_str) (ev_slc (ev_var (pv 0)) (pv_at ev_int) pv_no) (ev_var (pv 0))))
      (bv_cons (sv_if (tv_w (wv_or (tv_cmp (op_eqD (hu64 hr)) m_eq (ev_var (pv 1)) ev_str) (wv_or (tv_cmp op_gt m_gt (ev_callB call_lenA m_len rfl B.len (by decide +kernel) (av_cons (ev_var (pv 1)) av_nil)) ev_int) (wv_or1 (tv_not (tv_of (ev_callB (cr_all rfl) m_all rfl B.all (by decide +kernel) (av_cons (ev_lc (own := [(".0", 2), ("sign", 3)]) rfl sc_law_figures.nd (iv_txt (ev_var (pv 1))) (blkOk_by (N := N_law_figures) (sc := defScope s_law_figures) (by decide +kernel)) (fun _ _ _ _ _ => (gv_name (pg_name (i := 3) sc_law_figures.nd rfl (Or.inl rfl)))) (fun _ _ _ _ _ => tsv_nil) (fun _ _ _ _ _ => (ev_cmp op_in_sign m_in (ev_var (pv 3)) ev_str))) av_nil)))))))) (bv_one (sv_ret ev_non)) bv_nil)
      (bv_cons (sv_if (tv_w (wv_and (tv_cmp (op_eqD (hu64 hr)) m_eq (ev_get (ev_var (pv 1)) ev_int) ev_str) (wv_and1 (tv_cmp (op_neD (hu64 hr)) m_ne (ev_var (pv 0)) ev_str)))) (bv_one (sv_ret ev_non)) bv_nil)
      (bv_one (sv_ret (ev_callTy call_intA m_intc rfl B.int (by decide +kernel) (av_cons (ev_var (pv 0)) av_nil))))))))
theorem w_law_read (B : Blt mg) (h : Here K mg "_law_read" s_law_read) (W_law_alone : Worth P w K mg base 1 "_law_alone" s_law_alone ["one", "other"] 2 m_law_alone) (W_law_figures : Worth P w K mg base 1 "_law_figures" s_law_figures ["word"] 1 m_law_figures) : Worth P w K mg base 2 "_law_read" s_law_read ["word"] 1 m_law_read :=
  worth_mk (k := 1) h sc_law_read (by decide) (fun cdv A outer s H E hr hgd =>
      (bv_cons (sv_name (i := 1) sc_law_read.nd rfl (Or.inl rfl) (ev_find (ev_var (pv 0)) ev_str))
      (bv_cons (sv_if (tv_cmp op_lt m_lt (ev_var (pv 1)) ev_int) (bv_cons (sv_name (i := 2) sc_law_read.nd rfl (Or.inl rfl) (ev_callW W_law_figures (hr.mono (by decide)) hgd rfl (fun _ _ _ _ _ _ us hl => match us, hl with | [_], _ => rfl) (takes_of rfl rfl rfl rfl) (av_cons (ev_var (pv 0)) av_nil)))
      (bv_one (sv_ret (ev_if (tv_notN (ev_var (pv 2))) (ev_lst (av_cons (ev_var (pv 2)) av_nil)) (ev_tup (av_cons ev_str (av_cons ev_int (av_cons ev_int av_nil)))))))) bv_nil)
      (bv_cons (sv_par (i := 3) (j := 4) rfl sc_law_read.nd rfl rfl (by decide) rfl rfl (av_cons (ev_callW W_law_figures (hr.mono (by decide)) hgd rfl (fun _ _ _ _ _ _ us hl => match us, hl with | [_], _ => rfl) (takes_of rfl rfl rfl rfl) (av_cons (ev_slc (ev_var (pv 0)) pv_no (pv_at (ev_var (pv 1)))) av_nil)) (av_cons (ev_callW W_law_figures (hr.mono (by decide)) hgd rfl (fun _ _ _ _ _ _ us hl => match us, hl with | [_], _ => rfl) (takes_of rfl rfl rfl rfl) (av_cons (ev_slc (ev_var (pv 0)) (pv_at (ev_op op_addM m_add (ev_var (pv 1)) ev_int)) pv_no) av_nil)) av_nil)) rfl)
      (bv_cons (sv_if (tv_w (wv_or (tv_isN (ev_var (pv 3))) (wv_or (tv_isN (ev_var (pv 4))) (wv_or (tv_cmp op_lt m_lt (ev_var (pv 4)) ev_int) (wv_or1 (tv_not (tv_of (ev_callW W_law_alone (hr.mono (by decide)) hgd rfl (fun _ _ _ _ _ _ us hl => match us, hl with | [_, _], _ => rfl) (takes_of rfl rfl rfl rfl) (av_cons (ev_var (pv 3)) (av_cons (ev_var (pv 4)) av_nil)))))))))) (bv_one (sv_ret (ev_tup (av_cons ev_str (av_cons ev_int (av_cons ev_int av_nil)))))) bv_nil)
      (bv_one (sv_ret (ev_lst (av_cons (ev_tup (av_cons (ev_var (pv 3)) (av_cons (ev_var (pv 4)) av_nil))) av_nil)))))))))
theorem w_law_told (B : Blt mg) (h : Here K mg "_law_told" s_law_told) (E_BadText : ExcW P w K mg base "BadText" ["line", "item"]) (M_BadText : ∃ C, mg "BadText" = some (.ref C)) (M_PlayError : ∃ C, mg "PlayError" = some (.ref C)) (HT : TblOk K mg tbl) (W_number_of : Worth P w K mg base 5 "number_of" s_number_of ["text"] 1 m_number_of) : Worth P w K mg base 6 "_law_told" s_law_told ["word"] 1 m_law_told :=
  worth_mk (k := 5) h sc_law_told (by decide) (fun cdv A outer s H E hr hgd =>
      (bv_cons (sv_name (i := 1) sc_law_told.nd rfl (Or.inl rfl) ev_non)
      (bv_cons (sv_try HT rfl rfl sc_law_told.nd (takes_of rfl rfl rfl rfl) (fun _ _ _ tk hp => (bv_one (sv_name (i := 1) sc_law_told.nd rfl (Or.inl rfl) (ev_lst (av_cons (ev_callW W_number_of (hr.mono (by decide)) hgd rfl (fun _ _ _ _ _ _ us hl => match us, hl with | [_], _ => rfl) tk (av_cons (ev_var (pv 0)) av_nil)) av_nil))))) (HdsD.cons rfl (by decide) M_BadText rfl rfl (sh_set (j := 1) sc_law_told.nd rfl (Or.inl rfl) (eh_tup (ah_cons (eh_of (fun _ _ => ev_str)) (ah_cons (eh_fld E_BadText (by decide) (i := 2) rfl (Or.inl rfl)) (ah_cons (eh_fld E_BadText (by decide) (i := 2) rfl (Or.inl rfl)) ah_nil))))) (HdsD.cons rfl (by decide) M_PlayError rfl rfl (sh_set (j := 1) sc_law_told.nd rfl (Or.inl rfl) (eh_tup (ah_cons (eh_of (fun _ _ => ev_str)) ah_nil))) HdsD.nil)))
      (bv_one (sv_ret (ev_var (pv 1)))))))
theorem w_law_refused (B : Blt mg) (h : Here K mg "_law_refused" s_law_refused) (E_BadNumber : ExcW P w K mg base "BadNumber" ["part"]) (M_BadNumber : ∃ C, mg "BadNumber" = some (.ref C)) (HT : TblOk K mg tbl) (W_number_text : Worth P w K mg base 4 "number_text" s_number_text ["value"] 1 m_number_text) : Worth P w K mg base 5 "_law_refused" s_law_refused ["value"] 1 m_law_refused :=
  worth_mk (k := 4) h sc_law_refused (by decide) (fun cdv A outer s H E hr hgd =>
      (bv_cons (sv_name (i := 1) sc_law_refused.nd rfl (Or.inl rfl) ev_non)
      (bv_cons (sv_try HT rfl rfl sc_law_refused.nd (takes_of rfl rfl rfl rfl) (fun _ _ _ tk hp => (bv_one (sv_name (i := 1) sc_law_refused.nd rfl (Or.inl rfl) (ev_callW W_number_text (hr.mono (by decide)) hgd rfl (fun _ _ _ _ _ _ us hl => match us, hl with | [_], _ => rfl) tk (av_cons (ev_var (pv 0)) av_nil))))) (HdsD.cons rfl (by decide) M_BadNumber rfl rfl (sh_ret (eh_cmp (r := rEqD K) (fun _ _ => op_eqD (by have z := hu64 hr; exact z)) (fun _ _ => m_eq) (eh_fld E_BadNumber (by decide) (i := 2) rfl (Or.inl rfl)) (eh_of (fun _ _ => ev_str)))) HdsD.nil))
      (bv_one (sv_ret (ev_cmp op_isBl m_isB (ev_var (pv 1)) ev_bl))))))
theorem w_law_value (B : Blt mg) (h : Here K mg "_law_value" s_law_value) (W_law_pour : Worth P w K mg base 1 "_law_pour" s_law_pour ["jar", "many"] 2 m_law_pour) (W_law_pick : Worth P w K mg base 2 "_law_pick" s_law_pick ["jar", "some"] 2 m_law_pick) (W_law_alone : Worth P w K mg base 1 "_law_alone" s_law_alone ["one", "other"] 2 m_law_alone) : Worth P w K mg base 3 "_law_value" s_law_value ["jar"] 1 m_law_value :=
  worth_mk (k := 2) h sc_law_value (by decide) (fun cdv A outer s H E hr hgd =>
      (bv_cons (sv_name (i := 1) sc_law_value.nd rfl (Or.inl rfl) (ev_callW W_law_pick (hr.mono (by decide)) hgd rfl (fun _ _ _ _ _ _ us hl => match us, hl with | [_, _], _ => rfl) (takes_of rfl rfl rfl rfl) (av_cons (ev_var (pv 0)) (av_cons (ev_lst (av_cons ev_int (av_cons ev_int (av_cons ev_int (av_cons (ev_op op_pow m_pow ev_int ev_int) (av_cons (ev_op op_sub m_sub (ev_op op_pow m_pow ev_int ev_int) ev_int) (av_cons (ev_op op_sub m_sub (ev_op op_pow m_pow ev_int ev_int) ev_int) av_nil))))))) av_nil))))
      (bv_cons (sv_name (i := 2) sc_law_value.nd rfl (Or.inl rfl) (ev_op op_sub m_sub (ev_callW W_law_pour (hr.mono (by decide)) hgd rfl (fun _ _ _ _ _ _ us hl => match us, hl with | [_, _], _ => rfl) (takes_of rfl rfl rfl rfl) (av_cons (ev_var (pv 0)) (av_cons (ev_op op_addM m_add (ev_op op_mulA m_mul ev_int (ev_var (pv 1))) ev_int) av_nil))) (ev_var (pv 1))))
      (bv_cons (sv_name (i := 3) sc_law_value.nd rfl (Or.inl rfl) (ev_op op_addM m_add ev_int (ev_callW W_law_pour (hr.mono (by decide)) hgd rfl (fun _ _ _ _ _ _ us hl => match us, hl with | [_, _], _ => rfl) (takes_of rfl rfl rfl rfl) (av_cons (ev_var (pv 0)) (av_cons (ev_var (pv 1)) av_nil)))))
      (bv_cons (sv_if (tv_w (wv_or (tv_cmp (op_eqD (hu64 hr)) m_eq (ev_callW W_law_pour (hr.mono (by decide)) hgd rfl (fun _ _ _ _ _ _ us hl => match us, hl with | [_, _], _ => rfl) (takes_of rfl rfl rfl rfl) (av_cons (ev_var (pv 0)) (av_cons ev_int av_nil))) ev_int) (wv_or (tv_cmp (op_eqD (hu64 hr)) m_eq (ev_var (pv 3)) ev_int) (wv_or1 (tv_not (tv_of (ev_callW W_law_alone (hr.mono (by decide)) hgd rfl (fun _ _ _ _ _ _ us hl => match us, hl with | [_, _], _ => rfl) (takes_of rfl rfl rfl rfl) (av_cons (ev_var (pv 2)) (av_cons (ev_var (pv 3)) av_nil))))))))) (bv_one (sv_ret (ev_var (pv 2)))) bv_nil)
      (bv_one (sv_ret (ev_tup (av_cons (ev_var (pv 2)) (av_cons (ev_var (pv 3)) av_nil))))))))))
theorem w_law_written (B : Blt mg) (h : Here K mg "_law_written" s_law_written)  : Worth P w K mg base 1 "_law_written" s_law_written ["number"] 1 m_law_written :=
  worth_mk (k := 0) h sc_law_written (by decide) (fun cdv A outer s H E hr hgd =>
      (bv_one (sv_ret (ev_if (tv_of (ev_isi rfl B.isinstance rfl B.int (by decide +kernel) (ev_var (pv 0)))) (ev_callTy call_str_int m_strc rfl B.str (by decide +kernel) (av_cons (ev_var (pv 0)) av_nil)) (ev_op op_addM m_add (ev_op op_addM m_add (ev_callTy call_str_int m_strc rfl B.str (by decide +kernel) (av_cons (ev_get (ev_var (pv 0)) ev_int) av_nil)) ev_str) (ev_callTy call_str_int m_strc rfl B.str (by decide +kernel) (av_cons (ev_get (ev_var (pv 0)) ev_int) av_nil)))))))
theorem w_law_bent (B : Blt mg) (h : Here K mg "_law_bent" s_law_bent) (W_law_pour : Worth P w K mg base 1 "_law_pour" s_law_pour ["jar", "many"] 2 m_law_pour) (W_law_pick : Worth P w K mg base 2 "_law_pick" s_law_pick ["jar", "some"] 2 m_law_pick) : Worth P w K mg base 3 "_law_bent" s_law_bent ["jar", "word"] 2 m_law_bent :=
  worth_mk (k := 2) h sc_law_bent (by decide) (fun cdv A outer s H E hr hgd =>
      (bv_cons (sv_name (i := 2) sc_law_bent.nd rfl (Or.inl rfl) (ev_callW W_law_pour (hr.mono (by decide)) hgd rfl (fun _ _ _ _ _ _ us hl => match us, hl with | [_, _], _ => rfl) (takes_of rfl rfl rfl rfl) (av_cons (ev_var (pv 0)) (av_cons (ev_op op_addM m_add (ev_callB call_lenA m_len rfl B.len (by decide +kernel) (av_cons (ev_var (pv 1)) av_nil)) ev_int) av_nil))))
      (bv_cons (sv_name (i := 3) sc_law_bent.nd rfl (Or.inl rfl) (ev_callW W_law_pick (hr.mono (by decide)) hgd rfl (fun _ _ _ _ _ _ us hl => match us, hl with | [_, _], _ => rfl) (takes_of rfl rfl rfl rfl) (av_cons (ev_var (pv 0)) (av_cons (ev_lst (av_cons ev_str (av_cons ev_str (av_cons ev_str (av_cons ev_str (av_cons ev_str (av_cons ev_str (av_cons ev_str (av_cons ev_str (av_cons ev_str (av_cons ev_str (av_cons ev_str (av_cons ev_str av_nil))))))))))))) av_nil))))
      (bv_cons (sv_name (i := 4) sc_law_bent.nd rfl (Or.inl rfl) (ev_callW W_law_pour (hr.mono (by decide)) hgd rfl (fun _ _ _ _ _ _ us hl => match us, hl with | [_, _], _ => rfl) (takes_of rfl rfl rfl rfl) (av_cons (ev_var (pv 0)) (av_cons ev_int av_nil))))
      (bv_cons (sv_if (tv_cmp (op_eqD (hu64 hr)) m_eq (ev_var (pv 4)) ev_int) (bv_one (sv_ret (ev_op op_addM m_add (ev_op op_addM m_add (ev_slc (ev_var (pv 1)) pv_no (pv_at (ev_var (pv 2)))) (ev_var (pv 3))) (ev_slc (ev_var (pv 1)) (pv_at (ev_var (pv 2))) pv_no)))) bv_nil)
      (bv_one (sv_ret (ev_if (tv_cmp (op_eqD (hu64 hr)) m_eq (ev_var (pv 4)) ev_int) (ev_op op_addM m_add (ev_slc (ev_var (pv 1)) pv_no (pv_at (ev_var (pv 2)))) (ev_slc (ev_var (pv 1)) (pv_at (ev_op op_addM m_add (ev_var (pv 2)) ev_int)) pv_no)) (ev_op op_addM m_add (ev_op op_addM m_add (ev_slc (ev_var (pv 1)) pv_no (pv_at (ev_var (pv 2)))) (ev_var (pv 3))) (ev_slc (ev_var (pv 1)) (pv_at (ev_op op_addM m_add (ev_var (pv 2)) ev_int)) pv_no))))))))))
theorem w_law_jar (B : Blt mg) (h : Here K mg "_law_jar" s_law_jar) : DeckOk P w K mg base 1 "_law_jar" s_law_jar ["script"] 57 :=
  deck_mk (k := 0) h sc_law_jar (fun cdv A outer s H E hr hgd =>
    pss_one (ps_ret (pe_lst (pa_cons (pe_lc (own := [("cell", 1)]) (g := gName 1) (tt := tYes) rfl sc_law_jar.nd (pi_list (pe_slice sl_list (pv 0) po_none (po_some pe_int)))
      (blkOk_by (N := ["script", "cell"]) (sc := defScope s_law_jar) (by decide +kernel)) (fun _ _ _ _ _ => pg_name (i := 1) sc_law_jar.nd rfl (Or.inl rfl)) (fun _ _ _ _ _ => pts_nil) (fun _ _ _ _ _ => pe_callTy call_int1 rfl B.int (by decide +kernel) (pa_cons (pv 1) pa_nil)))
      (pa_cons pe_int (pa_cons pe_int pa_nil))))))
theorem w_law (B : Blt mg) (h : Here K mg "law" s_law) (Wd : DeckOk P w K mg base 1 "_law_jar" s_law_jar ["script"] 57)  (W_number_text : Worth P w K mg base 4 "number_text" s_number_text ["value"] 1 m_number_text) (W_law_pick : Worth P w K mg base 2 "_law_pick" s_law_pick ["jar", "some"] 2 m_law_pick) (W_law_read : Worth P w K mg base 2 "_law_read" s_law_read ["word"] 1 m_law_read) (W_law_told : Worth P w K mg base 6 "_law_told" s_law_told ["word"] 1 m_law_told) (W_law_refused : Worth P w K mg base 5 "_law_refused" s_law_refused ["value"] 1 m_law_refused) (W_law_value : Worth P w K mg base 3 "_law_value" s_law_value ["jar"] 1 m_law_value) (W_law_written : Worth P w K mg base 1 "_law_written" s_law_written ["number"] 1 m_law_written) (W_law_bent : Worth P w K mg base 3 "_law_bent" s_law_bent ["jar", "word"] 2 m_law_bent)
    (hm : ∀ cells : List Int, cells.length ≤ 63 → ∃ s', g_law (deck0 N_law.length) ⟨cells, 0, 0⟩ = .rt (.bl true) s') :
    ∃ f fd, FnG P w K mg base 7 f fd ["script"] (spLawG K) ∧ Fun K "law" "law" s_law f fd ∧ mg "law" = some (.ref f) :=
  law_mk (k := 6) (N := 57) h sc_law (by decide) hm (fun cdv A outer s H E hr hgd =>
    pss_cons (ps_deck Wd (hr.mono (by decide)) hgd rfl (fun _ _ _ _ _ _ us hl => match us, hl with | [_], _ => rfl) (takes_of rfl rfl rfl rfl) sc_law.nd rfl (Or.inl rfl) (pv 0))
      (bv_cons (sv_for (passes_of rfl) rfl (iv_range1 rfl B.range (av_cons ev_int av_nil)) (gv_name (pg_name (i := 2) sc_law.nd rfl (Or.inl rfl))) (bv_cons (sv_name (i := 3) sc_law.nd rfl (Or.inl rfl) (ev_callW W_law_value (hr.mono (by decide)) hgd rfl (fun _ _ _ _ _ _ us hl => match us, hl with | [_], _ => rfl) (takes_of rfl rfl rfl rfl) (av_cons (ev_var (pv 1)) av_nil)))
      (bv_cons (sv_name (i := 4) sc_law.nd rfl (Or.inl rfl) (ev_callW W_law_written (hr.mono (by decide)) hgd rfl (fun _ _ _ _ _ _ us hl => match us, hl with | [_], _ => rfl) (takes_of rfl rfl rfl rfl) (av_cons (ev_var (pv 3)) av_nil)))
      (bv_cons (sv_name (i := 5) sc_law.nd rfl (Or.inl rfl) (ev_if (tv_of (ev_isi rfl B.isinstance rfl B.tuple (by decide +kernel) (ev_var (pv 3)))) (ev_callTy call_list_of m_lst rfl B.list (by decide +kernel) (av_cons (ev_var (pv 3)) av_nil)) (ev_var (pv 3))))
      (bv_cons (sv_if (tv_w (wv_or (tv_cmp (op_neD (hu64 hr)) m_ne (ev_callB (call_repr hgd (hu64 hr)) m_repr rfl B.repr (by decide +kernel) (av_cons (ev_lst (av_cons (ev_callW W_number_text (hr.mono (by decide)) hgd rfl (fun _ _ _ _ _ _ us hl => match us, hl with | [_], _ => rfl) (takes_of rfl rfl rfl rfl) (av_cons (ev_var (pv 3)) av_nil)) (av_cons (ev_callKW (perm := [0]) (ks := ["value"]) W_number_text (hr.mono (by decide)) hgd rfl (fun _ _ _ _ _ _ ws hl => match ws, hl with | [_], _ => rfl) (takes_of rfl rfl rfl rfl) (kv_cons (ev_var (pv 5)) kv_nil)) av_nil))) av_nil)) (ev_callB (call_repr hgd (hu64 hr)) m_repr rfl B.repr (by decide +kernel) (av_cons (ev_lst (av_cons (ev_var (pv 4)) (av_cons (ev_var (pv 4)) av_nil))) av_nil))) (wv_or1 (tv_cmp (op_neD (hu64 hr)) m_ne (ev_callB (call_repr hgd (hu64 hr)) m_repr rfl B.repr (by decide +kernel) (av_cons (ev_callW W_law_told (hr.mono (by decide)) hgd rfl (fun _ _ _ _ _ _ us hl => match us, hl with | [_], _ => rfl) (takes_of rfl rfl rfl rfl) (av_cons (ev_var (pv 4)) av_nil)) av_nil)) (ev_callB (call_repr hgd (hu64 hr)) m_repr rfl B.repr (by decide +kernel) (av_cons (ev_lst (av_cons (ev_var (pv 3)) av_nil)) av_nil)))))) (bv_one (sv_ret ev_bl)) bv_nil)
      (bv_cons (sv_name (i := 6) sc_law.nd rfl (Or.inl rfl) (ev_callW W_law_bent (hr.mono (by decide)) hgd rfl (fun _ _ _ _ _ _ us hl => match us, hl with | [_, _], _ => rfl) (takes_of rfl rfl rfl rfl) (av_cons (ev_var (pv 1)) (av_cons (ev_var (pv 4)) av_nil))))
      (bv_one (sv_if (tv_cmp (op_neD (hu64 hr)) m_ne (ev_callB (call_repr hgd (hu64 hr)) m_repr rfl B.repr (by decide +kernel) (av_cons (ev_callW W_law_told (hr.mono (by decide)) hgd rfl (fun _ _ _ _ _ _ us hl => match us, hl with | [_], _ => rfl) (takes_of rfl rfl rfl rfl) (av_cons (ev_var (pv 6)) av_nil)) av_nil)) (ev_callB (call_repr hgd (hu64 hr)) m_repr rfl B.repr (by decide +kernel) (av_cons (ev_callW W_law_read (hr.mono (by decide)) hgd rfl (fun _ _ _ _ _ _ us hl => match us, hl with | [_], _ => rfl) (takes_of rfl rfl rfl rfl) (av_cons (ev_var (pv 6)) av_nil)) av_nil))) (bv_one (sv_ret ev_bl)) bv_nil))))))))
      (bv_cons (sv_for (passes_of rfl) rfl (iv_seq (ev_tup (av_cons ev_non (av_cons ev_bl (av_cons ev_int (av_cons (ev_lst (av_cons ev_str av_nil)) (av_cons (ev_tup (av_cons ev_str av_nil)) (av_cons (ev_dict (pps_cons ev_str ev_int pps_nil) (dvs_cons dvs_nil)) av_nil)))))))) (gv_name (pg_name (i := 7) sc_law.nd rfl (Or.inl rfl))) (bv_one (sv_if (tv_cmp (op_neD (hu64 hr)) m_ne (ev_callW W_law_told (hr.mono (by decide)) hgd rfl (fun _ _ _ _ _ _ us hl => match us, hl with | [_], _ => rfl) (takes_of rfl rfl rfl rfl) (av_cons (ev_var (pv 7)) av_nil)) (ev_tup (av_cons ev_str (av_cons ev_int (av_cons ev_int av_nil))))) (bv_one (sv_ret ev_bl)) bv_nil)))
      (bv_cons (sv_name (i := 8) sc_law.nd rfl (Or.inl rfl) (ev_callW W_law_pick (hr.mono (by decide)) hgd rfl (fun _ _ _ _ _ _ us hl => match us, hl with | [_, _], _ => rfl) (takes_of rfl rfl rfl rfl) (av_cons (ev_var (pv 1)) (av_cons (ev_lst (av_cons ev_non (av_cons ev_str (av_cons ev_bl (av_cons (ev_tup (av_cons ev_int (av_cons ev_int av_nil))) (av_cons (ev_tup (av_cons ev_int (av_cons ev_int av_nil))) (av_cons (ev_lst (av_cons ev_int (av_cons ev_int av_nil))) (av_cons (ev_tup (av_cons ev_int (av_cons ev_int (av_cons ev_int av_nil)))) av_nil)))))))) av_nil))))
      (bv_cons (sv_name (i := 9) sc_law.nd rfl (Or.inl rfl) (ev_callW W_law_pick (hr.mono (by decide)) hgd rfl (fun _ _ _ _ _ _ us hl => match us, hl with | [_, _], _ => rfl) (takes_of rfl rfl rfl rfl) (av_cons (ev_var (pv 1)) (av_cons (ev_lst (av_cons ev_str (av_cons ev_str (av_cons ev_str (av_cons ev_str (av_cons ev_str (av_cons ev_str (av_cons ev_str av_nil)))))))) av_nil))))
      (bv_cons (sv_for (passes_of rfl) rfl (iv_seq (ev_tup (av_cons ev_str (av_cons ev_str (av_cons (ev_var (pv 9)) av_nil))))) (gv_name (pg_name (i := 4) sc_law.nd rfl (Or.inl rfl))) (bv_one (sv_if (tv_cmp (op_neD (hu64 hr)) m_ne (ev_callW W_law_told (hr.mono (by decide)) hgd rfl (fun _ _ _ _ _ _ us hl => match us, hl with | [_], _ => rfl) (takes_of rfl rfl rfl rfl) (av_cons (ev_var (pv 4)) av_nil)) (ev_tup (av_cons ev_str (av_cons ev_int (av_cons ev_int av_nil))))) (bv_one (sv_ret ev_bl)) bv_nil)))
      (bv_one (sv_ret (ev_callW W_law_refused (hr.mono (by decide)) hgd rfl (fun _ _ _ _ _ _ us hl => match us, hl with | [_], _ => rfl) (takes_of rfl rfl rfl rfl) (av_cons (ev_var (pv 8)) av_nil))))))))))
end
end K04

namespace K04
open PySem L2 FL
/-! ### the checks, plainly -/
def whole : D → Bool
  | .int _ => true
  | _ => false
def intD : D → Int
  | .int i => i
  | _ => 0
theorem whole_or (d : D) : (∃ i, d = .int i) ∨ whole d = false := by cases d <;> simp [whole]
theorem is_integer_eq (d : D) (s : Deck) : m_is_integer [d] s = .ok (.bl (whole d)) s := by cases d <;> rfl
def isSome : D → Bool
  | .lst _ => true
  | .tup _ => true
  | .deck => true
  | _ => false
theorem is_list_eq (d : D) (s : Deck) : m_is_list [d] s = .ok (.bl (isSome d)) s := by cases d <;> rfl
theorem q_is2 {f : FE} {δ : DEnv} {s : Deck} : isi2F f "list" "tuple" δ s = (f δ s).bind fun x s => .ok (.bl (isSome x)) s := by
  rw [q_isi2]; congr 1; funext x s; cases x <;> rfl
@[simp] theorem w_int {i : Int} : whole (.int i) = true := rfl
@[simp] theorem i_int {i : Int} : intD (.int i) = i := rfl
@[simp] theorem l_lst {x : List D} : isSome (.lst x) = true := rfl
@[simp] theorem l_int {i : Int} : isSome (.int i) = false := rfl
@[simp] theorem l_tup {x : List D} : isSome (.tup x) = true := rfl
@[simp] theorem w_lst {x : List D} : whole (.lst x) = false := rfl
@[simp] theorem w_tup {x : List D} : whole (.tup x) = false := rfl
def numP (a b : D) : Bool := whole a && (whole b && (decide (2 ≤ intD b) && decide (Nat.gcd (intD a).natAbs (intD b).natAbs = 1)))
def num : D → Bool
  | .int _ => true
  | .lst [a, b] => numP a b
  | .tup [a, b] => numP a b
  | _ => false
def leO : Option Int → Int → Bool
  | none, _ => true
  | some a, i => decide (a ≤ i)
def geO : Option Int → Int → Bool
  | none, _ => true
  | some a, i => decide (i ≤ a)
def within (d : D) (lo hi : Option Int) : Bool := whole d && (leO lo (intD d) && geO hi (intD d))
def ofO : Option Int → D
  | none => .non
  | some i => .int i
theorem is_within_eq (d : D) (lo hi : Option Int) (s : Deck) : m_is_within [d, ofO lo, ofO hi] s = .ok (.bl (within d lo hi)) s := by
  unfold m_is_within g_is_within within
  rcases whole_or d with ⟨i, rfl⟩ | h
  · cases lo <;> cases hi <;> simp only [ofO, leO, geO, i_int] <;> simp only [q_def, q_seq, q_ite, q_ret, q_set, q_drop, q_asg, q_for, q_for0, q_fc, q_frd_nx, q_frd_rt, q_frd_ct, q_frd_bk, q_turn, q_mkLst, q_mkTup, Nat.reduceLeDiff, q_and_bl, q_or_bl, q_c0, q_c1, q_c2, q_c3, q_c4, q_c5, q_c6, q_c9, q_c13, decide_true, decide_false, Int.reduceEq, Int.reduceLT, Int.reduceLE, Int.reduceAdd, Int.reduceSub, Int.reduceMul, Int.reduceNeg, Int.reducePow, Int.reduceToNat, Int.reduceBNe, Int.reduceNe, Nat.zero_le, q_get, q_cst, q_lift, q_un, q_with, q_av0, q_avC, q_callN, q_callKW, q_andD, q_orD, q_notD, q_fAnd, q_fOr, q_fNot, q_fTru, q_fBoo, q_ifD, q_isN, q_fIsN, q_fNotN, startD, q_bind, q_toS, q_rt, q_nx, q_thn_nx, q_thn_rt, q_okO, q_nxO, q_pure, q_none0, q_none1, q_none2, q_none3, q_none4, q_tru_bl, q_tru_int, q_tru_lst, q_tru_tup, q_tru_non, q_boo, q_seqL, q_seqT, q_lenL, q_lenT, q_eqI, q_neI, q_lt, q_le, q_gt, q_ge, q_add, q_addL, q_sub, q_neg, q_abs, q_int, q_intB, q_max, q_gcd, q_tupL, q_gL, q_gT, q_g0, q_g1, q_g2, q_lc, q_par, q_parO, q_whS, q_slc, q_prt0, q_prt1, q_intR, q_slcL, q_slcT, q_zipL, q_zipT, q_allp, List.length_map, wipeE, List.map_cons, List.map_nil, List.length_cons, List.length_nil, List.replicate, List.cons_append, List.nil_append, List.getElem?_cons_zero, List.getElem?_cons_succ, List.set_cons_zero, List.set_cons_succ, Nat.reduceSub, Nat.reduceAdd, if_true, Bool.not_true, Bool.not_false, Bool.false_eq_true, if_false, reduceIte, setD, List.foldl_cons, List.foldl_nil, q_asgN, q_asgT, q_asgL, q_asgs0, q_asgsC, Option.bind_some, List.append_nil, is_integer_eq, is_list_eq, q_is2, w_int, i_int, w_lst, w_tup, l_lst, l_tup, l_int, Bool.true_and, Bool.false_and, Bool.and_true, Bool.and_false, *]
    all_goals first | rfl | (split <;> simp_all)
  · cases lo <;> cases hi <;> simp only [ofO, leO, geO] <;> simp only [q_def, q_seq, q_ite, q_ret, q_set, q_drop, q_asg, q_for, q_for0, q_fc, q_frd_nx, q_frd_rt, q_frd_ct, q_frd_bk, q_turn, q_mkLst, q_mkTup, Nat.reduceLeDiff, q_and_bl, q_or_bl, q_c0, q_c1, q_c2, q_c3, q_c4, q_c5, q_c6, q_c9, q_c13, decide_true, decide_false, Int.reduceEq, Int.reduceLT, Int.reduceLE, Int.reduceAdd, Int.reduceSub, Int.reduceMul, Int.reduceNeg, Int.reducePow, Int.reduceToNat, Int.reduceBNe, Int.reduceNe, Nat.zero_le, q_get, q_cst, q_lift, q_un, q_with, q_av0, q_avC, q_callN, q_callKW, q_andD, q_orD, q_notD, q_fAnd, q_fOr, q_fNot, q_fTru, q_fBoo, q_ifD, q_isN, q_fIsN, q_fNotN, startD, q_bind, q_toS, q_rt, q_nx, q_thn_nx, q_thn_rt, q_okO, q_nxO, q_pure, q_none0, q_none1, q_none2, q_none3, q_none4, q_tru_bl, q_tru_int, q_tru_lst, q_tru_tup, q_tru_non, q_boo, q_seqL, q_seqT, q_lenL, q_lenT, q_eqI, q_neI, q_lt, q_le, q_gt, q_ge, q_add, q_addL, q_sub, q_neg, q_abs, q_int, q_intB, q_max, q_gcd, q_tupL, q_gL, q_gT, q_g0, q_g1, q_g2, q_lc, q_par, q_parO, q_whS, q_slc, q_prt0, q_prt1, q_intR, q_slcL, q_slcT, q_zipL, q_zipT, q_allp, List.length_map, wipeE, List.map_cons, List.map_nil, List.length_cons, List.length_nil, List.replicate, List.cons_append, List.nil_append, List.getElem?_cons_zero, List.getElem?_cons_succ, List.set_cons_zero, List.set_cons_succ, Nat.reduceSub, Nat.reduceAdd, if_true, Bool.not_true, Bool.not_false, Bool.false_eq_true, if_false, reduceIte, setD, List.foldl_cons, List.foldl_nil, q_asgN, q_asgT, q_asgL, q_asgs0, q_asgsC, Option.bind_some, List.append_nil, is_integer_eq, is_list_eq, q_is2, w_int, i_int, w_lst, w_tup, l_lst, l_tup, l_int, Bool.true_and, Bool.false_and, Bool.and_true, Bool.and_false, *]
theorem within2_eq (d : D) (s : Deck) : m_is_within [d, .int 2, .non] s = .ok (.bl (whole d && decide (2 ≤ intD d))) s := by
  have h := is_within_eq d (some 2) none s
  rw [show within d (some 2) none = (whole d && decide (2 ≤ intD d)) from by unfold within leO geO; simp] at h
  exact h
/-- none of the mixer -/
def nodk : D → Bool
  | .deck => false
  | _ => true
theorem is_number_lt (x y : D) (d : D) (hd : d = .lst [x, y] ∨ d = .tup [x, y]) (s : Deck) : m_is_number [d] s = .ok (.bl (numP x y)) s := by
  unfold m_is_number g_is_number numP
  have e1 : ((Nat.gcd (0:Int).natAbs 0 : Nat) : Int) = 0 := rfl
  rcases whole_or x with ⟨i, rfl⟩ | hx
  · rcases whole_or y with ⟨j, rfl⟩ | hy
    · have e : decide (((Nat.gcd i.natAbs j.natAbs : Nat) : Int) = 1) = decide (Nat.gcd i.natAbs j.natAbs = 1) := by
        congr 1; exact propext ⟨fun h => by exact_mod_cast h, fun h => by exact_mod_cast h⟩
      by_cases c : (2 : Int) ≤ j
      · rcases hd with rfl | rfl <;> simp only [q_def, q_seq, q_ite, q_ret, q_set, q_drop, q_asg, q_for, q_for0, q_fc, q_frd_nx, q_frd_rt, q_frd_ct, q_frd_bk, q_turn, q_mkLst, q_mkTup, Nat.reduceLeDiff, q_and_bl, q_or_bl, q_c0, q_c1, q_c2, q_c3, q_c4, q_c5, q_c6, q_c9, q_c13, decide_true, decide_false, Int.reduceEq, Int.reduceLT, Int.reduceLE, Int.reduceAdd, Int.reduceSub, Int.reduceMul, Int.reduceNeg, Int.reducePow, Int.reduceToNat, Int.reduceBNe, Int.reduceNe, Nat.zero_le, q_get, q_cst, q_lift, q_un, q_with, q_av0, q_avC, q_callN, q_callKW, q_andD, q_orD, q_notD, q_fAnd, q_fOr, q_fNot, q_fTru, q_fBoo, q_ifD, q_isN, q_fIsN, q_fNotN, startD, q_bind, q_toS, q_rt, q_nx, q_thn_nx, q_thn_rt, q_okO, q_nxO, q_pure, q_none0, q_none1, q_none2, q_none3, q_none4, q_tru_bl, q_tru_int, q_tru_lst, q_tru_tup, q_tru_non, q_boo, q_seqL, q_seqT, q_lenL, q_lenT, q_eqI, q_neI, q_lt, q_le, q_gt, q_ge, q_add, q_addL, q_sub, q_neg, q_abs, q_int, q_intB, q_max, q_gcd, q_tupL, q_gL, q_gT, q_g0, q_g1, q_g2, q_lc, q_par, q_parO, q_whS, q_slc, q_prt0, q_prt1, q_intR, q_slcL, q_slcT, q_zipL, q_zipT, q_allp, List.length_map, wipeE, List.map_cons, List.map_nil, List.length_cons, List.length_nil, List.replicate, List.cons_append, List.nil_append, List.getElem?_cons_zero, List.getElem?_cons_succ, List.set_cons_zero, List.set_cons_succ, Nat.reduceSub, Nat.reduceAdd, if_true, Bool.not_true, Bool.not_false, Bool.false_eq_true, if_false, reduceIte, setD, List.foldl_cons, List.foldl_nil, q_asgN, q_asgT, q_asgL, q_asgs0, q_asgsC, Option.bind_some, List.append_nil, is_integer_eq, is_list_eq, q_is2, w_int, i_int, w_lst, w_tup, l_lst, l_tup, l_int, Bool.true_and, Bool.false_and, Bool.and_true, Bool.and_false, within2_eq, *] <;> rfl
      · rcases hd with rfl | rfl <;> simp only [q_def, q_seq, q_ite, q_ret, q_set, q_drop, q_asg, q_for, q_for0, q_fc, q_frd_nx, q_frd_rt, q_frd_ct, q_frd_bk, q_turn, q_mkLst, q_mkTup, Nat.reduceLeDiff, q_and_bl, q_or_bl, q_c0, q_c1, q_c2, q_c3, q_c4, q_c5, q_c6, q_c9, q_c13, decide_true, decide_false, Int.reduceEq, Int.reduceLT, Int.reduceLE, Int.reduceAdd, Int.reduceSub, Int.reduceMul, Int.reduceNeg, Int.reducePow, Int.reduceToNat, Int.reduceBNe, Int.reduceNe, Nat.zero_le, q_get, q_cst, q_lift, q_un, q_with, q_av0, q_avC, q_callN, q_callKW, q_andD, q_orD, q_notD, q_fAnd, q_fOr, q_fNot, q_fTru, q_fBoo, q_ifD, q_isN, q_fIsN, q_fNotN, startD, q_bind, q_toS, q_rt, q_nx, q_thn_nx, q_thn_rt, q_okO, q_nxO, q_pure, q_none0, q_none1, q_none2, q_none3, q_none4, q_tru_bl, q_tru_int, q_tru_lst, q_tru_tup, q_tru_non, q_boo, q_seqL, q_seqT, q_lenL, q_lenT, q_eqI, q_neI, q_lt, q_le, q_gt, q_ge, q_add, q_addL, q_sub, q_neg, q_abs, q_int, q_intB, q_max, q_gcd, q_tupL, q_gL, q_gT, q_g0, q_g1, q_g2, q_lc, q_par, q_parO, q_whS, q_slc, q_prt0, q_prt1, q_intR, q_slcL, q_slcT, q_zipL, q_zipT, q_allp, List.length_map, wipeE, List.map_cons, List.map_nil, List.length_cons, List.length_nil, List.replicate, List.cons_append, List.nil_append, List.getElem?_cons_zero, List.getElem?_cons_succ, List.set_cons_zero, List.set_cons_succ, Nat.reduceSub, Nat.reduceAdd, if_true, Bool.not_true, Bool.not_false, Bool.false_eq_true, if_false, reduceIte, setD, List.foldl_cons, List.foldl_nil, q_asgN, q_asgT, q_asgL, q_asgs0, q_asgsC, Option.bind_some, List.append_nil, is_integer_eq, is_list_eq, q_is2, w_int, i_int, w_lst, w_tup, l_lst, l_tup, l_int, Bool.true_and, Bool.false_and, Bool.and_true, Bool.and_false, within2_eq, decide_false, *]
    · rcases hd with rfl | rfl <;> simp only [q_def, q_seq, q_ite, q_ret, q_set, q_drop, q_asg, q_for, q_for0, q_fc, q_frd_nx, q_frd_rt, q_frd_ct, q_frd_bk, q_turn, q_mkLst, q_mkTup, Nat.reduceLeDiff, q_and_bl, q_or_bl, q_c0, q_c1, q_c2, q_c3, q_c4, q_c5, q_c6, q_c9, q_c13, decide_true, decide_false, Int.reduceEq, Int.reduceLT, Int.reduceLE, Int.reduceAdd, Int.reduceSub, Int.reduceMul, Int.reduceNeg, Int.reducePow, Int.reduceToNat, Int.reduceBNe, Int.reduceNe, Nat.zero_le, q_get, q_cst, q_lift, q_un, q_with, q_av0, q_avC, q_callN, q_callKW, q_andD, q_orD, q_notD, q_fAnd, q_fOr, q_fNot, q_fTru, q_fBoo, q_ifD, q_isN, q_fIsN, q_fNotN, startD, q_bind, q_toS, q_rt, q_nx, q_thn_nx, q_thn_rt, q_okO, q_nxO, q_pure, q_none0, q_none1, q_none2, q_none3, q_none4, q_tru_bl, q_tru_int, q_tru_lst, q_tru_tup, q_tru_non, q_boo, q_seqL, q_seqT, q_lenL, q_lenT, q_eqI, q_neI, q_lt, q_le, q_gt, q_ge, q_add, q_addL, q_sub, q_neg, q_abs, q_int, q_intB, q_max, q_gcd, q_tupL, q_gL, q_gT, q_g0, q_g1, q_g2, q_lc, q_par, q_parO, q_whS, q_slc, q_prt0, q_prt1, q_intR, q_slcL, q_slcT, q_zipL, q_zipT, q_allp, List.length_map, wipeE, List.map_cons, List.map_nil, List.length_cons, List.length_nil, List.replicate, List.cons_append, List.nil_append, List.getElem?_cons_zero, List.getElem?_cons_succ, List.set_cons_zero, List.set_cons_succ, Nat.reduceSub, Nat.reduceAdd, if_true, Bool.not_true, Bool.not_false, Bool.false_eq_true, if_false, reduceIte, setD, List.foldl_cons, List.foldl_nil, q_asgN, q_asgT, q_asgL, q_asgs0, q_asgsC, Option.bind_some, List.append_nil, is_integer_eq, is_list_eq, q_is2, w_int, i_int, w_lst, w_tup, l_lst, l_tup, l_int, Bool.true_and, Bool.false_and, Bool.and_true, Bool.and_false, within2_eq, *]
  · rcases hd with rfl | rfl <;> simp only [q_def, q_seq, q_ite, q_ret, q_set, q_drop, q_asg, q_for, q_for0, q_fc, q_frd_nx, q_frd_rt, q_frd_ct, q_frd_bk, q_turn, q_mkLst, q_mkTup, Nat.reduceLeDiff, q_and_bl, q_or_bl, q_c0, q_c1, q_c2, q_c3, q_c4, q_c5, q_c6, q_c9, q_c13, decide_true, decide_false, Int.reduceEq, Int.reduceLT, Int.reduceLE, Int.reduceAdd, Int.reduceSub, Int.reduceMul, Int.reduceNeg, Int.reducePow, Int.reduceToNat, Int.reduceBNe, Int.reduceNe, Nat.zero_le, q_get, q_cst, q_lift, q_un, q_with, q_av0, q_avC, q_callN, q_callKW, q_andD, q_orD, q_notD, q_fAnd, q_fOr, q_fNot, q_fTru, q_fBoo, q_ifD, q_isN, q_fIsN, q_fNotN, startD, q_bind, q_toS, q_rt, q_nx, q_thn_nx, q_thn_rt, q_okO, q_nxO, q_pure, q_none0, q_none1, q_none2, q_none3, q_none4, q_tru_bl, q_tru_int, q_tru_lst, q_tru_tup, q_tru_non, q_boo, q_seqL, q_seqT, q_lenL, q_lenT, q_eqI, q_neI, q_lt, q_le, q_gt, q_ge, q_add, q_addL, q_sub, q_neg, q_abs, q_int, q_intB, q_max, q_gcd, q_tupL, q_gL, q_gT, q_g0, q_g1, q_g2, q_lc, q_par, q_parO, q_whS, q_slc, q_prt0, q_prt1, q_intR, q_slcL, q_slcT, q_zipL, q_zipT, q_allp, List.length_map, wipeE, List.map_cons, List.map_nil, List.length_cons, List.length_nil, List.replicate, List.cons_append, List.nil_append, List.getElem?_cons_zero, List.getElem?_cons_succ, List.set_cons_zero, List.set_cons_succ, Nat.reduceSub, Nat.reduceAdd, if_true, Bool.not_true, Bool.not_false, Bool.false_eq_true, if_false, reduceIte, setD, List.foldl_cons, List.foldl_nil, q_asgN, q_asgT, q_asgL, q_asgs0, q_asgsC, Option.bind_some, List.append_nil, is_integer_eq, is_list_eq, q_is2, w_int, i_int, w_lst, w_tup, l_lst, l_tup, l_int, Bool.true_and, Bool.false_and, Bool.and_true, Bool.and_false, *]
theorem is_number_eq (d : D) (h : nodk d = true) (s : Deck) : m_is_number [d] s = .ok (.bl (num d)) s := by
  have two : ∀ x y z : D, ∀ r : List D, decide (((x :: y :: z :: r).length : Int) = 2) = false := fun x y z r => decide_eq_false (by simp; omega)
  cases d with
  | deck => cases h
  | lst xs =>
    match xs with
    | [] => unfold m_is_number g_is_number num; simp only [q_def, q_seq, q_ite, q_ret, q_set, q_drop, q_asg, q_for, q_for0, q_fc, q_frd_nx, q_frd_rt, q_frd_ct, q_frd_bk, q_turn, q_mkLst, q_mkTup, Nat.reduceLeDiff, q_and_bl, q_or_bl, q_c0, q_c1, q_c2, q_c3, q_c4, q_c5, q_c6, q_c9, q_c13, decide_true, decide_false, Int.reduceEq, Int.reduceLT, Int.reduceLE, Int.reduceAdd, Int.reduceSub, Int.reduceMul, Int.reduceNeg, Int.reducePow, Int.reduceToNat, Int.reduceBNe, Int.reduceNe, Nat.zero_le, q_get, q_cst, q_lift, q_un, q_with, q_av0, q_avC, q_callN, q_callKW, q_andD, q_orD, q_notD, q_fAnd, q_fOr, q_fNot, q_fTru, q_fBoo, q_ifD, q_isN, q_fIsN, q_fNotN, startD, q_bind, q_toS, q_rt, q_nx, q_thn_nx, q_thn_rt, q_okO, q_nxO, q_pure, q_none0, q_none1, q_none2, q_none3, q_none4, q_tru_bl, q_tru_int, q_tru_lst, q_tru_tup, q_tru_non, q_boo, q_seqL, q_seqT, q_lenL, q_lenT, q_eqI, q_neI, q_lt, q_le, q_gt, q_ge, q_add, q_addL, q_sub, q_neg, q_abs, q_int, q_intB, q_max, q_gcd, q_tupL, q_gL, q_gT, q_g0, q_g1, q_g2, q_lc, q_par, q_parO, q_whS, q_slc, q_prt0, q_prt1, q_intR, q_slcL, q_slcT, q_zipL, q_zipT, q_allp, List.length_map, wipeE, List.map_cons, List.map_nil, List.length_cons, List.length_nil, List.replicate, List.cons_append, List.nil_append, List.getElem?_cons_zero, List.getElem?_cons_succ, List.set_cons_zero, List.set_cons_succ, Nat.reduceSub, Nat.reduceAdd, if_true, Bool.not_true, Bool.not_false, Bool.false_eq_true, if_false, reduceIte, setD, List.foldl_cons, List.foldl_nil, q_asgN, q_asgT, q_asgL, q_asgs0, q_asgsC, Option.bind_some, List.append_nil, is_integer_eq, is_list_eq, q_is2, w_int, i_int, w_lst, w_tup, l_lst, l_tup, l_int, Bool.true_and, Bool.false_and, Bool.and_true, Bool.and_false, *]
    | [x] => unfold m_is_number g_is_number num; simp only [q_def, q_seq, q_ite, q_ret, q_set, q_drop, q_asg, q_for, q_for0, q_fc, q_frd_nx, q_frd_rt, q_frd_ct, q_frd_bk, q_turn, q_mkLst, q_mkTup, Nat.reduceLeDiff, q_and_bl, q_or_bl, q_c0, q_c1, q_c2, q_c3, q_c4, q_c5, q_c6, q_c9, q_c13, decide_true, decide_false, Int.reduceEq, Int.reduceLT, Int.reduceLE, Int.reduceAdd, Int.reduceSub, Int.reduceMul, Int.reduceNeg, Int.reducePow, Int.reduceToNat, Int.reduceBNe, Int.reduceNe, Nat.zero_le, q_get, q_cst, q_lift, q_un, q_with, q_av0, q_avC, q_callN, q_callKW, q_andD, q_orD, q_notD, q_fAnd, q_fOr, q_fNot, q_fTru, q_fBoo, q_ifD, q_isN, q_fIsN, q_fNotN, startD, q_bind, q_toS, q_rt, q_nx, q_thn_nx, q_thn_rt, q_okO, q_nxO, q_pure, q_none0, q_none1, q_none2, q_none3, q_none4, q_tru_bl, q_tru_int, q_tru_lst, q_tru_tup, q_tru_non, q_boo, q_seqL, q_seqT, q_lenL, q_lenT, q_eqI, q_neI, q_lt, q_le, q_gt, q_ge, q_add, q_addL, q_sub, q_neg, q_abs, q_int, q_intB, q_max, q_gcd, q_tupL, q_gL, q_gT, q_g0, q_g1, q_g2, q_lc, q_par, q_parO, q_whS, q_slc, q_prt0, q_prt1, q_intR, q_slcL, q_slcT, q_zipL, q_zipT, q_allp, List.length_map, wipeE, List.map_cons, List.map_nil, List.length_cons, List.length_nil, List.replicate, List.cons_append, List.nil_append, List.getElem?_cons_zero, List.getElem?_cons_succ, List.set_cons_zero, List.set_cons_succ, Nat.reduceSub, Nat.reduceAdd, if_true, Bool.not_true, Bool.not_false, Bool.false_eq_true, if_false, reduceIte, setD, List.foldl_cons, List.foldl_nil, q_asgN, q_asgT, q_asgL, q_asgs0, q_asgsC, Option.bind_some, List.append_nil, is_integer_eq, is_list_eq, q_is2, w_int, i_int, w_lst, w_tup, l_lst, l_tup, l_int, Bool.true_and, Bool.false_and, Bool.and_true, Bool.and_false, *]
    | x :: y :: z :: r =>
      have := two x y z r
      simp only [List.length_cons] at this
      unfold m_is_number g_is_number num; simp only [q_def, q_seq, q_ite, q_ret, q_set, q_drop, q_asg, q_for, q_for0, q_fc, q_frd_nx, q_frd_rt, q_frd_ct, q_frd_bk, q_turn, q_mkLst, q_mkTup, Nat.reduceLeDiff, q_and_bl, q_or_bl, q_c0, q_c1, q_c2, q_c3, q_c4, q_c5, q_c6, q_c9, q_c13, decide_true, decide_false, Int.reduceEq, Int.reduceLT, Int.reduceLE, Int.reduceAdd, Int.reduceSub, Int.reduceMul, Int.reduceNeg, Int.reducePow, Int.reduceToNat, Int.reduceBNe, Int.reduceNe, Nat.zero_le, q_get, q_cst, q_lift, q_un, q_with, q_av0, q_avC, q_callN, q_callKW, q_andD, q_orD, q_notD, q_fAnd, q_fOr, q_fNot, q_fTru, q_fBoo, q_ifD, q_isN, q_fIsN, q_fNotN, startD, q_bind, q_toS, q_rt, q_nx, q_thn_nx, q_thn_rt, q_okO, q_nxO, q_pure, q_none0, q_none1, q_none2, q_none3, q_none4, q_tru_bl, q_tru_int, q_tru_lst, q_tru_tup, q_tru_non, q_boo, q_seqL, q_seqT, q_lenL, q_lenT, q_eqI, q_neI, q_lt, q_le, q_gt, q_ge, q_add, q_addL, q_sub, q_neg, q_abs, q_int, q_intB, q_max, q_gcd, q_tupL, q_gL, q_gT, q_g0, q_g1, q_g2, q_lc, q_par, q_parO, q_whS, q_slc, q_prt0, q_prt1, q_intR, q_slcL, q_slcT, q_zipL, q_zipT, q_allp, List.length_map, wipeE, List.map_cons, List.map_nil, List.length_cons, List.length_nil, List.replicate, List.cons_append, List.nil_append, List.getElem?_cons_zero, List.getElem?_cons_succ, List.set_cons_zero, List.set_cons_succ, Nat.reduceSub, Nat.reduceAdd, if_true, Bool.not_true, Bool.not_false, Bool.false_eq_true, if_false, reduceIte, setD, List.foldl_cons, List.foldl_nil, q_asgN, q_asgT, q_asgL, q_asgs0, q_asgsC, Option.bind_some, List.append_nil, is_integer_eq, is_list_eq, q_is2, w_int, i_int, w_lst, w_tup, l_lst, l_tup, l_int, Bool.true_and, Bool.false_and, Bool.and_true, Bool.and_false, *]
    | [x, y] => exact is_number_lt x y _ (.inl rfl) s
  | tup xs =>
    match xs with
    | [] => unfold m_is_number g_is_number num; simp only [q_def, q_seq, q_ite, q_ret, q_set, q_drop, q_asg, q_for, q_for0, q_fc, q_frd_nx, q_frd_rt, q_frd_ct, q_frd_bk, q_turn, q_mkLst, q_mkTup, Nat.reduceLeDiff, q_and_bl, q_or_bl, q_c0, q_c1, q_c2, q_c3, q_c4, q_c5, q_c6, q_c9, q_c13, decide_true, decide_false, Int.reduceEq, Int.reduceLT, Int.reduceLE, Int.reduceAdd, Int.reduceSub, Int.reduceMul, Int.reduceNeg, Int.reducePow, Int.reduceToNat, Int.reduceBNe, Int.reduceNe, Nat.zero_le, q_get, q_cst, q_lift, q_un, q_with, q_av0, q_avC, q_callN, q_callKW, q_andD, q_orD, q_notD, q_fAnd, q_fOr, q_fNot, q_fTru, q_fBoo, q_ifD, q_isN, q_fIsN, q_fNotN, startD, q_bind, q_toS, q_rt, q_nx, q_thn_nx, q_thn_rt, q_okO, q_nxO, q_pure, q_none0, q_none1, q_none2, q_none3, q_none4, q_tru_bl, q_tru_int, q_tru_lst, q_tru_tup, q_tru_non, q_boo, q_seqL, q_seqT, q_lenL, q_lenT, q_eqI, q_neI, q_lt, q_le, q_gt, q_ge, q_add, q_addL, q_sub, q_neg, q_abs, q_int, q_intB, q_max, q_gcd, q_tupL, q_gL, q_gT, q_g0, q_g1, q_g2, q_lc, q_par, q_parO, q_whS, q_slc, q_prt0, q_prt1, q_intR, q_slcL, q_slcT, q_zipL, q_zipT, q_allp, List.length_map, wipeE, List.map_cons, List.map_nil, List.length_cons, List.length_nil, List.replicate, List.cons_append, List.nil_append, List.getElem?_cons_zero, List.getElem?_cons_succ, List.set_cons_zero, List.set_cons_succ, Nat.reduceSub, Nat.reduceAdd, if_true, Bool.not_true, Bool.not_false, Bool.false_eq_true, if_false, reduceIte, setD, List.foldl_cons, List.foldl_nil, q_asgN, q_asgT, q_asgL, q_asgs0, q_asgsC, Option.bind_some, List.append_nil, is_integer_eq, is_list_eq, q_is2, w_int, i_int, w_lst, w_tup, l_lst, l_tup, l_int, Bool.true_and, Bool.false_and, Bool.and_true, Bool.and_false, *]
    | [x] => unfold m_is_number g_is_number num; simp only [q_def, q_seq, q_ite, q_ret, q_set, q_drop, q_asg, q_for, q_for0, q_fc, q_frd_nx, q_frd_rt, q_frd_ct, q_frd_bk, q_turn, q_mkLst, q_mkTup, Nat.reduceLeDiff, q_and_bl, q_or_bl, q_c0, q_c1, q_c2, q_c3, q_c4, q_c5, q_c6, q_c9, q_c13, decide_true, decide_false, Int.reduceEq, Int.reduceLT, Int.reduceLE, Int.reduceAdd, Int.reduceSub, Int.reduceMul, Int.reduceNeg, Int.reducePow, Int.reduceToNat, Int.reduceBNe, Int.reduceNe, Nat.zero_le, q_get, q_cst, q_lift, q_un, q_with, q_av0, q_avC, q_callN, q_callKW, q_andD, q_orD, q_notD, q_fAnd, q_fOr, q_fNot, q_fTru, q_fBoo, q_ifD, q_isN, q_fIsN, q_fNotN, startD, q_bind, q_toS, q_rt, q_nx, q_thn_nx, q_thn_rt, q_okO, q_nxO, q_pure, q_none0, q_none1, q_none2, q_none3, q_none4, q_tru_bl, q_tru_int, q_tru_lst, q_tru_tup, q_tru_non, q_boo, q_seqL, q_seqT, q_lenL, q_lenT, q_eqI, q_neI, q_lt, q_le, q_gt, q_ge, q_add, q_addL, q_sub, q_neg, q_abs, q_int, q_intB, q_max, q_gcd, q_tupL, q_gL, q_gT, q_g0, q_g1, q_g2, q_lc, q_par, q_parO, q_whS, q_slc, q_prt0, q_prt1, q_intR, q_slcL, q_slcT, q_zipL, q_zipT, q_allp, List.length_map, wipeE, List.map_cons, List.map_nil, List.length_cons, List.length_nil, List.replicate, List.cons_append, List.nil_append, List.getElem?_cons_zero, List.getElem?_cons_succ, List.set_cons_zero, List.set_cons_succ, Nat.reduceSub, Nat.reduceAdd, if_true, Bool.not_true, Bool.not_false, Bool.false_eq_true, if_false, reduceIte, setD, List.foldl_cons, List.foldl_nil, q_asgN, q_asgT, q_asgL, q_asgs0, q_asgsC, Option.bind_some, List.append_nil, is_integer_eq, is_list_eq, q_is2, w_int, i_int, w_lst, w_tup, l_lst, l_tup, l_int, Bool.true_and, Bool.false_and, Bool.and_true, Bool.and_false, *]
    | x :: y :: z :: r =>
      have := two x y z r
      simp only [List.length_cons] at this
      unfold m_is_number g_is_number num; simp only [q_def, q_seq, q_ite, q_ret, q_set, q_drop, q_asg, q_for, q_for0, q_fc, q_frd_nx, q_frd_rt, q_frd_ct, q_frd_bk, q_turn, q_mkLst, q_mkTup, Nat.reduceLeDiff, q_and_bl, q_or_bl, q_c0, q_c1, q_c2, q_c3, q_c4, q_c5, q_c6, q_c9, q_c13, decide_true, decide_false, Int.reduceEq, Int.reduceLT, Int.reduceLE, Int.reduceAdd, Int.reduceSub, Int.reduceMul, Int.reduceNeg, Int.reducePow, Int.reduceToNat, Int.reduceBNe, Int.reduceNe, Nat.zero_le, q_get, q_cst, q_lift, q_un, q_with, q_av0, q_avC, q_callN, q_callKW, q_andD, q_orD, q_notD, q_fAnd, q_fOr, q_fNot, q_fTru, q_fBoo, q_ifD, q_isN, q_fIsN, q_fNotN, startD, q_bind, q_toS, q_rt, q_nx, q_thn_nx, q_thn_rt, q_okO, q_nxO, q_pure, q_none0, q_none1, q_none2, q_none3, q_none4, q_tru_bl, q_tru_int, q_tru_lst, q_tru_tup, q_tru_non, q_boo, q_seqL, q_seqT, q_lenL, q_lenT, q_eqI, q_neI, q_lt, q_le, q_gt, q_ge, q_add, q_addL, q_sub, q_neg, q_abs, q_int, q_intB, q_max, q_gcd, q_tupL, q_gL, q_gT, q_g0, q_g1, q_g2, q_lc, q_par, q_parO, q_whS, q_slc, q_prt0, q_prt1, q_intR, q_slcL, q_slcT, q_zipL, q_zipT, q_allp, List.length_map, wipeE, List.map_cons, List.map_nil, List.length_cons, List.length_nil, List.replicate, List.cons_append, List.nil_append, List.getElem?_cons_zero, List.getElem?_cons_succ, List.set_cons_zero, List.set_cons_succ, Nat.reduceSub, Nat.reduceAdd, if_true, Bool.not_true, Bool.not_false, Bool.false_eq_true, if_false, reduceIte, setD, List.foldl_cons, List.foldl_nil, q_asgN, q_asgT, q_asgL, q_asgs0, q_asgsC, Option.bind_some, List.append_nil, is_integer_eq, is_list_eq, q_is2, w_int, i_int, w_lst, w_tup, l_lst, l_tup, l_int, Bool.true_and, Bool.false_and, Bool.and_true, Bool.and_false, *]
    | [x, y] => exact is_number_lt x y _ (.inr rfl) s
  | _ => rfl
theorem at0 {x : D} {r : List D} : atI (x :: r) 0 = some x := by unfold atI ixN; simp
theorem at1 {x y : D} {r : List D} : atI (x :: y :: r) 1 = some y := by
  unfold atI ixN
  simp
  rw [if_pos (by omega)]
  rfl
/-! ### the law's own looking -/
theorem gcd_step (x y : Int) (hx : 0 ≤ x) (hy : 0 < y) : Nat.gcd y.natAbs (x % y).natAbs = Nat.gcd x.natAbs y.natAbs := by
  have e : (x % y).natAbs = x.natAbs % y.natAbs := by
    obtain ⟨a, rfl⟩ := Int.eq_ofNat_of_zero_le hx
    obtain ⟨b, rfl⟩ := Int.eq_ofNat_of_zero_le (Int.le_of_lt hy)
    rfl
  rw [e, Nat.gcd_comm x.natAbs, Nat.gcd_rec y.natAbs x.natAbs]
  exact Nat.gcd_comm _ _
theorem alone_loop (s : Deck) : ∀ (n : Nat) (x y : Int), 0 ≤ x → 0 ≤ y → y.natAbs < n →
    whileD (fBoo (lift2 gtM (getE 1) (cst (.int 0)))) (parS 0 1 (avC (getE 1) (avC (lift2 modM (withA (avC (getE 0) av0) intM1) (getE 1)) av0))) n [some (.int x), some (.int y)] s = .nx [some (.int (Nat.gcd x.natAbs y.natAbs : Nat)), some (.int 0)] s
  | 0, x, y, _, _, h => absurd h (Nat.not_lt_zero _)
  | n + 1, x, y, hx, hy, h => by
    rw [q_whD]
    by_cases c : 0 < y
    · have r0 := Int.emod_nonneg x (by omega : y ≠ 0)
      have r1 := Int.emod_lt_of_pos x c
      have ih := alone_loop s n y (x % y) hy r0 (by omega)
      rw [gcd_step x y hx c] at ih
      simp only [q_def, q_seq, q_ite, q_ret, q_set, q_drop, q_asg, q_for, q_for0, q_fc, q_frd_nx, q_frd_rt, q_frd_ct, q_frd_bk, q_turn, q_mkLst, q_mkTup, Nat.reduceLeDiff, q_and_bl, q_or_bl, q_c0, q_c1, q_c2, q_c3, q_c4, q_c5, q_c6, q_c9, q_c13, decide_true, decide_false, Int.reduceEq, Int.reduceLT, Int.reduceLE, Int.reduceAdd, Int.reduceSub, Int.reduceMul, Int.reduceNeg, Int.reducePow, Int.reduceToNat, Int.reduceBNe, Int.reduceNe, Nat.zero_le, q_get, q_cst, q_lift, q_un, q_with, q_av0, q_avC, q_callN, q_callKW, q_andD, q_orD, q_notD, q_fAnd, q_fOr, q_fNot, q_fTru, q_fBoo, q_ifD, q_isN, q_fIsN, q_fNotN, startD, q_bind, q_toS, q_rt, q_nx, q_thn_nx, q_thn_rt, q_okO, q_nxO, q_pure, q_none0, q_none1, q_none2, q_none3, q_none4, q_tru_bl, q_tru_int, q_tru_lst, q_tru_tup, q_tru_non, q_boo, q_seqL, q_seqT, q_lenL, q_lenT, q_eqI, q_neI, q_lt, q_le, q_gt, q_ge, q_add, q_addL, q_sub, q_neg, q_abs, q_int, q_intB, q_max, q_gcd, q_tupL, q_gL, q_gT, q_g0, q_g1, q_g2, q_lc, q_par, q_parO, q_whS, q_slc, q_prt0, q_prt1, q_intR, q_slcL, q_slcT, q_zipL, q_zipT, q_allp, List.length_map, wipeE, List.map_cons, List.map_nil, List.length_cons, List.length_nil, List.replicate, List.cons_append, List.nil_append, List.getElem?_cons_zero, List.getElem?_cons_succ, List.set_cons_zero, List.set_cons_succ, Nat.reduceSub, Nat.reduceAdd, if_true, Bool.not_true, Bool.not_false, Bool.false_eq_true, if_false, reduceIte, setD, List.foldl_cons, List.foldl_nil, q_asgN, q_asgT, q_asgL, q_asgs0, q_asgsC, Option.bind_some, List.append_nil, q_mod, *]
    · have e : y = 0 := by omega
      subst e
      clear h hy
      have e2 : ((Nat.gcd x.natAbs (0:Int).natAbs : Nat) : Int) = x := by simp; omega
      rw [e2]
      simp only [q_def, q_seq, q_ite, q_ret, q_set, q_drop, q_asg, q_for, q_for0, q_fc, q_frd_nx, q_frd_rt, q_frd_ct, q_frd_bk, q_turn, q_mkLst, q_mkTup, Nat.reduceLeDiff, q_and_bl, q_or_bl, q_c0, q_c1, q_c2, q_c3, q_c4, q_c5, q_c6, q_c9, q_c13, decide_true, decide_false, Int.reduceEq, Int.reduceLT, Int.reduceLE, Int.reduceAdd, Int.reduceSub, Int.reduceMul, Int.reduceNeg, Int.reducePow, Int.reduceToNat, Int.reduceBNe, Int.reduceNe, Nat.zero_le, q_get, q_cst, q_lift, q_un, q_with, q_av0, q_avC, q_callN, q_callKW, q_andD, q_orD, q_notD, q_fAnd, q_fOr, q_fNot, q_fTru, q_fBoo, q_ifD, q_isN, q_fIsN, q_fNotN, startD, q_bind, q_toS, q_rt, q_nx, q_thn_nx, q_thn_rt, q_okO, q_nxO, q_pure, q_none0, q_none1, q_none2, q_none3, q_none4, q_tru_bl, q_tru_int, q_tru_lst, q_tru_tup, q_tru_non, q_boo, q_seqL, q_seqT, q_lenL, q_lenT, q_eqI, q_neI, q_lt, q_le, q_gt, q_ge, q_add, q_addL, q_sub, q_neg, q_abs, q_int, q_intB, q_max, q_gcd, q_tupL, q_gL, q_gT, q_g0, q_g1, q_g2, q_lc, q_par, q_parO, q_whS, q_slc, q_prt0, q_prt1, q_intR, q_slcL, q_slcT, q_zipL, q_zipT, q_allp, List.length_map, wipeE, List.map_cons, List.map_nil, List.length_cons, List.length_nil, List.replicate, List.cons_append, List.nil_append, List.getElem?_cons_zero, List.getElem?_cons_succ, List.set_cons_zero, List.set_cons_succ, Nat.reduceSub, Nat.reduceAdd, if_true, Bool.not_true, Bool.not_false, Bool.false_eq_true, if_false, reduceIte, setD, List.foldl_cons, List.foldl_nil, q_asgN, q_asgT, q_asgL, q_asgs0, q_asgsC, Option.bind_some, List.append_nil, *]
theorem law_alone_eq (i j : Int) (s : Deck) : m_law_alone [.int i, .int j] s = .ok (.bl (decide (Nat.gcd i.natAbs j.natAbs = 1))) s := by
  unfold m_law_alone g_law_alone
  have h := alone_loop s ((if j < 0 then -j else j).natAbs + 1) (if i < 0 then -i else i) (if j < 0 then -j else j) (by split <;> omega) (by split <;> omega) (by omega)
  have e1 : (if i < 0 then -i else i).natAbs = i.natAbs := by split <;> omega
  have e2 : (if j < 0 then -j else j).natAbs = j.natAbs := by split <;> omega
  rw [e1, e2] at h
  have e3 : decide (((Nat.gcd i.natAbs j.natAbs : Nat) : Int) = 1) = decide (Nat.gcd i.natAbs j.natAbs = 1) := by
    congr 1; exact propext ⟨fun h => by exact_mod_cast h, fun h => by exact_mod_cast h⟩
  have e4 : intE [some (.int (if i < 0 then -i else i)), some (.int (if j < 0 then -j else j))] 1 = (if j < 0 then -j else j) := rfl
  simp only [q_def, q_seq, q_ite, q_ret, q_set, q_drop, q_asg, q_for, q_for0, q_fc, q_frd_nx, q_frd_rt, q_frd_ct, q_frd_bk, q_turn, q_mkLst, q_mkTup, Nat.reduceLeDiff, q_and_bl, q_or_bl, q_c0, q_c1, q_c2, q_c3, q_c4, q_c5, q_c6, q_c9, q_c13, decide_true, decide_false, Int.reduceEq, Int.reduceLT, Int.reduceLE, Int.reduceAdd, Int.reduceSub, Int.reduceMul, Int.reduceNeg, Int.reducePow, Int.reduceToNat, Int.reduceBNe, Int.reduceNe, Nat.zero_le, q_get, q_cst, q_lift, q_un, q_with, q_av0, q_avC, q_callN, q_callKW, q_andD, q_orD, q_notD, q_fAnd, q_fOr, q_fNot, q_fTru, q_fBoo, q_ifD, q_isN, q_fIsN, q_fNotN, startD, q_bind, q_toS, q_rt, q_nx, q_thn_nx, q_thn_rt, q_okO, q_nxO, q_pure, q_none0, q_none1, q_none2, q_none3, q_none4, q_tru_bl, q_tru_int, q_tru_lst, q_tru_tup, q_tru_non, q_boo, q_seqL, q_seqT, q_lenL, q_lenT, q_eqI, q_neI, q_lt, q_le, q_gt, q_ge, q_add, q_addL, q_sub, q_neg, q_abs, q_int, q_intB, q_max, q_gcd, q_tupL, q_gL, q_gT, q_g0, q_g1, q_g2, q_lc, q_par, q_parO, q_whS, q_slc, q_prt0, q_prt1, q_intR, q_slcL, q_slcT, q_zipL, q_zipT, q_allp, List.length_map, wipeE, List.map_cons, List.map_nil, List.length_cons, List.length_nil, List.replicate, List.cons_append, List.nil_append, List.getElem?_cons_zero, List.getElem?_cons_succ, List.set_cons_zero, List.set_cons_succ, Nat.reduceSub, Nat.reduceAdd, if_true, Bool.not_true, Bool.not_false, Bool.false_eq_true, if_false, reduceIte, setD, List.foldl_cons, List.foldl_nil, q_asgN, q_asgT, q_asgL, q_asgs0, q_asgsC, Option.bind_some, List.append_nil, *]
end K04

namespace K04
open PySem L2 FL
/-! ### the mixer -/
structure Good (b : Int) (s : Deck) : Prop where
  t0 : 0 ≤ s.turn
  t1 : s.turn ≤ b
  l0 : 0 ≤ s.left
theorem Good.mono {b c : Int} {s : Deck} (h : Good b s) (k : b ≤ c) : Good c s := ⟨h.t0, Int.le_trans h.t1 k, h.l0⟩
theorem q_put {k : Int} {f g : FE} {δ : DEnv} {s : Deck} : putS f g k δ s = (f δ s).toS δ fun v s => (g δ s).toS δ fun d s => (match d with
  | .deck => match putM k v s with
    | some s' => RS.nx δ s'
    | none => .bad
  | _ => .bad) := rfl
def putO (k : Int) (v d : D) (δ : DEnv) (s : Deck) : RS := match d with
  | .deck => match putM k v s with
    | some s' => RS.nx δ s'
    | none => .bad
  | _ => .bad
theorem q_put' {k : Int} {f g : FE} {δ : DEnv} {s : Deck} : putS f g k δ s = (f δ s).toS δ fun v s => (g δ s).toS δ fun d s => putO k v d δ s := rfl
theorem q_putO1 {i : Int} {δ : DEnv} {s : Deck} : putO 1 (.int i) .deck δ s = .nx δ { s with turn := i } := rfl
theorem q_putO2 {i : Int} {δ : DEnv} {s : Deck} : putO 2 (.int i) .deck δ s = .nx δ { s with left := i } := rfl
theorem q_neL0 {s : Deck} : neM (.lst []) (.lst []) s = .ok (.bl false) s := rfl
theorem pys_ints : ∀ ns : List Int, pys (ns.map .int) = some (ns.map .int)
  | [] => rfl
  | n :: ns => by simp only [List.map_cons, pys, py, pys_ints ns]; rfl
theorem lay_ints : ∀ ns : List Int, PyData.canLayAll0 (ns.map .int) = true
  | [] => rfl
  | n :: ns => by simp only [List.map_cons, PyData.canLayAll0, PyData.canLay0, lay_ints ns]; rfl
theorem deep_ints : ∀ ns : List Int, PyData.depthAll (ns.map .int) ≤ 1
  | [] => by simp [PyData.depthAll]
  | n :: ns => by
    have h := deep_ints ns
    simp only [List.map_cons, PyData.depthAll, PyData.depth]
    omega
theorem q_neL1 {c : Int} {cs : List Int} {s : Deck} : neM (.lst (.int c :: cs.map .int)) (.lst []) s = .ok (.bl true) s := by
  have h := pys_ints (c :: cs)
  rw [List.map_cons] at h
  have h2 := lay_ints (c :: cs)
  have h3 := deep_ints (c :: cs)
  have h4 : SeqAt.shaped (PyData.list ((c :: cs).map .int)) = true := by
    unfold SeqAt.shaped
    simp only [PyData.canLay0, PyData.depth, h2, Bool.true_and]
    exact decide_eq_true (Nat.le_trans (Nat.add_le_add_right h3 1) (by decide))
  have h5 : SeqAt.shaped (PyData.list []) = true := rfl
  have h6 : py (.lst (.int c :: cs.map .int)) = some (.list ((c :: cs).map .int)) := by
    show (pys (.int c :: cs.map .int)).map _ = _
    rw [h]
    rfl
  unfold neM eqO
  rw [h6, show py (.lst []) = some (.list []) from rfl]
  simp only [h4, h5, if_true, Option.map_some]
  rfl
theorem sift_left (many : Int) (s : Deck) (hm : 0 < many) (hl : many.natAbs.log2 < 9000) (h : 0 < s.left) : m_law_pour [.deck, .int many] s = .ok (.int (s.left % many)) { s with left := s.left / many } := by
  unfold m_law_pour g_law_pour
  simp only [q_def, q_seq, q_ite, q_ret, q_set, q_drop, q_asg, q_for, q_for0, q_fc, q_frd_nx, q_frd_rt, q_frd_ct, q_frd_bk, q_turn, q_mkLst, q_mkTup, Nat.reduceLeDiff, q_and_bl, q_or_bl, q_c0, q_c1, q_c2, q_c3, q_c4, q_c5, q_c6, q_c9, q_c13, decide_true, decide_false, Int.reduceEq, Int.reduceLT, Int.reduceLE, Int.reduceAdd, Int.reduceSub, Int.reduceMul, Int.reduceNeg, Int.reducePow, Int.reduceToNat, Int.reduceBNe, Int.reduceNe, Nat.zero_le, q_get, q_cst, q_lift, q_un, q_with, q_av0, q_avC, q_callN, q_callKW, q_andD, q_orD, q_notD, q_fAnd, q_fOr, q_fNot, q_fTru, q_fBoo, q_ifD, q_isN, q_fIsN, q_fNotN, startD, q_bind, q_toS, q_rt, q_nx, q_thn_nx, q_thn_rt, q_okO, q_nxO, q_pure, q_none0, q_none1, q_none2, q_none3, q_none4, q_tru_bl, q_tru_int, q_tru_lst, q_tru_tup, q_tru_non, q_boo, q_seqL, q_seqT, q_lenL, q_lenT, q_eqI, q_neI, q_lt, q_le, q_gt, q_ge, q_add, q_addL, q_sub, q_neg, q_abs, q_int, q_intB, q_max, q_gcd, q_tupL, q_gL, q_gT, q_g0, q_g1, q_g2, q_lc, q_par, q_parO, q_whS, q_slc, q_prt0, q_prt1, q_intR, q_slcL, q_slcT, q_zipL, q_zipT, q_allp, List.length_map, wipeE, List.map_cons, List.map_nil, List.length_cons, List.length_nil, List.replicate, List.cons_append, List.nil_append, List.getElem?_cons_zero, List.getElem?_cons_succ, List.set_cons_zero, List.set_cons_succ, Nat.reduceSub, Nat.reduceAdd, if_true, Bool.not_true, Bool.not_false, Bool.false_eq_true, if_false, reduceIte, setD, List.foldl_cons, List.foldl_nil, q_asgN, q_asgT, q_asgL, q_asgs0, q_asgsC, Option.bind_some, List.append_nil, is_integer_eq, is_list_eq, q_is2, w_int, i_int, w_lst, w_tup, l_lst, l_tup, l_int, Bool.true_and, Bool.false_and, Bool.and_true, Bool.and_false, q_put', q_putO2, q_mod, q_fdiv, *]
def mix (c T : Int) : Int :=
  (((c % 2147483563 + 85199 * T + 8179) ^ 5 % 2147483579 * (2 * T + 8179) + 108203 * T * T + 85199) ^ 3 % 2147483549) / 64
def tailS : FS :=
    (seqS (setS 5 (lift2 modM (withA (avC (lift2 powM (lift2 addM (lift2 addM (lift2 modM (withA (avC (getE 4) av0) intM1) (cst (.int 2147483563))) (lift2 mulM (cst (.int 85199)) (getE 3))) (cst (.int 8179))) (cst (.int 5))) av0) intM1) (cst (.int 2147483579))))
    (seqS (setS 5 (lift2 modM (withA (avC (lift2 powM (lift2 addM (lift2 addM (lift2 mulM (getE 5) (lift2 addM (lift2 mulM (cst (.int 2)) (getE 3)) (cst (.int 8179)))) (lift2 mulM (lift2 mulM (cst (.int 108203)) (getE 3)) (getE 3))) (cst (.int 85199))) (cst (.int 3))) av0) intM1) (cst (.int 2147483549))))
    (retS (lift2 modM (withA (avC (lift2 fdivM (getE 5) (cst (.int 64))) av0) intM1) (getE 1)))))
theorem sift_fold : g_law_pour =
    (seqS (iteS (fBoo (lift2 gtM (lift2 getM (getE 0) (cst (.int 2))) (cst (.int 0)))) (seqS (setS 2 (withA (avC (lift2 getM (getE 0) (cst (.int 2))) av0) intM1))
    (seqS (putS (lift2 fdivM (getE 2) (getE 1)) (getE 0) 2)
    (retS (lift2 modM (withA (avC (getE 2) av0) intM1) (getE 1))))) (fun δ s => .nx δ s))
    (seqS (setS 3 (lift2 getM (getE 0) (cst (.int 1))))
    (seqS (putS (lift2 addM (getE 3) (cst (.int 1))) (getE 0) 1)
    (seqS (setS 4 (lift2 addM (lift2 mulM (cst (.int 108203)) (getE 3)) (cst (.int 8179))))
    (seqS (iteS (fBoo (lift2 neM (lift2 getM (getE 0) (cst (.int 0))) (withA av0 mkLst))) (setS 4 (lift2 getM (lift2 getM (getE 0) (cst (.int 0))) (lift2 modM (withA (avC (getE 3) av0) intM1) (withA (avC (lift2 getM (getE 0) (cst (.int 0))) av0) lenM)))) (fun δ s => .nx δ s))
    (seqS (iteS (fAnd (fBoo (lift2 ltM (getE 3) (withA (avC (lift2 getM (getE 0) (cst (.int 0))) av0) lenM))) (fBoo (lift2 geM (withA (avC (getE 4) av0) absM) (lift2 powM (cst (.int 10)) (cst (.int 18)))))) (seqS (setS 2 (lift2 addM (lift2 mulM (cst (.int 2)) (lift2 subM (withA (avC (withA (avC (getE 4) av0) intM1) av0) absM) (lift2 powM (cst (.int 10)) (cst (.int 18))))) (withA (avC (lift2 ltM (getE 4) (cst (.int 0))) av0) intM1)))
    (seqS (putS (lift2 fdivM (getE 2) (getE 1)) (getE 0) 2)
    (retS (lift2 modM (withA (avC (getE 2) av0) intM1) (getE 1))))) (fun δ s => .nx δ s))
    tailS)))))) := rfl
theorem mul0 {n : Int} (T : Int) (s : Deck) (h : -18446744073709551616 < n ∧ n < 18446744073709551616) : mulM (.int n) (.int T) s = .ok (.int (n * T)) s := q_mul (by simpa using h)
theorem mul1 {n : Int} (T : Int) (s : Deck) (h : -18446744073709551616 < T ∧ T < 18446744073709551616) : mulM (.int n) (.int T) s = .ok (.int (n * T)) s := q_mulR (by simpa using h)
theorem tail_eq (c T many : Int) (s : Deck) (h0 : 0 ≤ T) (h1 : T ≤ 1000000) (hm : 0 < many) (x2 x5 : Option D) : tailS [some .deck, some (.int many), x2, some (.int T), some (.int c), x5] s = .rt (.int (mix c T % many)) s := by
  unfold tailS mix
  have p1 : powM (.int (c % 2147483563 + 85199 * T + 8179)) (.int 5) s = .ok (.int ((c % 2147483563 + 85199 * T + 8179) ^ 5)) s := q_pow ⟨by decide, by decide, by omega⟩
  obtain ⟨a, ha⟩ : ∃ a, a = (c % 2147483563 + 85199 * T + 8179) ^ 5 % 2147483579 := ⟨_, rfl⟩
  have a0 : 0 ≤ a := by omega
  have a1 : a < 2147483579 := by omega
  have m1 := mul0 T s (n := 85199) (by decide)
  have m2 := mul0 T s (n := 2) (by decide)
  have m3 := mul0 T s (n := 108203) (by decide)
  have m4 := mul1 (n := 108203 * T) T s (by omega)
  have m5 := mul1 (n := a) (2 * T + 8179) s (by omega)
  have b1 : a * (2 * T + 8179) ≤ 2147483579 * 2008179 := Int.mul_le_mul (by omega) (by omega) (by omega) (by omega)
  have b2 : 0 ≤ a * (2 * T + 8179) := Int.mul_nonneg a0 (by omega)
  have b3 : 108203 * T * T ≤ 108203000000 * 1000000 := Int.mul_le_mul (by omega) (by omega) (by omega) (by omega)
  have b4 : 0 ≤ 108203 * T * T := Int.mul_nonneg (by omega) h0
  have p2 : powM (.int (a * (2 * T + 8179) + 108203 * T * T + 85199)) (.int 3) s = .ok (.int ((a * (2 * T + 8179) + 108203 * T * T + 85199) ^ 3)) s := q_pow ⟨by decide, by decide, by omega⟩
  have d1 : ∀ x : Int, fdivM (.int x) (.int 64) s = .ok (.int (x / 64)) s := fun x => q_fdiv (by decide) (by decide +kernel)
  have k1 : ∀ x : Int, modM (.int x) (.int 2147483563) s = .ok (.int (x % 2147483563)) s := fun x => q_mod (by decide)
  have k2 : ∀ x : Int, modM (.int x) (.int 2147483579) s = .ok (.int (x % 2147483579)) s := fun x => q_mod (by decide)
  have k3 : ∀ x : Int, modM (.int x) (.int 2147483549) s = .ok (.int (x % 2147483549)) s := fun x => q_mod (by decide)
  have k4 : ∀ x : Int, modM (.int x) (.int many) s = .ok (.int (x % many)) s := fun x => q_mod hm
  clear a0 a1 b1 b2 b3 b4 h0 h1 hm
  rw [← ha]
  have hb := ha.symm
  clear ha
  simp only [q_def, q_seq, q_ite, q_ret, q_set, q_drop, q_asg, q_for, q_for0, q_fc, q_frd_nx, q_frd_rt, q_frd_ct, q_frd_bk, q_turn, q_mkLst, q_mkTup, Nat.reduceLeDiff, q_and_bl, q_or_bl, q_c0, q_c1, q_c2, q_c3, q_c4, q_c5, q_c6, q_c9, q_c13, decide_true, decide_false, Int.reduceEq, Int.reduceLT, Int.reduceLE, Int.reduceAdd, Int.reduceSub, Int.reduceMul, Int.reduceNeg, Int.reducePow, Int.reduceToNat, Int.reduceBNe, Int.reduceNe, Nat.zero_le, q_get, q_cst, q_lift, q_un, q_with, q_av0, q_avC, q_callN, q_callKW, q_andD, q_orD, q_notD, q_fAnd, q_fOr, q_fNot, q_fTru, q_fBoo, q_ifD, q_isN, q_fIsN, q_fNotN, startD, q_bind, q_toS, q_rt, q_nx, q_thn_nx, q_thn_rt, q_okO, q_nxO, q_pure, q_none0, q_none1, q_none2, q_none3, q_none4, q_tru_bl, q_tru_int, q_tru_lst, q_tru_tup, q_tru_non, q_boo, q_seqL, q_seqT, q_lenL, q_lenT, q_eqI, q_neI, q_lt, q_le, q_gt, q_ge, q_add, q_addL, q_sub, q_neg, q_abs, q_int, q_intB, q_max, q_gcd, q_tupL, q_gL, q_gT, q_g0, q_g1, q_g2, q_lc, q_par, q_parO, q_whS, q_slc, q_prt0, q_prt1, q_intR, q_slcL, q_slcT, q_zipL, q_zipT, q_allp, List.length_map, wipeE, List.map_cons, List.map_nil, List.length_cons, List.length_nil, List.replicate, List.cons_append, List.nil_append, List.getElem?_cons_zero, List.getElem?_cons_succ, List.set_cons_zero, List.set_cons_succ, Nat.reduceSub, Nat.reduceAdd, if_true, Bool.not_true, Bool.not_false, Bool.false_eq_true, if_false, reduceIte, setD, List.foldl_cons, List.foldl_nil, q_asgN, q_asgT, q_asgL, q_asgs0, q_asgsC, Option.bind_some, List.append_nil, is_integer_eq, is_list_eq, q_is2, w_int, i_int, w_lst, w_tup, l_lst, l_tup, l_int, Bool.true_and, Bool.false_and, Bool.and_true, Bool.and_false, *]
theorem atI_in {xs : List D} {i : Int} (h0 : 0 ≤ i) (h1 : i < xs.length) : ∃ x, x ∈ xs ∧ atI xs i = some x := by
  obtain ⟨n, rfl⟩ := Int.eq_ofNat_of_zero_le h0
  have hn : n < xs.length := by omega
  refine ⟨xs[n], List.getElem_mem _, ?_⟩
  unfold atI ixN
  simp [hn]
theorem ten18 (s : Deck) : powM (.int 10) (.int 18) s = .ok (.int 1000000000000000000) s := q_pow (by decide)
theorem at_ints {cs : List Int} {i : Int} (h0 : 0 ≤ i) (h1 : i < (cs.length : Int)) : ∃ c : Int, atI (cs.map D.int) i = some (.int c) := by
  obtain ⟨x, hx, e⟩ := atI_in (xs := cs.map D.int) h0 (by simpa using h1)
  obtain ⟨c, _, rfl⟩ := List.mem_map.mp hx
  exact ⟨c, e⟩
theorem sift_new (many : Int) (s : Deck) (hm : 0 < many) (hl : many.natAbs.log2 < 9000) (hc : ¬ 0 < s.left) (h0 : 0 ≤ s.turn) (h1 : s.turn ≤ 1000000) (hl0 : 0 ≤ s.left) :
    ∃ r s', m_law_pour [.deck, .int many] s = .ok (.int r) s' ∧ 0 ≤ r ∧ r < many ∧ s'.turn = s.turn + 1 ∧ 0 ≤ s'.left := by
  unfold m_law_pour
  rw [sift_fold]
  have tl : ∀ (c : Int) (x2 x5 : Option D) (s' : Deck), tailS [some .deck, some (.int many), x2, some (.int s.turn), some (.int c), x5] s' = .rt (.int (mix c s.turn % many)) s' := fun c x2 x5 s' => tail_eq c s.turn many s' h0 h1 hm x2 x5
  have c0 := decide_eq_false hc
  have mm := mul0 s.turn { s with turn := s.turn + 1 } (n := 108203) (by decide)
  obtain ⟨cells, turn, left⟩ := s
  simp only at *
  have r0 : ∀ x : Int, 0 ≤ x % many := fun x => Int.emod_nonneg _ (by omega)
  have r1 : ∀ x : Int, x % many < many := fun x => Int.emod_lt_of_pos _ hm
  cases cells with
  | nil =>
    have z : decide (turn < 0) = false := decide_eq_false (by omega)
    refine ⟨mix (108203 * turn + 8179) turn % many, ⟨[], turn + 1, left⟩, ?_, r0 _, r1 _, rfl, hl0⟩
    clear h0 h1 hm hl hc hl0 r0 r1
    simp only [q_def, q_seq, q_ite, q_ret, q_set, q_drop, q_asg, q_for, q_for0, q_fc, q_frd_nx, q_frd_rt, q_frd_ct, q_frd_bk, q_turn, q_mkLst, q_mkTup, Nat.reduceLeDiff, q_and_bl, q_or_bl, q_c0, q_c1, q_c2, q_c3, q_c4, q_c5, q_c6, q_c9, q_c13, decide_true, decide_false, Int.reduceEq, Int.reduceLT, Int.reduceLE, Int.reduceAdd, Int.reduceSub, Int.reduceMul, Int.reduceNeg, Int.reducePow, Int.reduceToNat, Int.reduceBNe, Int.reduceNe, Nat.zero_le, q_get, q_cst, q_lift, q_un, q_with, q_av0, q_avC, q_callN, q_callKW, q_andD, q_orD, q_notD, q_fAnd, q_fOr, q_fNot, q_fTru, q_fBoo, q_ifD, q_isN, q_fIsN, q_fNotN, startD, q_bind, q_toS, q_rt, q_nx, q_thn_nx, q_thn_rt, q_okO, q_nxO, q_pure, q_none0, q_none1, q_none2, q_none3, q_none4, q_tru_bl, q_tru_int, q_tru_lst, q_tru_tup, q_tru_non, q_boo, q_seqL, q_seqT, q_lenL, q_lenT, q_eqI, q_neI, q_lt, q_le, q_gt, q_ge, q_add, q_addL, q_sub, q_neg, q_abs, q_int, q_intB, q_max, q_gcd, q_tupL, q_gL, q_gT, q_g0, q_g1, q_g2, q_lc, q_par, q_parO, q_whS, q_slc, q_prt0, q_prt1, q_intR, q_slcL, q_slcT, q_zipL, q_zipT, q_allp, List.length_map, wipeE, List.map_cons, List.map_nil, List.length_cons, List.length_nil, List.replicate, List.cons_append, List.nil_append, List.getElem?_cons_zero, List.getElem?_cons_succ, List.set_cons_zero, List.set_cons_succ, Nat.reduceSub, Nat.reduceAdd, if_true, Bool.not_true, Bool.not_false, Bool.false_eq_true, if_false, reduceIte, setD, List.foldl_cons, List.foldl_nil, q_asgN, q_asgT, q_asgL, q_asgs0, q_asgsC, Option.bind_some, List.append_nil, is_integer_eq, is_list_eq, q_is2, w_int, i_int, w_lst, w_tup, l_lst, l_tup, l_int, Bool.true_and, Bool.false_and, Bool.and_true, Bool.and_false, q_put', q_putO1, q_neL0, *]
  | cons c cs =>
    have hlen : (0 : Int) < ((c :: cs).length : Int) := by simp only [List.length_cons]; omega
    obtain ⟨e, he⟩ := at_ints (cs := c :: cs) (i := turn % ((c :: cs).length : Int)) (Int.emod_nonneg _ (by omega)) (Int.emod_lt_of_pos _ hlen)
    have md : ∀ s : Deck, modM (.int turn) (.int ((c :: cs).length : Int)) s = .ok (.int (turn % ((c :: cs).length : Int))) s := fun s => q_mod hlen
    simp only [List.length_cons, List.map_cons] at he md hlen
    have t18 := ten18
    have ms : ∀ (x : Int) (s : Deck), modM (.int x) (.int many) s = .ok (.int (x % many)) s := fun x s => q_mod hm
    have ds : ∀ (x : Int) (s : Deck), fdivM (.int x) (.int many) s = .ok (.int (x / many)) s := fun x s => q_fdiv hm hl
    by_cases b1 : turn < ((cs.length + 1 : Nat) : Int)
    · by_cases b2 : (1000000000000000000 : Int) ≤ if e < 0 then -e else e
      · obtain ⟨v, hv⟩ : ∃ v, v = 2 * ((if e < 0 then -e else e) - 1000000000000000000) + (if decide (e < 0) = true then 1 else 0) := ⟨_, rfl⟩
        have v0 : 0 ≤ v := by
          rw [hv]
          have : (0 : Int) ≤ if decide (e < 0) = true then 1 else 0 := by split <;> decide
          omega
        have m2 : ∀ (x : Int) (s : Deck), mulM (.int 2) (.int x) s = .ok (.int (2 * x)) s := fun x s => mul0 x s (by decide)
        refine ⟨v % many, ⟨c :: cs, turn + 1, v / many⟩, ?_, r0 _, r1 _, rfl, Int.ediv_nonneg v0 (by omega)⟩
        have b1 := decide_eq_true b1
        have b2 := decide_eq_true b2
        subst hv
        clear h0 h1 hm hl hc hl0 r0 r1 tl v0 hlen
        simp only [q_def, q_seq, q_ite, q_ret, q_set, q_drop, q_asg, q_for, q_for0, q_fc, q_frd_nx, q_frd_rt, q_frd_ct, q_frd_bk, q_turn, q_mkLst, q_mkTup, Nat.reduceLeDiff, q_and_bl, q_or_bl, q_c0, q_c1, q_c2, q_c3, q_c4, q_c5, q_c6, q_c9, q_c13, decide_true, decide_false, Int.reduceEq, Int.reduceLT, Int.reduceLE, Int.reduceAdd, Int.reduceSub, Int.reduceMul, Int.reduceNeg, Int.reducePow, Int.reduceToNat, Int.reduceBNe, Int.reduceNe, Nat.zero_le, q_get, q_cst, q_lift, q_un, q_with, q_av0, q_avC, q_callN, q_callKW, q_andD, q_orD, q_notD, q_fAnd, q_fOr, q_fNot, q_fTru, q_fBoo, q_ifD, q_isN, q_fIsN, q_fNotN, startD, q_bind, q_toS, q_rt, q_nx, q_thn_nx, q_thn_rt, q_okO, q_nxO, q_pure, q_none0, q_none1, q_none2, q_none3, q_none4, q_tru_bl, q_tru_int, q_tru_lst, q_tru_tup, q_tru_non, q_boo, q_seqL, q_seqT, q_lenL, q_lenT, q_eqI, q_neI, q_lt, q_le, q_gt, q_ge, q_add, q_addL, q_sub, q_neg, q_abs, q_int, q_intB, q_max, q_gcd, q_tupL, q_gL, q_gT, q_g0, q_g1, q_g2, q_lc, q_par, q_parO, q_whS, q_slc, q_prt0, q_prt1, q_intR, q_slcL, q_slcT, q_zipL, q_zipT, q_allp, List.length_map, wipeE, List.map_cons, List.map_nil, List.length_cons, List.length_nil, List.replicate, List.cons_append, List.nil_append, List.getElem?_cons_zero, List.getElem?_cons_succ, List.set_cons_zero, List.set_cons_succ, Nat.reduceSub, Nat.reduceAdd, if_true, Bool.not_true, Bool.not_false, Bool.false_eq_true, if_false, reduceIte, setD, List.foldl_cons, List.foldl_nil, q_asgN, q_asgT, q_asgL, q_asgs0, q_asgsC, Option.bind_some, List.append_nil, is_integer_eq, is_list_eq, q_is2, w_int, i_int, w_lst, w_tup, l_lst, l_tup, l_int, Bool.true_and, Bool.false_and, Bool.and_true, Bool.and_false, q_put', q_putO1, q_putO2, q_neL1, *]
      · refine ⟨mix e turn % many, ⟨c :: cs, turn + 1, left⟩, ?_, r0 _, r1 _, rfl, hl0⟩
        have b1 := decide_eq_true b1
        have b2 := decide_eq_false b2
        clear h0 h1 hm hl hc hl0 r0 r1 hlen
        simp only [q_def, q_seq, q_ite, q_ret, q_set, q_drop, q_asg, q_for, q_for0, q_fc, q_frd_nx, q_frd_rt, q_frd_ct, q_frd_bk, q_turn, q_mkLst, q_mkTup, Nat.reduceLeDiff, q_and_bl, q_or_bl, q_c0, q_c1, q_c2, q_c3, q_c4, q_c5, q_c6, q_c9, q_c13, decide_true, decide_false, Int.reduceEq, Int.reduceLT, Int.reduceLE, Int.reduceAdd, Int.reduceSub, Int.reduceMul, Int.reduceNeg, Int.reducePow, Int.reduceToNat, Int.reduceBNe, Int.reduceNe, Nat.zero_le, q_get, q_cst, q_lift, q_un, q_with, q_av0, q_avC, q_callN, q_callKW, q_andD, q_orD, q_notD, q_fAnd, q_fOr, q_fNot, q_fTru, q_fBoo, q_ifD, q_isN, q_fIsN, q_fNotN, startD, q_bind, q_toS, q_rt, q_nx, q_thn_nx, q_thn_rt, q_okO, q_nxO, q_pure, q_none0, q_none1, q_none2, q_none3, q_none4, q_tru_bl, q_tru_int, q_tru_lst, q_tru_tup, q_tru_non, q_boo, q_seqL, q_seqT, q_lenL, q_lenT, q_eqI, q_neI, q_lt, q_le, q_gt, q_ge, q_add, q_addL, q_sub, q_neg, q_abs, q_int, q_intB, q_max, q_gcd, q_tupL, q_gL, q_gT, q_g0, q_g1, q_g2, q_lc, q_par, q_parO, q_whS, q_slc, q_prt0, q_prt1, q_intR, q_slcL, q_slcT, q_zipL, q_zipT, q_allp, List.length_map, wipeE, List.map_cons, List.map_nil, List.length_cons, List.length_nil, List.replicate, List.cons_append, List.nil_append, List.getElem?_cons_zero, List.getElem?_cons_succ, List.set_cons_zero, List.set_cons_succ, Nat.reduceSub, Nat.reduceAdd, if_true, Bool.not_true, Bool.not_false, Bool.false_eq_true, if_false, reduceIte, setD, List.foldl_cons, List.foldl_nil, q_asgN, q_asgT, q_asgL, q_asgs0, q_asgsC, Option.bind_some, List.append_nil, is_integer_eq, is_list_eq, q_is2, w_int, i_int, w_lst, w_tup, l_lst, l_tup, l_int, Bool.true_and, Bool.false_and, Bool.and_true, Bool.and_false, q_put', q_putO1, q_neL1, *]
    · refine ⟨mix e turn % many, ⟨c :: cs, turn + 1, left⟩, ?_, r0 _, r1 _, rfl, hl0⟩
      have b1 := decide_eq_false b1
      clear h0 h1 hm hl hc hl0 r0 r1 hlen
      simp only [q_def, q_seq, q_ite, q_ret, q_set, q_drop, q_asg, q_for, q_for0, q_fc, q_frd_nx, q_frd_rt, q_frd_ct, q_frd_bk, q_turn, q_mkLst, q_mkTup, Nat.reduceLeDiff, q_and_bl, q_or_bl, q_c0, q_c1, q_c2, q_c3, q_c4, q_c5, q_c6, q_c9, q_c13, decide_true, decide_false, Int.reduceEq, Int.reduceLT, Int.reduceLE, Int.reduceAdd, Int.reduceSub, Int.reduceMul, Int.reduceNeg, Int.reducePow, Int.reduceToNat, Int.reduceBNe, Int.reduceNe, Nat.zero_le, q_get, q_cst, q_lift, q_un, q_with, q_av0, q_avC, q_callN, q_callKW, q_andD, q_orD, q_notD, q_fAnd, q_fOr, q_fNot, q_fTru, q_fBoo, q_ifD, q_isN, q_fIsN, q_fNotN, startD, q_bind, q_toS, q_rt, q_nx, q_thn_nx, q_thn_rt, q_okO, q_nxO, q_pure, q_none0, q_none1, q_none2, q_none3, q_none4, q_tru_bl, q_tru_int, q_tru_lst, q_tru_tup, q_tru_non, q_boo, q_seqL, q_seqT, q_lenL, q_lenT, q_eqI, q_neI, q_lt, q_le, q_gt, q_ge, q_add, q_addL, q_sub, q_neg, q_abs, q_int, q_intB, q_max, q_gcd, q_tupL, q_gL, q_gT, q_g0, q_g1, q_g2, q_lc, q_par, q_parO, q_whS, q_slc, q_prt0, q_prt1, q_intR, q_slcL, q_slcT, q_zipL, q_zipT, q_allp, List.length_map, wipeE, List.map_cons, List.map_nil, List.length_cons, List.length_nil, List.replicate, List.cons_append, List.nil_append, List.getElem?_cons_zero, List.getElem?_cons_succ, List.set_cons_zero, List.set_cons_succ, Nat.reduceSub, Nat.reduceAdd, if_true, Bool.not_true, Bool.not_false, Bool.false_eq_true, if_false, reduceIte, setD, List.foldl_cons, List.foldl_nil, q_asgN, q_asgT, q_asgL, q_asgs0, q_asgsC, Option.bind_some, List.append_nil, is_integer_eq, is_list_eq, q_is2, w_int, i_int, w_lst, w_tup, l_lst, l_tup, l_int, Bool.true_and, Bool.false_and, Bool.and_true, Bool.and_false, q_put', q_putO1, q_neL1, *]
theorem sift_eq {b : Int} {s : Deck} (G : Good b s) (hb : b ≤ 1000000) {many : Int} (hm : 0 < many) (hl : many.natAbs.log2 < 9000) :
    ∃ r s', m_law_pour [.deck, .int many] s = .ok (.int r) s' ∧ 0 ≤ r ∧ r < many ∧ Good (b + 1) s' := by
  have t1 := G.t1
  by_cases h : 0 < s.left
  · exact ⟨_, _, sift_left many s hm hl h, Int.emod_nonneg _ (by omega), Int.emod_lt_of_pos _ hm, G.t0, by show s.turn ≤ b + 1; omega, Int.ediv_nonneg G.l0 (by omega)⟩
  · obtain ⟨r, s', e, h0, h1, ht, hl⟩ := sift_new many s hm hl h G.t0 (by omega) G.l0
    have t0 := G.t0
    exact ⟨r, s', e, h0, h1, by omega, by omega, hl⟩
end K04

namespace K04
open PySem PySem.Builtin PySem.Builtin.Str L2 FL
/-! ### texts as lists of signs -/
def T (cs : List Nat) : Str := ⟨cs.toArray⟩
def cp (z : Str) : List Nat := z.cps.toList
theorem T_cp (z : Str) : T (cp z) = z := by obtain ⟨⟨l⟩⟩ := z; rfl
theorem cp_T (cs : List Nat) : cp (T cs) = cs := rfl
theorem T_len (cs : List Nat) : (T cs).length = cs.length := by show cs.toArray.size = _; simp
theorem T_inj {a b : List Nat} : T a = T b ↔ a = b := ⟨fun h => by have := congrArg cp h; exact this, fun h => by rw [h]⟩
theorem sub_T (cs : List Nat) (i j : Nat) : strSub (T cs) i j = T ((cs.drop i).take (j - i)) := by
  unfold strSub T
  congr 1
  simp [List.extract_toArray]
def bare (cs : List Nat) : List Nat := if cs.head? = some 45 then cs.drop 1 else cs
theorem at_T (cs ds : List Nat) (i : Nat) : subAt (T cs) (T ds) i = decide ((cs.drop i).take ds.length = ds) := by
  unfold subAt
  rw [T_len]
  unfold T
  simp only [List.extract_toArray]
  rw [List.extract_eq_drop_take]
  rw [show i + ds.length - i = ds.length from by omega]
  rw [Bool.eq_iff_iff]
  simp
theorem minus_T : ("-" : Str) = T [45] := by decide +kernel
theorem slash_T : ("/" : Str) = T [47] := by decide +kernel
theorem zero_T : ("0" : Str) = T [48] := by decide +kernel
theorem head_take (cs : List Nat) (c : Nat) : cs.take 1 = [c] ↔ cs.head? = some c := by
  cases cs <;> simp
theorem rmp_T (cs : List Nat) : Txt.removeprefix (T cs) "-" = T (bare cs) := by
  unfold Txt.removeprefix bare
  rw [minus_T, at_T]
  by_cases h : cs.head? = some 45
  · have e : (cs.drop 0).take [45].length = [45] := by
      show (cs.drop 0).take 1 = [45]
      rw [List.drop_zero]; exact (head_take cs 45).mpr h
    rw [decide_eq_true e, if_pos rfl, if_pos h]
    unfold Txt.affix
    have hl : 1 ≤ cs.length := by cases cs with | nil => simp at h | cons => simp
    have hne : ((T cs).length - (T [45]).length == (T cs).length) = false := by
      rw [T_len, T_len, beq_eq_false_iff_ne]
      simp
      omega
    simp only [hne, Bool.false_eq_true, if_false]
    rw [sub_T, T_len, T_len, T_inj]
    exact List.take_of_length_le (by simp)
  · have e : ¬ (cs.drop 0).take [45].length = [45] := by
      show ¬ (cs.drop 0).take 1 = [45]
      rw [List.drop_zero]; exact fun z => h ((head_take cs 45).mp z)
    rw [decide_eq_false e, if_neg h]
    rfl
theorem cut_T (cs : List Nat) (lo hi : Option Int) : cutS (T cs) lo hi = T ((cs.drop (HT.sIx cs.length 0 lo)).take (HT.sIx cs.length cs.length hi - HT.sIx cs.length 0 lo)) := by
  unfold cutS
  rw [T_len]
  rfl
theorem cutTo (cs : List Nat) (k : Nat) : cutS (T cs) none (some (k : Int)) = T (cs.take k) := by
  rw [cut_T, HT.sIx_nat, HT.sIx_none, T_inj]
  simp only [List.drop_zero, Nat.sub_zero]
  by_cases h : k ≤ cs.length
  · rw [Nat.min_eq_left h]
  · rw [Nat.min_eq_right (by omega), List.take_of_length_le (Nat.le_refl _), List.take_of_length_le (by omega)]
theorem cutFrom (cs : List Nat) (k : Nat) : cutS (T cs) (some (k : Int)) none = T (cs.drop k) := by
  rw [cut_T, HT.sIx_nat, HT.sIx_none, T_inj]
  by_cases h : k ≤ cs.length
  · rw [Nat.min_eq_left h, List.take_of_length_le (by simp)]
  · rw [Nat.min_eq_right (by omega), List.drop_of_length_le (Nat.le_refl _), List.drop_of_length_le (by omega)]
    simp
def digB (cs : List Nat) : Bool := cs.all fun c => decide (48 ≤ c ∧ c ≤ 57)
theorem uni_dig : ∀ c : Nat, c < 128 → Unicode.isDigit c = decide (48 ≤ c ∧ c ≤ 57) := by decide +kernel
theorem ascii_dig (cs : List Nat) : (Txt.isascii (T cs) && Txt.isdigit (T cs)) = (!cs.isEmpty && digB cs) := by
  unfold Txt.isascii Txt.isdigit digB T
  simp only [List.size_toArray, List.all_toArray, PySem.Str.length]
  have key : ∀ l : List Nat, (l.all (fun c => decide (c < 128)) && l.all Unicode.isDigit) = l.all fun c => decide (48 ≤ c ∧ c ≤ 57) := by
    intro l
    induction l with
    | nil => rfl
    | cons c l ih =>
      simp only [List.all_cons]
      rw [← ih]
      by_cases h : c < 128
      · rw [uni_dig c h, decide_eq_true h]
        cases l.all (fun c => decide (c < 128)) <;> cases decide (48 ≤ c ∧ c ≤ 57) <;> cases l.all Unicode.isDigit <;> rfl
      · rw [decide_eq_false h, decide_eq_false (by omega)]
        simp
  rw [← key]
  cases cs with
  | nil => simp
  | cons c l => simp [Bool.and_comm, Bool.and_left_comm]

/-! ### whole numbers in texts -/
def lead (cs : List Nat) : Bool := decide ((bare cs).head? = some 48) && !decide (cs = [48])
def okF (cs : List Nat) : Bool := (!(bare cs).isEmpty && digB (bare cs)) && (decide ((bare cs).length ≤ 60) && !lead cs)
def valF (cs : List Nat) : Int := if cs.head? = some 45 then -((NumText.digitsVal (bare cs) : Nat) : Int) else ((NumText.digitsVal (bare cs) : Nat) : Int)
def figs (cs : List Nat) : Option Int := if okF cs = true then some (valF cs) else none
def ofO' : Option Int → D
  | none => .non
  | some i => .int i
theorem digB_all {cs : List Nat} (h : digB cs = true) : NumText.AllDigits cs := fun c hc => by
  have := List.all_eq_true.mp h c hc
  simpa using this
theorem bare_len (cs : List Nat) : cs.length ≤ (bare cs).length + 1 := by
  unfold bare
  split
  · simp; omega
  · omega
theorem bare_cases (cs : List Nat) : (cs.head? = some 45 ∧ cs = 45 :: bare cs) ∨ (cs.head? ≠ some 45 ∧ bare cs = cs) := by
  unfold bare
  by_cases h : cs.head? = some 45
  · rw [if_pos h]
    cases cs with
    | nil => simp at h
    | cons c l => simp at h; subst h; exact .inl ⟨rfl, rfl⟩
  · rw [if_neg h]; exact .inr ⟨h, rfl⟩
theorem int_okF {cs : List Nat} (h : okF cs = true) : intText? (T cs) = some (valF cs) ∧ (T cs).length ≤ 640 := by
  unfold okF at h
  simp only [Bool.and_eq_true, Bool.not_eq_true', decide_eq_true_eq] at h
  obtain ⟨⟨h1, h2⟩, h3, _⟩ := h
  have hne : bare cs ≠ [] := fun z => by rw [z] at h1; cases h1
  have hl := bare_len cs
  have hT : (T cs).length ≤ 640 := by rw [T_len]; omega
  refine ⟨?_, hT⟩
  unfold valF
  rcases bare_cases cs with ⟨e, e2⟩ | ⟨e, e2⟩
  · rw [if_pos e]
    exact intText_neg (by show cs = _; exact e2) (digB_all h2) hne (by omega)
  · rw [if_neg e, e2]
    rw [e2] at h2 hne
    exact intText_digits (by show NumText.AllDigits cs; exact digB_all h2) (by show cs ≠ []; exact hne) (by omega)
/-- texts that can be compared -/
def okT (cs : List Nat) : Bool := cs.all (· < 0x110000) && decide (cs.length ≤ 1000)
theorem okT_len {cs : List Nat} (h : okT cs = true) : cs.length ≤ 1000 := by
  unfold okT at h
  simp only [Bool.and_eq_true, decide_eq_true_eq] at h
  exact h.2
theorem okT_sub {cs ds : List Nat} (h : okT cs = true) (hs : ds.Sublist cs) : okT ds = true := by
  unfold okT at h ⊢
  simp only [Bool.and_eq_true, decide_eq_true_eq, List.all_eq_true] at h ⊢
  exact ⟨fun c hc => h.1 c (hs.subset hc), by have := hs.length_le; omega⟩
theorem shaped_T {cs : List Nat} (h : okT cs = true) : SeqAt.shaped (PyData.str (T cs)) = true := by
  unfold okT at h
  simp only [Bool.and_eq_true] at h
  have e : PyData.strOk (T cs) = true := by unfold PyData.strOk T; simpa using h.1
  unfold SeqAt.shaped
  simp only [PyData.canLay0, e, Bool.true_and, PyData.depth]
  rfl
theorem q_eqS {a b : List Nat} {s : Deck} (ha : okT a = true) (hb : okT b = true) : eqM (.str (T a)) (.str (T b)) s = .ok (.bl (decide (a = b))) s := by
  have h1 := shaped_T ha
  have h2 := shaped_T hb
  unfold eqM eqO
  simp only [py, h1, h2, if_true, PyData.eqv, Option.map_some]
  by_cases e : a = b
  · subst e; simp [pureM]
  · have : (T a == T b) = false := beq_eq_false_iff_ne.mpr fun z => e (T_inj.mp z)
    rw [this, decide_eq_false e]; rfl
theorem q_neS {a b : List Nat} {s : Deck} (ha : okT a = true) (hb : okT b = true) : neM (.str (T a)) (.str (T b)) s = .ok (.bl (!decide (a = b))) s := by
  have h1 := shaped_T ha
  have h2 := shaped_T hb
  unfold neM eqO
  simp only [py, h1, h2, if_true, PyData.eqv, Option.map_some]
  by_cases e : a = b
  · subst e; simp [pureM]
  · have : (T a == T b) = false := beq_eq_false_iff_ne.mpr fun z => e (T_inj.mp z)
    rw [this, decide_eq_false e]; rfl
theorem q_at0 {c : Nat} {l : List Nat} {s : Deck} (hl : l.length ≤ 1000) : getM (.str (T (c :: l))) (.int 0) s = .ok (.str (T [c])) s := by
  unfold getM
  have h : (T (c :: l)).length ≤ 16777216 := by rw [T_len, List.length_cons]; omega
  simp only [h, if_true]
  show (match atI (c :: l) 0 with | some c => R.ok (D.str ⟨#[c]⟩) s | none => R.bad) = _
  unfold atI ixN
  simp
  rfl
theorem q_isStr {f : FE} {δ : DEnv} {s : Deck} : isiF f "str" δ s = (f δ s).bind fun x s => .ok (.bl (match x with | .str _ => true | _ => false)) s := by
  rw [q_isi]; congr 1; funext x s; cases x <;> rfl
theorem integer_in_eq {cs : List Nat} (h : okT cs = true) (s : Deck) : m_integer_in [.str (T cs)] s = .ok (ofO' (figs cs)) s := by
  unfold m_integer_in g_integer_in figs
  have hl := okT_len h
  have hb : okT (bare cs) = true := okT_sub h (by unfold bare; split; exact List.drop_sublist _ _; exact List.Sublist.refl _)
  have hbl := okT_len hb
  have z1 : (T cs).length ≤ 16777216 := by rw [T_len]; omega
  have z2 : (T (bare cs)).length ≤ 16777216 := by rw [T_len]; omega
  have r1 : ∀ s : Deck, rmpM (T cs) "-" s = .ok (.str (T (bare cs))) s := fun s => by unfold rmpM; rw [if_pos z1, rmp_T]
  have ad := ascii_dig (bare cs)
  have ln : ∀ s : Deck, lenM [.str (T (bare cs))] s = .ok (.int ((bare cs).length : Int)) s := fun s => by unfold lenM; simp only [z2, if_true]; rw [T_len]
  cases e1 : Txt.isascii (T (bare cs)) with
  | false =>
    rw [e1, Bool.false_and] at ad
    have : okF cs = false := by unfold okF; rw [← ad]; rfl
    clear ad h hb hl hbl
    simp only [q_def, q_seq, q_ite, q_ret, q_set, q_drop, q_asg, q_for, q_for0, q_fc, q_frd_nx, q_frd_rt, q_frd_ct, q_frd_bk, q_turn, q_mkLst, q_mkTup, Nat.reduceLeDiff, q_and_bl, q_or_bl, q_c0, q_c1, q_c2, q_c3, q_c4, q_c5, q_c6, q_c9, q_c13, decide_true, decide_false, Int.reduceEq, Int.reduceLT, Int.reduceLE, Int.reduceAdd, Int.reduceSub, Int.reduceMul, Int.reduceNeg, Int.reducePow, Int.reduceToNat, Int.reduceBNe, Int.reduceNe, Nat.zero_le, q_get, q_cst, q_lift, q_un, q_with, q_av0, q_avC, q_callN, q_callKW, q_andD, q_orD, q_notD, q_fAnd, q_fOr, q_fNot, q_fTru, q_fBoo, q_ifD, q_isN, q_fIsN, q_fNotN, startD, q_bind, q_toS, q_rt, q_nx, q_thn_nx, q_thn_rt, q_okO, q_nxO, q_pure, q_none0, q_none1, q_none2, q_none3, q_none4, q_tru_bl, q_tru_int, q_tru_lst, q_tru_tup, q_tru_non, q_boo, q_seqL, q_seqT, q_lenL, q_lenT, q_eqI, q_neI, q_lt, q_le, q_gt, q_ge, q_add, q_addL, q_sub, q_neg, q_abs, q_int, q_intB, q_max, q_gcd, q_tupL, q_gL, q_gT, q_g0, q_g1, q_g2, q_lc, q_par, q_parO, q_whS, q_slc, q_prt0, q_prt1, q_intR, q_slcL, q_slcT, q_zipL, q_zipT, q_allp, List.length_map, wipeE, List.map_cons, List.map_nil, List.length_cons, List.length_nil, List.replicate, List.cons_append, List.nil_append, List.getElem?_cons_zero, List.getElem?_cons_succ, List.set_cons_zero, List.set_cons_succ, Nat.reduceSub, Nat.reduceAdd, if_true, Bool.not_true, Bool.not_false, Bool.false_eq_true, if_false, reduceIte, setD, List.foldl_cons, List.foldl_nil, q_asgN, q_asgT, q_asgL, q_asgs0, q_asgsC, Option.bind_some, List.append_nil, is_integer_eq, is_list_eq, q_is2, w_int, i_int, w_lst, w_tup, l_lst, l_tup, l_int, Bool.true_and, Bool.false_and, Bool.and_true, Bool.and_false, m1D, strR, m0M, *]
    rfl
  | true =>
    rw [e1, Bool.true_and] at ad
    cases e2 : Txt.isdigit (T (bare cs)) with
    | false =>
      rw [e2] at ad
      have : okF cs = false := by unfold okF; rw [← ad]; rfl
      clear ad h hb hl hbl
      simp only [q_def, q_seq, q_ite, q_ret, q_set, q_drop, q_asg, q_for, q_for0, q_fc, q_frd_nx, q_frd_rt, q_frd_ct, q_frd_bk, q_turn, q_mkLst, q_mkTup, Nat.reduceLeDiff, q_and_bl, q_or_bl, q_c0, q_c1, q_c2, q_c3, q_c4, q_c5, q_c6, q_c9, q_c13, decide_true, decide_false, Int.reduceEq, Int.reduceLT, Int.reduceLE, Int.reduceAdd, Int.reduceSub, Int.reduceMul, Int.reduceNeg, Int.reducePow, Int.reduceToNat, Int.reduceBNe, Int.reduceNe, Nat.zero_le, q_get, q_cst, q_lift, q_un, q_with, q_av0, q_avC, q_callN, q_callKW, q_andD, q_orD, q_notD, q_fAnd, q_fOr, q_fNot, q_fTru, q_fBoo, q_ifD, q_isN, q_fIsN, q_fNotN, startD, q_bind, q_toS, q_rt, q_nx, q_thn_nx, q_thn_rt, q_okO, q_nxO, q_pure, q_none0, q_none1, q_none2, q_none3, q_none4, q_tru_bl, q_tru_int, q_tru_lst, q_tru_tup, q_tru_non, q_boo, q_seqL, q_seqT, q_lenL, q_lenT, q_eqI, q_neI, q_lt, q_le, q_gt, q_ge, q_add, q_addL, q_sub, q_neg, q_abs, q_int, q_intB, q_max, q_gcd, q_tupL, q_gL, q_gT, q_g0, q_g1, q_g2, q_lc, q_par, q_parO, q_whS, q_slc, q_prt0, q_prt1, q_intR, q_slcL, q_slcT, q_zipL, q_zipT, q_allp, List.length_map, wipeE, List.map_cons, List.map_nil, List.length_cons, List.length_nil, List.replicate, List.cons_append, List.nil_append, List.getElem?_cons_zero, List.getElem?_cons_succ, List.set_cons_zero, List.set_cons_succ, Nat.reduceSub, Nat.reduceAdd, if_true, Bool.not_true, Bool.not_false, Bool.false_eq_true, if_false, reduceIte, setD, List.foldl_cons, List.foldl_nil, q_asgN, q_asgT, q_asgL, q_asgs0, q_asgsC, Option.bind_some, List.append_nil, is_integer_eq, is_list_eq, q_is2, w_int, i_int, w_lst, w_tup, l_lst, l_tup, l_int, Bool.true_and, Bool.false_and, Bool.and_true, Bool.and_false, m1D, strR, m0M, *]
      rfl
    | true =>
      rw [e2] at ad
      obtain ⟨c, l, hcl⟩ : ∃ c l, bare cs = c :: l := by
        cases hb0 : bare cs with
        | nil => rw [hb0] at ad; cases ad
        | cons c l => exact ⟨c, l, rfl⟩
      have okc : okT [c] = true := okT_sub hb (by rw [hcl]; simp)
      have f1 : ∀ s : Deck, getM (.str (T (bare cs))) (.int 0) s = .ok (.str (T [c])) s := fun s => by rw [hcl]; exact q_at0 (by rw [hcl, List.length_cons] at hbl; omega)
      have f2 : ∀ s : Deck, eqM (.str (T [c])) (.str "0") s = .ok (.bl (decide ([c] = [48]))) s := fun s => by rw [zero_T]; exact q_eqS okc (by decide)
      have f3 : ∀ s : Deck, neM (.str (T cs)) (.str "0") s = .ok (.bl (!decide (cs = [48]))) s := fun s => by rw [zero_T]; exact q_neS h (by decide)
      have hd : decide ((bare cs).head? = some 48) = decide ([c] = [48]) := by rw [hcl]; simp
      by_cases n : (bare cs).length ≤ 60
      · have g1 : decide ((60 : Int) < ((bare cs).length : Int)) = false := decide_eq_false (by omega)
        have g2 := decide_eq_true n
        cases b1 : decide ([c] = [48]) with
        | false =>
          have : okF cs = true := by unfold okF lead; rw [← ad, g2, hd, b1]; rfl
          obtain ⟨iv, il⟩ := int_okF this
          have f4 : ∀ s : Deck, intM1 [.str (T cs)] s = .ok (.int (valF cs)) s := fun s => by unfold intM1; simp only [iv, il, if_true]
          clear ad h hb hl hbl hcl n g2 hd iv il
          simp only [q_def, q_seq, q_ite, q_ret, q_set, q_drop, q_asg, q_for, q_for0, q_fc, q_frd_nx, q_frd_rt, q_frd_ct, q_frd_bk, q_turn, q_mkLst, q_mkTup, Nat.reduceLeDiff, q_and_bl, q_or_bl, q_c0, q_c1, q_c2, q_c3, q_c4, q_c5, q_c6, q_c9, q_c13, decide_true, decide_false, Int.reduceEq, Int.reduceLT, Int.reduceLE, Int.reduceAdd, Int.reduceSub, Int.reduceMul, Int.reduceNeg, Int.reducePow, Int.reduceToNat, Int.reduceBNe, Int.reduceNe, Nat.zero_le, q_get, q_cst, q_lift, q_un, q_with, q_av0, q_avC, q_callN, q_callKW, q_andD, q_orD, q_notD, q_fAnd, q_fOr, q_fNot, q_fTru, q_fBoo, q_ifD, q_isN, q_fIsN, q_fNotN, startD, q_bind, q_toS, q_rt, q_nx, q_thn_nx, q_thn_rt, q_okO, q_nxO, q_pure, q_none0, q_none1, q_none2, q_none3, q_none4, q_tru_bl, q_tru_int, q_tru_lst, q_tru_tup, q_tru_non, q_boo, q_seqL, q_seqT, q_lenL, q_lenT, q_eqI, q_neI, q_lt, q_le, q_gt, q_ge, q_add, q_addL, q_sub, q_neg, q_abs, q_int, q_intB, q_max, q_gcd, q_tupL, q_gL, q_gT, q_g0, q_g1, q_g2, q_lc, q_par, q_parO, q_whS, q_slc, q_prt0, q_prt1, q_intR, q_slcL, q_slcT, q_zipL, q_zipT, q_allp, List.length_map, wipeE, List.map_cons, List.map_nil, List.length_cons, List.length_nil, List.replicate, List.cons_append, List.nil_append, List.getElem?_cons_zero, List.getElem?_cons_succ, List.set_cons_zero, List.set_cons_succ, Nat.reduceSub, Nat.reduceAdd, if_true, Bool.not_true, Bool.not_false, Bool.false_eq_true, if_false, reduceIte, setD, List.foldl_cons, List.foldl_nil, q_asgN, q_asgT, q_asgL, q_asgs0, q_asgsC, Option.bind_some, List.append_nil, is_integer_eq, is_list_eq, q_is2, w_int, i_int, w_lst, w_tup, l_lst, l_tup, l_int, Bool.true_and, Bool.false_and, Bool.and_true, Bool.and_false, m1D, strR, m0M, *]
          rfl
        | true =>
          cases b2 : decide (cs = [48]) with
          | true =>
            have : okF cs = true := by unfold okF lead; rw [← ad, g2, hd, b1, b2]; rfl
            obtain ⟨iv, il⟩ := int_okF this
            have f4 : ∀ s : Deck, intM1 [.str (T cs)] s = .ok (.int (valF cs)) s := fun s => by unfold intM1; simp only [iv, il, if_true]
            clear ad h hb hl hbl hcl n g2 hd iv il
            simp only [q_def, q_seq, q_ite, q_ret, q_set, q_drop, q_asg, q_for, q_for0, q_fc, q_frd_nx, q_frd_rt, q_frd_ct, q_frd_bk, q_turn, q_mkLst, q_mkTup, Nat.reduceLeDiff, q_and_bl, q_or_bl, q_c0, q_c1, q_c2, q_c3, q_c4, q_c5, q_c6, q_c9, q_c13, decide_true, decide_false, Int.reduceEq, Int.reduceLT, Int.reduceLE, Int.reduceAdd, Int.reduceSub, Int.reduceMul, Int.reduceNeg, Int.reducePow, Int.reduceToNat, Int.reduceBNe, Int.reduceNe, Nat.zero_le, q_get, q_cst, q_lift, q_un, q_with, q_av0, q_avC, q_callN, q_callKW, q_andD, q_orD, q_notD, q_fAnd, q_fOr, q_fNot, q_fTru, q_fBoo, q_ifD, q_isN, q_fIsN, q_fNotN, startD, q_bind, q_toS, q_rt, q_nx, q_thn_nx, q_thn_rt, q_okO, q_nxO, q_pure, q_none0, q_none1, q_none2, q_none3, q_none4, q_tru_bl, q_tru_int, q_tru_lst, q_tru_tup, q_tru_non, q_boo, q_seqL, q_seqT, q_lenL, q_lenT, q_eqI, q_neI, q_lt, q_le, q_gt, q_ge, q_add, q_addL, q_sub, q_neg, q_abs, q_int, q_intB, q_max, q_gcd, q_tupL, q_gL, q_gT, q_g0, q_g1, q_g2, q_lc, q_par, q_parO, q_whS, q_slc, q_prt0, q_prt1, q_intR, q_slcL, q_slcT, q_zipL, q_zipT, q_allp, List.length_map, wipeE, List.map_cons, List.map_nil, List.length_cons, List.length_nil, List.replicate, List.cons_append, List.nil_append, List.getElem?_cons_zero, List.getElem?_cons_succ, List.set_cons_zero, List.set_cons_succ, Nat.reduceSub, Nat.reduceAdd, if_true, Bool.not_true, Bool.not_false, Bool.false_eq_true, if_false, reduceIte, setD, List.foldl_cons, List.foldl_nil, q_asgN, q_asgT, q_asgL, q_asgs0, q_asgsC, Option.bind_some, List.append_nil, is_integer_eq, is_list_eq, q_is2, w_int, i_int, w_lst, w_tup, l_lst, l_tup, l_int, Bool.true_and, Bool.false_and, Bool.and_true, Bool.and_false, m1D, strR, m0M, *]
            rfl
          | false =>
            have : okF cs = false := by unfold okF lead; rw [← ad, g2, hd, b1, b2]; rfl
            clear ad h hb hl hbl hcl n g2 hd
            simp only [q_def, q_seq, q_ite, q_ret, q_set, q_drop, q_asg, q_for, q_for0, q_fc, q_frd_nx, q_frd_rt, q_frd_ct, q_frd_bk, q_turn, q_mkLst, q_mkTup, Nat.reduceLeDiff, q_and_bl, q_or_bl, q_c0, q_c1, q_c2, q_c3, q_c4, q_c5, q_c6, q_c9, q_c13, decide_true, decide_false, Int.reduceEq, Int.reduceLT, Int.reduceLE, Int.reduceAdd, Int.reduceSub, Int.reduceMul, Int.reduceNeg, Int.reducePow, Int.reduceToNat, Int.reduceBNe, Int.reduceNe, Nat.zero_le, q_get, q_cst, q_lift, q_un, q_with, q_av0, q_avC, q_callN, q_callKW, q_andD, q_orD, q_notD, q_fAnd, q_fOr, q_fNot, q_fTru, q_fBoo, q_ifD, q_isN, q_fIsN, q_fNotN, startD, q_bind, q_toS, q_rt, q_nx, q_thn_nx, q_thn_rt, q_okO, q_nxO, q_pure, q_none0, q_none1, q_none2, q_none3, q_none4, q_tru_bl, q_tru_int, q_tru_lst, q_tru_tup, q_tru_non, q_boo, q_seqL, q_seqT, q_lenL, q_lenT, q_eqI, q_neI, q_lt, q_le, q_gt, q_ge, q_add, q_addL, q_sub, q_neg, q_abs, q_int, q_intB, q_max, q_gcd, q_tupL, q_gL, q_gT, q_g0, q_g1, q_g2, q_lc, q_par, q_parO, q_whS, q_slc, q_prt0, q_prt1, q_intR, q_slcL, q_slcT, q_zipL, q_zipT, q_allp, List.length_map, wipeE, List.map_cons, List.map_nil, List.length_cons, List.length_nil, List.replicate, List.cons_append, List.nil_append, List.getElem?_cons_zero, List.getElem?_cons_succ, List.set_cons_zero, List.set_cons_succ, Nat.reduceSub, Nat.reduceAdd, if_true, Bool.not_true, Bool.not_false, Bool.false_eq_true, if_false, reduceIte, setD, List.foldl_cons, List.foldl_nil, q_asgN, q_asgT, q_asgL, q_asgs0, q_asgsC, Option.bind_some, List.append_nil, is_integer_eq, is_list_eq, q_is2, w_int, i_int, w_lst, w_tup, l_lst, l_tup, l_int, Bool.true_and, Bool.false_and, Bool.and_true, Bool.and_false, m1D, strR, m0M, *]
            rfl
      · have g1 : decide ((60 : Int) < ((bare cs).length : Int)) = true := decide_eq_true (by omega)
        have g2 := decide_eq_false n
        have : okF cs = false := by unfold okF lead; rw [← ad, g2]; rfl
        clear ad h hb hl hbl hcl n g2 hd
        simp only [q_def, q_seq, q_ite, q_ret, q_set, q_drop, q_asg, q_for, q_for0, q_fc, q_frd_nx, q_frd_rt, q_frd_ct, q_frd_bk, q_turn, q_mkLst, q_mkTup, Nat.reduceLeDiff, q_and_bl, q_or_bl, q_c0, q_c1, q_c2, q_c3, q_c4, q_c5, q_c6, q_c9, q_c13, decide_true, decide_false, Int.reduceEq, Int.reduceLT, Int.reduceLE, Int.reduceAdd, Int.reduceSub, Int.reduceMul, Int.reduceNeg, Int.reducePow, Int.reduceToNat, Int.reduceBNe, Int.reduceNe, Nat.zero_le, q_get, q_cst, q_lift, q_un, q_with, q_av0, q_avC, q_callN, q_callKW, q_andD, q_orD, q_notD, q_fAnd, q_fOr, q_fNot, q_fTru, q_fBoo, q_ifD, q_isN, q_fIsN, q_fNotN, startD, q_bind, q_toS, q_rt, q_nx, q_thn_nx, q_thn_rt, q_okO, q_nxO, q_pure, q_none0, q_none1, q_none2, q_none3, q_none4, q_tru_bl, q_tru_int, q_tru_lst, q_tru_tup, q_tru_non, q_boo, q_seqL, q_seqT, q_lenL, q_lenT, q_eqI, q_neI, q_lt, q_le, q_gt, q_ge, q_add, q_addL, q_sub, q_neg, q_abs, q_int, q_intB, q_max, q_gcd, q_tupL, q_gL, q_gT, q_g0, q_g1, q_g2, q_lc, q_par, q_parO, q_whS, q_slc, q_prt0, q_prt1, q_intR, q_slcL, q_slcT, q_zipL, q_zipT, q_allp, List.length_map, wipeE, List.map_cons, List.map_nil, List.length_cons, List.length_nil, List.replicate, List.cons_append, List.nil_append, List.getElem?_cons_zero, List.getElem?_cons_succ, List.set_cons_zero, List.set_cons_succ, Nat.reduceSub, Nat.reduceAdd, if_true, Bool.not_true, Bool.not_false, Bool.false_eq_true, if_false, reduceIte, setD, List.foldl_cons, List.foldl_nil, q_asgN, q_asgT, q_asgL, q_asgs0, q_asgsC, Option.bind_some, List.append_nil, is_integer_eq, is_list_eq, q_is2, w_int, i_int, w_lst, w_tup, l_lst, l_tup, l_int, Bool.true_and, Bool.false_and, Bool.and_true, Bool.and_false, m1D, strR, m0M, *]
        rfl
theorem elem1 {i : Nat} {vs : List Nat} {f : FE} {δ : DEnv} {x : D} {s s' : Deck} {y : D} (h2 : vs.contains i = true) (h : f ((wipeE δ vs).set i (some x)) s = .ok y s') : elemD (.nm i) vs yesT f δ x s = .ok (some y) s' := by
  rw [q_elem rfl (by simpa [patIn] using h2)]
  show (f ((wipeE δ vs).set i (some x)) s).bind _ = _
  rw [h]
  rfl
theorem dig_T : ("0123456789" : Str) = T [48, 49, 50, 51, 52, 53, 54, 55, 56, 57] := by decide +kernel
theorem empty_T : ("" : Str) = T [] := by decide +kernel
theorem sign_dig (c : Nat) : signIn (T [c]) "0123456789" = some (decide (48 ≤ c ∧ c ≤ 57)) := by
  rw [dig_T]
  unfold signIn
  show some (decide (c ∈ [48, 49, 50, 51, 52, 53, 54, 55, 56, 57])) = _
  congr 1
  rw [decide_eq_decide]
  simp only [List.mem_cons, List.not_mem_nil, or_false]
  omega
theorem sign_comp (δ : DEnv) (hδ : δ.length = 4) (s : Deck) : ∀ l : List Nat, compD (elemD (.nm 3) [2, 3] yesT (lift2 inM (getE 3) (cst (.str "0123456789"))) δ) (l.map fun c => .str (T [c])) s = .ok (l.map fun c => .bl (decide (48 ≤ c ∧ c ≤ 57))) s
  | [] => rfl
  | c :: l => by
    have e : elemD (.nm 3) [2, 3] yesT (lift2 inM (getE 3) (cst (.str "0123456789"))) δ (.str (T [c])) s = .ok (some (.bl (decide (48 ≤ c ∧ c ≤ 57)))) s := elem1 rfl (by
      have g : (((δ.set 3 none).set 2 none).set 3 (some (D.str (T [c]))))[3]? = some (some (.str (T [c]))) := List.getElem?_set_self (by simp; omega)
      have m : ∀ s : Deck, inM (.str (T [c])) (.str "0123456789") s = .ok (.bl (decide (48 ≤ c ∧ c ≤ 57))) s := fun s => by unfold inM; simp only [sign_dig]; rfl
      simp only [q_def, q_seq, q_ite, q_ret, q_set, q_drop, q_asg, q_for, q_for0, q_fc, q_frd_nx, q_frd_rt, q_frd_ct, q_frd_bk, q_turn, q_mkLst, q_mkTup, Nat.reduceLeDiff, q_and_bl, q_or_bl, q_c0, q_c1, q_c2, q_c3, q_c4, q_c5, q_c6, q_c9, q_c13, decide_true, decide_false, Int.reduceEq, Int.reduceLT, Int.reduceLE, Int.reduceAdd, Int.reduceSub, Int.reduceMul, Int.reduceNeg, Int.reducePow, Int.reduceToNat, Int.reduceBNe, Int.reduceNe, Nat.zero_le, q_get, q_cst, q_lift, q_un, q_with, q_av0, q_avC, q_callN, q_callKW, q_andD, q_orD, q_notD, q_fAnd, q_fOr, q_fNot, q_fTru, q_fBoo, q_ifD, q_isN, q_fIsN, q_fNotN, startD, q_bind, q_toS, q_rt, q_nx, q_thn_nx, q_thn_rt, q_okO, q_nxO, q_pure, q_none0, q_none1, q_none2, q_none3, q_none4, q_tru_bl, q_tru_int, q_tru_lst, q_tru_tup, q_tru_non, q_boo, q_seqL, q_seqT, q_lenL, q_lenT, q_eqI, q_neI, q_lt, q_le, q_gt, q_ge, q_add, q_addL, q_sub, q_neg, q_abs, q_int, q_intB, q_max, q_gcd, q_tupL, q_gL, q_gT, q_g0, q_g1, q_g2, q_lc, q_par, q_parO, q_whS, q_slc, q_prt0, q_prt1, q_intR, q_slcL, q_slcT, q_zipL, q_zipT, q_allp, List.length_map, wipeE, List.map_cons, List.map_nil, List.length_cons, List.length_nil, List.replicate, List.cons_append, List.nil_append, List.getElem?_cons_zero, List.getElem?_cons_succ, List.set_cons_zero, List.set_cons_succ, Nat.reduceSub, Nat.reduceAdd, if_true, Bool.not_true, Bool.not_false, Bool.false_eq_true, if_false, reduceIte, setD, List.foldl_cons, List.foldl_nil, q_asgN, q_asgT, q_asgL, q_asgs0, q_asgsC, Option.bind_some, List.append_nil, *])
    rw [List.map_cons]
    unfold compD
    rw [e]
    simp only []
    rw [sign_comp δ hδ s l]
    rfl
theorem signs_T (b : List Nat) : signs (T b) = b.map fun c => .str (T [c]) := rfl
theorem law_figures_eq {cs : List Nat} (h : okT cs = true) (s : Deck) : m_law_figures [.str (T cs)] s = .ok (ofO' (figs cs)) s := by
  unfold m_law_figures g_law_figures figs
  have hl := okT_len h
  have hb : okT (bare cs) = true := okT_sub h (by unfold bare; split; exact List.drop_sublist _ _; exact List.Sublist.refl _)
  have hbl := okT_len hb
  have z1 : (T cs).length ≤ 16777216 := by rw [T_len]; omega
  have z2 : (T (bare cs)).length ≤ 16777216 := by rw [T_len]; omega
  have s1 : ∀ s : Deck, slcM (.str (T cs)) none (some 1) s = .ok (.str (T (cs.take 1))) s := fun s => by
    have := cutTo cs 1
    unfold slcM
    simp only [z1, if_true]
    exact congrArg (fun x => R.ok (D.str x) s) this
  have s2 : ∀ s : Deck, slcM (.str (T cs)) (some 1) none s = .ok (.str (T (cs.drop 1))) s := fun s => by
    have := cutFrom cs 1
    unfold slcM
    simp only [z1, if_true]
    exact congrArg (fun x => R.ok (D.str x) s) this
  have e0 : ∀ s : Deck, eqM (.str (T (cs.take 1))) (.str "-") s = .ok (.bl (decide (cs.take 1 = [45]))) s := fun s => by rw [minus_T]; exact q_eqS (okT_sub h (List.take_sublist _ _)) (by decide)
  have e1 : ∀ s : Deck, eqM (.str (T (bare cs))) (.str "") s = .ok (.bl (decide (bare cs = []))) s := fun s => by rw [empty_T]; exact q_eqS hb (by decide)
  have ln : ∀ s : Deck, lenM [.str (T (bare cs))] s = .ok (.int ((bare cs).length : Int)) s := fun s => by unfold lenM; simp only [z2, if_true]; rw [T_len]
  have tx : ∀ s : Deck, txtM (.str (T (bare cs))) s = .ok ((bare cs).map fun c => .str (T [c])) s := fun s => rfl
  have al : ∀ s : Deck, allM [.lst ((bare cs).map fun c => D.bl (decide (48 ≤ c ∧ c ≤ 57)))] s = .ok (.bl (digB (bare cs))) s := fun s => q_allp
  have hbare : (if decide (cs.take 1 = [45]) = true then R.ok (D.str (T (cs.drop 1))) s else R.ok (D.str (T cs)) s) = R.ok (D.str (T (bare cs))) s := by
    unfold bare
    by_cases q : cs.head? = some 45
    · rw [decide_eq_true ((head_take cs 45).mpr q), if_pos rfl, if_pos q]
    · rw [decide_eq_false (fun z => q ((head_take cs 45).mp z)), if_neg q]; rfl
  have hm : ((bare cs).map fun c => D.bl (decide (48 ≤ c ∧ c ≤ 57))).length ≤ 16777216 := by rw [List.length_map]; omega
  have ml : ∀ s : Deck, mkLst ((bare cs).map fun c => D.bl (decide (48 ≤ c ∧ c ≤ 57))) s = .ok (.lst ((bare cs).map fun c => D.bl (decide (48 ≤ c ∧ c ≤ 57)))) s := fun s => q_mkLst hm
  have cmp : ∀ (x y : Option D) (s : Deck), compD (elemD (.nm 3) [2, 3] yesT (lift2 inM (getE 3) (cst (.str "0123456789"))) [x, y, none, none]) ((bare cs).map fun c => .str (T [c])) s = .ok ((bare cs).map fun c => .bl (decide (48 ≤ c ∧ c ≤ 57))) s := fun x y s => sign_comp _ rfl s _
  clear hm z1 z2
  cases b0 : decide (bare cs = []) with
  | true =>
    have : okF cs = false := by unfold okF; rw [of_decide_eq_true b0]; rfl
    clear h hb hl hbl
    simp only [q_def, q_seq, q_ite, q_ret, q_set, q_drop, q_asg, q_for, q_for0, q_fc, q_frd_nx, q_frd_rt, q_frd_ct, q_frd_bk, q_turn, q_mkLst, q_mkTup, Nat.reduceLeDiff, q_and_bl, q_or_bl, q_c0, q_c1, q_c2, q_c3, q_c4, q_c5, q_c6, q_c9, q_c13, decide_true, decide_false, Int.reduceEq, Int.reduceLT, Int.reduceLE, Int.reduceAdd, Int.reduceSub, Int.reduceMul, Int.reduceNeg, Int.reducePow, Int.reduceToNat, Int.reduceBNe, Int.reduceNe, Nat.zero_le, q_get, q_cst, q_lift, q_un, q_with, q_av0, q_avC, q_callN, q_callKW, q_andD, q_orD, q_notD, q_fAnd, q_fOr, q_fNot, q_fTru, q_fBoo, q_ifD, q_isN, q_fIsN, q_fNotN, startD, q_bind, q_toS, q_rt, q_nx, q_thn_nx, q_thn_rt, q_okO, q_nxO, q_pure, q_none0, q_none1, q_none2, q_none3, q_none4, q_tru_bl, q_tru_int, q_tru_lst, q_tru_tup, q_tru_non, q_boo, q_seqL, q_seqT, q_lenL, q_lenT, q_eqI, q_neI, q_lt, q_le, q_gt, q_ge, q_add, q_addL, q_sub, q_neg, q_abs, q_int, q_intB, q_max, q_gcd, q_tupL, q_gL, q_gT, q_g0, q_g1, q_g2, q_lc, q_par, q_parO, q_whS, q_slc, q_prt0, q_prt1, q_intR, q_slcL, q_slcT, q_zipL, q_zipT, q_allp, List.length_map, wipeE, List.map_cons, List.map_nil, List.length_cons, List.length_nil, List.replicate, List.cons_append, List.nil_append, List.getElem?_cons_zero, List.getElem?_cons_succ, List.set_cons_zero, List.set_cons_succ, Nat.reduceSub, Nat.reduceAdd, if_true, Bool.not_true, Bool.not_false, Bool.false_eq_true, if_false, reduceIte, setD, List.foldl_cons, List.foldl_nil, q_asgN, q_asgT, q_asgL, q_asgs0, q_asgsC, Option.bind_some, List.append_nil, is_integer_eq, is_list_eq, q_is2, w_int, i_int, w_lst, w_tup, l_lst, l_tup, l_int, Bool.true_and, Bool.false_and, Bool.and_true, Bool.and_false, *]
    rfl
  | false =>
    obtain ⟨c, l, hcl⟩ : ∃ c l, bare cs = c :: l := by
      cases hb0 : bare cs with
      | nil => rw [hb0] at b0; cases b0
      | cons c l => exact ⟨c, l, rfl⟩
    have ne : (bare cs).isEmpty = false := by rw [hcl]; rfl
    have okc : okT [c] = true := okT_sub hb (by rw [hcl]; simp)
    have f1 : ∀ s : Deck, getM (.str (T (bare cs))) (.int 0) s = .ok (.str (T [c])) s := fun s => by rw [hcl]; exact q_at0 (by rw [hcl, List.length_cons] at hbl; omega)
    have f2 : ∀ s : Deck, eqM (.str (T [c])) (.str "0") s = .ok (.bl (decide ([c] = [48]))) s := fun s => by rw [zero_T]; exact q_eqS okc (by decide)
    have f3 : ∀ s : Deck, neM (.str (T cs)) (.str "0") s = .ok (.bl (!decide (cs = [48]))) s := fun s => by rw [zero_T]; exact q_neS h (by decide)
    have hd : decide ((bare cs).head? = some 48) = decide ([c] = [48]) := by rw [hcl]; simp
    by_cases n : (bare cs).length ≤ 60
    · have g1 : decide ((60 : Int) < ((bare cs).length : Int)) = false := decide_eq_false (by omega)
      have g2 := decide_eq_true n
      cases d0 : digB (bare cs) with
      | false =>
        have : okF cs = false := by unfold okF; rw [d0, ne]; rfl
        clear h hb hl hbl hcl n g2 hd f1 f2 f3 okc ne
        simp only [q_def, q_seq, q_ite, q_ret, q_set, q_drop, q_asg, q_for, q_for0, q_fc, q_frd_nx, q_frd_rt, q_frd_ct, q_frd_bk, q_turn, q_mkLst, q_mkTup, Nat.reduceLeDiff, q_and_bl, q_or_bl, q_c0, q_c1, q_c2, q_c3, q_c4, q_c5, q_c6, q_c9, q_c13, decide_true, decide_false, Int.reduceEq, Int.reduceLT, Int.reduceLE, Int.reduceAdd, Int.reduceSub, Int.reduceMul, Int.reduceNeg, Int.reducePow, Int.reduceToNat, Int.reduceBNe, Int.reduceNe, Nat.zero_le, q_get, q_cst, q_lift, q_un, q_with, q_av0, q_avC, q_callN, q_callKW, q_andD, q_orD, q_notD, q_fAnd, q_fOr, q_fNot, q_fTru, q_fBoo, q_ifD, q_isN, q_fIsN, q_fNotN, startD, q_bind, q_toS, q_rt, q_nx, q_thn_nx, q_thn_rt, q_okO, q_nxO, q_pure, q_none0, q_none1, q_none2, q_none3, q_none4, q_tru_bl, q_tru_int, q_tru_lst, q_tru_tup, q_tru_non, q_boo, q_seqL, q_seqT, q_lenL, q_lenT, q_eqI, q_neI, q_lt, q_le, q_gt, q_ge, q_add, q_addL, q_sub, q_neg, q_abs, q_int, q_intB, q_max, q_gcd, q_tupL, q_gL, q_gT, q_g0, q_g1, q_g2, q_lc, q_par, q_parO, q_whS, q_slc, q_prt0, q_prt1, q_intR, q_slcL, q_slcT, q_zipL, q_zipT, q_allp, List.length_map, wipeE, List.map_cons, List.map_nil, List.length_cons, List.length_nil, List.replicate, List.cons_append, List.nil_append, List.getElem?_cons_zero, List.getElem?_cons_succ, List.set_cons_zero, List.set_cons_succ, Nat.reduceSub, Nat.reduceAdd, if_true, Bool.not_true, Bool.not_false, Bool.false_eq_true, if_false, reduceIte, setD, List.foldl_cons, List.foldl_nil, q_asgN, q_asgT, q_asgL, q_asgs0, q_asgsC, Option.bind_some, List.append_nil, is_integer_eq, is_list_eq, q_is2, w_int, i_int, w_lst, w_tup, l_lst, l_tup, l_int, Bool.true_and, Bool.false_and, Bool.and_true, Bool.and_false, *]
        rfl
      | true =>
        cases b1 : decide ([c] = [48]) with
        | false =>
          have : okF cs = true := by unfold okF lead; rw [d0, ne, g2, hd, b1]; rfl
          obtain ⟨iv, il⟩ := int_okF this
          have f4 : ∀ s : Deck, intM1 [.str (T cs)] s = .ok (.int (valF cs)) s := fun s => by unfold intM1; simp only [iv, il, if_true]
          clear h hb hl hbl hcl n g2 hd iv il okc ne
          simp only [q_def, q_seq, q_ite, q_ret, q_set, q_drop, q_asg, q_for, q_for0, q_fc, q_frd_nx, q_frd_rt, q_frd_ct, q_frd_bk, q_turn, q_mkLst, q_mkTup, Nat.reduceLeDiff, q_and_bl, q_or_bl, q_c0, q_c1, q_c2, q_c3, q_c4, q_c5, q_c6, q_c9, q_c13, decide_true, decide_false, Int.reduceEq, Int.reduceLT, Int.reduceLE, Int.reduceAdd, Int.reduceSub, Int.reduceMul, Int.reduceNeg, Int.reducePow, Int.reduceToNat, Int.reduceBNe, Int.reduceNe, Nat.zero_le, q_get, q_cst, q_lift, q_un, q_with, q_av0, q_avC, q_callN, q_callKW, q_andD, q_orD, q_notD, q_fAnd, q_fOr, q_fNot, q_fTru, q_fBoo, q_ifD, q_isN, q_fIsN, q_fNotN, startD, q_bind, q_toS, q_rt, q_nx, q_thn_nx, q_thn_rt, q_okO, q_nxO, q_pure, q_none0, q_none1, q_none2, q_none3, q_none4, q_tru_bl, q_tru_int, q_tru_lst, q_tru_tup, q_tru_non, q_boo, q_seqL, q_seqT, q_lenL, q_lenT, q_eqI, q_neI, q_lt, q_le, q_gt, q_ge, q_add, q_addL, q_sub, q_neg, q_abs, q_int, q_intB, q_max, q_gcd, q_tupL, q_gL, q_gT, q_g0, q_g1, q_g2, q_lc, q_par, q_parO, q_whS, q_slc, q_prt0, q_prt1, q_intR, q_slcL, q_slcT, q_zipL, q_zipT, q_allp, List.length_map, wipeE, List.map_cons, List.map_nil, List.length_cons, List.length_nil, List.replicate, List.cons_append, List.nil_append, List.getElem?_cons_zero, List.getElem?_cons_succ, List.set_cons_zero, List.set_cons_succ, Nat.reduceSub, Nat.reduceAdd, if_true, Bool.not_true, Bool.not_false, Bool.false_eq_true, if_false, reduceIte, setD, List.foldl_cons, List.foldl_nil, q_asgN, q_asgT, q_asgL, q_asgs0, q_asgsC, Option.bind_some, List.append_nil, is_integer_eq, is_list_eq, q_is2, w_int, i_int, w_lst, w_tup, l_lst, l_tup, l_int, Bool.true_and, Bool.false_and, Bool.and_true, Bool.and_false, *]
          rfl
        | true =>
          cases b2 : decide (cs = [48]) with
          | true =>
            have : okF cs = true := by unfold okF lead; rw [d0, ne, g2, hd, b1, b2]; rfl
            obtain ⟨iv, il⟩ := int_okF this
            have f4 : ∀ s : Deck, intM1 [.str (T cs)] s = .ok (.int (valF cs)) s := fun s => by unfold intM1; simp only [iv, il, if_true]
            clear h hb hl hbl hcl n g2 hd iv il okc ne
            simp only [q_def, q_seq, q_ite, q_ret, q_set, q_drop, q_asg, q_for, q_for0, q_fc, q_frd_nx, q_frd_rt, q_frd_ct, q_frd_bk, q_turn, q_mkLst, q_mkTup, Nat.reduceLeDiff, q_and_bl, q_or_bl, q_c0, q_c1, q_c2, q_c3, q_c4, q_c5, q_c6, q_c9, q_c13, decide_true, decide_false, Int.reduceEq, Int.reduceLT, Int.reduceLE, Int.reduceAdd, Int.reduceSub, Int.reduceMul, Int.reduceNeg, Int.reducePow, Int.reduceToNat, Int.reduceBNe, Int.reduceNe, Nat.zero_le, q_get, q_cst, q_lift, q_un, q_with, q_av0, q_avC, q_callN, q_callKW, q_andD, q_orD, q_notD, q_fAnd, q_fOr, q_fNot, q_fTru, q_fBoo, q_ifD, q_isN, q_fIsN, q_fNotN, startD, q_bind, q_toS, q_rt, q_nx, q_thn_nx, q_thn_rt, q_okO, q_nxO, q_pure, q_none0, q_none1, q_none2, q_none3, q_none4, q_tru_bl, q_tru_int, q_tru_lst, q_tru_tup, q_tru_non, q_boo, q_seqL, q_seqT, q_lenL, q_lenT, q_eqI, q_neI, q_lt, q_le, q_gt, q_ge, q_add, q_addL, q_sub, q_neg, q_abs, q_int, q_intB, q_max, q_gcd, q_tupL, q_gL, q_gT, q_g0, q_g1, q_g2, q_lc, q_par, q_parO, q_whS, q_slc, q_prt0, q_prt1, q_intR, q_slcL, q_slcT, q_zipL, q_zipT, q_allp, List.length_map, wipeE, List.map_cons, List.map_nil, List.length_cons, List.length_nil, List.replicate, List.cons_append, List.nil_append, List.getElem?_cons_zero, List.getElem?_cons_succ, List.set_cons_zero, List.set_cons_succ, Nat.reduceSub, Nat.reduceAdd, if_true, Bool.not_true, Bool.not_false, Bool.false_eq_true, if_false, reduceIte, setD, List.foldl_cons, List.foldl_nil, q_asgN, q_asgT, q_asgL, q_asgs0, q_asgsC, Option.bind_some, List.append_nil, is_integer_eq, is_list_eq, q_is2, w_int, i_int, w_lst, w_tup, l_lst, l_tup, l_int, Bool.true_and, Bool.false_and, Bool.and_true, Bool.and_false, *]
            rfl
          | false =>
            have : okF cs = false := by unfold okF lead; rw [d0, ne, g2, hd, b1, b2]; rfl
            clear h hb hl hbl hcl n g2 hd okc ne
            simp only [q_def, q_seq, q_ite, q_ret, q_set, q_drop, q_asg, q_for, q_for0, q_fc, q_frd_nx, q_frd_rt, q_frd_ct, q_frd_bk, q_turn, q_mkLst, q_mkTup, Nat.reduceLeDiff, q_and_bl, q_or_bl, q_c0, q_c1, q_c2, q_c3, q_c4, q_c5, q_c6, q_c9, q_c13, decide_true, decide_false, Int.reduceEq, Int.reduceLT, Int.reduceLE, Int.reduceAdd, Int.reduceSub, Int.reduceMul, Int.reduceNeg, Int.reducePow, Int.reduceToNat, Int.reduceBNe, Int.reduceNe, Nat.zero_le, q_get, q_cst, q_lift, q_un, q_with, q_av0, q_avC, q_callN, q_callKW, q_andD, q_orD, q_notD, q_fAnd, q_fOr, q_fNot, q_fTru, q_fBoo, q_ifD, q_isN, q_fIsN, q_fNotN, startD, q_bind, q_toS, q_rt, q_nx, q_thn_nx, q_thn_rt, q_okO, q_nxO, q_pure, q_none0, q_none1, q_none2, q_none3, q_none4, q_tru_bl, q_tru_int, q_tru_lst, q_tru_tup, q_tru_non, q_boo, q_seqL, q_seqT, q_lenL, q_lenT, q_eqI, q_neI, q_lt, q_le, q_gt, q_ge, q_add, q_addL, q_sub, q_neg, q_abs, q_int, q_intB, q_max, q_gcd, q_tupL, q_gL, q_gT, q_g0, q_g1, q_g2, q_lc, q_par, q_parO, q_whS, q_slc, q_prt0, q_prt1, q_intR, q_slcL, q_slcT, q_zipL, q_zipT, q_allp, List.length_map, wipeE, List.map_cons, List.map_nil, List.length_cons, List.length_nil, List.replicate, List.cons_append, List.nil_append, List.getElem?_cons_zero, List.getElem?_cons_succ, List.set_cons_zero, List.set_cons_succ, Nat.reduceSub, Nat.reduceAdd, if_true, Bool.not_true, Bool.not_false, Bool.false_eq_true, if_false, reduceIte, setD, List.foldl_cons, List.foldl_nil, q_asgN, q_asgT, q_asgL, q_asgs0, q_asgsC, Option.bind_some, List.append_nil, is_integer_eq, is_list_eq, q_is2, w_int, i_int, w_lst, w_tup, l_lst, l_tup, l_int, Bool.true_and, Bool.false_and, Bool.and_true, Bool.and_false, *]
            rfl
    · have g1 : decide ((60 : Int) < ((bare cs).length : Int)) = true := decide_eq_true (by omega)
      have g2 := decide_eq_false n
      have : okF cs = false := by unfold okF; rw [g2]; simp
      clear h hb hl hbl hcl n g2 hd f1 f2 f3 okc ne
      simp only [q_def, q_seq, q_ite, q_ret, q_set, q_drop, q_asg, q_for, q_for0, q_fc, q_frd_nx, q_frd_rt, q_frd_ct, q_frd_bk, q_turn, q_mkLst, q_mkTup, Nat.reduceLeDiff, q_and_bl, q_or_bl, q_c0, q_c1, q_c2, q_c3, q_c4, q_c5, q_c6, q_c9, q_c13, decide_true, decide_false, Int.reduceEq, Int.reduceLT, Int.reduceLE, Int.reduceAdd, Int.reduceSub, Int.reduceMul, Int.reduceNeg, Int.reducePow, Int.reduceToNat, Int.reduceBNe, Int.reduceNe, Nat.zero_le, q_get, q_cst, q_lift, q_un, q_with, q_av0, q_avC, q_callN, q_callKW, q_andD, q_orD, q_notD, q_fAnd, q_fOr, q_fNot, q_fTru, q_fBoo, q_ifD, q_isN, q_fIsN, q_fNotN, startD, q_bind, q_toS, q_rt, q_nx, q_thn_nx, q_thn_rt, q_okO, q_nxO, q_pure, q_none0, q_none1, q_none2, q_none3, q_none4, q_tru_bl, q_tru_int, q_tru_lst, q_tru_tup, q_tru_non, q_boo, q_seqL, q_seqT, q_lenL, q_lenT, q_eqI, q_neI, q_lt, q_le, q_gt, q_ge, q_add, q_addL, q_sub, q_neg, q_abs, q_int, q_intB, q_max, q_gcd, q_tupL, q_gL, q_gT, q_g0, q_g1, q_g2, q_lc, q_par, q_parO, q_whS, q_slc, q_prt0, q_prt1, q_intR, q_slcL, q_slcT, q_zipL, q_zipT, q_allp, List.length_map, wipeE, List.map_cons, List.map_nil, List.length_cons, List.length_nil, List.replicate, List.cons_append, List.nil_append, List.getElem?_cons_zero, List.getElem?_cons_succ, List.set_cons_zero, List.set_cons_succ, Nat.reduceSub, Nat.reduceAdd, if_true, Bool.not_true, Bool.not_false, Bool.false_eq_true, if_false, reduceIte, setD, List.foldl_cons, List.foldl_nil, q_asgN, q_asgT, q_asgL, q_asgs0, q_asgsC, Option.bind_some, List.append_nil, is_integer_eq, is_list_eq, q_is2, w_int, i_int, w_lst, w_tup, l_lst, l_tup, l_int, Bool.true_and, Bool.false_and, Bool.and_true, Bool.and_false, *]
      rfl
end K04

namespace K04
open PySem PySem.Builtin PySem.Builtin.Str L2 FL
/-! ### numbers in texts -/
def cutAt (cs : List Nat) : Option Nat := match occurrences (T cs) (T [47]) 0 (T cs).length 1 with
  | i :: _ => some i
  | [] => none
theorem cutAt_in (cs : List Nat) : decide (47 ∈ cs) = (cutAt cs).isSome := by
  have h := PySem.StrLaws.found_one (T cs) 47
  have h2 : (!(occurrences (T cs) (T [47]) 0 (T cs).length 1).isEmpty) = decide (47 ∈ cs) := h
  rw [← h2]
  unfold cutAt
  cases occurrences (T cs) (T [47]) 0 (T cs).length 1 <;> rfl
theorem find_T (cs : List Nat) : Txt.find (T cs) "/" = match cutAt cs with | some i => (i : Int) | none => -1 := by
  unfold Txt.find cutAt
  rw [slash_T]
  cases occurrences (T cs) (T [47]) 0 (T cs).length 1 <;> rfl
theorem part_T (cs : List Nat) (i : Nat) (h : cutAt cs = some i) : Txt.partition (T cs) "/" = (T (cs.take i), ("/" : Str), T (cs.drop (i + 1))) := by
  unfold cutAt at h
  unfold Txt.partition
  rw [slash_T]
  cases e : occurrences (T cs) (T [47]) 0 (T cs).length 1 with
  | nil => rw [e] at h; cases h
  | cons k r =>
    rw [e] at h
    have hk : k = i := by simpa using h
    subst hk
    simp only []
    rw [sub_T, sub_T, T_len, T_len]
    simp only [List.drop_zero, Nat.sub_zero, List.length_cons, List.length_nil, Nat.zero_add]
    congr 2
    rw [T_inj]
    exact List.take_of_length_le (by simp)
def pairR (x y : Option Int) : Option D := match x, y with
  | some a, some b => if numP (.int a) (.int b) = true then some (.tup [.int a, .int b]) else none
  | _, _ => none
def rd (cs : List Nat) : Option D := match cutAt cs with
  | none => (figs cs).map .int
  | some i => pairR (figs (cs.take i)) (figs (cs.drop (i + 1)))
def orNon : Option D → D
  | some d => d
  | none => .non
theorem orNon_int (o : Option Int) : orNon (o.map .int) = ofO' o := by cases o <;> rfl
theorem pair_num (x y : Option Int) (s : Deck) : m_is_number [.tup [ofO' x, ofO' y]] s = .ok (.bl (pairR x y).isSome) s := by
  rw [is_number_lt _ _ _ (.inr rfl)]
  have e : numP (ofO' x) (ofO' y) = (pairR x y).isSome := by
    cases x with
    | none => cases y <;> rfl
    | some a =>
      cases y with
      | none => rfl
      | some b =>
        show numP (.int a) (.int b) = (if numP (.int a) (.int b) = true then some (D.tup [.int a, .int b]) else none).isSome
        cases numP (.int a) (.int b) <;> rfl
  rw [e]
theorem number_in_eq {cs : List Nat} (h : okT cs = true) (s : Deck) : m_number_in [.str (T cs)] s = .ok (orNon (rd cs)) s := by
  unfold m_number_in g_number_in rd
  have hl := okT_len h
  have nin : ∀ s : Deck, notInM (.str "/") (.str (T cs)) s = .ok (.bl (!(cutAt cs).isSome)) s := fun s => by
    have e : signIn "/" (T cs) = some (decide (47 ∈ cs)) := by rw [slash_T]; rfl
    unfold notInM
    simp only [e, Option.map_some, cutAt_in]
    rfl
  cases e : cutAt cs with
  | none =>
    rw [e] at nin
    have i0 := fun s => integer_in_eq h s
    rw [orNon_int]
    clear h hl
    simp only [q_def, q_seq, q_ite, q_ret, q_set, q_drop, q_asg, q_for, q_for0, q_fc, q_frd_nx, q_frd_rt, q_frd_ct, q_frd_bk, q_turn, q_mkLst, q_mkTup, Nat.reduceLeDiff, q_and_bl, q_or_bl, q_c0, q_c1, q_c2, q_c3, q_c4, q_c5, q_c6, q_c9, q_c13, decide_true, decide_false, Int.reduceEq, Int.reduceLT, Int.reduceLE, Int.reduceAdd, Int.reduceSub, Int.reduceMul, Int.reduceNeg, Int.reducePow, Int.reduceToNat, Int.reduceBNe, Int.reduceNe, Nat.zero_le, q_get, q_cst, q_lift, q_un, q_with, q_av0, q_avC, q_callN, q_callKW, q_andD, q_orD, q_notD, q_fAnd, q_fOr, q_fNot, q_fTru, q_fBoo, q_ifD, q_isN, q_fIsN, q_fNotN, startD, q_bind, q_toS, q_rt, q_nx, q_thn_nx, q_thn_rt, q_okO, q_nxO, q_pure, q_none0, q_none1, q_none2, q_none3, q_none4, q_tru_bl, q_tru_int, q_tru_lst, q_tru_tup, q_tru_non, q_boo, q_seqL, q_seqT, q_lenL, q_lenT, q_eqI, q_neI, q_lt, q_le, q_gt, q_ge, q_add, q_addL, q_sub, q_neg, q_abs, q_int, q_intB, q_max, q_gcd, q_tupL, q_gL, q_gT, q_g0, q_g1, q_g2, q_lc, q_par, q_parO, q_whS, q_slc, q_prt0, q_prt1, q_intR, q_slcL, q_slcT, q_zipL, q_zipT, q_allp, List.length_map, wipeE, List.map_cons, List.map_nil, List.length_cons, List.length_nil, List.replicate, List.cons_append, List.nil_append, List.getElem?_cons_zero, List.getElem?_cons_succ, List.set_cons_zero, List.set_cons_succ, Nat.reduceSub, Nat.reduceAdd, if_true, Bool.not_true, Bool.not_false, Bool.false_eq_true, if_false, reduceIte, setD, List.foldl_cons, List.foldl_nil, q_asgN, q_asgT, q_asgL, q_asgs0, q_asgsC, Option.bind_some, List.append_nil, is_integer_eq, is_list_eq, q_is2, w_int, i_int, w_lst, w_tup, l_lst, l_tup, l_int, Bool.true_and, Bool.false_and, Bool.and_true, Bool.and_false, Option.isSome_none, *]
  | some i =>
    rw [e] at nin
    have hp := part_T cs i e
    have p0 : ∀ s : Deck, prtnM (T cs) "/" s = .ok (.tup [.str (T (cs.take i)), .str "/", .str (T (cs.drop (i + 1)))]) s := fun s => by
      have hs : (("/" : Str).length == 0) = false := by decide +kernel
      unfold prtnM
      rw [if_pos ⟨hs, by rw [T_len]; omega⟩, hp]
      exact q_mkTup (by show 3 ≤ 16777216; decide)
    have i1 := fun s => integer_in_eq (okT_sub h (List.take_sublist i cs)) s
    have i2 := fun s => integer_in_eq (okT_sub h (List.drop_sublist (i + 1) cs)) s
    have nm := fun s => pair_num (figs (cs.take i)) (figs (cs.drop (i + 1))) s
    clear h hl hp e
    simp only []
    cases r : pairR (figs (cs.take i)) (figs (cs.drop (i + 1))) with
    | none =>
      rw [r] at nm
      clear r
      simp only [q_def, q_seq, q_ite, q_ret, q_set, q_drop, q_asg, q_for, q_for0, q_fc, q_frd_nx, q_frd_rt, q_frd_ct, q_frd_bk, q_turn, q_mkLst, q_mkTup, Nat.reduceLeDiff, q_and_bl, q_or_bl, q_c0, q_c1, q_c2, q_c3, q_c4, q_c5, q_c6, q_c9, q_c13, decide_true, decide_false, Int.reduceEq, Int.reduceLT, Int.reduceLE, Int.reduceAdd, Int.reduceSub, Int.reduceMul, Int.reduceNeg, Int.reducePow, Int.reduceToNat, Int.reduceBNe, Int.reduceNe, Nat.zero_le, q_get, q_cst, q_lift, q_un, q_with, q_av0, q_avC, q_callN, q_callKW, q_andD, q_orD, q_notD, q_fAnd, q_fOr, q_fNot, q_fTru, q_fBoo, q_ifD, q_isN, q_fIsN, q_fNotN, startD, q_bind, q_toS, q_rt, q_nx, q_thn_nx, q_thn_rt, q_okO, q_nxO, q_pure, q_none0, q_none1, q_none2, q_none3, q_none4, q_tru_bl, q_tru_int, q_tru_lst, q_tru_tup, q_tru_non, q_boo, q_seqL, q_seqT, q_lenL, q_lenT, q_eqI, q_neI, q_lt, q_le, q_gt, q_ge, q_add, q_addL, q_sub, q_neg, q_abs, q_int, q_intB, q_max, q_gcd, q_tupL, q_gL, q_gT, q_g0, q_g1, q_g2, q_lc, q_par, q_parO, q_whS, q_slc, q_prt0, q_prt1, q_intR, q_slcL, q_slcT, q_zipL, q_zipT, q_allp, List.length_map, wipeE, List.map_cons, List.map_nil, List.length_cons, List.length_nil, List.replicate, List.cons_append, List.nil_append, List.getElem?_cons_zero, List.getElem?_cons_succ, List.set_cons_zero, List.set_cons_succ, Nat.reduceSub, Nat.reduceAdd, if_true, Bool.not_true, Bool.not_false, Bool.false_eq_true, if_false, reduceIte, setD, List.foldl_cons, List.foldl_nil, q_asgN, q_asgT, q_asgL, q_asgs0, q_asgsC, Option.bind_some, List.append_nil, is_integer_eq, is_list_eq, q_is2, w_int, i_int, w_lst, w_tup, l_lst, l_tup, l_int, Bool.true_and, Bool.false_and, Bool.and_true, Bool.and_false, m1D, strR, Option.isSome_some, Option.isSome_none, *]
      rfl
    | some d =>
      rw [r] at nm
      have hd : d = .tup [ofO' (figs (cs.take i)), ofO' (figs (cs.drop (i + 1)))] := by
        unfold pairR at r
        cases x : figs (cs.take i) <;> cases y : figs (cs.drop (i + 1)) <;> rw [x, y] at r <;> simp at r
        exact r.2.symm
      subst hd
      clear r
      simp only [q_def, q_seq, q_ite, q_ret, q_set, q_drop, q_asg, q_for, q_for0, q_fc, q_frd_nx, q_frd_rt, q_frd_ct, q_frd_bk, q_turn, q_mkLst, q_mkTup, Nat.reduceLeDiff, q_and_bl, q_or_bl, q_c0, q_c1, q_c2, q_c3, q_c4, q_c5, q_c6, q_c9, q_c13, decide_true, decide_false, Int.reduceEq, Int.reduceLT, Int.reduceLE, Int.reduceAdd, Int.reduceSub, Int.reduceMul, Int.reduceNeg, Int.reducePow, Int.reduceToNat, Int.reduceBNe, Int.reduceNe, Nat.zero_le, q_get, q_cst, q_lift, q_un, q_with, q_av0, q_avC, q_callN, q_callKW, q_andD, q_orD, q_notD, q_fAnd, q_fOr, q_fNot, q_fTru, q_fBoo, q_ifD, q_isN, q_fIsN, q_fNotN, startD, q_bind, q_toS, q_rt, q_nx, q_thn_nx, q_thn_rt, q_okO, q_nxO, q_pure, q_none0, q_none1, q_none2, q_none3, q_none4, q_tru_bl, q_tru_int, q_tru_lst, q_tru_tup, q_tru_non, q_boo, q_seqL, q_seqT, q_lenL, q_lenT, q_eqI, q_neI, q_lt, q_le, q_gt, q_ge, q_add, q_addL, q_sub, q_neg, q_abs, q_int, q_intB, q_max, q_gcd, q_tupL, q_gL, q_gT, q_g0, q_g1, q_g2, q_lc, q_par, q_parO, q_whS, q_slc, q_prt0, q_prt1, q_intR, q_slcL, q_slcT, q_zipL, q_zipT, q_allp, List.length_map, wipeE, List.map_cons, List.map_nil, List.length_cons, List.length_nil, List.replicate, List.cons_append, List.nil_append, List.getElem?_cons_zero, List.getElem?_cons_succ, List.set_cons_zero, List.set_cons_succ, Nat.reduceSub, Nat.reduceAdd, if_true, Bool.not_true, Bool.not_false, Bool.false_eq_true, if_false, reduceIte, setD, List.foldl_cons, List.foldl_nil, q_asgN, q_asgT, q_asgL, q_asgs0, q_asgsC, Option.bind_some, List.append_nil, is_integer_eq, is_list_eq, q_is2, w_int, i_int, w_lst, w_tup, l_lst, l_tup, l_int, Bool.true_and, Bool.false_and, Bool.and_true, Bool.and_false, m1D, strR, Option.isSome_some, Option.isSome_none, *]
      rfl

/-! ### errors, reckoned -/
theorem q_rs {x : Str} {fl : List Str} {fs : FA} {δ : DEnv} {s : Deck} : raiseS x fl fs δ s = (fs δ s).toS δ fun ds s => if ds.length = fl.length then .raise ⟨x, fl.zip ds⟩ δ s else .bad := rfl
def tryR (r : RS) (k : Ex → FS) : RS := match r with
  | .raise e δ s => k e δ s
  | r => r
theorem q_try {tb : Str → Str → Option Bool} {g : FS} {l : List (Str × Nat × HS)} {δ : DEnv} {s : Deck} : tryS tb g l δ s = tryR (g δ s) (catchS tb l) := by
  unfold tryS tryR
  cases g δ s <;> rfl
theorem q_try_nx {k : Ex → FS} {δ : DEnv} {s : Deck} : tryR (.nx δ s) k = .nx δ s := rfl
theorem q_try_rt {k : Ex → FS} {d : D} {s : Deck} : tryR (.rt d s) k = .rt d s := rfl
theorem q_try_raise {k : Ex → FS} {e : Ex} {δ : DEnv} {s : Deck} : tryR (.raise e δ s) k = k e δ s := rfl
theorem q_catch {tb : Str → Str → Option Bool} {y : Str} {i : Nat} {h : HS} {r : List (Str × Nat × HS)} {e : Ex} {δ : DEnv} {s : Deck} (ht : tb e.cls y = some true) (hl : i < δ.length) : catchS tb ((y, i, h) :: r) e δ s = unS i (h e (δ.set i none) s) := by
  unfold catchS
  rw [if_pos hl, ht]
theorem q_un_nx {i : Nat} {δ : DEnv} {s : Deck} : unS i (.nx δ s) = .nx (δ.set i none) s := rfl
theorem q_un_rt {i : Nat} {d : D} {s : Deck} : unS i (.rt d s) = .rt d s := rfl
theorem q_braise {α β : Type} {e : Ex} {s : Deck} {h : α → Deck → R β} : (R.raise e s).bind h = .raise e s := rfl
theorem q_fld {x f : Str} {e : Ex} {δ : DEnv} {s : Deck} (h : e.cls = x) : fldH x f e δ s = pureM (e.flds.lookup f) s := by
  unfold fldH
  rw [if_pos h]
def badT : Ex := ⟨"BadText", [("line", .int 0), ("item", .int 0)]⟩
def refD : D := .tup [.str "BadText", .int 0, .int 0]
def rdT (cs : List Nat) : D := match rd cs with
  | some d => .lst [d]
  | none => refD
theorem rd_some {cs : List Nat} {d : D} (h : rd cs = some d) : isNone d = false := by
  unfold rd at h
  split at h
  · cases e : figs cs with
    | none => rw [e] at h; cases h
    | some a => rw [e] at h; cases h; rfl
  · unfold pairR at h
    split at h
    · split at h
      · cases h; rfl
      · cases h
    · cases h
theorem number_of_eq {cs : List Nat} (h : okT cs = true) (s : Deck) : m_number_of [.str (T cs)] s = match rd cs with | some d => .ok d s | none => .raise badT s := by
  unfold m_number_of g_number_of
  have ni := fun s => number_in_eq h s
  cases e : rd cs with
  | none =>
    rw [e] at ni
    clear h e
    simp only [q_def, q_seq, q_ite, q_ret, q_set, q_drop, q_asg, q_for, q_for0, q_fc, q_frd_nx, q_frd_rt, q_frd_ct, q_frd_bk, q_turn, q_mkLst, q_mkTup, Nat.reduceLeDiff, q_and_bl, q_or_bl, q_c0, q_c1, q_c2, q_c3, q_c4, q_c5, q_c6, q_c9, q_c13, decide_true, decide_false, Int.reduceEq, Int.reduceLT, Int.reduceLE, Int.reduceAdd, Int.reduceSub, Int.reduceMul, Int.reduceNeg, Int.reducePow, Int.reduceToNat, Int.reduceBNe, Int.reduceNe, Nat.zero_le, q_get, q_cst, q_lift, q_un, q_with, q_av0, q_avC, q_callN, q_callKW, q_andD, q_orD, q_notD, q_fAnd, q_fOr, q_fNot, q_fTru, q_fBoo, q_ifD, q_isN, q_fIsN, q_fNotN, startD, q_bind, q_toS, q_rt, q_nx, q_thn_nx, q_thn_rt, q_okO, q_nxO, q_pure, q_none0, q_none1, q_none2, q_none3, q_none4, q_tru_bl, q_tru_int, q_tru_lst, q_tru_tup, q_tru_non, q_boo, q_seqL, q_seqT, q_lenL, q_lenT, q_eqI, q_neI, q_lt, q_le, q_gt, q_ge, q_add, q_addL, q_sub, q_neg, q_abs, q_int, q_intB, q_max, q_gcd, q_tupL, q_gL, q_gT, q_g0, q_g1, q_g2, q_lc, q_par, q_parO, q_whS, q_slc, q_prt0, q_prt1, q_intR, q_slcL, q_slcT, q_zipL, q_zipT, q_allp, List.length_map, wipeE, List.map_cons, List.map_nil, List.length_cons, List.length_nil, List.replicate, List.cons_append, List.nil_append, List.getElem?_cons_zero, List.getElem?_cons_succ, List.set_cons_zero, List.set_cons_succ, Nat.reduceSub, Nat.reduceAdd, if_true, Bool.not_true, Bool.not_false, Bool.false_eq_true, if_false, reduceIte, setD, List.foldl_cons, List.foldl_nil, q_asgN, q_asgT, q_asgL, q_asgs0, q_asgsC, Option.bind_some, List.append_nil, is_integer_eq, is_list_eq, q_is2, w_int, i_int, w_lst, w_tup, l_lst, l_tup, l_int, Bool.true_and, Bool.false_and, Bool.and_true, Bool.and_false, q_isStr, q_rs, orNon, q_raise, q_toS_raise, *]
    rfl
  | some d =>
    rw [e] at ni
    have hn := rd_some e
    clear h e
    simp only [q_def, q_seq, q_ite, q_ret, q_set, q_drop, q_asg, q_for, q_for0, q_fc, q_frd_nx, q_frd_rt, q_frd_ct, q_frd_bk, q_turn, q_mkLst, q_mkTup, Nat.reduceLeDiff, q_and_bl, q_or_bl, q_c0, q_c1, q_c2, q_c3, q_c4, q_c5, q_c6, q_c9, q_c13, decide_true, decide_false, Int.reduceEq, Int.reduceLT, Int.reduceLE, Int.reduceAdd, Int.reduceSub, Int.reduceMul, Int.reduceNeg, Int.reducePow, Int.reduceToNat, Int.reduceBNe, Int.reduceNe, Nat.zero_le, q_get, q_cst, q_lift, q_un, q_with, q_av0, q_avC, q_callN, q_callKW, q_andD, q_orD, q_notD, q_fAnd, q_fOr, q_fNot, q_fTru, q_fBoo, q_ifD, q_isN, q_fIsN, q_fNotN, startD, q_bind, q_toS, q_rt, q_nx, q_thn_nx, q_thn_rt, q_okO, q_nxO, q_pure, q_none0, q_none1, q_none2, q_none3, q_none4, q_tru_bl, q_tru_int, q_tru_lst, q_tru_tup, q_tru_non, q_boo, q_seqL, q_seqT, q_lenL, q_lenT, q_eqI, q_neI, q_lt, q_le, q_gt, q_ge, q_add, q_addL, q_sub, q_neg, q_abs, q_int, q_intB, q_max, q_gcd, q_tupL, q_gL, q_gT, q_g0, q_g1, q_g2, q_lc, q_par, q_parO, q_whS, q_slc, q_prt0, q_prt1, q_intR, q_slcL, q_slcT, q_zipL, q_zipT, q_allp, List.length_map, wipeE, List.map_cons, List.map_nil, List.length_cons, List.length_nil, List.replicate, List.cons_append, List.nil_append, List.getElem?_cons_zero, List.getElem?_cons_succ, List.set_cons_zero, List.set_cons_succ, Nat.reduceSub, Nat.reduceAdd, if_true, Bool.not_true, Bool.not_false, Bool.false_eq_true, if_false, reduceIte, setD, List.foldl_cons, List.foldl_nil, q_asgN, q_asgT, q_asgL, q_asgs0, q_asgsC, Option.bind_some, List.append_nil, is_integer_eq, is_list_eq, q_is2, w_int, i_int, w_lst, w_tup, l_lst, l_tup, l_int, Bool.true_and, Bool.false_and, Bool.and_true, Bool.and_false, q_isStr, orNon, *]
theorem number_of_no (d : D) (h : (match d with | .str _ => true | _ => false) = false) (s : Deck) : m_number_of [d] s = .raise badT s := by
  unfold m_number_of g_number_of
  cases d with
  | str z => cases h
  | _ =>
    simp only [q_def, q_seq, q_ite, q_ret, q_set, q_drop, q_asg, q_for, q_for0, q_fc, q_frd_nx, q_frd_rt, q_frd_ct, q_frd_bk, q_turn, q_mkLst, q_mkTup, Nat.reduceLeDiff, q_and_bl, q_or_bl, q_c0, q_c1, q_c2, q_c3, q_c4, q_c5, q_c6, q_c9, q_c13, decide_true, decide_false, Int.reduceEq, Int.reduceLT, Int.reduceLE, Int.reduceAdd, Int.reduceSub, Int.reduceMul, Int.reduceNeg, Int.reducePow, Int.reduceToNat, Int.reduceBNe, Int.reduceNe, Nat.zero_le, q_get, q_cst, q_lift, q_un, q_with, q_av0, q_avC, q_callN, q_callKW, q_andD, q_orD, q_notD, q_fAnd, q_fOr, q_fNot, q_fTru, q_fBoo, q_ifD, q_isN, q_fIsN, q_fNotN, startD, q_bind, q_toS, q_rt, q_nx, q_thn_nx, q_thn_rt, q_okO, q_nxO, q_pure, q_none0, q_none1, q_none2, q_none3, q_none4, q_tru_bl, q_tru_int, q_tru_lst, q_tru_tup, q_tru_non, q_boo, q_seqL, q_seqT, q_lenL, q_lenT, q_eqI, q_neI, q_lt, q_le, q_gt, q_ge, q_add, q_addL, q_sub, q_neg, q_abs, q_int, q_intB, q_max, q_gcd, q_tupL, q_gL, q_gT, q_g0, q_g1, q_g2, q_lc, q_par, q_parO, q_whS, q_slc, q_prt0, q_prt1, q_intR, q_slcL, q_slcT, q_zipL, q_zipT, q_allp, List.length_map, wipeE, List.map_cons, List.map_nil, List.length_cons, List.length_nil, List.replicate, List.cons_append, List.nil_append, List.getElem?_cons_zero, List.getElem?_cons_succ, List.set_cons_zero, List.set_cons_succ, Nat.reduceSub, Nat.reduceAdd, if_true, Bool.not_true, Bool.not_false, Bool.false_eq_true, if_false, reduceIte, setD, List.foldl_cons, List.foldl_nil, q_asgN, q_asgT, q_asgL, q_asgs0, q_asgsC, Option.bind_some, List.append_nil, is_integer_eq, is_list_eq, q_is2, w_int, i_int, w_lst, w_tup, l_lst, l_tup, l_int, Bool.true_and, Bool.false_and, Bool.and_true, Bool.and_false, q_isStr, q_rs, *]
    rfl
theorem tbl1 : tbl "BadText" "BadText" = some true := by decide +kernel
theorem told_of (d r : D) (s : Deck) (h : m_number_of [d] s = (if isNone r = true then .raise badT s else .ok r s)) : m_law_told [d] s = .ok (if isNone r = true then refD else .lst [r]) s := by
  unfold m_law_told g_law_told
  cases e : isNone r with
  | true =>
    rw [e, if_pos rfl] at h
    have c : ∀ (r : List (Str × Nat × HS)) (g : HS) (δ : DEnv) (s : Deck), 2 < δ.length → catchS tbl (("BadText", 2, g) :: r) badT δ s = unS 2 (g badT (δ.set 2 none) s) := fun r g δ s hl => q_catch tbl1 hl
    have f1 : ∀ (δ : DEnv) (s : Deck), fldH "BadText" "line" badT δ s = .ok (.int 0) s := fun δ s => q_fld rfl
    have f2 : ∀ (δ : DEnv) (s : Deck), fldH "BadText" "item" badT δ s = .ok (.int 0) s := fun δ s => q_fld rfl
    simp only [q_def, q_seq, q_ite, q_ret, q_set, q_drop, q_asg, q_for, q_for0, q_fc, q_frd_nx, q_frd_rt, q_frd_ct, q_frd_bk, q_turn, q_mkLst, q_mkTup, Nat.reduceLeDiff, q_and_bl, q_or_bl, q_c0, q_c1, q_c2, q_c3, q_c4, q_c5, q_c6, q_c9, q_c13, decide_true, decide_false, Int.reduceEq, Int.reduceLT, Int.reduceLE, Int.reduceAdd, Int.reduceSub, Int.reduceMul, Int.reduceNeg, Int.reducePow, Int.reduceToNat, Int.reduceBNe, Int.reduceNe, Nat.zero_le, q_get, q_cst, q_lift, q_un, q_with, q_av0, q_avC, q_callN, q_callKW, q_andD, q_orD, q_notD, q_fAnd, q_fOr, q_fNot, q_fTru, q_fBoo, q_ifD, q_isN, q_fIsN, q_fNotN, startD, q_bind, q_toS, q_rt, q_nx, q_thn_nx, q_thn_rt, q_okO, q_nxO, q_pure, q_none0, q_none1, q_none2, q_none3, q_none4, q_tru_bl, q_tru_int, q_tru_lst, q_tru_tup, q_tru_non, q_boo, q_seqL, q_seqT, q_lenL, q_lenT, q_eqI, q_neI, q_lt, q_le, q_gt, q_ge, q_add, q_addL, q_sub, q_neg, q_abs, q_int, q_intB, q_max, q_gcd, q_tupL, q_gL, q_gT, q_g0, q_g1, q_g2, q_lc, q_par, q_parO, q_whS, q_slc, q_prt0, q_prt1, q_intR, q_slcL, q_slcT, q_zipL, q_zipT, q_allp, List.length_map, wipeE, List.map_cons, List.map_nil, List.length_cons, List.length_nil, List.replicate, List.cons_append, List.nil_append, List.getElem?_cons_zero, List.getElem?_cons_succ, List.set_cons_zero, List.set_cons_succ, Nat.reduceSub, Nat.reduceAdd, if_true, Bool.not_true, Bool.not_false, Bool.false_eq_true, if_false, reduceIte, setD, List.foldl_cons, List.foldl_nil, q_asgN, q_asgT, q_asgL, q_asgs0, q_asgsC, Option.bind_some, List.append_nil, is_integer_eq, is_list_eq, q_is2, w_int, i_int, w_lst, w_tup, l_lst, l_tup, l_int, Bool.true_and, Bool.false_and, Bool.and_true, Bool.and_false, q_try, q_braise, q_toS_raise, q_try_raise, q_un_nx, Nat.reduceLT, *]
    rfl
  | false =>
    rw [e] at h
    simp only [Bool.false_eq_true, if_false] at h
    simp only [q_def, q_seq, q_ite, q_ret, q_set, q_drop, q_asg, q_for, q_for0, q_fc, q_frd_nx, q_frd_rt, q_frd_ct, q_frd_bk, q_turn, q_mkLst, q_mkTup, Nat.reduceLeDiff, q_and_bl, q_or_bl, q_c0, q_c1, q_c2, q_c3, q_c4, q_c5, q_c6, q_c9, q_c13, decide_true, decide_false, Int.reduceEq, Int.reduceLT, Int.reduceLE, Int.reduceAdd, Int.reduceSub, Int.reduceMul, Int.reduceNeg, Int.reducePow, Int.reduceToNat, Int.reduceBNe, Int.reduceNe, Nat.zero_le, q_get, q_cst, q_lift, q_un, q_with, q_av0, q_avC, q_callN, q_callKW, q_andD, q_orD, q_notD, q_fAnd, q_fOr, q_fNot, q_fTru, q_fBoo, q_ifD, q_isN, q_fIsN, q_fNotN, startD, q_bind, q_toS, q_rt, q_nx, q_thn_nx, q_thn_rt, q_okO, q_nxO, q_pure, q_none0, q_none1, q_none2, q_none3, q_none4, q_tru_bl, q_tru_int, q_tru_lst, q_tru_tup, q_tru_non, q_boo, q_seqL, q_seqT, q_lenL, q_lenT, q_eqI, q_neI, q_lt, q_le, q_gt, q_ge, q_add, q_addL, q_sub, q_neg, q_abs, q_int, q_intB, q_max, q_gcd, q_tupL, q_gL, q_gT, q_g0, q_g1, q_g2, q_lc, q_par, q_parO, q_whS, q_slc, q_prt0, q_prt1, q_intR, q_slcL, q_slcT, q_zipL, q_zipT, q_allp, List.length_map, wipeE, List.map_cons, List.map_nil, List.length_cons, List.length_nil, List.replicate, List.cons_append, List.nil_append, List.getElem?_cons_zero, List.getElem?_cons_succ, List.set_cons_zero, List.set_cons_succ, Nat.reduceSub, Nat.reduceAdd, if_true, Bool.not_true, Bool.not_false, Bool.false_eq_true, if_false, reduceIte, setD, List.foldl_cons, List.foldl_nil, q_asgN, q_asgT, q_asgL, q_asgs0, q_asgsC, Option.bind_some, List.append_nil, is_integer_eq, is_list_eq, q_is2, w_int, i_int, w_lst, w_tup, l_lst, l_tup, l_int, Bool.true_and, Bool.false_and, Bool.and_true, Bool.and_false, q_try, q_try_nx, *]
theorem told_eq {cs : List Nat} (h : okT cs = true) (s : Deck) : m_law_told [.str (T cs)] s = .ok (rdT cs) s := by
  have n := number_of_eq h s
  unfold rdT
  cases e : rd cs with
  | none =>
    rw [e] at n
    exact told_of _ .non s (by rw [n]; rfl)
  | some d =>
    rw [e] at n
    have hn := rd_some e
    have := told_of (.str (T cs)) d s (by rw [n, hn]; rfl)
    rw [this, hn]
    rfl
theorem told_no (d : D) (h : (match d with | .str _ => true | _ => false) = false) (s : Deck) : m_law_told [d] s = .ok refD s :=
  told_of d .non s (by rw [number_of_no d h s]; rfl)
theorem cutAt_lt {cs : List Nat} {i : Nat} (h : cutAt cs = some i) : i + 1 ≤ cs.length := by
  unfold cutAt at h
  cases e : occurrences (T cs) (T [47]) 0 (T cs).length 1 with
  | nil => rw [e] at h; cases h
  | cons k r =>
    rw [e] at h
    have hk : k = i := by simpa using h
    subst hk
    have := (PySem.StrLaws.occ_spec (T cs) (T [47]) 0 (T cs).length 1 k (by rw [e]; exact List.mem_cons_self ..)).1
    rw [T_len, T_len] at this
    simpa using this
theorem law_read_eq {cs : List Nat} (h : okT cs = true) (s : Deck) : m_law_read [.str (T cs)] s = .ok (rdT cs) s := by
  have hl := okT_len h
  have z1 : (T cs).length ≤ 16777216 := by rw [T_len]; omega
  have fd : ∀ s : Deck, findM (T cs) "/" s = .ok (.int (match cutAt cs with | some i => (i : Int) | none => -1)) s := fun s => by unfold findM; rw [find_T]
  have refM : ∀ s : Deck, mkTup [.str "BadText", .int 0, .int 0] s = .ok refD s := fun s => q_mkTup (by show 3 ≤ 16777216; decide)
  cases e : cutAt cs with
  | none =>
    rw [e] at fd
    simp only at fd
    have i0 := fun s => law_figures_eq h s
    have hr : rdT cs = match (figs cs).map D.int with | some d => .lst [d] | none => refD := by unfold rdT rd; rw [e]
    cases f : figs cs with
    | none =>
      rw [f] at i0 hr
      rw [hr]
      unfold m_law_read g_law_read
      clear h hl z1 e f hr
      simp only [q_def, q_seq, q_ite, q_ret, q_set, q_drop, q_asg, q_for, q_for0, q_fc, q_frd_nx, q_frd_rt, q_frd_ct, q_frd_bk, q_turn, q_mkLst, q_mkTup, Nat.reduceLeDiff, q_and_bl, q_or_bl, q_c0, q_c1, q_c2, q_c3, q_c4, q_c5, q_c6, q_c9, q_c13, decide_true, decide_false, Int.reduceEq, Int.reduceLT, Int.reduceLE, Int.reduceAdd, Int.reduceSub, Int.reduceMul, Int.reduceNeg, Int.reducePow, Int.reduceToNat, Int.reduceBNe, Int.reduceNe, Nat.zero_le, q_get, q_cst, q_lift, q_un, q_with, q_av0, q_avC, q_callN, q_callKW, q_andD, q_orD, q_notD, q_fAnd, q_fOr, q_fNot, q_fTru, q_fBoo, q_ifD, q_isN, q_fIsN, q_fNotN, startD, q_bind, q_toS, q_rt, q_nx, q_thn_nx, q_thn_rt, q_okO, q_nxO, q_pure, q_none0, q_none1, q_none2, q_none3, q_none4, q_tru_bl, q_tru_int, q_tru_lst, q_tru_tup, q_tru_non, q_boo, q_seqL, q_seqT, q_lenL, q_lenT, q_eqI, q_neI, q_lt, q_le, q_gt, q_ge, q_add, q_addL, q_sub, q_neg, q_abs, q_int, q_intB, q_max, q_gcd, q_tupL, q_gL, q_gT, q_g0, q_g1, q_g2, q_lc, q_par, q_parO, q_whS, q_slc, q_prt0, q_prt1, q_intR, q_slcL, q_slcT, q_zipL, q_zipT, q_allp, List.length_map, wipeE, List.map_cons, List.map_nil, List.length_cons, List.length_nil, List.replicate, List.cons_append, List.nil_append, List.getElem?_cons_zero, List.getElem?_cons_succ, List.set_cons_zero, List.set_cons_succ, Nat.reduceSub, Nat.reduceAdd, if_true, Bool.not_true, Bool.not_false, Bool.false_eq_true, if_false, reduceIte, setD, List.foldl_cons, List.foldl_nil, q_asgN, q_asgT, q_asgL, q_asgs0, q_asgsC, Option.bind_some, List.append_nil, is_integer_eq, is_list_eq, q_is2, w_int, i_int, w_lst, w_tup, l_lst, l_tup, l_int, Bool.true_and, Bool.false_and, Bool.and_true, Bool.and_false, m1D, strR, ofO', Option.map_none, *]
      try rfl
    | some a =>
      rw [f] at i0 hr
      rw [hr]
      unfold m_law_read g_law_read
      clear h hl z1 e f hr
      simp only [q_def, q_seq, q_ite, q_ret, q_set, q_drop, q_asg, q_for, q_for0, q_fc, q_frd_nx, q_frd_rt, q_frd_ct, q_frd_bk, q_turn, q_mkLst, q_mkTup, Nat.reduceLeDiff, q_and_bl, q_or_bl, q_c0, q_c1, q_c2, q_c3, q_c4, q_c5, q_c6, q_c9, q_c13, decide_true, decide_false, Int.reduceEq, Int.reduceLT, Int.reduceLE, Int.reduceAdd, Int.reduceSub, Int.reduceMul, Int.reduceNeg, Int.reducePow, Int.reduceToNat, Int.reduceBNe, Int.reduceNe, Nat.zero_le, q_get, q_cst, q_lift, q_un, q_with, q_av0, q_avC, q_callN, q_callKW, q_andD, q_orD, q_notD, q_fAnd, q_fOr, q_fNot, q_fTru, q_fBoo, q_ifD, q_isN, q_fIsN, q_fNotN, startD, q_bind, q_toS, q_rt, q_nx, q_thn_nx, q_thn_rt, q_okO, q_nxO, q_pure, q_none0, q_none1, q_none2, q_none3, q_none4, q_tru_bl, q_tru_int, q_tru_lst, q_tru_tup, q_tru_non, q_boo, q_seqL, q_seqT, q_lenL, q_lenT, q_eqI, q_neI, q_lt, q_le, q_gt, q_ge, q_add, q_addL, q_sub, q_neg, q_abs, q_int, q_intB, q_max, q_gcd, q_tupL, q_gL, q_gT, q_g0, q_g1, q_g2, q_lc, q_par, q_parO, q_whS, q_slc, q_prt0, q_prt1, q_intR, q_slcL, q_slcT, q_zipL, q_zipT, q_allp, List.length_map, wipeE, List.map_cons, List.map_nil, List.length_cons, List.length_nil, List.replicate, List.cons_append, List.nil_append, List.getElem?_cons_zero, List.getElem?_cons_succ, List.set_cons_zero, List.set_cons_succ, Nat.reduceSub, Nat.reduceAdd, if_true, Bool.not_true, Bool.not_false, Bool.false_eq_true, if_false, reduceIte, setD, List.foldl_cons, List.foldl_nil, q_asgN, q_asgT, q_asgL, q_asgs0, q_asgsC, Option.bind_some, List.append_nil, is_integer_eq, is_list_eq, q_is2, w_int, i_int, w_lst, w_tup, l_lst, l_tup, l_int, Bool.true_and, Bool.false_and, Bool.and_true, Bool.and_false, m1D, strR, ofO', Option.map_some, *]
      try rfl
  | some i =>
    rw [e] at fd
    simp only at fd
    have hi := cutAt_lt e
    have g0 : decide ((i : Int) < 0) = false := decide_eq_false (by omega)
    have s1 : ∀ s : Deck, slcM (.str (T cs)) none (some (i : Int)) s = .ok (.str (T (cs.take i))) s := fun s => by
      have := cutTo cs i
      unfold slcM
      simp only [z1, if_true]
      exact congrArg (fun x => R.ok (D.str x) s) this
    have s2 : ∀ s : Deck, slcM (.str (T cs)) (some ((i : Int) + 1)) none s = .ok (.str (T (cs.drop (i + 1)))) s := fun s => by
      have := cutFrom cs (i + 1)
      unfold slcM
      simp only [z1, if_true]
      exact congrArg (fun x => R.ok (D.str x) s) this
    have i1 := fun s => law_figures_eq (okT_sub h (List.take_sublist i cs)) s
    have i2 := fun s => law_figures_eq (okT_sub h (List.drop_sublist (i + 1) cs)) s
    have hr : rdT cs = match pairR (figs (cs.take i)) (figs (cs.drop (i + 1))) with | some d => .lst [d] | none => refD := by unfold rdT rd; rw [e]
    clear h hl z1 e hi
    cases x : figs (cs.take i) with
    | none =>
      rw [x] at i1 hr
      rw [hr]
      unfold m_law_read g_law_read
      clear x hr
      simp only [q_def, q_seq, q_ite, q_ret, q_set, q_drop, q_asg, q_for, q_for0, q_fc, q_frd_nx, q_frd_rt, q_frd_ct, q_frd_bk, q_turn, q_mkLst, q_mkTup, Nat.reduceLeDiff, q_and_bl, q_or_bl, q_c0, q_c1, q_c2, q_c3, q_c4, q_c5, q_c6, q_c9, q_c13, decide_true, decide_false, Int.reduceEq, Int.reduceLT, Int.reduceLE, Int.reduceAdd, Int.reduceSub, Int.reduceMul, Int.reduceNeg, Int.reducePow, Int.reduceToNat, Int.reduceBNe, Int.reduceNe, Nat.zero_le, q_get, q_cst, q_lift, q_un, q_with, q_av0, q_avC, q_callN, q_callKW, q_andD, q_orD, q_notD, q_fAnd, q_fOr, q_fNot, q_fTru, q_fBoo, q_ifD, q_isN, q_fIsN, q_fNotN, startD, q_bind, q_toS, q_rt, q_nx, q_thn_nx, q_thn_rt, q_okO, q_nxO, q_pure, q_none0, q_none1, q_none2, q_none3, q_none4, q_tru_bl, q_tru_int, q_tru_lst, q_tru_tup, q_tru_non, q_boo, q_seqL, q_seqT, q_lenL, q_lenT, q_eqI, q_neI, q_lt, q_le, q_gt, q_ge, q_add, q_addL, q_sub, q_neg, q_abs, q_int, q_intB, q_max, q_gcd, q_tupL, q_gL, q_gT, q_g0, q_g1, q_g2, q_lc, q_par, q_parO, q_whS, q_slc, q_prt0, q_prt1, q_intR, q_slcL, q_slcT, q_zipL, q_zipT, q_allp, List.length_map, wipeE, List.map_cons, List.map_nil, List.length_cons, List.length_nil, List.replicate, List.cons_append, List.nil_append, List.getElem?_cons_zero, List.getElem?_cons_succ, List.set_cons_zero, List.set_cons_succ, Nat.reduceSub, Nat.reduceAdd, if_true, Bool.not_true, Bool.not_false, Bool.false_eq_true, if_false, reduceIte, setD, List.foldl_cons, List.foldl_nil, q_asgN, q_asgT, q_asgL, q_asgs0, q_asgsC, Option.bind_some, List.append_nil, is_integer_eq, is_list_eq, q_is2, w_int, i_int, w_lst, w_tup, l_lst, l_tup, l_int, Bool.true_and, Bool.false_and, Bool.and_true, Bool.and_false, m1D, strR, ofO', pairR, *]
      try rfl
    | some a =>
      cases y : figs (cs.drop (i + 1)) with
      | none =>
        rw [x] at i1 hr
        rw [y] at i2 hr
        rw [hr]
        unfold m_law_read g_law_read
        clear x y hr
        simp only [q_def, q_seq, q_ite, q_ret, q_set, q_drop, q_asg, q_for, q_for0, q_fc, q_frd_nx, q_frd_rt, q_frd_ct, q_frd_bk, q_turn, q_mkLst, q_mkTup, Nat.reduceLeDiff, q_and_bl, q_or_bl, q_c0, q_c1, q_c2, q_c3, q_c4, q_c5, q_c6, q_c9, q_c13, decide_true, decide_false, Int.reduceEq, Int.reduceLT, Int.reduceLE, Int.reduceAdd, Int.reduceSub, Int.reduceMul, Int.reduceNeg, Int.reducePow, Int.reduceToNat, Int.reduceBNe, Int.reduceNe, Nat.zero_le, q_get, q_cst, q_lift, q_un, q_with, q_av0, q_avC, q_callN, q_callKW, q_andD, q_orD, q_notD, q_fAnd, q_fOr, q_fNot, q_fTru, q_fBoo, q_ifD, q_isN, q_fIsN, q_fNotN, startD, q_bind, q_toS, q_rt, q_nx, q_thn_nx, q_thn_rt, q_okO, q_nxO, q_pure, q_none0, q_none1, q_none2, q_none3, q_none4, q_tru_bl, q_tru_int, q_tru_lst, q_tru_tup, q_tru_non, q_boo, q_seqL, q_seqT, q_lenL, q_lenT, q_eqI, q_neI, q_lt, q_le, q_gt, q_ge, q_add, q_addL, q_sub, q_neg, q_abs, q_int, q_intB, q_max, q_gcd, q_tupL, q_gL, q_gT, q_g0, q_g1, q_g2, q_lc, q_par, q_parO, q_whS, q_slc, q_prt0, q_prt1, q_intR, q_slcL, q_slcT, q_zipL, q_zipT, q_allp, List.length_map, wipeE, List.map_cons, List.map_nil, List.length_cons, List.length_nil, List.replicate, List.cons_append, List.nil_append, List.getElem?_cons_zero, List.getElem?_cons_succ, List.set_cons_zero, List.set_cons_succ, Nat.reduceSub, Nat.reduceAdd, if_true, Bool.not_true, Bool.not_false, Bool.false_eq_true, if_false, reduceIte, setD, List.foldl_cons, List.foldl_nil, q_asgN, q_asgT, q_asgL, q_asgs0, q_asgsC, Option.bind_some, List.append_nil, is_integer_eq, is_list_eq, q_is2, w_int, i_int, w_lst, w_tup, l_lst, l_tup, l_int, Bool.true_and, Bool.false_and, Bool.and_true, Bool.and_false, m1D, strR, ofO', pairR, *]
        try rfl
      | some b =>
        rw [x] at i1 hr
        rw [y] at i2 hr
        rw [hr]
        unfold m_law_read g_law_read
        clear x y hr
        have al := law_alone_eq a b
        cases c1 : decide (b < 2) with
        | true =>
          have hp : numP (.int a) (.int b) = false := by
            have := of_decide_eq_true c1
            unfold numP
            rw [i_int, decide_eq_false (show ¬ (2 : Int) ≤ b by omega)]
            simp
          simp only [q_def, q_seq, q_ite, q_ret, q_set, q_drop, q_asg, q_for, q_for0, q_fc, q_frd_nx, q_frd_rt, q_frd_ct, q_frd_bk, q_turn, q_mkLst, q_mkTup, Nat.reduceLeDiff, q_and_bl, q_or_bl, q_c0, q_c1, q_c2, q_c3, q_c4, q_c5, q_c6, q_c9, q_c13, decide_true, decide_false, Int.reduceEq, Int.reduceLT, Int.reduceLE, Int.reduceAdd, Int.reduceSub, Int.reduceMul, Int.reduceNeg, Int.reducePow, Int.reduceToNat, Int.reduceBNe, Int.reduceNe, Nat.zero_le, q_get, q_cst, q_lift, q_un, q_with, q_av0, q_avC, q_callN, q_callKW, q_andD, q_orD, q_notD, q_fAnd, q_fOr, q_fNot, q_fTru, q_fBoo, q_ifD, q_isN, q_fIsN, q_fNotN, startD, q_bind, q_toS, q_rt, q_nx, q_thn_nx, q_thn_rt, q_okO, q_nxO, q_pure, q_none0, q_none1, q_none2, q_none3, q_none4, q_tru_bl, q_tru_int, q_tru_lst, q_tru_tup, q_tru_non, q_boo, q_seqL, q_seqT, q_lenL, q_lenT, q_eqI, q_neI, q_lt, q_le, q_gt, q_ge, q_add, q_addL, q_sub, q_neg, q_abs, q_int, q_intB, q_max, q_gcd, q_tupL, q_gL, q_gT, q_g0, q_g1, q_g2, q_lc, q_par, q_parO, q_whS, q_slc, q_prt0, q_prt1, q_intR, q_slcL, q_slcT, q_zipL, q_zipT, q_allp, List.length_map, wipeE, List.map_cons, List.map_nil, List.length_cons, List.length_nil, List.replicate, List.cons_append, List.nil_append, List.getElem?_cons_zero, List.getElem?_cons_succ, List.set_cons_zero, List.set_cons_succ, Nat.reduceSub, Nat.reduceAdd, if_true, Bool.not_true, Bool.not_false, Bool.false_eq_true, if_false, reduceIte, setD, List.foldl_cons, List.foldl_nil, q_asgN, q_asgT, q_asgL, q_asgs0, q_asgsC, Option.bind_some, List.append_nil, is_integer_eq, is_list_eq, q_is2, w_int, i_int, w_lst, w_tup, l_lst, l_tup, l_int, Bool.true_and, Bool.false_and, Bool.and_true, Bool.and_false, m1D, strR, ofO', pairR, *]
          try rfl
        | false =>
          have hp : numP (.int a) (.int b) = decide (Nat.gcd a.natAbs b.natAbs = 1) := by
            have := of_decide_eq_false c1
            unfold numP
            rw [i_int, i_int, decide_eq_true (show (2 : Int) ≤ b by omega)]
            simp
          cases c2 : decide (Nat.gcd a.natAbs b.natAbs = 1) with
          | true =>
            rw [c2] at hp
            simp only [c2] at al
            clear c2
            simp only [q_def, q_seq, q_ite, q_ret, q_set, q_drop, q_asg, q_for, q_for0, q_fc, q_frd_nx, q_frd_rt, q_frd_ct, q_frd_bk, q_turn, q_mkLst, q_mkTup, Nat.reduceLeDiff, q_and_bl, q_or_bl, q_c0, q_c1, q_c2, q_c3, q_c4, q_c5, q_c6, q_c9, q_c13, decide_true, decide_false, Int.reduceEq, Int.reduceLT, Int.reduceLE, Int.reduceAdd, Int.reduceSub, Int.reduceMul, Int.reduceNeg, Int.reducePow, Int.reduceToNat, Int.reduceBNe, Int.reduceNe, Nat.zero_le, q_get, q_cst, q_lift, q_un, q_with, q_av0, q_avC, q_callN, q_callKW, q_andD, q_orD, q_notD, q_fAnd, q_fOr, q_fNot, q_fTru, q_fBoo, q_ifD, q_isN, q_fIsN, q_fNotN, startD, q_bind, q_toS, q_rt, q_nx, q_thn_nx, q_thn_rt, q_okO, q_nxO, q_pure, q_none0, q_none1, q_none2, q_none3, q_none4, q_tru_bl, q_tru_int, q_tru_lst, q_tru_tup, q_tru_non, q_boo, q_seqL, q_seqT, q_lenL, q_lenT, q_eqI, q_neI, q_lt, q_le, q_gt, q_ge, q_add, q_addL, q_sub, q_neg, q_abs, q_int, q_intB, q_max, q_gcd, q_tupL, q_gL, q_gT, q_g0, q_g1, q_g2, q_lc, q_par, q_parO, q_whS, q_slc, q_prt0, q_prt1, q_intR, q_slcL, q_slcT, q_zipL, q_zipT, q_allp, List.length_map, wipeE, List.map_cons, List.map_nil, List.length_cons, List.length_nil, List.replicate, List.cons_append, List.nil_append, List.getElem?_cons_zero, List.getElem?_cons_succ, List.set_cons_zero, List.set_cons_succ, Nat.reduceSub, Nat.reduceAdd, if_true, Bool.not_true, Bool.not_false, Bool.false_eq_true, if_false, reduceIte, setD, List.foldl_cons, List.foldl_nil, q_asgN, q_asgT, q_asgL, q_asgs0, q_asgsC, Option.bind_some, List.append_nil, is_integer_eq, is_list_eq, q_is2, w_int, i_int, w_lst, w_tup, l_lst, l_tup, l_int, Bool.true_and, Bool.false_and, Bool.and_true, Bool.and_false, m1D, strR, ofO', pairR, *]
            try rfl
          | false =>
            rw [c2] at hp
            simp only [c2] at al
            clear c2
            simp only [q_def, q_seq, q_ite, q_ret, q_set, q_drop, q_asg, q_for, q_for0, q_fc, q_frd_nx, q_frd_rt, q_frd_ct, q_frd_bk, q_turn, q_mkLst, q_mkTup, Nat.reduceLeDiff, q_and_bl, q_or_bl, q_c0, q_c1, q_c2, q_c3, q_c4, q_c5, q_c6, q_c9, q_c13, decide_true, decide_false, Int.reduceEq, Int.reduceLT, Int.reduceLE, Int.reduceAdd, Int.reduceSub, Int.reduceMul, Int.reduceNeg, Int.reducePow, Int.reduceToNat, Int.reduceBNe, Int.reduceNe, Nat.zero_le, q_get, q_cst, q_lift, q_un, q_with, q_av0, q_avC, q_callN, q_callKW, q_andD, q_orD, q_notD, q_fAnd, q_fOr, q_fNot, q_fTru, q_fBoo, q_ifD, q_isN, q_fIsN, q_fNotN, startD, q_bind, q_toS, q_rt, q_nx, q_thn_nx, q_thn_rt, q_okO, q_nxO, q_pure, q_none0, q_none1, q_none2, q_none3, q_none4, q_tru_bl, q_tru_int, q_tru_lst, q_tru_tup, q_tru_non, q_boo, q_seqL, q_seqT, q_lenL, q_lenT, q_eqI, q_neI, q_lt, q_le, q_gt, q_ge, q_add, q_addL, q_sub, q_neg, q_abs, q_int, q_intB, q_max, q_gcd, q_tupL, q_gL, q_gT, q_g0, q_g1, q_g2, q_lc, q_par, q_parO, q_whS, q_slc, q_prt0, q_prt1, q_intR, q_slcL, q_slcT, q_zipL, q_zipT, q_allp, List.length_map, wipeE, List.map_cons, List.map_nil, List.length_cons, List.length_nil, List.replicate, List.cons_append, List.nil_append, List.getElem?_cons_zero, List.getElem?_cons_succ, List.set_cons_zero, List.set_cons_succ, Nat.reduceSub, Nat.reduceAdd, if_true, Bool.not_true, Bool.not_false, Bool.false_eq_true, if_false, reduceIte, setD, List.foldl_cons, List.foldl_nil, q_asgN, q_asgT, q_asgL, q_asgs0, q_asgsC, Option.bind_some, List.append_nil, is_integer_eq, is_list_eq, q_is2, w_int, i_int, w_lst, w_tup, l_lst, l_tup, l_int, Bool.true_and, Bool.false_and, Bool.and_true, Bool.and_false, m1D, strR, ofO', pairR, *]
            try rfl
end K04

namespace K04
open PySem PySem.Builtin PySem.Builtin.Str L2 FL
/-! ### numbers as texts -/
def sgn (i : Int) : List Nat := if i < 0 then 45 :: TL.numL i.natAbs else TL.numL i.natAbs
theorem app_T (a b : List Nat) : T a ++ T b = T (a ++ b) := by
  have e : (T a ++ T b).cps = (T (a ++ b)).cps := by
    rw [PySem.Str.cps_append]
    simp [T]
  exact congrArg PySem.Str.mk e
theorem str_T (i : Int) : (toString i : Str) = T (sgn i) := by
  have h : cp (toString i : Str) = sgn i := by
    unfold sgn
    cases i with
    | ofNat n =>
      rw [if_neg (show ¬ Int.ofNat n < 0 from by have : (0:Int) ≤ Int.ofNat n := Int.natCast_nonneg n; omega)]
      exact TL.tl_num n
    | negSucc n =>
      rw [if_pos (Int.negSucc_lt_zero n)]
      have e : (toString (Int.negSucc n)) = "-" ++ toString ((n + 1 : Nat) : Int) := rfl
      show (Str.ofString (toString (Int.negSucc n))).cps.toList = _
      rw [e, PyProof.Rows.signs_ofString, String.toList_append, List.map_append]
      have t := TL.tl_num (n + 1)
      have t2 : (toString ((n + 1 : Nat) : Int)).toList.map Char.toNat = TL.numL (n + 1) := by
        rw [← PyProof.Rows.signs_ofString]; exact t
      rw [t2]
      rfl
  rw [← T_cp (toString i : Str), h]
theorem numL_head : ∀ (n : Nat), 0 < n → (TL.numL n).head? ≠ some 48
  | n, h => by
    by_cases c : n < 10
    · rw [TL.numL_lt c]
      simp
      omega
    · rw [TL.numL_step (by omega)]
      have ih := numL_head (n / 10) (by omega)
      have ne := TL.numL_ne (n / 10)
      cases e : TL.numL (n / 10) with
      | nil => exact absurd e ne
      | cons a l => rw [e] at ih; simpa using ih
theorem sgn_bare (i : Int) : bare (sgn i) = TL.numL i.natAbs := by
  unfold bare sgn
  split
  · rfl
  · have hd := TL.numL_digits i.natAbs
    have h45 : (TL.numL i.natAbs).head? ≠ some 45 := fun z => by
      cases e : TL.numL i.natAbs with
      | nil => rw [e] at z; cases z
      | cons a l =>
        rw [e] at z hd
        have := hd a (List.mem_cons_self ..)
        simp at z
        omega
    rw [if_neg h45]
theorem sgn_figs {i : Int} (h : i.natAbs < 10 ^ 60) : figs (sgn i) = some i := by
  have hb := sgn_bare i
  have hd : digB (TL.numL i.natAbs) = true := by
    unfold digB
    rw [List.all_eq_true]
    intro c hc
    exact decide_eq_true (TL.numL_digits i.natAbs c hc)
  have hn : (TL.numL i.natAbs).isEmpty = false := by
    cases e : TL.numL i.natAbs with
    | nil => exact absurd e (TL.numL_ne _)
    | cons => rfl
  have hl : (TL.numL i.natAbs).length ≤ 60 := TL.numL_len (by decide) h
  have hlead : lead (sgn i) = false := by
    unfold lead
    rw [hb]
    by_cases z : i = 0
    · subst z; rfl
    · rw [decide_eq_false (numL_head i.natAbs (by omega))]; rfl
  have ok : okF (sgn i) = true := by
    unfold okF
    rw [hb, hd, hn, decide_eq_true hl, hlead]; rfl
  unfold figs
  rw [if_pos ok]
  congr 1
  unfold valF
  rw [hb, TL.numL_val]
  unfold sgn
  by_cases c : i < 0
  · rw [if_pos c, if_pos (show (45 :: TL.numL i.natAbs).head? = some 45 from rfl)]; omega
  · rw [if_neg c]
    have h45 : (TL.numL i.natAbs).head? ≠ some 45 := fun z => by
      have hd := TL.numL_digits i.natAbs
      cases e : TL.numL i.natAbs with
      | nil => rw [e] at z; cases z
      | cons a l =>
        rw [e] at z hd
        have := hd a (List.mem_cons_self ..)
        simp at z
        omega
    rw [if_neg h45]; omega
theorem sgn_free (i : Int) : 47 ∉ sgn i := by
  unfold sgn
  have := TL.numL_free (n := i.natAbs) (s := 47) (by omega)
  split
  · simp [this]
  · exact this
theorem sgn_len {i : Int} (h : i.natAbs < 10 ^ 60) : (sgn i).length ≤ 61 := by
  have := TL.numL_len (n := i.natAbs) (k := 60) (by decide) h
  unfold sgn
  split
  · simp; omega
  · omega
theorem sgn_okc (i : Int) : ∀ c ∈ sgn i, c < 128 := by
  unfold sgn
  have hd := TL.numL_digits i.natAbs
  intro c hc
  split at hc
  · rcases List.mem_cons.mp hc with e | e
    · omega
    · have := hd c e; omega
  · have := hd c hc; omega
/-- the law's numbers -/
inductive NumD : D → List Nat → Prop
  | int {i : Int} (h : i.natAbs < 10 ^ 60) : NumD (.int i) (sgn i)
  | pair {a b : Int} (ha : a.natAbs < 10 ^ 60) (hb : b.natAbs < 10 ^ 60) (h2 : 2 ≤ b) (hg : Nat.gcd a.natAbs b.natAbs = 1) : NumD (.tup [.int a, .int b]) (sgn a ++ 47 :: sgn b)
theorem okT_of {cs : List Nat} (h : ∀ c ∈ cs, c < 128) (hl : cs.length ≤ 1000) : okT cs = true := by
  unfold okT
  rw [Bool.and_eq_true, decide_eq_true_eq]
  refine ⟨List.all_eq_true.mpr fun c hc => ?_, hl⟩
  have := h c hc
  exact decide_eq_true (by omega)
theorem NumD.okc {d : D} {cs : List Nat} (n : NumD d cs) : (∀ c ∈ cs, c < 128) ∧ cs.length ≤ 123 := by
  cases n with
  | int h => exact ⟨sgn_okc _, by have := sgn_len h; omega⟩
  | pair ha hb h2 hg =>
    refine ⟨fun c hc => ?_, ?_⟩
    · rcases List.mem_append.mp hc with h | h
      · exact sgn_okc _ c h
      · rcases List.mem_cons.mp h with h | h
        · omega
        · exact sgn_okc _ c h
    · have h1 := sgn_len ha
      have h3 := sgn_len hb
      simp
      omega
theorem cutAt_none {cs : List Nat} (h : 47 ∉ cs) : cutAt cs = none := by
  have e := cutAt_in cs
  rw [decide_eq_false h] at e
  cases c : cutAt cs with
  | none => rfl
  | some i => rw [c] at e; cases e
theorem cutAt_mid {a b : List Nat} (ha : 47 ∉ a) (hb : 47 ∉ b) : cutAt (a ++ 47 :: b) = some a.length := by
  have e := cutAt_in (a ++ 47 :: b)
  rw [decide_eq_true (by simp)] at e
  cases c : cutAt (a ++ 47 :: b) with
  | none => rw [c] at e; cases e
  | some i =>
    have hat : ((a ++ 47 :: b).drop i).take 1 = [47] := by
      unfold cutAt at c
      cases q : occurrences (T (a ++ 47 :: b)) (T [47]) 0 (T (a ++ 47 :: b)).length 1 with
      | nil => rw [q] at c; cases c
      | cons k r =>
        rw [q] at c
        have hk : k = i := by simpa using c
        subst hk
        have := (PySem.StrLaws.occ_spec (T (a ++ 47 :: b)) (T [47]) 0 (T (a ++ 47 :: b)).length 1 k (by rw [q]; exact List.mem_cons_self ..)).2
        rw [at_T] at this
        exact of_decide_eq_true this
    have hget : (a ++ 47 :: b)[i]? = some 47 := by
      have := (head_take _ 47).mp hat
      rwa [List.head?_drop] at this
    congr 1
    rcases Nat.lt_trichotomy i a.length with h | h | h
    · rw [List.getElem?_append_left h] at hget
      exact absurd (List.mem_of_getElem? hget) ha
    · exact h
    · rw [List.getElem?_append_right (by omega)] at hget
      obtain ⟨k, hk⟩ : ∃ k, i - a.length = k + 1 := ⟨i - a.length - 1, by omega⟩
      rw [hk, List.getElem?_cons_succ] at hget
      exact absurd (List.mem_of_getElem? hget) hb
theorem NumD.read {d : D} {cs : List Nat} (n : NumD d cs) : rd cs = some d := by
  cases n with
  | int h =>
    unfold rd
    rw [cutAt_none (sgn_free _)]
    simp only [sgn_figs h, Option.map_some]
  | @pair a b ha hb h2 hg =>
    unfold rd
    rw [cutAt_mid (sgn_free _) (sgn_free _)]
    simp only []
    have e1 : (sgn a ++ 47 :: sgn b).take (sgn a).length = sgn a := List.take_left' rfl
    have e2 : (sgn a ++ 47 :: sgn b).drop ((sgn a).length + 1) = sgn b := by
      rw [List.drop_append, show List.drop ((sgn a).length + 1) (sgn a) = [] from List.drop_of_length_le (by omega)]
      simp
    rw [e1, e2, sgn_figs ha, sgn_figs hb]
    unfold pairR numP
    simp [intD, h2, hg]
end K04

namespace K04
open PySem PySem.Builtin PySem.Builtin.Str L2 FL
theorem log_ok {i : Int} (h : i.natAbs < 10 ^ 60) : i.natAbs.log2 < 1920 := by
  by_cases z : i.natAbs = 0
  · rw [z]; decide
  · exact Nat.lt_trans ((Nat.log2_lt z).mpr (Nat.lt_of_lt_of_le h (by decide : 10 ^ 60 ≤ 2 ^ 200))) (by decide)
theorem q_str {i : Int} (h : i.natAbs < 10 ^ 60) (s : Deck) : strM1 [.int i] s = .ok (.str (T (sgn i))) s := by
  unfold strM1
  simp only [log_ok h, if_true, str_T]
theorem q_fmt {i : Int} (h : i.natAbs < 10 ^ 60) (s : Deck) : fmtM (.int i) s = .ok (.str (T (sgn i))) s := by
  unfold fmtM
  simp only [log_ok h, if_true, str_T]
theorem q_addS {a b : List Nat} (s : Deck) (h : a.length + b.length ≤ 1000) : addM (.str (T a)) (.str (T b)) s = .ok (.str (T (a ++ b))) s := by
  unfold addM
  simp only [T_len]
  rw [if_pos (by omega), app_T]
theorem q_isInt {f : FE} {δ : DEnv} {s : Deck} : isiF f "int" δ s = (f δ s).bind fun x s => .ok (.bl (match x with | .int _ => true | .bl _ => true | _ => false)) s := by
  rw [q_isi]; congr 1; funext x s; cases x <;> rfl
theorem q_isTup {f : FE} {δ : DEnv} {s : Deck} : isiF f "tuple" δ s = (f δ s).bind fun x s => .ok (.bl (match x with | .tup _ => true | _ => false)) s := by
  rw [q_isi]; congr 1; funext x s; cases x <;> rfl
theorem written_eq {d : D} {cs : List Nat} (n : NumD d cs) (s : Deck) : m_law_written [d] s = .ok (.str (T cs)) s := by
  unfold m_law_written g_law_written
  cases n with
  | int h =>
    have f1 := fun s => q_str h s
    clear h
    simp only [q_def, q_seq, q_ite, q_ret, q_set, q_drop, q_asg, q_for, q_for0, q_fc, q_frd_nx, q_frd_rt, q_frd_ct, q_frd_bk, q_turn, q_mkLst, q_mkTup, Nat.reduceLeDiff, q_and_bl, q_or_bl, q_c0, q_c1, q_c2, q_c3, q_c4, q_c5, q_c6, q_c9, q_c13, decide_true, decide_false, Int.reduceEq, Int.reduceLT, Int.reduceLE, Int.reduceAdd, Int.reduceSub, Int.reduceMul, Int.reduceNeg, Int.reducePow, Int.reduceToNat, Int.reduceBNe, Int.reduceNe, Nat.zero_le, q_get, q_cst, q_lift, q_un, q_with, q_av0, q_avC, q_callN, q_callKW, q_andD, q_orD, q_notD, q_fAnd, q_fOr, q_fNot, q_fTru, q_fBoo, q_ifD, q_isN, q_fIsN, q_fNotN, startD, q_bind, q_toS, q_rt, q_nx, q_thn_nx, q_thn_rt, q_okO, q_nxO, q_pure, q_none0, q_none1, q_none2, q_none3, q_none4, q_tru_bl, q_tru_int, q_tru_lst, q_tru_tup, q_tru_non, q_boo, q_seqL, q_seqT, q_lenL, q_lenT, q_eqI, q_neI, q_lt, q_le, q_gt, q_ge, q_add, q_addL, q_sub, q_neg, q_abs, q_int, q_intB, q_max, q_gcd, q_tupL, q_gL, q_gT, q_g0, q_g1, q_g2, q_lc, q_par, q_parO, q_whS, q_slc, q_prt0, q_prt1, q_intR, q_slcL, q_slcT, q_zipL, q_zipT, q_allp, List.length_map, wipeE, List.map_cons, List.map_nil, List.length_cons, List.length_nil, List.replicate, List.cons_append, List.nil_append, List.getElem?_cons_zero, List.getElem?_cons_succ, List.set_cons_zero, List.set_cons_succ, Nat.reduceSub, Nat.reduceAdd, if_true, Bool.not_true, Bool.not_false, Bool.false_eq_true, if_false, reduceIte, setD, List.foldl_cons, List.foldl_nil, q_asgN, q_asgT, q_asgL, q_asgs0, q_asgsC, Option.bind_some, List.append_nil, is_integer_eq, is_list_eq, q_is2, w_int, i_int, w_lst, w_tup, l_lst, l_tup, l_int, Bool.true_and, Bool.false_and, Bool.and_true, Bool.and_false, q_isInt, *]
  | @pair a b ha hb h2 hg =>
    have f1 := fun s => q_str ha s
    have f2 := fun s => q_str hb s
    have la := sgn_len ha
    have lb := sgn_len hb
    have a1 : ∀ s : Deck, addM (.str (T (sgn a))) (.str "/") s = .ok (.str (T (sgn a ++ [47]))) s := fun s => by rw [slash_T]; exact q_addS s (by simp; omega)
    have a2 : ∀ s : Deck, addM (.str (T (sgn a ++ [47]))) (.str (T (sgn b))) s = .ok (.str (T (sgn a ++ 47 :: sgn b))) s := fun s => by
      rw [q_addS s (by simp; omega), List.append_assoc]; rfl
    clear ha hb h2 hg la lb
    simp only [q_def, q_seq, q_ite, q_ret, q_set, q_drop, q_asg, q_for, q_for0, q_fc, q_frd_nx, q_frd_rt, q_frd_ct, q_frd_bk, q_turn, q_mkLst, q_mkTup, Nat.reduceLeDiff, q_and_bl, q_or_bl, q_c0, q_c1, q_c2, q_c3, q_c4, q_c5, q_c6, q_c9, q_c13, decide_true, decide_false, Int.reduceEq, Int.reduceLT, Int.reduceLE, Int.reduceAdd, Int.reduceSub, Int.reduceMul, Int.reduceNeg, Int.reducePow, Int.reduceToNat, Int.reduceBNe, Int.reduceNe, Nat.zero_le, q_get, q_cst, q_lift, q_un, q_with, q_av0, q_avC, q_callN, q_callKW, q_andD, q_orD, q_notD, q_fAnd, q_fOr, q_fNot, q_fTru, q_fBoo, q_ifD, q_isN, q_fIsN, q_fNotN, startD, q_bind, q_toS, q_rt, q_nx, q_thn_nx, q_thn_rt, q_okO, q_nxO, q_pure, q_none0, q_none1, q_none2, q_none3, q_none4, q_tru_bl, q_tru_int, q_tru_lst, q_tru_tup, q_tru_non, q_boo, q_seqL, q_seqT, q_lenL, q_lenT, q_eqI, q_neI, q_lt, q_le, q_gt, q_ge, q_add, q_addL, q_sub, q_neg, q_abs, q_int, q_intB, q_max, q_gcd, q_tupL, q_gL, q_gT, q_g0, q_g1, q_g2, q_lc, q_par, q_parO, q_whS, q_slc, q_prt0, q_prt1, q_intR, q_slcL, q_slcT, q_zipL, q_zipT, q_allp, List.length_map, wipeE, List.map_cons, List.map_nil, List.length_cons, List.length_nil, List.replicate, List.cons_append, List.nil_append, List.getElem?_cons_zero, List.getElem?_cons_succ, List.set_cons_zero, List.set_cons_succ, Nat.reduceSub, Nat.reduceAdd, if_true, Bool.not_true, Bool.not_false, Bool.false_eq_true, if_false, reduceIte, setD, List.foldl_cons, List.foldl_nil, q_asgN, q_asgT, q_asgL, q_asgs0, q_asgsC, Option.bind_some, List.append_nil, is_integer_eq, is_list_eq, q_is2, w_int, i_int, w_lst, w_tup, l_lst, l_tup, l_int, Bool.true_and, Bool.false_and, Bool.and_true, Bool.and_false, q_isInt, at0, at1, *]
def jsR (x : D) (k : Str → Deck → R Str) (acc : Str) (s : Deck) : R Str := strR (fun y s => if (acc ++ y).length ≤ 16777216 then k (acc ++ y) s else .bad) x s
theorem q_jsC {f : FE} {g : FJ} {acc : Str} {δ : DEnv} {s : Deck} : jsC f g acc δ s = (f δ s).bind fun x s => jsR x (fun y s => g y δ s) acc s := rfl
theorem q_jsR {a b : List Nat} {k : Str → Deck → R Str} {s : Deck} (h : a.length + b.length ≤ 1000) : jsR (.str (T b)) k (T a) s = k (T (a ++ b)) s := by
  unfold jsR strR
  simp only [app_T, T_len]
  rw [if_pos (by simp; omega)]
theorem q_js0 {acc : Str} {δ : DEnv} {s : Deck} : js0 acc δ s = .ok acc s := rfl
theorem q_joinD {g : FJ} {δ : DEnv} {s : Deck} : joinD g δ s = (g (T []) δ s).bind fun y s => .ok (.str y) s := rfl
theorem ab_int (i : Int) (s : Deck) : m_above_below [.int i] s = .ok (.tup [.int i, .int 1]) s := by
  unfold m_above_below g_above_below
  simp only [q_def, q_seq, q_ite, q_ret, q_set, q_drop, q_asg, q_for, q_for0, q_fc, q_frd_nx, q_frd_rt, q_frd_ct, q_frd_bk, q_turn, q_mkLst, q_mkTup, Nat.reduceLeDiff, q_and_bl, q_or_bl, q_c0, q_c1, q_c2, q_c3, q_c4, q_c5, q_c6, q_c9, q_c13, decide_true, decide_false, Int.reduceEq, Int.reduceLT, Int.reduceLE, Int.reduceAdd, Int.reduceSub, Int.reduceMul, Int.reduceNeg, Int.reducePow, Int.reduceToNat, Int.reduceBNe, Int.reduceNe, Nat.zero_le, q_get, q_cst, q_lift, q_un, q_with, q_av0, q_avC, q_callN, q_callKW, q_andD, q_orD, q_notD, q_fAnd, q_fOr, q_fNot, q_fTru, q_fBoo, q_ifD, q_isN, q_fIsN, q_fNotN, startD, q_bind, q_toS, q_rt, q_nx, q_thn_nx, q_thn_rt, q_okO, q_nxO, q_pure, q_none0, q_none1, q_none2, q_none3, q_none4, q_tru_bl, q_tru_int, q_tru_lst, q_tru_tup, q_tru_non, q_boo, q_seqL, q_seqT, q_lenL, q_lenT, q_eqI, q_neI, q_lt, q_le, q_gt, q_ge, q_add, q_addL, q_sub, q_neg, q_abs, q_int, q_intB, q_max, q_gcd, q_tupL, q_gL, q_gT, q_g0, q_g1, q_g2, q_lc, q_par, q_parO, q_whS, q_slc, q_prt0, q_prt1, q_intR, q_slcL, q_slcT, q_zipL, q_zipT, q_allp, List.length_map, wipeE, List.map_cons, List.map_nil, List.length_cons, List.length_nil, List.replicate, List.cons_append, List.nil_append, List.getElem?_cons_zero, List.getElem?_cons_succ, List.set_cons_zero, List.set_cons_succ, Nat.reduceSub, Nat.reduceAdd, if_true, Bool.not_true, Bool.not_false, Bool.false_eq_true, if_false, reduceIte, setD, List.foldl_cons, List.foldl_nil, q_asgN, q_asgT, q_asgL, q_asgs0, q_asgsC, Option.bind_some, List.append_nil, is_integer_eq, is_list_eq, q_is2, w_int, i_int, w_lst, w_tup, l_lst, l_tup, l_int, Bool.true_and, Bool.false_and, Bool.and_true, Bool.and_false, *]
theorem ab_pair (x y : D) (d : D) (hd : d = .lst [x, y] ∨ d = .tup [x, y]) (s : Deck) : m_above_below [d] s = .ok (.tup [x, y]) s := by
  unfold m_above_below g_above_below
  rcases hd with rfl | rfl <;> simp only [q_def, q_seq, q_ite, q_ret, q_set, q_drop, q_asg, q_for, q_for0, q_fc, q_frd_nx, q_frd_rt, q_frd_ct, q_frd_bk, q_turn, q_mkLst, q_mkTup, Nat.reduceLeDiff, q_and_bl, q_or_bl, q_c0, q_c1, q_c2, q_c3, q_c4, q_c5, q_c6, q_c9, q_c13, decide_true, decide_false, Int.reduceEq, Int.reduceLT, Int.reduceLE, Int.reduceAdd, Int.reduceSub, Int.reduceMul, Int.reduceNeg, Int.reducePow, Int.reduceToNat, Int.reduceBNe, Int.reduceNe, Nat.zero_le, q_get, q_cst, q_lift, q_un, q_with, q_av0, q_avC, q_callN, q_callKW, q_andD, q_orD, q_notD, q_fAnd, q_fOr, q_fNot, q_fTru, q_fBoo, q_ifD, q_isN, q_fIsN, q_fNotN, startD, q_bind, q_toS, q_rt, q_nx, q_thn_nx, q_thn_rt, q_okO, q_nxO, q_pure, q_none0, q_none1, q_none2, q_none3, q_none4, q_tru_bl, q_tru_int, q_tru_lst, q_tru_tup, q_tru_non, q_boo, q_seqL, q_seqT, q_lenL, q_lenT, q_eqI, q_neI, q_lt, q_le, q_gt, q_ge, q_add, q_addL, q_sub, q_neg, q_abs, q_int, q_intB, q_max, q_gcd, q_tupL, q_gL, q_gT, q_g0, q_g1, q_g2, q_lc, q_par, q_parO, q_whS, q_slc, q_prt0, q_prt1, q_intR, q_slcL, q_slcT, q_zipL, q_zipT, q_allp, List.length_map, wipeE, List.map_cons, List.map_nil, List.length_cons, List.length_nil, List.replicate, List.cons_append, List.nil_append, List.getElem?_cons_zero, List.getElem?_cons_succ, List.set_cons_zero, List.set_cons_succ, Nat.reduceSub, Nat.reduceAdd, if_true, Bool.not_true, Bool.not_false, Bool.false_eq_true, if_false, reduceIte, setD, List.foldl_cons, List.foldl_nil, q_asgN, q_asgT, q_asgL, q_asgs0, q_asgsC, Option.bind_some, List.append_nil, is_integer_eq, is_list_eq, q_is2, w_int, i_int, w_lst, w_tup, l_lst, l_tup, l_int, Bool.true_and, Bool.false_and, Bool.and_true, Bool.and_false, at0, at1, *]
theorem text_int {i : Int} (h : i.natAbs < 10 ^ 60) (s : Deck) : m_number_text [.int i] s = .ok (.str (T (sgn i))) s := by
  unfold m_number_text g_number_text
  have f1 := fun s => q_str h s
  have n1 : ∀ s : Deck, m_is_number [.int i] s = .ok (.bl true) s := fun s => is_number_eq _ rfl s
  clear h
  simp only [q_def, q_seq, q_ite, q_ret, q_set, q_drop, q_asg, q_for, q_for0, q_fc, q_frd_nx, q_frd_rt, q_frd_ct, q_frd_bk, q_turn, q_mkLst, q_mkTup, Nat.reduceLeDiff, q_and_bl, q_or_bl, q_c0, q_c1, q_c2, q_c3, q_c4, q_c5, q_c6, q_c9, q_c13, decide_true, decide_false, Int.reduceEq, Int.reduceLT, Int.reduceLE, Int.reduceAdd, Int.reduceSub, Int.reduceMul, Int.reduceNeg, Int.reducePow, Int.reduceToNat, Int.reduceBNe, Int.reduceNe, Nat.zero_le, q_get, q_cst, q_lift, q_un, q_with, q_av0, q_avC, q_callN, q_callKW, q_andD, q_orD, q_notD, q_fAnd, q_fOr, q_fNot, q_fTru, q_fBoo, q_ifD, q_isN, q_fIsN, q_fNotN, startD, q_bind, q_toS, q_rt, q_nx, q_thn_nx, q_thn_rt, q_okO, q_nxO, q_pure, q_none0, q_none1, q_none2, q_none3, q_none4, q_tru_bl, q_tru_int, q_tru_lst, q_tru_tup, q_tru_non, q_boo, q_seqL, q_seqT, q_lenL, q_lenT, q_eqI, q_neI, q_lt, q_le, q_gt, q_ge, q_add, q_addL, q_sub, q_neg, q_abs, q_int, q_intB, q_max, q_gcd, q_tupL, q_gL, q_gT, q_g0, q_g1, q_g2, q_lc, q_par, q_parO, q_whS, q_slc, q_prt0, q_prt1, q_intR, q_slcL, q_slcT, q_zipL, q_zipT, q_allp, List.length_map, wipeE, List.map_cons, List.map_nil, List.length_cons, List.length_nil, List.replicate, List.cons_append, List.nil_append, List.getElem?_cons_zero, List.getElem?_cons_succ, List.set_cons_zero, List.set_cons_succ, Nat.reduceSub, Nat.reduceAdd, if_true, Bool.not_true, Bool.not_false, Bool.false_eq_true, if_false, reduceIte, setD, List.foldl_cons, List.foldl_nil, q_asgN, q_asgT, q_asgL, q_asgs0, q_asgsC, Option.bind_some, List.append_nil, is_integer_eq, is_list_eq, q_is2, w_int, i_int, w_lst, w_tup, l_lst, l_tup, l_int, Bool.true_and, Bool.false_and, Bool.and_true, Bool.and_false, ab_int, *]
theorem text_pair {a b : Int} (ha : a.natAbs < 10 ^ 60) (hb : b.natAbs < 10 ^ 60) (h2 : 2 ≤ b) (hg : Nat.gcd a.natAbs b.natAbs = 1) (d : D) (hd : d = .lst [.int a, .int b] ∨ d = .tup [.int a, .int b]) (s : Deck) : m_number_text [d] s = .ok (.str (T (sgn a ++ 47 :: sgn b))) s := by
  unfold m_number_text g_number_text
  have f1 := fun s => q_fmt ha s
  have f2 := fun s => q_fmt hb s
  have la := sgn_len ha
  have lb := sgn_len hb
  have hp : numP (.int a) (.int b) = true := by unfold numP; simp [intD, h2, hg]
  have n1 : ∀ s : Deck, m_is_number [d] s = .ok (.bl true) s := fun s => by rw [is_number_lt _ _ d hd s, hp]
  have ab := fun s => ab_pair (.int a) (.int b) d hd s
  have b1 : decide (b = 1) = false := decide_eq_false (by omega)
  have j1 : ∀ (k : Str → Deck → R Str) (s : Deck), jsR (.str (T (sgn a))) k (T []) s = k (T (sgn a)) s := fun k s => q_jsR (by simp; omega)
  have j2 : ∀ (k : Str → Deck → R Str) (s : Deck), jsR (.str "/") k (T (sgn a)) s = k (T (sgn a ++ [47])) s := fun k s => by rw [slash_T]; exact q_jsR (by simp; omega)
  have j3 : ∀ (k : Str → Deck → R Str) (s : Deck), jsR (.str (T (sgn b))) k (T (sgn a ++ [47])) s = k (T (sgn a ++ 47 :: sgn b)) s := fun k s => by
    rw [q_jsR (by simp; omega), List.append_assoc]; rfl
  clear ha hb h2 hg la lb hp hd
  simp only [q_def, q_seq, q_ite, q_ret, q_set, q_drop, q_asg, q_for, q_for0, q_fc, q_frd_nx, q_frd_rt, q_frd_ct, q_frd_bk, q_turn, q_mkLst, q_mkTup, Nat.reduceLeDiff, q_and_bl, q_or_bl, q_c0, q_c1, q_c2, q_c3, q_c4, q_c5, q_c6, q_c9, q_c13, decide_true, decide_false, Int.reduceEq, Int.reduceLT, Int.reduceLE, Int.reduceAdd, Int.reduceSub, Int.reduceMul, Int.reduceNeg, Int.reducePow, Int.reduceToNat, Int.reduceBNe, Int.reduceNe, Nat.zero_le, q_get, q_cst, q_lift, q_un, q_with, q_av0, q_avC, q_callN, q_callKW, q_andD, q_orD, q_notD, q_fAnd, q_fOr, q_fNot, q_fTru, q_fBoo, q_ifD, q_isN, q_fIsN, q_fNotN, startD, q_bind, q_toS, q_rt, q_nx, q_thn_nx, q_thn_rt, q_okO, q_nxO, q_pure, q_none0, q_none1, q_none2, q_none3, q_none4, q_tru_bl, q_tru_int, q_tru_lst, q_tru_tup, q_tru_non, q_boo, q_seqL, q_seqT, q_lenL, q_lenT, q_eqI, q_neI, q_lt, q_le, q_gt, q_ge, q_add, q_addL, q_sub, q_neg, q_abs, q_int, q_intB, q_max, q_gcd, q_tupL, q_gL, q_gT, q_g0, q_g1, q_g2, q_lc, q_par, q_parO, q_whS, q_slc, q_prt0, q_prt1, q_intR, q_slcL, q_slcT, q_zipL, q_zipT, q_allp, List.length_map, wipeE, List.map_cons, List.map_nil, List.length_cons, List.length_nil, List.replicate, List.cons_append, List.nil_append, List.getElem?_cons_zero, List.getElem?_cons_succ, List.set_cons_zero, List.set_cons_succ, Nat.reduceSub, Nat.reduceAdd, if_true, Bool.not_true, Bool.not_false, Bool.false_eq_true, if_false, reduceIte, setD, List.foldl_cons, List.foldl_nil, q_asgN, q_asgT, q_asgL, q_asgs0, q_asgsC, Option.bind_some, List.append_nil, is_integer_eq, is_list_eq, q_is2, w_int, i_int, w_lst, w_tup, l_lst, l_tup, l_int, Bool.true_and, Bool.false_and, Bool.and_true, Bool.and_false, q_joinD, q_jsC, q_js0, *]
end K04

namespace K04
open PySem PySem.Builtin PySem.Builtin.Str L2 FL
/-! ### what repr gives -/
structure Lo (n : Nat) (x : Str) : Prop where
  low : ∀ c ∈ cp x, c < 128
  len : x.length ≤ n
theorem Lo.app {m n : Nat} {a b : Str} (h : Lo m a) (k : Lo n b) : Lo (m + n) (a ++ b) := by
  refine ⟨fun c hc => ?_, ?_⟩
  · rcases PyProof.Rows.mem_cps_append.mp hc with q | q
    · exact h.low c q
    · exact k.low c q
  · rw [PySem.Str.length_append]
    have := h.len
    have := k.len
    omega
theorem Lo.mono {m n : Nat} {a : Str} (h : Lo m a) (k : m ≤ n) : Lo n a := ⟨h.low, Nat.le_trans h.len k⟩
theorem lo_T {cs : List Nat} {n : Nat} (h : ∀ c ∈ cs, c < 128) (k : cs.length ≤ n) : Lo n (T cs) := ⟨h, by rw [T_len]; exact k⟩
theorem lo_shaped {n : Nat} {x : Str} (h : Lo n x) : SeqAt.shaped (PyData.str x) = true := by
  have e : PyData.strOk x = true := by
    unfold PyData.strOk
    rw [← Array.all_toList, List.all_eq_true]
    intro c hc
    have := h.low c hc
    exact decide_eq_true (by omega)
  unfold SeqAt.shaped
  simp only [PyData.canLay0, e, Bool.true_and, PyData.depth]
  rfl
theorem lo_strOk {n : Nat} {x : Str} (h : Lo n x) : PyData.strOk x = true := by
  unfold PyData.strOk
  rw [← Array.all_toList, List.all_eq_true]
  intro c hc
  have := h.low c hc
  exact decide_eq_true (by omega)
theorem char_low : ∀ c : Nat, c < 58 → 45 ≤ c → ((reprChar 39 c).all (· < 128) && (reprChar 34 c).all (· < 128)) = true := by decide +kernel
theorem fold_low (q : Nat) (hq : q = 39 ∨ q = 34) : ∀ (l : List Nat) (acc : Array Nat), (∀ c ∈ l, 45 ≤ c ∧ c < 58) → (∀ c ∈ acc.toList, c < 128) → ∀ c ∈ (l.foldl (fun out c => out ++ (reprChar q c).toArray) acc).toList, c < 128
  | [], acc, _, h => h
  | d :: l, acc, hl, h => by
    rw [List.foldl_cons]
    refine fold_low q hq l _ (fun c hc => hl c (List.mem_cons_of_mem _ hc)) fun c hc => ?_
    rw [Array.toList_append] at hc
    rcases List.mem_append.mp hc with k | k
    · exact h c k
    · have hd := hl d (List.mem_cons_self ..)
      have := char_low d hd.2 hd.1
      simp only [Bool.and_eq_true, List.all_eq_true, decide_eq_true_eq] at this
      rcases hq with rfl | rfl
      · exact this.1 c k
      · exact this.2 c k
theorem lo_repr {cs : List Nat} {n : Nat} (h : ∀ c ∈ cs, 45 ≤ c ∧ c < 58) (k : cs.length ≤ n) : Lo (10 * n + 2) (reprText (T cs)) := by
  have hq : reprQuote (T cs) = 39 ∨ reprQuote (T cs) = 34 := by
    unfold reprQuote
    split
    · exact .inr rfl
    · exact .inl rfl
  refine ⟨fun c hc => ?_, ?_⟩
  · unfold reprText cp at hc
    simp only [Array.toList_push, ← Array.foldl_toList] at hc
    rcases List.mem_append.mp hc with q | q
    · exact fold_low _ hq cs #[reprQuote (T cs)] h (fun c hc => by
        have : c = reprQuote (T cs) := by simpa using hc
        rcases hq with e | e <;> omega) c q
    · have : c = reprQuote (T cs) := by simpa using q
      rcases hq with e | e <;> omega
  · have := PySem.StrLaws.reprText_len (T cs) (fun c hc => by have := (h c hc).2; omega)
    rw [T_len] at this
    omega
/-- what is shown, and that it is itself -/
def Shows (d : D) : Prop := ∃ x : Str, (∀ s, reprM [d] s = .ok (.str x) s) ∧ ∀ s, neM (.str x) (.str x) s = .ok (.bl false) s
theorem shows_of {d : D} {p : PyData} (hp : py d = some p) (hr : isRefD d = true) (hc : p.canLay0 = true) (hs : p.showable = true) (hd : p.depth ≤ 60) {n : Nat} (hn : n ≤ 16777216) (hl : Lo n p.shown) : Shows d := by
  have sh : showP p = true := by
    unfold showP
    rw [hc, hs, decide_eq_true hd, decide_eq_true (Nat.le_trans hl.len hn)]; rfl
  refine ⟨p.shown, fun s => ?_, fun s => ?_⟩
  · unfold reprM
    simp only [hr, hp, sh, if_true]
  · have k := lo_shaped hl
    generalize p.shown = x at k
    have hx : py (.str x) = some (.str x) := rfl
    unfold neM eqO
    simp only [hx, k, if_true, Option.map_some, PyData.eqv, beq_self_eq_true]
    rfl
theorem lo_lit {x : Str} {n : Nat} (h : (x.cps.toList.all (· < 128) && decide (x.length ≤ n)) = true) : Lo n x := by
  simp only [Bool.and_eq_true, List.all_eq_true, decide_eq_true_eq] at h
  exact ⟨h.1, h.2⟩
theorem lo_list1 {a : Str} {n : Nat} (h : Lo n a) : Lo (n + 2) (listText [a]) := by
  show Lo _ ((("[" : Str) ++ (("" : String) : Str) ++ a) ++ ("]" : Str))
  exact ((((lo_lit (n := 1) (by decide +kernel)).app (lo_lit (n := 0) (by decide +kernel))).app h).app (lo_lit (n := 1) (by decide +kernel))).mono (by omega)
theorem lo_list2 {a b : Str} {m n : Nat} (h : Lo m a) (k : Lo n b) : Lo (m + n + 4) (listText [a, b]) := by
  show Lo _ (((("[" : Str) ++ (("" : String) : Str) ++ a) ++ ((", " : String) : Str) ++ b) ++ ("]" : Str))
  exact ((((((lo_lit (n := 1) (by decide +kernel)).app (lo_lit (n := 0) (by decide +kernel))).app h).app (lo_lit (n := 2) (by decide +kernel))).app k).app (lo_lit (n := 1) (by decide +kernel))).mono (by omega)
theorem lo_int {i : Int} (h : i.natAbs < 10 ^ 60) : Lo 61 (toString i : Str) := by
  rw [str_T]
  exact lo_T (sgn_okc i) (sgn_len h)
theorem sgn_chars (i : Int) : ∀ c ∈ sgn i, 45 ≤ c ∧ c < 58 := by
  unfold sgn
  have hd := TL.numL_digits i.natAbs
  intro c hc
  split at hc
  · rcases List.mem_cons.mp hc with e | e
    · omega
    · have := hd c e; omega
  · have := hd c hc; omega
theorem NumD.chars {d : D} {cs : List Nat} (n : NumD d cs) : ∀ c ∈ cs, 45 ≤ c ∧ c < 58 := by
  cases n with
  | int h => exact sgn_chars _
  | pair ha hb h2 hg =>
    intro c hc
    rcases List.mem_append.mp hc with h | h
    · exact sgn_chars _ c h
    · rcases List.mem_cons.mp h with h | h
      · omega
      · exact sgn_chars _ c h
theorem shows_words {d : D} {cs : List Nat} (n : NumD d cs) : Shows (.lst [.str (T cs), .str (T cs)]) := by
  have lo := lo_repr n.chars n.okc.2
  have ok : PyData.strOk (T cs) = true := lo_strOk (lo_T n.okc.1 n.okc.2)
  refine shows_of (p := .list [.str (T cs), .str (T cs)]) rfl rfl ?_ rfl (by show max 0 (max 0 0) + 1 ≤ 60; decide) (n := 2500 + 4) (by decide) ?_
  · simp only [PyData.canLay0, PyData.canLayAll0, ok]; rfl
  · exact (lo_list2 lo lo).mono (by omega)
theorem digits_lt : ∀ (cs : List Nat) (a : Nat), NumText.AllDigits cs → cs.foldl (fun acc c => acc * 10 + (c - 48)) a < (a + 1) * 10 ^ cs.length
  | [], a, _ => by simp
  | c :: cs, a, h => by
    have ih := digits_lt cs (a * 10 + (c - 48)) h.tail
    have hc := h.head
    rw [List.foldl_cons, List.length_cons, Nat.pow_succ]
    have : (a * 10 + (c - 48) + 1) * 10 ^ cs.length ≤ (a + 1) * 10 * 10 ^ cs.length := Nat.mul_le_mul_right _ (by omega)
    calc _ < _ := ih
      _ ≤ _ := this
      _ = _ := by rw [Nat.mul_assoc, Nat.mul_comm 10]
theorem figs_lt {cs : List Nat} {a : Int} (h : figs cs = some a) : a.natAbs < 10 ^ 60 := by
  unfold figs at h
  split at h
  · rename_i ok
    unfold okF at ok
    simp only [Bool.and_eq_true, Bool.not_eq_true', decide_eq_true_eq] at ok
    obtain ⟨⟨_, h2⟩, h3, _⟩ := ok
    have lt := digits_lt (bare cs) 0 (digB_all h2)
    have le : 10 ^ (bare cs).length ≤ 10 ^ 60 := Nat.pow_le_pow_right (by decide) h3
    have hv : NumText.digitsVal (bare cs) < 10 ^ 60 := by
      unfold NumText.digitsVal
      omega
    cases h
    unfold valF
    split <;> omega
  · cases h
theorem showable_int {i : Int} (h : i.natAbs < 10 ^ 60) : (PyData.int i).showable = true := by
  unfold PyData.showable
  exact decide_eq_true (log_ok h)
theorem shows_int {a : Int} (h : a.natAbs < 10 ^ 60) : Shows (.lst [.int a]) := by
  refine shows_of (p := .list [.int a]) rfl rfl rfl ?_ (by show max 0 0 + 1 ≤ 60; decide) (n := 63) (by decide) ?_
  · have := showable_int h
    simp only [PyData.showable, PyData.showableAll] at this ⊢
    simp only [this]; rfl
  · exact lo_list1 (lo_int h)
theorem shows_pair {a b : Int} (ha : a.natAbs < 10 ^ 60) (hb : b.natAbs < 10 ^ 60) : Shows (.lst [.tup [.int a, .int b]]) := by
  refine shows_of (p := .list [.tuple [.int a, .int b]]) rfl rfl rfl ?_ (by show max (max 0 (max 0 0) + 1) 0 + 1 ≤ 60; decide) (n := 200) (by decide) ?_
  · have h1 := showable_int ha
    have h2 := showable_int hb
    simp only [PyData.showable, PyData.showableAll] at h1 h2 ⊢
    simp only [h1, h2]; rfl
  · have tp : Lo 126 (tupleText [(toString a : Str), (toString b : Str)]) := by
      show Lo _ ((("(" : Str) ++ ((toString a : Str) ++ (", " : Str) ++ (toString b : Str))) ++ ((")" : String) : Str))
      exact (((lo_lit (n := 1) (by decide +kernel)).app (((lo_int ha).app (lo_lit (n := 2) (by decide +kernel))).app (lo_int hb))).app (lo_lit (n := 1) (by decide +kernel))).mono (by decide)
    exact (lo_list1 tp).mono (by decide)
theorem shows_ref : Shows refD :=
  shows_of (p := .tuple [.str "BadText", .int 0, .int 0]) rfl rfl (by decide +kernel) (by decide +kernel) (by decide +kernel) (n := 100) (by decide) (lo_lit (by decide +kernel))
theorem shows_rd (cs : List Nat) : Shows (rdT cs) := by
  unfold rdT rd
  cases e : cutAt cs with
  | none =>
    simp only []
    cases f : figs cs with
    | none => exact shows_ref
    | some a => exact shows_int (figs_lt f)
  | some i =>
    simp only []
    cases f : figs (cs.take i) with
    | none => exact shows_ref
    | some a =>
      cases g : figs (cs.drop (i + 1)) with
      | none => exact shows_ref
      | some b =>
        unfold pairR
        simp only []
        split
        · rename_i h
          split at h
          · cases h; exact shows_pair (figs_lt f) (figs_lt g)
          · cases h
        · exact shows_ref
end K04

namespace K04
open PySem PySem.Builtin PySem.Builtin.Str L2 FL
/-! ### what the law draws -/
theorem pick_eq {b : Int} {s : Deck} (G : Good b s) (hb : b ≤ 1000000) (xs : List D) (h0 : 0 < xs.length) (hl : ((xs.length : Nat) : Int).natAbs.log2 < 9000) :
    ∃ x s', m_law_pick [.deck, .lst xs] s = .ok x s' ∧ x ∈ xs ∧ Good (b + 1) s' := by
  obtain ⟨r, s', e, r0, r1, G'⟩ := sift_eq G hb (many := (xs.length : Int)) (by omega) hl
  obtain ⟨x, hx, ex⟩ := atI_in r0 r1
  refine ⟨x, s', ?_, hx, G'⟩
  unfold m_law_pick g_law_pick
  clear hx r0 r1 G G' hb h0 hl
  simp only [q_def, q_seq, q_ite, q_ret, q_set, q_drop, q_asg, q_for, q_for0, q_fc, q_frd_nx, q_frd_rt, q_frd_ct, q_frd_bk, q_turn, q_mkLst, q_mkTup, Nat.reduceLeDiff, q_and_bl, q_or_bl, q_c0, q_c1, q_c2, q_c3, q_c4, q_c5, q_c6, q_c9, q_c13, decide_true, decide_false, Int.reduceEq, Int.reduceLT, Int.reduceLE, Int.reduceAdd, Int.reduceSub, Int.reduceMul, Int.reduceNeg, Int.reducePow, Int.reduceToNat, Int.reduceBNe, Int.reduceNe, Nat.zero_le, q_get, q_cst, q_lift, q_un, q_with, q_av0, q_avC, q_callN, q_callKW, q_andD, q_orD, q_notD, q_fAnd, q_fOr, q_fNot, q_fTru, q_fBoo, q_ifD, q_isN, q_fIsN, q_fNotN, startD, q_bind, q_toS, q_rt, q_nx, q_thn_nx, q_thn_rt, q_okO, q_nxO, q_pure, q_none0, q_none1, q_none2, q_none3, q_none4, q_tru_bl, q_tru_int, q_tru_lst, q_tru_tup, q_tru_non, q_boo, q_seqL, q_seqT, q_lenL, q_lenT, q_eqI, q_neI, q_lt, q_le, q_gt, q_ge, q_add, q_addL, q_sub, q_neg, q_abs, q_int, q_intB, q_max, q_gcd, q_tupL, q_gL, q_gT, q_g0, q_g1, q_g2, q_lc, q_par, q_parO, q_whS, q_slc, q_prt0, q_prt1, q_intR, q_slcL, q_slcT, q_zipL, q_zipT, q_allp, List.length_map, wipeE, List.map_cons, List.map_nil, List.length_cons, List.length_nil, List.replicate, List.cons_append, List.nil_append, List.getElem?_cons_zero, List.getElem?_cons_succ, List.set_cons_zero, List.set_cons_succ, Nat.reduceSub, Nat.reduceAdd, if_true, Bool.not_true, Bool.not_false, Bool.false_eq_true, if_false, reduceIte, setD, List.foldl_cons, List.foldl_nil, q_asgN, q_asgT, q_asgL, q_asgs0, q_asgsC, Option.bind_some, List.append_nil, is_integer_eq, is_list_eq, q_is2, w_int, i_int, w_lst, w_tup, l_lst, l_tup, l_int, Bool.true_and, Bool.false_and, Bool.and_true, Bool.and_false, *]
theorem ten9 (s : Deck) : powM (.int 10) (.int 9) s = .ok (.int 1000000000) s := q_pow (by decide)
theorem ten30 (s : Deck) : powM (.int 10) (.int 30) s = .ok (.int 1000000000000000000000000000000) s := q_pow (by decide)
theorem ten60 (s : Deck) : powM (.int 10) (.int 60) s = .ok (.int 1000000000000000000000000000000000000000000000000000000000000) s := q_pow (by decide)
theorem log_small {i : Int} (h : i.natAbs < 2 ^ 300) (h0 : 0 < i) : i.natAbs.log2 < 9000 :=
  Nat.lt_trans ((Nat.log2_lt (by omega)).mpr h) (by decide)
theorem value_eq {b : Int} {s : Deck} (G : Good b s) (hb : b + 4 ≤ 1000000) : ∃ d cs s', m_law_value [.deck] s = .ok d s' ∧ NumD d cs ∧ Good (b + 4) s' := by
  obtain ⟨x, s1, e1, hx, G1⟩ := pick_eq G (by omega) [.int 3, .int 11, .int 200, .int 1000000000, .int 999999999999999999999999999999, .int 999999999999999999999999999999999999999999999999999999999999] (by decide) (by decide)
  obtain ⟨m, rfl, m0, m1⟩ : ∃ m : Int, x = .int m ∧ 0 < m ∧ m < 10 ^ 60 := by
    simp only [List.mem_cons, List.not_mem_nil, or_false] at hx
    rcases hx with rfl | rfl | rfl | rfl | rfl | rfl <;> exact ⟨_, rfl, by decide, by decide⟩
  have big : (10 : Int) ^ 60 = 1000000000000000000000000000000000000000000000000000000000000 := by decide
  obtain ⟨r, s2, e2, r0, r1, G2⟩ := sift_eq G1 (by omega) (many := 2 * m + 1) (by omega) (log_small (by rw [big] at m1; omega) (by omega))
  obtain ⟨q, s3, e3, q0, q1, G3⟩ := sift_eq G2 (by omega) (many := m) (by omega) (log_small (by rw [big] at m1; omega) (by omega))
  obtain ⟨k, s4, e4, _, _, G4⟩ := sift_eq G3 (by omega) (many := 2) (by decide) (by decide +kernel)
  have mm := mul0 m s1 (n := 2) (by decide)
  have al := law_alone_eq (r - m) (1 + q)
  have na : (r - m).natAbs < 10 ^ 60 := by rw [big] at m1; omega
  have nb : (1 + q).natAbs < 10 ^ 60 := by rw [big] at m1; omega
  have goal1 : (m_law_value [.deck] s = .ok (.int (r - m)) s4) ∨ (2 ≤ 1 + q ∧ Nat.gcd (r - m).natAbs (1 + q).natAbs = 1 ∧ m_law_value [.deck] s = .ok (.tup [.int (r - m), .int (1 + q)]) s4) := by
    unfold m_law_value g_law_value
    cases c1 : decide (k = 0) with
    | true =>
      left
      clear G G1 G2 G3 G4 hb hx m0 m1 r0 r1 q0 q1 na nb big
      simp only [q_def, q_seq, q_ite, q_ret, q_set, q_drop, q_asg, q_for, q_for0, q_fc, q_frd_nx, q_frd_rt, q_frd_ct, q_frd_bk, q_turn, q_mkLst, q_mkTup, Nat.reduceLeDiff, q_and_bl, q_or_bl, q_c0, q_c1, q_c2, q_c3, q_c4, q_c5, q_c6, q_c9, q_c13, decide_true, decide_false, Int.reduceEq, Int.reduceLT, Int.reduceLE, Int.reduceAdd, Int.reduceSub, Int.reduceMul, Int.reduceNeg, Int.reducePow, Int.reduceToNat, Int.reduceBNe, Int.reduceNe, Nat.zero_le, q_get, q_cst, q_lift, q_un, q_with, q_av0, q_avC, q_callN, q_callKW, q_andD, q_orD, q_notD, q_fAnd, q_fOr, q_fNot, q_fTru, q_fBoo, q_ifD, q_isN, q_fIsN, q_fNotN, startD, q_bind, q_toS, q_rt, q_nx, q_thn_nx, q_thn_rt, q_okO, q_nxO, q_pure, q_none0, q_none1, q_none2, q_none3, q_none4, q_tru_bl, q_tru_int, q_tru_lst, q_tru_tup, q_tru_non, q_boo, q_seqL, q_seqT, q_lenL, q_lenT, q_eqI, q_neI, q_lt, q_le, q_gt, q_ge, q_add, q_addL, q_sub, q_neg, q_abs, q_int, q_intB, q_max, q_gcd, q_tupL, q_gL, q_gT, q_g0, q_g1, q_g2, q_lc, q_par, q_parO, q_whS, q_slc, q_prt0, q_prt1, q_intR, q_slcL, q_slcT, q_zipL, q_zipT, q_allp, List.length_map, wipeE, List.map_cons, List.map_nil, List.length_cons, List.length_nil, List.replicate, List.cons_append, List.nil_append, List.getElem?_cons_zero, List.getElem?_cons_succ, List.set_cons_zero, List.set_cons_succ, Nat.reduceSub, Nat.reduceAdd, if_true, Bool.not_true, Bool.not_false, Bool.false_eq_true, if_false, reduceIte, setD, List.foldl_cons, List.foldl_nil, q_asgN, q_asgT, q_asgL, q_asgs0, q_asgsC, Option.bind_some, List.append_nil, is_integer_eq, is_list_eq, q_is2, w_int, i_int, w_lst, w_tup, l_lst, l_tup, l_int, Bool.true_and, Bool.false_and, Bool.and_true, Bool.and_false, ten9, ten30, ten60, *]
    | false =>
      cases c2 : decide (1 + q = 1) with
      | true =>
        left
        clear G G1 G2 G3 G4 hb hx m0 m1 r0 r1 q0 q1 na nb big
        simp only [q_def, q_seq, q_ite, q_ret, q_set, q_drop, q_asg, q_for, q_for0, q_fc, q_frd_nx, q_frd_rt, q_frd_ct, q_frd_bk, q_turn, q_mkLst, q_mkTup, Nat.reduceLeDiff, q_and_bl, q_or_bl, q_c0, q_c1, q_c2, q_c3, q_c4, q_c5, q_c6, q_c9, q_c13, decide_true, decide_false, Int.reduceEq, Int.reduceLT, Int.reduceLE, Int.reduceAdd, Int.reduceSub, Int.reduceMul, Int.reduceNeg, Int.reducePow, Int.reduceToNat, Int.reduceBNe, Int.reduceNe, Nat.zero_le, q_get, q_cst, q_lift, q_un, q_with, q_av0, q_avC, q_callN, q_callKW, q_andD, q_orD, q_notD, q_fAnd, q_fOr, q_fNot, q_fTru, q_fBoo, q_ifD, q_isN, q_fIsN, q_fNotN, startD, q_bind, q_toS, q_rt, q_nx, q_thn_nx, q_thn_rt, q_okO, q_nxO, q_pure, q_none0, q_none1, q_none2, q_none3, q_none4, q_tru_bl, q_tru_int, q_tru_lst, q_tru_tup, q_tru_non, q_boo, q_seqL, q_seqT, q_lenL, q_lenT, q_eqI, q_neI, q_lt, q_le, q_gt, q_ge, q_add, q_addL, q_sub, q_neg, q_abs, q_int, q_intB, q_max, q_gcd, q_tupL, q_gL, q_gT, q_g0, q_g1, q_g2, q_lc, q_par, q_parO, q_whS, q_slc, q_prt0, q_prt1, q_intR, q_slcL, q_slcT, q_zipL, q_zipT, q_allp, List.length_map, wipeE, List.map_cons, List.map_nil, List.length_cons, List.length_nil, List.replicate, List.cons_append, List.nil_append, List.getElem?_cons_zero, List.getElem?_cons_succ, List.set_cons_zero, List.set_cons_succ, Nat.reduceSub, Nat.reduceAdd, if_true, Bool.not_true, Bool.not_false, Bool.false_eq_true, if_false, reduceIte, setD, List.foldl_cons, List.foldl_nil, q_asgN, q_asgT, q_asgL, q_asgs0, q_asgsC, Option.bind_some, List.append_nil, is_integer_eq, is_list_eq, q_is2, w_int, i_int, w_lst, w_tup, l_lst, l_tup, l_int, Bool.true_and, Bool.false_and, Bool.and_true, Bool.and_false, ten9, ten30, ten60, *]
      | false =>
        have n2 := of_decide_eq_false c2
        cases c3 : decide (Nat.gcd (r - m).natAbs (1 + q).natAbs = 1) with
        | false =>
          left
          simp only [c3] at al
          clear G G1 G2 G3 G4 hb hx m0 m1 r0 r1 q0 q1 na nb big c3 n2
          simp only [q_def, q_seq, q_ite, q_ret, q_set, q_drop, q_asg, q_for, q_for0, q_fc, q_frd_nx, q_frd_rt, q_frd_ct, q_frd_bk, q_turn, q_mkLst, q_mkTup, Nat.reduceLeDiff, q_and_bl, q_or_bl, q_c0, q_c1, q_c2, q_c3, q_c4, q_c5, q_c6, q_c9, q_c13, decide_true, decide_false, Int.reduceEq, Int.reduceLT, Int.reduceLE, Int.reduceAdd, Int.reduceSub, Int.reduceMul, Int.reduceNeg, Int.reducePow, Int.reduceToNat, Int.reduceBNe, Int.reduceNe, Nat.zero_le, q_get, q_cst, q_lift, q_un, q_with, q_av0, q_avC, q_callN, q_callKW, q_andD, q_orD, q_notD, q_fAnd, q_fOr, q_fNot, q_fTru, q_fBoo, q_ifD, q_isN, q_fIsN, q_fNotN, startD, q_bind, q_toS, q_rt, q_nx, q_thn_nx, q_thn_rt, q_okO, q_nxO, q_pure, q_none0, q_none1, q_none2, q_none3, q_none4, q_tru_bl, q_tru_int, q_tru_lst, q_tru_tup, q_tru_non, q_boo, q_seqL, q_seqT, q_lenL, q_lenT, q_eqI, q_neI, q_lt, q_le, q_gt, q_ge, q_add, q_addL, q_sub, q_neg, q_abs, q_int, q_intB, q_max, q_gcd, q_tupL, q_gL, q_gT, q_g0, q_g1, q_g2, q_lc, q_par, q_parO, q_whS, q_slc, q_prt0, q_prt1, q_intR, q_slcL, q_slcT, q_zipL, q_zipT, q_allp, List.length_map, wipeE, List.map_cons, List.map_nil, List.length_cons, List.length_nil, List.replicate, List.cons_append, List.nil_append, List.getElem?_cons_zero, List.getElem?_cons_succ, List.set_cons_zero, List.set_cons_succ, Nat.reduceSub, Nat.reduceAdd, if_true, Bool.not_true, Bool.not_false, Bool.false_eq_true, if_false, reduceIte, setD, List.foldl_cons, List.foldl_nil, q_asgN, q_asgT, q_asgL, q_asgs0, q_asgsC, Option.bind_some, List.append_nil, is_integer_eq, is_list_eq, q_is2, w_int, i_int, w_lst, w_tup, l_lst, l_tup, l_int, Bool.true_and, Bool.false_and, Bool.and_true, Bool.and_false, ten9, ten30, ten60, *]
        | true =>
          right
          refine ⟨by omega, of_decide_eq_true c3, ?_⟩
          simp only [c3] at al
          clear G G1 G2 G3 G4 hb hx m0 m1 r0 r1 q0 q1 na nb big c3 n2
          simp only [q_def, q_seq, q_ite, q_ret, q_set, q_drop, q_asg, q_for, q_for0, q_fc, q_frd_nx, q_frd_rt, q_frd_ct, q_frd_bk, q_turn, q_mkLst, q_mkTup, Nat.reduceLeDiff, q_and_bl, q_or_bl, q_c0, q_c1, q_c2, q_c3, q_c4, q_c5, q_c6, q_c9, q_c13, decide_true, decide_false, Int.reduceEq, Int.reduceLT, Int.reduceLE, Int.reduceAdd, Int.reduceSub, Int.reduceMul, Int.reduceNeg, Int.reducePow, Int.reduceToNat, Int.reduceBNe, Int.reduceNe, Nat.zero_le, q_get, q_cst, q_lift, q_un, q_with, q_av0, q_avC, q_callN, q_callKW, q_andD, q_orD, q_notD, q_fAnd, q_fOr, q_fNot, q_fTru, q_fBoo, q_ifD, q_isN, q_fIsN, q_fNotN, startD, q_bind, q_toS, q_rt, q_nx, q_thn_nx, q_thn_rt, q_okO, q_nxO, q_pure, q_none0, q_none1, q_none2, q_none3, q_none4, q_tru_bl, q_tru_int, q_tru_lst, q_tru_tup, q_tru_non, q_boo, q_seqL, q_seqT, q_lenL, q_lenT, q_eqI, q_neI, q_lt, q_le, q_gt, q_ge, q_add, q_addL, q_sub, q_neg, q_abs, q_int, q_intB, q_max, q_gcd, q_tupL, q_gL, q_gT, q_g0, q_g1, q_g2, q_lc, q_par, q_parO, q_whS, q_slc, q_prt0, q_prt1, q_intR, q_slcL, q_slcT, q_zipL, q_zipT, q_allp, List.length_map, wipeE, List.map_cons, List.map_nil, List.length_cons, List.length_nil, List.replicate, List.cons_append, List.nil_append, List.getElem?_cons_zero, List.getElem?_cons_succ, List.set_cons_zero, List.set_cons_succ, Nat.reduceSub, Nat.reduceAdd, if_true, Bool.not_true, Bool.not_false, Bool.false_eq_true, if_false, reduceIte, setD, List.foldl_cons, List.foldl_nil, q_asgN, q_asgT, q_asgL, q_asgs0, q_asgsC, Option.bind_some, List.append_nil, is_integer_eq, is_list_eq, q_is2, w_int, i_int, w_lst, w_tup, l_lst, l_tup, l_int, Bool.true_and, Bool.false_and, Bool.and_true, Bool.and_false, ten9, ten30, ten60, *]
  have G5 : Good (b + 4) s4 := G4.mono (by omega)
  rcases goal1 with e | ⟨h2, hg, e⟩
  · exact ⟨_, _, _, e, .int na, G5⟩
  · exact ⟨_, _, _, e, .pair na nb h2 hg, G5⟩
theorem bent_eq {b : Int} {s : Deck} (G : Good b s) (hb : b + 3 ≤ 1000000) {cs : List Nat} (hc : ∀ c ∈ cs, c < 128) (hl : cs.length ≤ 123) : ∃ ds s', m_law_bent [.deck, .str (T cs)] s = .ok (.str (T ds)) s' ∧ okT ds = true ∧ Good (b + 3) s' := by
  obtain ⟨a, s1, e1, a0, a1, G1⟩ := sift_eq G (by omega) (many := (cs.length : Int) + 1) (by omega) (log_small (by omega) (by omega))
  obtain ⟨x, s2, e2, hx, G2⟩ := pick_eq G1 (by omega) [.str "0", .str "1", .str "2", .str "6", .str "9", .str "-", .str "/", .str " ", .str "+", .str "_", .str "a", .str "."] (by decide) (by decide)
  obtain ⟨c, rfl, c128⟩ : ∃ c : Nat, x = .str (T [c]) ∧ c < 128 := by
    simp only [List.mem_cons, List.not_mem_nil, or_false] at hx
    rcases hx with rfl | rfl | rfl | rfl | rfl | rfl | rfl | rfl | rfl | rfl | rfl | rfl
    · exact ⟨48, congrArg D.str (by decide +kernel), by decide⟩
    · exact ⟨49, congrArg D.str (by decide +kernel), by decide⟩
    · exact ⟨50, congrArg D.str (by decide +kernel), by decide⟩
    · exact ⟨54, congrArg D.str (by decide +kernel), by decide⟩
    · exact ⟨57, congrArg D.str (by decide +kernel), by decide⟩
    · exact ⟨45, congrArg D.str (by decide +kernel), by decide⟩
    · exact ⟨47, congrArg D.str (by decide +kernel), by decide⟩
    · exact ⟨32, congrArg D.str (by decide +kernel), by decide⟩
    · exact ⟨43, congrArg D.str (by decide +kernel), by decide⟩
    · exact ⟨95, congrArg D.str (by decide +kernel), by decide⟩
    · exact ⟨97, congrArg D.str (by decide +kernel), by decide⟩
    · exact ⟨46, congrArg D.str (by decide +kernel), by decide⟩
  obtain ⟨w, s3, e3, _, _, G3⟩ := sift_eq G2 (by omega) (many := 3) (by decide) (by decide +kernel)
  obtain ⟨n, rfl⟩ := Int.eq_ofNat_of_zero_le a0
  have z1 : (T cs).length ≤ 16777216 := by rw [T_len]; omega
  have ln : ∀ s : Deck, lenM [.str (T cs)] s = .ok (.int (cs.length : Int)) s := fun s => by unfold lenM; simp only [z1, if_true]; rw [T_len]
  have t1 : ∀ s : Deck, slcM (.str (T cs)) none (some (n : Int)) s = .ok (.str (T (cs.take n))) s := fun s => by
    have := cutTo cs n
    unfold slcM
    simp only [z1, if_true]
    exact congrArg (fun x => R.ok (D.str x) s) this
  have t2 : ∀ s : Deck, slcM (.str (T cs)) (some (n : Int)) none s = .ok (.str (T (cs.drop n))) s := fun s => by
    have := cutFrom cs n
    unfold slcM
    simp only [z1, if_true]
    exact congrArg (fun x => R.ok (D.str x) s) this
  have t3 : ∀ s : Deck, slcM (.str (T cs)) (some ((n : Int) + 1)) none s = .ok (.str (T (cs.drop (n + 1)))) s := fun s => by
    have := cutFrom cs (n + 1)
    unfold slcM
    simp only [z1, if_true]
    exact congrArg (fun x => R.ok (D.str x) s) this
  have p1 : ∀ s : Deck, addM (.str (T (cs.take n))) (.str (T [c])) s = .ok (.str (T (cs.take n ++ [c]))) s := fun s => q_addS s (by simp; omega)
  have p2 : ∀ s : Deck, addM (.str (T (cs.take n ++ [c]))) (.str (T (cs.drop n))) s = .ok (.str (T (cs.take n ++ [c] ++ cs.drop n))) s := fun s => q_addS s (by simp; omega)
  have p3 : ∀ s : Deck, addM (.str (T (cs.take n))) (.str (T (cs.drop (n + 1)))) s = .ok (.str (T (cs.take n ++ cs.drop (n + 1)))) s := fun s => q_addS s (by simp; omega)
  have p4 : ∀ s : Deck, addM (.str (T (cs.take n ++ [c]))) (.str (T (cs.drop (n + 1)))) s = .ok (.str (T (cs.take n ++ [c] ++ cs.drop (n + 1)))) s := fun s => q_addS s (by simp; omega)
  have ok1 : okT (cs.take n ++ [c] ++ cs.drop n) = true := okT_of (fun d hd => by
    rcases List.mem_append.mp hd with h | h
    · rcases List.mem_append.mp h with h | h
      · exact hc d (List.mem_of_mem_take h)
      · simp at h; omega
    · exact hc d (List.mem_of_mem_drop h)) (by simp; omega)
  have ok2 : okT (cs.take n ++ cs.drop (n + 1)) = true := okT_of (fun d hd => by
    rcases List.mem_append.mp hd with h | h
    · exact hc d (List.mem_of_mem_take h)
    · exact hc d (List.mem_of_mem_drop h)) (by simp; omega)
  have ok3 : okT (cs.take n ++ [c] ++ cs.drop (n + 1)) = true := okT_of (fun d hd => by
    rcases List.mem_append.mp hd with h | h
    · rcases List.mem_append.mp h with h | h
      · exact hc d (List.mem_of_mem_take h)
      · simp at h; omega
    · exact hc d (List.mem_of_mem_drop h)) (by simp; omega)
  have G4 : Good (b + 3) s3 := G3.mono (by omega)
  unfold m_law_bent g_law_bent
  cases c1 : decide (w = 0) with
  | true =>
    refine ⟨_, s3, ?_, ok1, G4⟩
    clear G G1 G2 G3 G4 hb hx hc hl a0 a1 c128 z1 ok1 ok2 ok3
    simp only [q_def, q_seq, q_ite, q_ret, q_set, q_drop, q_asg, q_for, q_for0, q_fc, q_frd_nx, q_frd_rt, q_frd_ct, q_frd_bk, q_turn, q_mkLst, q_mkTup, Nat.reduceLeDiff, q_and_bl, q_or_bl, q_c0, q_c1, q_c2, q_c3, q_c4, q_c5, q_c6, q_c9, q_c13, decide_true, decide_false, Int.reduceEq, Int.reduceLT, Int.reduceLE, Int.reduceAdd, Int.reduceSub, Int.reduceMul, Int.reduceNeg, Int.reducePow, Int.reduceToNat, Int.reduceBNe, Int.reduceNe, Nat.zero_le, q_get, q_cst, q_lift, q_un, q_with, q_av0, q_avC, q_callN, q_callKW, q_andD, q_orD, q_notD, q_fAnd, q_fOr, q_fNot, q_fTru, q_fBoo, q_ifD, q_isN, q_fIsN, q_fNotN, startD, q_bind, q_toS, q_rt, q_nx, q_thn_nx, q_thn_rt, q_okO, q_nxO, q_pure, q_none0, q_none1, q_none2, q_none3, q_none4, q_tru_bl, q_tru_int, q_tru_lst, q_tru_tup, q_tru_non, q_boo, q_seqL, q_seqT, q_lenL, q_lenT, q_eqI, q_neI, q_lt, q_le, q_gt, q_ge, q_add, q_addL, q_sub, q_neg, q_abs, q_int, q_intB, q_max, q_gcd, q_tupL, q_gL, q_gT, q_g0, q_g1, q_g2, q_lc, q_par, q_parO, q_whS, q_slc, q_prt0, q_prt1, q_intR, q_slcL, q_slcT, q_zipL, q_zipT, q_allp, List.length_map, wipeE, List.map_cons, List.map_nil, List.length_cons, List.length_nil, List.replicate, List.cons_append, List.nil_append, List.getElem?_cons_zero, List.getElem?_cons_succ, List.set_cons_zero, List.set_cons_succ, Nat.reduceSub, Nat.reduceAdd, if_true, Bool.not_true, Bool.not_false, Bool.false_eq_true, if_false, reduceIte, setD, List.foldl_cons, List.foldl_nil, q_asgN, q_asgT, q_asgL, q_asgs0, q_asgsC, Option.bind_some, List.append_nil, is_integer_eq, is_list_eq, q_is2, w_int, i_int, w_lst, w_tup, l_lst, l_tup, l_int, Bool.true_and, Bool.false_and, Bool.and_true, Bool.and_false, *]
  | false =>
    cases c2 : decide (w = 1) with
    | true =>
      refine ⟨_, s3, ?_, ok2, G4⟩
      clear G G1 G2 G3 G4 hb hx hc hl a0 a1 c128 z1 ok1 ok2 ok3
      simp only [q_def, q_seq, q_ite, q_ret, q_set, q_drop, q_asg, q_for, q_for0, q_fc, q_frd_nx, q_frd_rt, q_frd_ct, q_frd_bk, q_turn, q_mkLst, q_mkTup, Nat.reduceLeDiff, q_and_bl, q_or_bl, q_c0, q_c1, q_c2, q_c3, q_c4, q_c5, q_c6, q_c9, q_c13, decide_true, decide_false, Int.reduceEq, Int.reduceLT, Int.reduceLE, Int.reduceAdd, Int.reduceSub, Int.reduceMul, Int.reduceNeg, Int.reducePow, Int.reduceToNat, Int.reduceBNe, Int.reduceNe, Nat.zero_le, q_get, q_cst, q_lift, q_un, q_with, q_av0, q_avC, q_callN, q_callKW, q_andD, q_orD, q_notD, q_fAnd, q_fOr, q_fNot, q_fTru, q_fBoo, q_ifD, q_isN, q_fIsN, q_fNotN, startD, q_bind, q_toS, q_rt, q_nx, q_thn_nx, q_thn_rt, q_okO, q_nxO, q_pure, q_none0, q_none1, q_none2, q_none3, q_none4, q_tru_bl, q_tru_int, q_tru_lst, q_tru_tup, q_tru_non, q_boo, q_seqL, q_seqT, q_lenL, q_lenT, q_eqI, q_neI, q_lt, q_le, q_gt, q_ge, q_add, q_addL, q_sub, q_neg, q_abs, q_int, q_intB, q_max, q_gcd, q_tupL, q_gL, q_gT, q_g0, q_g1, q_g2, q_lc, q_par, q_parO, q_whS, q_slc, q_prt0, q_prt1, q_intR, q_slcL, q_slcT, q_zipL, q_zipT, q_allp, List.length_map, wipeE, List.map_cons, List.map_nil, List.length_cons, List.length_nil, List.replicate, List.cons_append, List.nil_append, List.getElem?_cons_zero, List.getElem?_cons_succ, List.set_cons_zero, List.set_cons_succ, Nat.reduceSub, Nat.reduceAdd, if_true, Bool.not_true, Bool.not_false, Bool.false_eq_true, if_false, reduceIte, setD, List.foldl_cons, List.foldl_nil, q_asgN, q_asgT, q_asgL, q_asgs0, q_asgsC, Option.bind_some, List.append_nil, is_integer_eq, is_list_eq, q_is2, w_int, i_int, w_lst, w_tup, l_lst, l_tup, l_int, Bool.true_and, Bool.false_and, Bool.and_true, Bool.and_false, *]
    | false =>
      refine ⟨_, s3, ?_, ok3, G4⟩
      clear G G1 G2 G3 G4 hb hx hc hl a0 a1 c128 z1 ok1 ok2 ok3
      simp only [q_def, q_seq, q_ite, q_ret, q_set, q_drop, q_asg, q_for, q_for0, q_fc, q_frd_nx, q_frd_rt, q_frd_ct, q_frd_bk, q_turn, q_mkLst, q_mkTup, Nat.reduceLeDiff, q_and_bl, q_or_bl, q_c0, q_c1, q_c2, q_c3, q_c4, q_c5, q_c6, q_c9, q_c13, decide_true, decide_false, Int.reduceEq, Int.reduceLT, Int.reduceLE, Int.reduceAdd, Int.reduceSub, Int.reduceMul, Int.reduceNeg, Int.reducePow, Int.reduceToNat, Int.reduceBNe, Int.reduceNe, Nat.zero_le, q_get, q_cst, q_lift, q_un, q_with, q_av0, q_avC, q_callN, q_callKW, q_andD, q_orD, q_notD, q_fAnd, q_fOr, q_fNot, q_fTru, q_fBoo, q_ifD, q_isN, q_fIsN, q_fNotN, startD, q_bind, q_toS, q_rt, q_nx, q_thn_nx, q_thn_rt, q_okO, q_nxO, q_pure, q_none0, q_none1, q_none2, q_none3, q_none4, q_tru_bl, q_tru_int, q_tru_lst, q_tru_tup, q_tru_non, q_boo, q_seqL, q_seqT, q_lenL, q_lenT, q_eqI, q_neI, q_lt, q_le, q_gt, q_ge, q_add, q_addL, q_sub, q_neg, q_abs, q_int, q_intB, q_max, q_gcd, q_tupL, q_gL, q_gT, q_g0, q_g1, q_g2, q_lc, q_par, q_parO, q_whS, q_slc, q_prt0, q_prt1, q_intR, q_slcL, q_slcT, q_zipL, q_zipT, q_allp, List.length_map, wipeE, List.map_cons, List.map_nil, List.length_cons, List.length_nil, List.replicate, List.cons_append, List.nil_append, List.getElem?_cons_zero, List.getElem?_cons_succ, List.set_cons_zero, List.set_cons_succ, Nat.reduceSub, Nat.reduceAdd, if_true, Bool.not_true, Bool.not_false, Bool.false_eq_true, if_false, reduceIte, setD, List.foldl_cons, List.foldl_nil, q_asgN, q_asgT, q_asgL, q_asgs0, q_asgsC, Option.bind_some, List.append_nil, is_integer_eq, is_list_eq, q_is2, w_int, i_int, w_lst, w_tup, l_lst, l_tup, l_int, Bool.true_and, Bool.false_and, Bool.and_true, Bool.and_false, *]
end K04

namespace K04
open PySem PySem.Builtin PySem.Builtin.Str L2 FL
/-! ### the law -/
def turnB : FS := (seqS (setS 3 (withA (avC (getE 1) av0) (callN 1 m_law_value)))
    (seqS (setS 4 (withA (avC (getE 3) av0) (callN 1 m_law_written)))
    (seqS (setS 5 (ifD (fTru (isiF (getE 3) "tuple")) (withA (avC (getE 3) av0) lstM) (getE 3)))
    (seqS (iteS (fOr (fBoo (lift2 neM (withA (avC (withA (avC (withA (avC (getE 3) av0) (callN 1 m_number_text)) (avC (withA (avC (getE 5) av0) (callKW 1 [0] 1 m_number_text)) av0)) mkLst) av0) reprM) (withA (avC (withA (avC (getE 4) (avC (getE 4) av0)) mkLst) av0) reprM))) (fBoo (lift2 neM (withA (avC (withA (avC (getE 4) av0) (callN 1 m_law_told)) av0) reprM) (withA (avC (withA (avC (getE 3) av0) mkLst) av0) reprM)))) (retS (cst (.bl false))) (fun δ s => .nx δ s))
    (seqS (setS 6 (withA (avC (getE 1) (avC (getE 4) av0)) (callN 2 m_law_bent)))
    (iteS (fBoo (lift2 neM (withA (avC (withA (avC (getE 6) av0) (callN 1 m_law_told)) av0) reprM) (withA (avC (withA (avC (getE 6) av0) (callN 1 m_law_read)) av0) reprM))) (retS (cst (.bl false))) (fun δ s => .nx δ s)))))))
def valB : FS := (iteS (fBoo (lift2 neM (withA (avC (getE 7) av0) (callN 1 m_law_told)) (withA (avC (cst (.str "BadText")) (avC (cst (.int 0)) (avC (cst (.int 0)) av0))) mkTup))) (retS (cst (.bl false))) (fun δ s => .nx δ s))
def wordB : FS := (iteS (fBoo (lift2 neM (withA (avC (getE 4) av0) (callN 1 m_law_told)) (withA (avC (cst (.str "BadText")) (avC (cst (.int 0)) (avC (cst (.int 0)) av0))) mkTup))) (retS (cst (.bl false))) (fun δ s => .nx δ s))
theorem law_fold : g_law = (seqS (forS (fun δ s => ((avC (cst (.int 8)) av0) δ s).bind rng1M) (.nm 2) turnB) (seqS (forS (fun δ s => ((withA (avC (cst .non) (avC (cst (.bl true)) (avC (cst (.int 7)) (avC (withA (avC (cst (.str "7")) av0) mkLst) (avC (withA (avC (cst (.str "7")) av0) mkTup) (avC (fun δ s => ((dvC (cst (.str "7")) (cst (.int 7)) dv0) δ s).bind mkDct) av0)))))) mkTup) δ s).bind seqM) (.nm 7) valB) (seqS (setS 8 (withA (avC (getE 1) (avC (withA (avC (cst .non) (avC (cst (.str "7")) (avC (cst (.bl false)) (avC (withA (avC (cst (.int 4)) (avC (cst (.int 2)) av0)) mkTup) (avC (withA (avC (cst (.int 1)) (avC (cst (.int 1)) av0)) mkTup) (avC (withA (avC (cst (.int 1)) (avC (cst (.int 0)) av0)) mkLst) (avC (withA (avC (cst (.int 1)) (avC (cst (.int 2)) (avC (cst (.int 3)) av0))) mkTup) av0))))))) mkLst) av0)) (callN 2 m_law_pick))) (seqS (setS 9 (withA (avC (getE 1) (avC (withA (avC (cst (.str "1_0")) (avC (cst (.str "7/1_1")) (avC (cst (.str "1\n")) (avC (cst (.str " 1")) (avC (cst (.str "+1")) (avC (cst (.str "1/-2")) (avC (cst (.str "--1")) av0))))))) mkLst) av0)) (callN 2 m_law_pick))) (seqS (forS (fun δ s => ((withA (avC (cst (.str "")) (avC (cst (.str "7 ")) (avC (getE 9) av0))) mkTup) δ s).bind seqM) (.nm 4) wordB) (retS (withA (avC (getE 8) av0) (callN 1 m_law_refused)))))))) := rfl
theorem q_perm1 {a : D} : permL .non [0] [a] = [a] := rfl
theorem rng_eq {n : Int} (s : Deck) (h0 : 0 ≤ n) (h1 : n ≤ 1000) : rng1M [.int n] s = .ok (rng 0 n.toNat) s := by
  have h : small62 n = true := decide_eq_true (by omega)
  unfold rng1M
  simp only [h, if_true]
def Sh (δ : DEnv) : Prop := ∃ y0 y2 y3 y4 y5 y6 y7 y8 y9 : Option D, δ = [y0, some .deck, y2, y3, y4, y5, y6, y7, y8, y9]
theorem sh0 : Sh (deck0 10) := ⟨none, none, none, none, none, none, none, none, none, rfl⟩
def listedD : D → D
  | .tup xs => .lst xs
  | d => d
theorem turn_eq (x : D) (b : Int) (s : Deck) (δ : DEnv) (hδ : Sh δ) (G : Good b s) (hb : b + 7 ≤ 1000000) : ∃ δ' s', turnS (.nm 2) turnB x δ s = .nx δ' s' ∧ Sh δ' ∧ Good (b + 7) s' := by
  obtain ⟨y0, y2, y3, y4, y5, y6, y7, y8, y9, rfl⟩ := hδ
  obtain ⟨d, cs, s1, e1, n, G1⟩ := value_eq G (by omega)
  obtain ⟨hc, hl⟩ := n.okc
  have okc : okT cs = true := okT_of hc (by omega)
  obtain ⟨ds, s2, e2, okd, G2⟩ := bent_eq G1 (by omega) hc hl
  have wr := fun s => written_eq n s
  obtain ⟨x1, a1, a2⟩ := shows_words n
  have rdc : rdT cs = .lst [d] := by unfold rdT; rw [n.read]
  have td : ∀ s : Deck, m_law_told [.str (T cs)] s = .ok (.lst [d]) s := fun s => by rw [told_eq okc, rdc]
  obtain ⟨x2, b1, b2⟩ := shows_rd cs
  rw [rdc] at b1
  have tb := fun s => told_eq okd s
  have rb := fun s => law_read_eq okd s
  obtain ⟨x3, c1, c2⟩ := shows_rd ds
  refine ⟨[y0, some .deck, some x, some d, some (.str (T cs)), some (listedD d), some (.str (T ds)), y7, y8, y9], s2, ?_, ⟨_, _, _, _, _, _, _, _, _, rfl⟩, G2.mono (by omega)⟩
  unfold turnB
  cases n with
  | int h =>
    have t1 := fun s => text_int h s
    clear h G G1 G2 hb hc hl okc okd rdc
    simp only [q_def, q_seq, q_ite, q_ret, q_set, q_drop, q_asg, q_for, q_for0, q_fc, q_frd_nx, q_frd_rt, q_frd_ct, q_frd_bk, q_turn, q_mkLst, q_mkTup, Nat.reduceLeDiff, q_and_bl, q_or_bl, q_c0, q_c1, q_c2, q_c3, q_c4, q_c5, q_c6, q_c9, q_c13, decide_true, decide_false, Int.reduceEq, Int.reduceLT, Int.reduceLE, Int.reduceAdd, Int.reduceSub, Int.reduceMul, Int.reduceNeg, Int.reducePow, Int.reduceToNat, Int.reduceBNe, Int.reduceNe, Nat.zero_le, q_get, q_cst, q_lift, q_un, q_with, q_av0, q_avC, q_callN, q_callKW, q_andD, q_orD, q_notD, q_fAnd, q_fOr, q_fNot, q_fTru, q_fBoo, q_ifD, q_isN, q_fIsN, q_fNotN, startD, q_bind, q_toS, q_rt, q_nx, q_thn_nx, q_thn_rt, q_okO, q_nxO, q_pure, q_none0, q_none1, q_none2, q_none3, q_none4, q_tru_bl, q_tru_int, q_tru_lst, q_tru_tup, q_tru_non, q_boo, q_seqL, q_seqT, q_lenL, q_lenT, q_eqI, q_neI, q_lt, q_le, q_gt, q_ge, q_add, q_addL, q_sub, q_neg, q_abs, q_int, q_intB, q_max, q_gcd, q_tupL, q_gL, q_gT, q_g0, q_g1, q_g2, q_lc, q_par, q_parO, q_whS, q_slc, q_prt0, q_prt1, q_intR, q_slcL, q_slcT, q_zipL, q_zipT, q_allp, List.length_map, wipeE, List.map_cons, List.map_nil, List.length_cons, List.length_nil, List.replicate, List.cons_append, List.nil_append, List.getElem?_cons_zero, List.getElem?_cons_succ, List.set_cons_zero, List.set_cons_succ, Nat.reduceSub, Nat.reduceAdd, if_true, Bool.not_true, Bool.not_false, Bool.false_eq_true, if_false, reduceIte, setD, List.foldl_cons, List.foldl_nil, q_asgN, q_asgT, q_asgL, q_asgs0, q_asgsC, Option.bind_some, List.append_nil, is_integer_eq, is_list_eq, q_is2, w_int, i_int, w_lst, w_tup, l_lst, l_tup, l_int, Bool.true_and, Bool.false_and, Bool.and_true, Bool.and_false, q_isTup, q_perm1, listedD, *]
  | pair ha hb' h2 hg =>
    have t1 := fun s => text_pair ha hb' h2 hg _ (.inr rfl) s
    have t2 := fun s => text_pair ha hb' h2 hg _ (.inl rfl) s
    have l1 : ∀ (xs : List D) (s : Deck), lstM [.tup xs] s = .ok (.lst xs) s := fun xs s => rfl
    clear ha hb' h2 hg G G1 G2 hb hc hl okc okd rdc
    simp only [q_def, q_seq, q_ite, q_ret, q_set, q_drop, q_asg, q_for, q_for0, q_fc, q_frd_nx, q_frd_rt, q_frd_ct, q_frd_bk, q_turn, q_mkLst, q_mkTup, Nat.reduceLeDiff, q_and_bl, q_or_bl, q_c0, q_c1, q_c2, q_c3, q_c4, q_c5, q_c6, q_c9, q_c13, decide_true, decide_false, Int.reduceEq, Int.reduceLT, Int.reduceLE, Int.reduceAdd, Int.reduceSub, Int.reduceMul, Int.reduceNeg, Int.reducePow, Int.reduceToNat, Int.reduceBNe, Int.reduceNe, Nat.zero_le, q_get, q_cst, q_lift, q_un, q_with, q_av0, q_avC, q_callN, q_callKW, q_andD, q_orD, q_notD, q_fAnd, q_fOr, q_fNot, q_fTru, q_fBoo, q_ifD, q_isN, q_fIsN, q_fNotN, startD, q_bind, q_toS, q_rt, q_nx, q_thn_nx, q_thn_rt, q_okO, q_nxO, q_pure, q_none0, q_none1, q_none2, q_none3, q_none4, q_tru_bl, q_tru_int, q_tru_lst, q_tru_tup, q_tru_non, q_boo, q_seqL, q_seqT, q_lenL, q_lenT, q_eqI, q_neI, q_lt, q_le, q_gt, q_ge, q_add, q_addL, q_sub, q_neg, q_abs, q_int, q_intB, q_max, q_gcd, q_tupL, q_gL, q_gT, q_g0, q_g1, q_g2, q_lc, q_par, q_parO, q_whS, q_slc, q_prt0, q_prt1, q_intR, q_slcL, q_slcT, q_zipL, q_zipT, q_allp, List.length_map, wipeE, List.map_cons, List.map_nil, List.length_cons, List.length_nil, List.replicate, List.cons_append, List.nil_append, List.getElem?_cons_zero, List.getElem?_cons_succ, List.set_cons_zero, List.set_cons_succ, Nat.reduceSub, Nat.reduceAdd, if_true, Bool.not_true, Bool.not_false, Bool.false_eq_true, if_false, reduceIte, setD, List.foldl_cons, List.foldl_nil, q_asgN, q_asgT, q_asgL, q_asgs0, q_asgsC, Option.bind_some, List.append_nil, is_integer_eq, is_list_eq, q_is2, w_int, i_int, w_lst, w_tup, l_lst, l_tup, l_int, Bool.true_and, Bool.false_and, Bool.and_true, Bool.and_false, q_isTup, q_perm1, listedD, *]
theorem loop_eq : ∀ (xs : List D) (b : Int) (s : Deck) (δ : DEnv), Sh δ → Good b s → b + 7 * xs.length ≤ 1000000 → ∃ δ' s', forD (turnS (.nm 2) turnB) xs δ s = .nx δ' s' ∧ Sh δ' ∧ Good (b + 7 * xs.length) s'
  | [], b, s, δ, h, G, _ => ⟨δ, s, rfl, h, by simpa using G⟩
  | x :: xs, b, s, δ, hδ, G, hb => by
    rw [List.length_cons] at hb ⊢
    obtain ⟨δ1, s1, e, h1, G1⟩ := turn_eq x b s δ hδ G (by omega)
    obtain ⟨δ2, s2, e2, h2, G2⟩ := loop_eq xs (b + 7) s1 δ1 h1 G1 (by omega)
    refine ⟨δ2, s2, by rw [q_forC e]; exact e2, h2, G2.mono (by omega)⟩
theorem ne_ref (s : Deck) : neM (.tup [.str "BadText", .int 0, .int 0]) (.tup [.str "BadText", .int 0, .int 0]) s = .ok (.bl false) s := by
  have hp : py (.tup [.str "BadText", .int 0, .int 0]) = some (.tuple [.str "BadText", .int 0, .int 0]) := rfl
  have h1 : SeqAt.shaped (.tuple [.str "BadText", .int 0, .int 0]) = true := by decide +kernel
  have h2 : PyData.eqv (.tuple [.str "BadText", .int 0, .int 0]) (.tuple [.str "BadText", .int 0, .int 0]) = true := by decide +kernel
  unfold neM eqO
  simp only [hp, h1, h2, if_true, Option.map_some]
  rfl
theorem told_no' (d : D) (h : (match d with | .str _ => true | _ => false) = false) (s : Deck) : m_law_told [d] s = .ok (.tup [.str "BadText", .int 0, .int 0]) s := told_no d h s
theorem q_dv0 {δ : DEnv} {s : Deck} : dv0 δ s = .ok [] s := rfl
theorem q_dvC {f g : FE} {h : FP} {δ : DEnv} {s : Deck} : dvC f g h δ s = (f δ s).bind fun x s => (g δ s).bind fun y s => (h δ s).bind fun r s => .ok ((x, y) :: r) s := rfl
theorem q_dct {s : Deck} : mkDct [(.str "7", .int 7)] s = .ok (.dct [(.inr "7", .int 7)]) s := rfl
def badL : List D := [.non, .str "7", .bl false, .tup [.int 4, .int 2], .tup [.int 1, .int 1], .lst [.int 1, .int 0], .tup [.int 1, .int 2, .int 3]]
theorem bad_no : ∀ x ∈ badL, nodk x = true ∧ num x = false := by
  have h : badL.all (fun x => nodk x && !num x) = true := by decide +kernel
  intro x hx
  have := List.all_eq_true.mp h x hx
  simpa using this
def badN : Ex := ⟨"BadNumber", [("part", .str "value")]⟩
theorem text_bad {x : D} (h : nodk x = true) (h2 : num x = false) (s : Deck) : m_number_text [x] s = .raise badN s := by
  unfold m_number_text g_number_text
  have n1 : ∀ s : Deck, m_is_number [x] s = .ok (.bl false) s := fun s => by rw [is_number_eq x h, h2]
  clear h h2
  simp only [q_def, q_seq, q_ite, q_ret, q_set, q_drop, q_asg, q_for, q_for0, q_fc, q_frd_nx, q_frd_rt, q_frd_ct, q_frd_bk, q_turn, q_mkLst, q_mkTup, Nat.reduceLeDiff, q_and_bl, q_or_bl, q_c0, q_c1, q_c2, q_c3, q_c4, q_c5, q_c6, q_c9, q_c13, decide_true, decide_false, Int.reduceEq, Int.reduceLT, Int.reduceLE, Int.reduceAdd, Int.reduceSub, Int.reduceMul, Int.reduceNeg, Int.reducePow, Int.reduceToNat, Int.reduceBNe, Int.reduceNe, Nat.zero_le, q_get, q_cst, q_lift, q_un, q_with, q_av0, q_avC, q_callN, q_callKW, q_andD, q_orD, q_notD, q_fAnd, q_fOr, q_fNot, q_fTru, q_fBoo, q_ifD, q_isN, q_fIsN, q_fNotN, startD, q_bind, q_toS, q_rt, q_nx, q_thn_nx, q_thn_rt, q_okO, q_nxO, q_pure, q_none0, q_none1, q_none2, q_none3, q_none4, q_tru_bl, q_tru_int, q_tru_lst, q_tru_tup, q_tru_non, q_boo, q_seqL, q_seqT, q_lenL, q_lenT, q_eqI, q_neI, q_lt, q_le, q_gt, q_ge, q_add, q_addL, q_sub, q_neg, q_abs, q_int, q_intB, q_max, q_gcd, q_tupL, q_gL, q_gT, q_g0, q_g1, q_g2, q_lc, q_par, q_parO, q_whS, q_slc, q_prt0, q_prt1, q_intR, q_slcL, q_slcT, q_zipL, q_zipT, q_allp, List.length_map, wipeE, List.map_cons, List.map_nil, List.length_cons, List.length_nil, List.replicate, List.cons_append, List.nil_append, List.getElem?_cons_zero, List.getElem?_cons_succ, List.set_cons_zero, List.set_cons_succ, Nat.reduceSub, Nat.reduceAdd, if_true, Bool.not_true, Bool.not_false, Bool.false_eq_true, if_false, reduceIte, setD, List.foldl_cons, List.foldl_nil, q_asgN, q_asgT, q_asgL, q_asgs0, q_asgsC, Option.bind_some, List.append_nil, is_integer_eq, is_list_eq, q_is2, w_int, i_int, w_lst, w_tup, l_lst, l_tup, l_int, Bool.true_and, Bool.false_and, Bool.and_true, Bool.and_false, q_rs, *]
  rfl
theorem tbl2 : tbl "BadNumber" "BadNumber" = some true := by decide +kernel
theorem eq_value (s : Deck) : eqM (.str "value") (.str "value") s = .ok (.bl true) s := by
  have hp : py (.str "value") = some (.str "value") := rfl
  have h1 : SeqAt.shaped (.str "value") = true := by decide +kernel
  have h2 : PyData.eqv (.str "value") (.str "value") = true := by decide +kernel
  unfold eqM eqO
  simp only [hp, h1, h2, if_true, Option.map_some]
  rfl
theorem refused_eq {x : D} (h : x ∈ badL) (s : Deck) : m_law_refused [x] s = .ok (.bl true) s := by
  obtain ⟨h1, h2⟩ := bad_no x h
  have t := fun s => text_bad h1 h2 s
  have c : ∀ (r : List (Str × Nat × HS)) (g : HS) (δ : DEnv) (s : Deck), 2 < δ.length → catchS tbl (("BadNumber", 2, g) :: r) badN δ s = unS 2 (g badN (δ.set 2 none) s) := fun r g δ s hl => q_catch tbl2 hl
  have f1 : ∀ (δ : DEnv) (s : Deck), fldH "BadNumber" "part" badN δ s = .ok (.str "value") s := fun δ s => q_fld rfl
  unfold m_law_refused g_law_refused
  clear h h1 h2
  simp only [q_def, q_seq, q_ite, q_ret, q_set, q_drop, q_asg, q_for, q_for0, q_fc, q_frd_nx, q_frd_rt, q_frd_ct, q_frd_bk, q_turn, q_mkLst, q_mkTup, Nat.reduceLeDiff, q_and_bl, q_or_bl, q_c0, q_c1, q_c2, q_c3, q_c4, q_c5, q_c6, q_c9, q_c13, decide_true, decide_false, Int.reduceEq, Int.reduceLT, Int.reduceLE, Int.reduceAdd, Int.reduceSub, Int.reduceMul, Int.reduceNeg, Int.reducePow, Int.reduceToNat, Int.reduceBNe, Int.reduceNe, Nat.zero_le, q_get, q_cst, q_lift, q_un, q_with, q_av0, q_avC, q_callN, q_callKW, q_andD, q_orD, q_notD, q_fAnd, q_fOr, q_fNot, q_fTru, q_fBoo, q_ifD, q_isN, q_fIsN, q_fNotN, startD, q_bind, q_toS, q_rt, q_nx, q_thn_nx, q_thn_rt, q_okO, q_nxO, q_pure, q_none0, q_none1, q_none2, q_none3, q_none4, q_tru_bl, q_tru_int, q_tru_lst, q_tru_tup, q_tru_non, q_boo, q_seqL, q_seqT, q_lenL, q_lenT, q_eqI, q_neI, q_lt, q_le, q_gt, q_ge, q_add, q_addL, q_sub, q_neg, q_abs, q_int, q_intB, q_max, q_gcd, q_tupL, q_gL, q_gT, q_g0, q_g1, q_g2, q_lc, q_par, q_parO, q_whS, q_slc, q_prt0, q_prt1, q_intR, q_slcL, q_slcT, q_zipL, q_zipT, q_allp, List.length_map, wipeE, List.map_cons, List.map_nil, List.length_cons, List.length_nil, List.replicate, List.cons_append, List.nil_append, List.getElem?_cons_zero, List.getElem?_cons_succ, List.set_cons_zero, List.set_cons_succ, Nat.reduceSub, Nat.reduceAdd, if_true, Bool.not_true, Bool.not_false, Bool.false_eq_true, if_false, reduceIte, setD, List.foldl_cons, List.foldl_nil, q_asgN, q_asgT, q_asgL, q_asgs0, q_asgsC, Option.bind_some, List.append_nil, is_integer_eq, is_list_eq, q_is2, w_int, i_int, w_lst, w_tup, l_lst, l_tup, l_int, Bool.true_and, Bool.false_and, Bool.and_true, Bool.and_false, q_try, q_braise, q_toS_raise, q_try_raise, q_un_rt, Nat.reduceLT, eq_value, *]
def oddZ : List Str := ["1_0", "7/1_1", "1\n", " 1", "+1", "1/-2", "--1", "", "7 "]
theorem odd_no : ∀ z ∈ oddZ, okT (cp z) = true ∧ rd (cp z) = none := by
  have h : oddZ.all (fun z => okT (cp z) && (rd (cp z)).isNone) = true := by decide +kernel
  intro z hz
  have := List.all_eq_true.mp h z hz
  rw [Bool.and_eq_true, Option.isNone_iff_eq_none] at this
  exact this
theorem told_odd {z : Str} (h : z ∈ oddZ) (s : Deck) : m_law_told [.str z] s = .ok (.tup [.str "BadText", .int 0, .int 0]) s := by
  obtain ⟨h1, h2⟩ := odd_no z h
  have := told_eq h1 s
  rw [T_cp] at this
  rw [this]
  unfold rdT
  rw [h2]
  rfl
theorem law_true (cells : List Int) : ∃ s', g_law (deck0 N_law.length) ⟨cells, 0, 0⟩ = .rt (.bl true) s' := by
  obtain ⟨δ1, s1, e1, ⟨y0, y2, y3, y4, y5, y6, y7, y8, y9, rfl⟩, G1⟩ := loop_eq (rng 0 8) 0 ⟨cells, 0, 0⟩ (deck0 10) sh0 ⟨Int.le_refl 0, Int.le_refl 0, Int.le_refl 0⟩ (by decide)
  have r8 : ∀ s : Deck, rng1M [.int 8] s = .ok (rng 0 8) s := fun s => rng_eq s (by decide) (by decide)
  have G1 : Good 56 s1 := G1
  obtain ⟨x, s2, e2, hx, G2⟩ := pick_eq G1 (by decide) badL (by decide) (by decide)
  obtain ⟨y, s3, e3, hy, G3⟩ := pick_eq G2 (by decide) [.str "1_0", .str "7/1_1", .str "1\n", .str " 1", .str "+1", .str "1/-2", .str "--1"] (by decide) (by decide)
  obtain ⟨z, rfl, hz⟩ : ∃ z : Str, y = .str z ∧ z ∈ oddZ := by
    simp only [List.mem_cons, List.not_mem_nil, or_false] at hy
    rcases hy with rfl | rfl | rfl | rfl | rfl | rfl | rfl <;> exact ⟨_, rfl, by simp [oddZ]⟩
  refine ⟨s3, ?_⟩
  show g_law (deck0 10) ⟨cells, 0, 0⟩ = _
  rw [law_fold]
  have tz := fun s => told_odd hz s
  have t0 := fun s => told_odd (z := "") (by simp [oddZ]) s
  have t7 := fun s => told_odd (z := "7 ") (by simp [oddZ]) s
  have rf := fun s => refused_eq hx s
  have v1 := fun s => told_no' .non rfl s
  have v2 := fun s => told_no' (.bl true) rfl s
  have v3 := fun s => told_no' (.int 7) rfl s
  have v4 := fun s => told_no' (.lst [.str "7"]) rfl s
  have v5 := fun s => told_no' (.tup [.str "7"]) rfl s
  have v6 := fun s => told_no' (.dct [(.inr "7", .int 7)]) rfl s
  unfold badL at e2
  clear hx hy hz G1 G2 G3
  unfold valB wordB
  simp only [q_def, q_seq, q_ite, q_ret, q_set, q_drop, q_asg, q_for, q_for0, q_fc, q_frd_nx, q_frd_rt, q_frd_ct, q_frd_bk, q_turn, q_mkLst, q_mkTup, Nat.reduceLeDiff, q_and_bl, q_or_bl, q_c0, q_c1, q_c2, q_c3, q_c4, q_c5, q_c6, q_c9, q_c13, decide_true, decide_false, Int.reduceEq, Int.reduceLT, Int.reduceLE, Int.reduceAdd, Int.reduceSub, Int.reduceMul, Int.reduceNeg, Int.reducePow, Int.reduceToNat, Int.reduceBNe, Int.reduceNe, Nat.zero_le, q_get, q_cst, q_lift, q_un, q_with, q_av0, q_avC, q_callN, q_callKW, q_andD, q_orD, q_notD, q_fAnd, q_fOr, q_fNot, q_fTru, q_fBoo, q_ifD, q_isN, q_fIsN, q_fNotN, startD, q_bind, q_toS, q_rt, q_nx, q_thn_nx, q_thn_rt, q_okO, q_nxO, q_pure, q_none0, q_none1, q_none2, q_none3, q_none4, q_tru_bl, q_tru_int, q_tru_lst, q_tru_tup, q_tru_non, q_boo, q_seqL, q_seqT, q_lenL, q_lenT, q_eqI, q_neI, q_lt, q_le, q_gt, q_ge, q_add, q_addL, q_sub, q_neg, q_abs, q_int, q_intB, q_max, q_gcd, q_tupL, q_gL, q_gT, q_g0, q_g1, q_g2, q_lc, q_par, q_parO, q_whS, q_slc, q_prt0, q_prt1, q_intR, q_slcL, q_slcT, q_zipL, q_zipT, q_allp, List.length_map, wipeE, List.map_cons, List.map_nil, List.length_cons, List.length_nil, List.replicate, List.cons_append, List.nil_append, List.getElem?_cons_zero, List.getElem?_cons_succ, List.set_cons_zero, List.set_cons_succ, Nat.reduceSub, Nat.reduceAdd, if_true, Bool.not_true, Bool.not_false, Bool.false_eq_true, if_false, reduceIte, setD, List.foldl_cons, List.foldl_nil, q_asgN, q_asgT, q_asgL, q_asgs0, q_asgsC, Option.bind_some, List.append_nil, is_integer_eq, is_list_eq, q_is2, w_int, i_int, w_lst, w_tup, l_lst, l_tup, l_int, Bool.true_and, Bool.false_and, Bool.and_true, Bool.and_false, ne_ref, q_dv0, q_dvC, q_dct, *]
end K04

namespace K04
open PySem L2 FL
abbrev i_BadNumber : Stmt := inClass (top 12) 0
theorem sci_BadNumber : FnScope ["self", "part"] ["self", "part"] (defScope i_BadNumber) := ⟨rfl, rfl, rfl, by decide +kernel, rfl, by decide +kernel, by decide +kernel⟩
theorem e_BadNumber {P : Program} {w : World} {K : PySem.W.Frag} {mg : Str → Option Value} {base h : Heap} {C : Addr} (X : K.In h) (G : h.Ns mainGlobals mg) (A : XAt K "BadNumber" "BadNumber.__init__" ["part"] i_BadNumber C) : ExcW P w K mg base "BadNumber" ["part"] := by
  obtain ⟨aC, T, xf, nf, fI, fd, iC, tI, Fn⟩ := A
  exact ⟨⟨C, fI, fd, ["self", "part"], PySem.W.mg_of X G aC, T, iC, tI, init1 Fn sci_BadNumber T (nf "part" (by decide)) (fun cdv A outer s H E => (pss_one (ps_ost (pv 0) (pv 1)))), Fn.binds (fun _ _ _ _ _ _ us hl => match us, hl with | [_, _], _ => rfl), xf, nf⟩, by decide⟩
abbrev i_BadText : Stmt := inClass (top 13) 0
theorem sci_BadText : FnScope ["self", "line", "item"] ["self", "line", "item"] (defScope i_BadText) := ⟨rfl, rfl, rfl, by decide +kernel, rfl, by decide +kernel, by decide +kernel⟩
theorem e_BadText {P : Program} {w : World} {K : PySem.W.Frag} {mg : Str → Option Value} {base h : Heap} {C : Addr} (X : K.In h) (G : h.Ns mainGlobals mg) (A : XAt K "BadText" "BadText.__init__" ["line", "item"] i_BadText C) : ExcW P w K mg base "BadText" ["line", "item"] := by
  obtain ⟨aC, T, xf, nf, fI, fd, iC, tI, Fn⟩ := A
  exact ⟨⟨C, fI, fd, ["self", "line", "item"], PySem.W.mg_of X G aC, T, iC, tI, init2 Fn sci_BadText T (nf "line" (by decide)) (nf "item" (by decide)) (fun cdv A outer s H E => (pss_cons (ps_ost (pv 0) (pv 1)) (pss_one (ps_ost (pv 0) (pv 2))))), Fn.binds (fun _ _ _ _ _ _ us hl => match us, hl with | [_, _, _], _ => rfl), xf, nf⟩, by decide⟩
theorem all_mk {l : PySem.W.OpenLaw} {w : World} {K : PySem.W.Frag} {h : Heap} {mg : Str → Option Value} {fa : Addr} {C_PlayError C_BadNumber C_BadText : Addr} {t_MOST_DIGITS : Tok} (X : K.In h) (G : h.Ns mainGlobals mg) (hfa : mg "law" = some (.ref fa))
    (A_is_integer : At K "is_integer" s_is_integer)
    (A_is_within : At K "is_within" s_is_within)
    (A_is_number : At K "is_number" s_is_number)
    (A_is_list : At K "is_list" s_is_list)
    (A_integer_in : At K "integer_in" s_integer_in)
    (A_number_in : At K "number_in" s_number_in)
    (A_above_below : At K "above_below" s_above_below)
    (A_number_text : At K "number_text" s_number_text)
    (A_number_of : At K "number_of" s_number_of)
    (A_law_jar : At K "_law_jar" s_law_jar)
    (A_law_pour : At K "_law_pour" s_law_pour)
    (A_law_pick : At K "_law_pick" s_law_pick)
    (A_law_alone : At K "_law_alone" s_law_alone)
    (A_law_figures : At K "_law_figures" s_law_figures)
    (A_law_read : At K "_law_read" s_law_read)
    (A_law_told : At K "_law_told" s_law_told)
    (A_law_refused : At K "_law_refused" s_law_refused)
    (A_law_value : At K "_law_value" s_law_value)
    (A_law_written : At K "_law_written" s_law_written)
    (A_law_bent : At K "_law_bent" s_law_bent)
    (A_law : At K "law" s_law)
    (X_PlayError : PySem.W.nsIn K mainGlobals "PlayError" = some (some (.ref C_PlayError)))
    (X_BadNumber : XAt K "BadNumber" "BadNumber.__init__" ["part"] i_BadNumber C_BadNumber)
    (X_BadText : XAt K "BadText" "BadText.__init__" ["line", "item"] i_BadText C_BadText)
    (ec_PlayError : PySem.W.subIn K (.ref C_PlayError) (.type "BaseException") = some true) (ic_PlayError : PySem.W.isClsIn K C_PlayError = true) (tc_PlayError : PySem.W.typeIn K (.ref C_PlayError) = some (.type "type"))
    (ec_BadNumber : PySem.W.subIn K (.ref C_BadNumber) (.type "BaseException") = some true) (ic_BadNumber : PySem.W.isClsIn K C_BadNumber = true) (tc_BadNumber : PySem.W.typeIn K (.ref C_BadNumber) = some (.type "type"))
    (ec_BadText : PySem.W.subIn K (.ref C_BadText) (.type "BaseException") = some true) (ic_BadText : PySem.W.isClsIn K C_BadText = true) (tc_BadText : PySem.W.typeIn K (.ref C_BadText) = some (.type "type"))
    (S_PlayError_PlayError : PySem.W.subIn K (.ref C_PlayError) (.ref C_PlayError) = some true)
    (S_PlayError_BadNumber : PySem.W.subIn K (.ref C_PlayError) (.ref C_BadNumber) = some false)
    (S_PlayError_BadText : PySem.W.subIn K (.ref C_PlayError) (.ref C_BadText) = some false)
    (S_BadNumber_PlayError : PySem.W.subIn K (.ref C_BadNumber) (.ref C_PlayError) = some true)
    (S_BadNumber_BadNumber : PySem.W.subIn K (.ref C_BadNumber) (.ref C_BadNumber) = some true)
    (S_BadNumber_BadText : PySem.W.subIn K (.ref C_BadNumber) (.ref C_BadText) = some false)
    (S_BadText_PlayError : PySem.W.subIn K (.ref C_BadText) (.ref C_PlayError) = some true)
    (S_BadText_BadNumber : PySem.W.subIn K (.ref C_BadText) (.ref C_BadNumber) = some false)
    (S_BadText_BadText : PySem.W.subIn K (.ref C_BadText) (.ref C_BadText) = some true)
    (Q_MOST_DIGITS : PySem.W.nsIn K mainGlobals "MOST_DIGITS" = some (some (.int 60 t_MOST_DIGITS)))
    (Z_abs : PySem.W.nsIn K mainGlobals "abs" = some none)
    (Z_all : PySem.W.nsIn K mainGlobals "all" = some none)
    (Z_bool : PySem.W.nsIn K mainGlobals "bool" = some none)
    (Z_int : PySem.W.nsIn K mainGlobals "int" = some none)
    (Z_isinstance : PySem.W.nsIn K mainGlobals "isinstance" = some none)
    (Z_len : PySem.W.nsIn K mainGlobals "len" = some none)
    (Z_list : PySem.W.nsIn K mainGlobals "list" = some none)
    (Z_range : PySem.W.nsIn K mainGlobals "range" = some none)
    (Z_repr : PySem.W.nsIn K mainGlobals "repr" = some none)
    (Z_str : PySem.W.nsIn K mainGlobals "str" = some none)
    (Z_tuple : PySem.W.nsIn K mainGlobals "tuple" = some none)
    (Z_gcd : PySem.W.nsIn K mainGlobals "gcd" = some (some (.builtin "math.gcd"))) :
    ∃ fd : FuncData, (∀ (s : Shared) (u : Value), BindsTo s fd ⟨[u], []⟩ [("script", u)]) ∧ ∀ base : Heap, K.In base → base.Ns mainGlobals mg → FnG l.prog w K mg base 7 fa fd ["script"] (spLawG K) := by
  have B : Blt mg := ⟨PySem.W.mg_none_of X G Z_abs, PySem.W.mg_none_of X G Z_all, PySem.W.mg_none_of X G Z_bool, PySem.W.mg_none_of X G Z_int, PySem.W.mg_none_of X G Z_isinstance, PySem.W.mg_none_of X G Z_len, PySem.W.mg_none_of X G Z_list, PySem.W.mg_none_of X G Z_range, PySem.W.mg_none_of X G Z_repr, PySem.W.mg_none_of X G Z_str, PySem.W.mg_none_of X G Z_tuple, PySem.W.mg_of X G Z_gcd⟩
  have H_is_integer := A_is_integer.here X G
  have H_is_within := A_is_within.here X G
  have H_is_number := A_is_number.here X G
  have H_is_list := A_is_list.here X G
  have H_integer_in := A_integer_in.here X G
  have H_number_in := A_number_in.here X G
  have H_above_below := A_above_below.here X G
  have H_number_text := A_number_text.here X G
  have H_number_of := A_number_of.here X G
  have H_law_jar := A_law_jar.here X G
  have H_law_pour := A_law_pour.here X G
  have H_law_pick := A_law_pick.here X G
  have H_law_alone := A_law_alone.here X G
  have H_law_figures := A_law_figures.here X G
  have H_law_read := A_law_read.here X G
  have H_law_told := A_law_told.here X G
  have H_law_refused := A_law_refused.here X G
  have H_law_value := A_law_value.here X G
  have H_law_written := A_law_written.here X G
  have H_law_bent := A_law_bent.here X G
  have H_law := A_law.here X G
  have m_PlayError : mg "PlayError" = some (.ref C_PlayError) := PySem.W.mg_of X G X_PlayError
  have m_BadNumber : mg "BadNumber" = some (.ref C_BadNumber) := PySem.W.mg_of X G X_BadNumber.1
  have m_BadText : mg "BadText" = some (.ref C_BadText) := PySem.W.mg_of X G X_BadText.1
  have M_PlayError : ∃ C, mg "PlayError" = some (.ref C) := ⟨_, m_PlayError⟩
  have M_BadNumber : ∃ C, mg "BadNumber" = some (.ref C) := ⟨_, m_BadNumber⟩
  have M_BadText : ∃ C, mg "BadText" = some (.ref C) := ⟨_, m_BadText⟩
  have G_MOST_DIGITS : ∃ t, mg "MOST_DIGITS" = some (.int 60 t) := ⟨_, PySem.W.mg_of X G Q_MOST_DIGITS⟩
  have HT : TblOk K mg tbl := by
    intro x y b Cx Cy h hx hy
    unfold tbl at h
    split at h
    · rename_i c
      obtain ⟨rfl, rfl⟩ := c
      cases h
      rw [m_PlayError] at hx
      cases hx
      rw [m_PlayError] at hy
      cases hy
      exact exm_of ec_PlayError ic_PlayError tc_PlayError S_PlayError_PlayError
    split at h
    · rename_i c
      obtain ⟨rfl, rfl⟩ := c
      cases h
      rw [m_PlayError] at hx
      cases hx
      rw [m_BadNumber] at hy
      cases hy
      exact exm_of ec_BadNumber ic_BadNumber tc_BadNumber S_PlayError_BadNumber
    split at h
    · rename_i c
      obtain ⟨rfl, rfl⟩ := c
      cases h
      rw [m_PlayError] at hx
      cases hx
      rw [m_BadText] at hy
      cases hy
      exact exm_of ec_BadText ic_BadText tc_BadText S_PlayError_BadText
    split at h
    · rename_i c
      obtain ⟨rfl, rfl⟩ := c
      cases h
      rw [m_BadNumber] at hx
      cases hx
      rw [m_PlayError] at hy
      cases hy
      exact exm_of ec_PlayError ic_PlayError tc_PlayError S_BadNumber_PlayError
    split at h
    · rename_i c
      obtain ⟨rfl, rfl⟩ := c
      cases h
      rw [m_BadNumber] at hx
      cases hx
      rw [m_BadNumber] at hy
      cases hy
      exact exm_of ec_BadNumber ic_BadNumber tc_BadNumber S_BadNumber_BadNumber
    split at h
    · rename_i c
      obtain ⟨rfl, rfl⟩ := c
      cases h
      rw [m_BadNumber] at hx
      cases hx
      rw [m_BadText] at hy
      cases hy
      exact exm_of ec_BadText ic_BadText tc_BadText S_BadNumber_BadText
    split at h
    · rename_i c
      obtain ⟨rfl, rfl⟩ := c
      cases h
      rw [m_BadText] at hx
      cases hx
      rw [m_PlayError] at hy
      cases hy
      exact exm_of ec_PlayError ic_PlayError tc_PlayError S_BadText_PlayError
    split at h
    · rename_i c
      obtain ⟨rfl, rfl⟩ := c
      cases h
      rw [m_BadText] at hx
      cases hx
      rw [m_BadNumber] at hy
      cases hy
      exact exm_of ec_BadNumber ic_BadNumber tc_BadNumber S_BadText_BadNumber
    split at h
    · rename_i c
      obtain ⟨rfl, rfl⟩ := c
      cases h
      rw [m_BadText] at hx
      cases hx
      rw [m_BadText] at hy
      cases hy
      exact exm_of ec_BadText ic_BadText tc_BadText S_BadText_BadText
    cases h
  obtain ⟨f, fd, Fn, hm⟩ := H_law
  obtain rfl : f = fa := by
    rw [hfa] at hm
    cases hm
    rfl
  refine ⟨fd, ?_, fun base _ _ => ?_⟩
  · obtain ⟨oc, od, kV, dc, pm, an, cd, ct, osl, rfl, _, _⟩ := Fn.ex
    exact fun s u => .of_eq rfl
  have E_BadNumber := e_BadNumber (P := l.prog) (w := w) (base := base) X G X_BadNumber
  have E_BadText := e_BadText (P := l.prog) (w := w) (base := base) X G X_BadText
  have W_is_integer := w_is_integer (P := l.prog) (w := w) (base := base) B H_is_integer 
  have W_is_within := w_is_within (P := l.prog) (w := w) (base := base) B H_is_within W_is_integer
  have W_is_list := w_is_list (P := l.prog) (w := w) (base := base) B H_is_list 
  have W_is_number := w_is_number (P := l.prog) (w := w) (base := base) B H_is_number W_is_integer W_is_within W_is_list
  have W_integer_in := w_integer_in (P := l.prog) (w := w) (base := base) B H_integer_in G_MOST_DIGITS
  have W_number_in := w_number_in (P := l.prog) (w := w) (base := base) B H_number_in W_is_number W_integer_in
  have W_above_below := w_above_below (P := l.prog) (w := w) (base := base) B H_above_below W_is_integer
  have W_number_text := w_number_text (P := l.prog) (w := w) (base := base) B H_number_text E_BadNumber W_is_number W_above_below
  have W_number_of := w_number_of (P := l.prog) (w := w) (base := base) B H_number_of E_BadText W_number_in
  have W_law_pour := w_law_pour (P := l.prog) (w := w) (base := base) B H_law_pour 
  have W_law_pick := w_law_pick (P := l.prog) (w := w) (base := base) B H_law_pick W_law_pour
  have W_law_alone := w_law_alone (P := l.prog) (w := w) (base := base) B H_law_alone 
  have W_law_figures := w_law_figures (P := l.prog) (w := w) (base := base) B H_law_figures 
  have W_law_read := w_law_read (P := l.prog) (w := w) (base := base) B H_law_read W_law_alone W_law_figures
  have W_law_told := w_law_told (P := l.prog) (w := w) (base := base) B H_law_told E_BadText M_BadText M_PlayError HT W_number_of
  have W_law_refused := w_law_refused (P := l.prog) (w := w) (base := base) B H_law_refused E_BadNumber M_BadNumber HT W_number_text
  have W_law_value := w_law_value (P := l.prog) (w := w) (base := base) B H_law_value W_law_pour W_law_pick W_law_alone
  have W_law_written := w_law_written (P := l.prog) (w := w) (base := base) B H_law_written 
  have W_law_bent := w_law_bent (P := l.prog) (w := w) (base := base) B H_law_bent W_law_pour W_law_pick
  have Wd := w_law_jar (P := l.prog) (w := w) (base := base) B H_law_jar
  obtain ⟨f', fd', Gn, Fn', hm'⟩ := w_law (P := l.prog) (w := w) (base := base) B ⟨f, fd, Fn, hm⟩ Wd  W_number_text W_law_pick W_law_read W_law_told W_law_refused W_law_value W_law_written W_law_bent (fun cells _ => law_true cells)
  obtain rfl : f' = f := by
    rw [hm] at hm'
    cases hm'
    rfl
  obtain rfl : fd' = fd := fun_one Fn' Fn
  exact Gn
end K04
open PySem PySem.W PyProof.Rows in
set_option maxRecDepth 100000 in
set_option maxHeartbeats 0 in
theorem PySem.Challenge.cw_planless_k04_numbers_written_and_read_holds : PySem.Challenge.rw_planless_k04_numbers_written_and_read.Holds := by
  w_on; o_law; k_head; (case hw => w_witness2)
  k_fill
  refine FL.walkG (l := PySem.Challenge.rw_planless_k04_numbers_written_and_read) (k := 7) (x := "script") rfl rfl ⟨rfl, by decide, by decide⟩ (fun w h Y => PySem.W.kIn_of Y) ?F
  case F =>
    intro w mg fa h KX G hmg
    refine' K04.all_mk KX G hmg ?A_is_integer ?A_is_within ?A_is_number ?A_is_list ?A_integer_in ?A_number_in ?A_above_below ?A_number_text ?A_number_of ?A_law_jar ?A_law_pour ?A_law_pick ?A_law_alone ?A_law_figures ?A_law_read ?A_law_told ?A_law_refused ?A_law_value ?A_law_written ?A_law_bent ?A_law ?X_PlayError ?X_BadNumber ?X_BadText ?ec_PlayError ?ic_PlayError ?tc_PlayError ?ec_BadNumber ?ic_BadNumber ?tc_BadNumber ?ec_BadText ?ic_BadText ?tc_BadText ?S_PlayError_PlayError ?S_PlayError_BadNumber ?S_PlayError_BadText ?S_BadNumber_PlayError ?S_BadNumber_BadNumber ?S_BadNumber_BadText ?S_BadText_PlayError ?S_BadText_BadNumber ?S_BadText_BadText ?Q_MOST_DIGITS ?Z_abs ?Z_all ?Z_bool ?Z_int ?Z_isinstance ?Z_len ?Z_list ?Z_range ?Z_repr ?Z_str ?Z_tuple ?Z_gcd
    (case A_is_integer => (refine' FL.At.mk ?a ?l ?c ?k; (case a => k_is); (case l => k_is); (case c => k_is); (case k => k_is)))
    (case A_is_within => (refine' FL.At.mk ?a ?l ?c ?k; (case a => k_is); (case l => k_is); (case c => k_is); (case k => k_is)))
    (case A_is_number => (refine' FL.At.mk ?a ?l ?c ?k; (case a => k_is); (case l => k_is); (case c => k_is); (case k => k_is)))
    (case A_is_list => (refine' FL.At.mk ?a ?l ?c ?k; (case a => k_is); (case l => k_is); (case c => k_is); (case k => k_is)))
    (case A_integer_in => (refine' FL.At.mk ?a ?l ?c ?k; (case a => k_is); (case l => k_is); (case c => k_is); (case k => k_is)))
    (case A_number_in => (refine' FL.At.mk ?a ?l ?c ?k; (case a => k_is); (case l => k_is); (case c => k_is); (case k => k_is)))
    (case A_above_below => (refine' FL.At.mk ?a ?l ?c ?k; (case a => k_is); (case l => k_is); (case c => k_is); (case k => k_is)))
    (case A_number_text => (refine' FL.At.mk ?a ?l ?c ?k; (case a => k_is); (case l => k_is); (case c => k_is); (case k => k_is)))
    (case A_number_of => (refine' FL.At.mk ?a ?l ?c ?k; (case a => k_is); (case l => k_is); (case c => k_is); (case k => k_is)))
    (case A_law_jar => (refine' FL.At.mk ?a ?l ?c ?k; (case a => k_is); (case l => k_is); (case c => k_is); (case k => k_is)))
    (case A_law_pour => (refine' FL.At.mk ?a ?l ?c ?k; (case a => k_is); (case l => k_is); (case c => k_is); (case k => k_is)))
    (case A_law_pick => (refine' FL.At.mk ?a ?l ?c ?k; (case a => k_is); (case l => k_is); (case c => k_is); (case k => k_is)))
    (case A_law_alone => (refine' FL.At.mk ?a ?l ?c ?k; (case a => k_is); (case l => k_is); (case c => k_is); (case k => k_is)))
    (case A_law_figures => (refine' FL.At.mk ?a ?l ?c ?k; (case a => k_is); (case l => k_is); (case c => k_is); (case k => k_is)))
    (case A_law_read => (refine' FL.At.mk ?a ?l ?c ?k; (case a => k_is); (case l => k_is); (case c => k_is); (case k => k_is)))
    (case A_law_told => (refine' FL.At.mk ?a ?l ?c ?k; (case a => k_is); (case l => k_is); (case c => k_is); (case k => k_is)))
    (case A_law_refused => (refine' FL.At.mk ?a ?l ?c ?k; (case a => k_is); (case l => k_is); (case c => k_is); (case k => k_is)))
    (case A_law_value => (refine' FL.At.mk ?a ?l ?c ?k; (case a => k_is); (case l => k_is); (case c => k_is); (case k => k_is)))
    (case A_law_written => (refine' FL.At.mk ?a ?l ?c ?k; (case a => k_is); (case l => k_is); (case c => k_is); (case k => k_is)))
    (case A_law_bent => (refine' FL.At.mk ?a ?l ?c ?k; (case a => k_is); (case l => k_is); (case c => k_is); (case k => k_is)))
    (case A_law => (refine' FL.At.mk ?a ?l ?c ?k; (case a => k_is); (case l => k_is); (case c => k_is); (case k => k_is)))
    (case X_PlayError => k_is)
    (case X_BadNumber => (refine' FL.XAt.mk1 ?aC ?xL ?hb ?sa ?ga ?gg ?n1 ?i1 ?t1 ?l1 ?c1 ?kf ?kC ?eC ?tC ?hC; (case aC => k_is); (case xL => k_is); (case hb => decide +kernel); (case sa => k_is); (case ga => k_is); (case gg => k_is); (case n1 => k_is); (case i1 => k_is); (case t1 => k_is); (case l1 => k_is); (case c1 => k_is); (case kf => k_is); (case kC => k_is); (case eC => k_is); (case tC => k_is); (case hC => k_is)))
    (case X_BadText => (refine' FL.XAt.mk2 ?aC ?xL ?hb ?sa ?ga ?gg ?n1 ?n2 ?i1 ?t1 ?l1 ?c1 ?kf ?kC ?eC ?tC ?hC; (case aC => k_is); (case xL => k_is); (case hb => decide +kernel); (case sa => k_is); (case ga => k_is); (case gg => k_is); (case n1 => k_is); (case n2 => k_is); (case i1 => k_is); (case t1 => k_is); (case l1 => k_is); (case c1 => k_is); (case kf => k_is); (case kC => k_is); (case eC => k_is); (case tC => k_is); (case hC => k_is)))
    (case ec_PlayError => first | k_is | rfl)
    (case ic_PlayError => first | k_is | rfl)
    (case tc_PlayError => first | k_is | rfl)
    (case ec_BadNumber => first | k_is | rfl)
    (case ic_BadNumber => first | k_is | rfl)
    (case tc_BadNumber => first | k_is | rfl)
    (case ec_BadText => first | k_is | rfl)
    (case ic_BadText => first | k_is | rfl)
    (case tc_BadText => first | k_is | rfl)
    (case S_PlayError_PlayError => first | k_is | rfl)
    (case S_PlayError_BadNumber => first | k_is | rfl)
    (case S_PlayError_BadText => first | k_is | rfl)
    (case S_BadNumber_PlayError => first | k_is | rfl)
    (case S_BadNumber_BadNumber => first | k_is | rfl)
    (case S_BadNumber_BadText => first | k_is | rfl)
    (case S_BadText_PlayError => first | k_is | rfl)
    (case S_BadText_BadNumber => first | k_is | rfl)
    (case S_BadText_BadText => first | k_is | rfl)
    (case Q_MOST_DIGITS => first | k_is | rfl)
    (case Z_abs => k_is)
    (case Z_all => k_is)
    (case Z_bool => k_is)
    (case Z_int => k_is)
    (case Z_isinstance => k_is)
    (case Z_len => k_is)
    (case Z_list => k_is)
    (case Z_range => k_is)
    (case Z_repr => k_is)
    (case Z_str => k_is)
    (case Z_tuple => k_is)
    (case Z_gcd => k_is)
#print axioms PySem.Challenge.cw_planless_k04_numbers_written_and_read_holds

