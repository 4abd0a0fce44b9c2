import PyProof.Rows.All
import Wide.All
import OpenK.AllK
import Wide.FinOn
import HandS.ForMost
import HandS.ForExc
import HandS.Codes
import HandS.FStr
import HandS.Star
import HandS.Wide
import HandS.IsInst
import HandS.TupAny
import HandS.ExcIs
import HandS.Conv
import HandS.Flow
import HandS.NoneIn
import HandS.SetBool
import HandS.SetKeys
import HandS.Zip
import KE.KxIndex
import HandS.TupMul
import HandS.Head2
import HandS.HeadHook2
import HandS.HeadEnd
import HandS.Replace
import HandS.OwnEq
import HandS.Iter
import HandS.More
import HandS.Small
import KE.DataEq
import KE.KStateDown
import HandS.Head0
import HandS.Head1
import PySem.Challenge.RW_columnkin_k14_admissible_entries
set_option Elab.async false
set_option linter.all false
set_option maxRecDepth 100000
set_option maxHeartbeats 4000000
/-! ## Readings by value: plain data in the place of tracked addresses -/
namespace FR
open PySem PySem.Spec L2
set_option autoImplicit false

/-- plain data: lists, dicts, instances that nobody changes any more stand by value; those that are changed by their place in a store -/
inductive D where
  | non | bl (b : Bool) | int (i : Int) | str (x : Str) | ty (n : String)
  | tup (xs : List D) | lst (xs : List D) | dct (ks : List Str) (vs : List D)
  | ins (c : Str) (ns : List Str) (vs : List D) | loc (n : Nat) | glo (x : Str) | scr (xs : List Int) | exc (a : Addr)

/-- what stands at a place of the store -/
inductive O where
  | lst (xs : List D) | dct (ks : List Str) (vs : List D) | ins (c : Str) (ns : List Str) (vs : List D) | dead

/-- the abstract heap, the store, where its places stand -/
structure Wo where
  bt : List Addr
  mu : List O
  hid : Addr → Prop
  H : Hp

/-- the written part, what the module's names hold -/
structure Tx where
  K : PySem.W.Frag
  mg : Str → Option Value

def Live (w : Wo) (a : Addr) : Prop := w.hid a ∨ ∃ n : Nat, w.bt[n]? = some a ∧ ∃ o, w.mu[n]? = some o ∧ o ≠ .dead

variable {T : Tx}

mutual
def RelD (T : Tx) (w : Wo) : D → V → Prop
  | .non, v => v = .non
  | .bl b, v => v = .bl b
  | .int i, v => v = .int i
  | .str x, v => v = .str x
  | .ty n, v => v = .ty n
  | .tup ds, v => ∃ a vs, v = .ref a ∧ SqT T.K w.H a vs ∧ RelDs T w ds vs
  | .lst ds, v => ∃ a vs, v = .ref a ∧ w.H a = some (.lst vs) ∧ ¬ Live w a ∧ RelDs T w ds vs
  | .dct ks ds, v => ∃ a vs, v = .ref a ∧ Rd w.H a (.dK (ks.map Sum.inr |>.zip vs)) ∧ vs.length = ks.length ∧ ¬ Live w a ∧ RelDs T w ds vs
  | .ins c ns ds, v => ∃ a C dx vs, v = .ref a ∧ T.mg c = some (.ref C) ∧ w.H a = some (.ins C dx (ns.zip vs)) ∧ vs.length = ns.length ∧ ¬ Live w a ∧ RelDs T w ds vs
  | .loc n, v => ∃ a, v = .ref a ∧ w.bt[n]? = some a
  | .glo x, v => ∃ a, v = .ref a ∧ T.mg x = some (.ref a)
  | .exc a, v => v = .ref a
  | .scr ns, v => ∃ a, v = .ref a ∧ ((∃ o, w.H a = some (.frz o (.lst (ns.map V.int)))) ∨ SqL T.K (fun _ => none) a (ns.map V.int))
def RelDs (T : Tx) (w : Wo) : List D → List V → Prop
  | [], vs => vs = []
  | d :: ds, vs => ∃ v r, vs = v :: r ∧ RelD T w d v ∧ RelDs T w ds r
end

def RelOb (T : Tx) (w : Wo) (a : Addr) : O → Prop
  | .lst ds => ∃ vs, w.H a = some (.lst vs) ∧ RelDs T w ds vs
  | .dct ks ds => ∃ vs, w.H a = some (.dK (ks.map Sum.inr |>.zip vs)) ∧ vs.length = ks.length ∧ RelDs T w ds vs
  | .ins c ns ds => ∃ C dx vs, T.mg c = some (.ref C) ∧ w.H a = some (.ins C dx (ns.zip vs)) ∧ vs.length = ns.length ∧ RelDs T w ds vs
  | .dead => True

/-- what a hidden object may be -/
def Hd : HO → Prop
  | .tup _ => False
  | .frz _ _ => False
  | _ => True
structure Ok (T : Tx) (w : Wo) : Prop where
  hidT : ∀ a, w.hid a → ∃ o, w.H a = some o ∧ Hd o
  hidN : ∀ a ∈ w.bt, ¬ w.hid a
  len : w.mu.length = w.bt.length
  nd : w.bt.Nodup
  tr : ∀ a ∈ w.bt, w.H a ≠ none
  obj : ∀ (n : Nat) (o : O) (a : Addr), w.mu[n]? = some o → w.bt[n]? = some a → RelOb T w a o

/-- what stays as it is, unless it is live -/
def Stb (H : Hp) (a : Addr) : HO → Prop
  | .lst xs => H a = some (.lst xs)
  | .frz o u => H a = some (.frz o u)
  | .dK xs => Rd H a (.dK xs)
  | .tup xs => Rd H a (.tup xs)
  | .ins C dx fs => H a = some (.ins C dx fs)
  | _ => False

structure Ex0 (w w' : Wo) : Prop where
  pre : ∃ l, w'.bt = w.bt ++ l
  some_ : ∀ a, w.H a ≠ none → w'.H a ≠ none
  keep : ∀ a o, Stb w.H a o → ¬ Live w a → Stb w'.H a o
  live : ∀ a, w.H a ≠ none → Live w' a → Live w a
structure Ex (w w' : Wo) : Prop extends Ex0 w w' where
  hidE : w'.hid = w.hid
  hidK : ∀ a, w.hid a → w'.H a = w.H a

theorem Stb.ne {H : Hp} {a : Addr} {o : HO} (h : Stb H a o) : H a ≠ none := by
  intro e
  cases o <;> simp only [Stb, Rd, e] at h <;> first | exact h | (rcases h with h | ⟨_, h⟩ <;> exact absurd h (by simp)) | exact absurd h (by simp)

theorem Ex0.rfl' {w : Wo} : Ex0 w w := ⟨⟨[], by simp⟩, fun _ h => h, fun _ _ h _ => h, fun _ _ h => h⟩
theorem Ex.rfl' {w : Wo} : Ex w w := ⟨.rfl', rfl, fun _ _ => rfl⟩
theorem Ex0.trans {w w1 w2 : Wo} (a : Ex0 w w1) (b : Ex0 w1 w2) : Ex0 w w2 := by
  refine ⟨?_, fun x h => b.some_ x (a.some_ x h), fun x o h n => b.keep x o (a.keep x o h n) fun l => n (a.live x h.ne l), fun x h l => a.live x h (b.live x (a.some_ x h) l)⟩
  obtain ⟨l1, e1⟩ := a.pre
  obtain ⟨l2, e2⟩ := b.pre
  exact ⟨l1 ++ l2, by rw [e2, e1, List.append_assoc]⟩
theorem Ex.trans {w w1 w2 : Wo} (a : Ex w w1) (b : Ex w1 w2) : Ex w w2 :=
  ⟨a.toEx0.trans b.toEx0, b.hidE.trans a.hidE, fun x h => (b.hidK x (by rw [a.hidE]; exact h)).trans (a.hidK x h)⟩
theorem Ex0.bt {w w' : Wo} (e : Ex0 w w') {n : Nat} {a : Addr} (h : w.bt[n]? = some a) : w'.bt[n]? = some a := by
  obtain ⟨l, q⟩ := e.pre
  rw [q]
  have : n < w.bt.length := (List.getElem?_eq_some_iff.mp h).1
  rw [List.getElem?_append_left this]; exact h
theorem Ok.tup_free {w : Wo} (ok : Ok T w) {a : Addr} {xs : List V} (h : Rd w.H a (.tup xs)) : ¬ Live w a := by
  rintro (hh | ⟨n, hb, o, hm, hd⟩)
  · obtain ⟨o, e, hd⟩ := ok.hidT a hh
    rcases h with h | ⟨_, h⟩ <;> (rw [h] at e; cases e; exact hd)
  have q := ok.obj n o a hm hb
  cases o with
  | dead => exact hd rfl
  | lst ds => obtain ⟨vs, e, _⟩ := q; rcases h with h | ⟨_, h⟩ <;> rw [e] at h <;> cases h
  | dct ks ds => obtain ⟨vs, e, _⟩ := q; rcases h with h | ⟨_, h⟩ <;> rw [e] at h <;> cases h
  | ins c ns ds => obtain ⟨C, dx, vs, _, e, _⟩ := q; rcases h with h | ⟨_, h⟩ <;> rw [e] at h <;> cases h
theorem Ok.frz_free {w : Wo} (ok : Ok T w) {a : Addr} {o : Obj} {u : HO} (h : w.H a = some (.frz o u)) : ¬ Live w a := by
  rintro (hh | ⟨n, hb, ob, hm, hd⟩)
  · obtain ⟨o, e, hd⟩ := ok.hidT a hh
    rw [h] at e; cases e; exact hd
  have q := ok.obj n ob a hm hb
  cases ob with
  | dead => exact hd rfl
  | lst ds => obtain ⟨vs, e, _⟩ := q; rw [e] at h; cases h
  | dct ks ds => obtain ⟨vs, e, _⟩ := q; rw [e] at h; cases h
  | ins c ns ds => obtain ⟨C, dx, vs, _, e, _⟩ := q; rw [e] at h; cases h
theorem SqT.ex {w w' : Wo} (ok : Ok T w) (e : Ex0 w w') {a : Addr} {xs : List V} (h : SqT T.K w.H a xs) : SqT T.K w'.H a xs := by
  rcases h with h | h
  · exact .inl (e.keep a (.tup xs) h (ok.tup_free h))
  · exact .inr h

mutual
theorem RelD.ex {w w' : Wo} (ok : Ok T w) (e : Ex0 w w') : ∀ {d : D} {v : V}, RelD T w d v → RelD T w' d v
  | .non, _, h => by simpa only [RelD] using h
  | .bl _, _, h => by simpa only [RelD] using h
  | .int _, _, h => by simpa only [RelD] using h
  | .str _, _, h => by simpa only [RelD] using h
  | .ty _, _, h => by simpa only [RelD] using h
  | .tup ds, v, h => by
    simp only [RelD] at h ⊢
    obtain ⟨a, vs, h1, h2, h3⟩ := h
    exact ⟨a, vs, h1, SqT.ex ok e h2, RelDs.ex ok e h3⟩
  | .lst ds, v, h => by
    simp only [RelD] at h ⊢
    obtain ⟨a, vs, h1, h2, h3, h4⟩ := h
    exact ⟨a, vs, h1, e.keep a (.lst vs) h2 h3, fun l => h3 (e.live a (Stb.ne (o := .lst vs) h2) l), RelDs.ex ok e h4⟩
  | .dct ks ds, v, h => by
    simp only [RelD] at h ⊢
    obtain ⟨a, vs, h1, h2, hl, h3, h4⟩ := h
    exact ⟨a, vs, h1, e.keep a (.dK _) h2 h3, hl, fun l => h3 (e.live a (Stb.ne (o := .dK _) h2) l), RelDs.ex ok e h4⟩
  | .ins c ns ds, v, h => by
    simp only [RelD] at h ⊢
    obtain ⟨a, C, dx, vs, h1, hc, h2, hl, h3, h4⟩ := h
    exact ⟨a, C, dx, vs, h1, hc, e.keep a (.ins C dx _) h2 h3, hl, fun l => h3 (e.live a (by rw [h2]; simp) l), RelDs.ex ok e h4⟩
  | .loc n, v, h => by
    simp only [RelD] at h ⊢
    obtain ⟨a, h1, h2⟩ := h
    exact ⟨a, h1, e.bt h2⟩
  | .glo x, v, h => by simpa only [RelD] using h
  | .exc _, _, h => by simpa only [RelD] using h
  | .scr ns, v, h => by
    simp only [RelD] at h ⊢
    obtain ⟨a, h1, h2⟩ := h
    refine ⟨a, h1, ?_⟩
    rcases h2 with ⟨o, h2⟩ | h2
    · exact .inl ⟨o, e.keep a (.frz o _) h2 (ok.frz_free h2)⟩
    · exact .inr h2
theorem RelDs.ex {w w' : Wo} (ok : Ok T w) (e : Ex0 w w') : ∀ {ds : List D} {vs : List V}, RelDs T w ds vs → RelDs T w' ds vs
  | [], _, h => by simpa only [RelDs] using h
  | d :: ds, vs, h => by
    simp only [RelDs] at h ⊢
    obtain ⟨v, r, h1, h2, h3⟩ := h
    exact ⟨v, r, h1, RelD.ex ok e h2, RelDs.ex ok e h3⟩
end

theorem RelDs.length {w : Wo} : ∀ {ds : List D} {vs : List V}, RelDs T w ds vs → vs.length = ds.length
  | [], _, h => by simp only [RelDs] at h; subst h; rfl
  | d :: ds, vs, h => by
    simp only [RelDs] at h
    obtain ⟨v, r, rfl, _, h3⟩ := h
    simp [RelDs.length h3]
theorem RelDs.get {w : Wo} : ∀ {ds : List D} {vs : List V} {i : Nat} {d : D}, RelDs T w ds vs → ds[i]? = some d → ∃ v, vs[i]? = some v ∧ RelD T w d v
  | [], _, _, _, _, e => by simp at e
  | d :: ds, vs, 0, d', h, e => by
    simp only [RelDs] at h
    obtain ⟨v, r, rfl, h2, h3⟩ := h
    simp at e; subst e
    exact ⟨v, rfl, h2⟩
  | d :: ds, vs, i + 1, d', h, e => by
    simp only [RelDs] at h
    obtain ⟨v, r, rfl, h2, h3⟩ := h
    obtain ⟨u, hu, q⟩ := RelDs.get (i := i) h3 (by simpa using e)
    exact ⟨u, by simpa using hu, q⟩
theorem RelDs.append {w : Wo} : ∀ {ds es : List D} {vs us : List V}, RelDs T w ds vs → RelDs T w es us → RelDs T w (ds ++ es) (vs ++ us)
  | [], _, _, _, h, q => by simp only [RelDs] at h; subst h; exact q
  | d :: ds, es, vs, us, h, q => by
    simp only [RelDs] at h
    obtain ⟨v, r, rfl, h2, h3⟩ := h
    show RelDs T w (d :: (ds ++ es)) (v :: (r ++ us))
    simp only [RelDs]
    exact ⟨v, _, rfl, h2, RelDs.append h3 q⟩
theorem RelDs.cons {w : Wo} {d : D} {v : V} {ds : List D} {vs : List V} (h : RelD T w d v) (q : RelDs T w ds vs) : RelDs T w (d :: ds) (v :: vs) := by
  simp only [RelDs]; exact ⟨v, vs, rfl, h, q⟩
theorem RelDs.nil {w : Wo} : RelDs T w [] [] := by simp only [RelDs]

/-- the slots -/
def RelE (T : Tx) (w : Wo) (r : List (Option D)) (s : St) : Prop := r.length = s.length ∧ ∀ (i : Nat) (d : D), r[i]? = some (some d) → ∃ v, s[i]? = some (some v) ∧ RelD T w d v
theorem RelE.ex {w w' : Wo} {r : List (Option D)} {s : St} (ok : Ok T w) (e : Ex0 w w') (h : RelE T w r s) : RelE T w' r s :=
  ⟨h.1, fun i d q => let ⟨v, h1, h2⟩ := h.2 i d q; ⟨v, h1, h2.ex ok e⟩⟩
theorem RelE.set {w : Wo} {r : List (Option D)} {s : St} {d : D} {v : V} (i : Nat) (h : RelE T w r s) (q : RelD T w d v) : RelE T w (r.set i (some d)) (s.set i (some v)) := by
  refine ⟨by simp [h.1], fun j e hj => ?_⟩
  by_cases hij : j = i
  · subst hij
    rw [List.getElem?_set] at hj
    by_cases hl : j < r.length
    · simp [hl] at hj; subst hj
      exact ⟨v, by rw [List.getElem?_set]; simp [h.1 ▸ hl], q⟩
    · simp [hl] at hj
  · rw [List.getElem?_set_ne (Ne.symm hij)] at hj
    obtain ⟨u, h1, h2⟩ := h.2 j e hj
    exact ⟨u, by rw [List.getElem?_set_ne (Ne.symm hij)]; exact h1, h2⟩
theorem RelE.wipe {w : Wo} {r : List (Option D)} {s : St} (i : Nat) (h : RelE T w r s) : RelE T w (r.set i none) (s.set i none) := by
  refine ⟨by simp [h.1], fun j e hj => ?_⟩
  by_cases hij : j = i
  · subst hij
    rw [List.getElem?_set] at hj
    by_cases hl : j < r.length <;> simp [hl] at hj
  · rw [List.getElem?_set_ne (Ne.symm hij)] at hj
    obtain ⟨u, h1, h2⟩ := h.2 j e hj
    exact ⟨u, by rw [List.getElem?_set_ne (Ne.symm hij)]; exact h1, h2⟩

/-- results -/
inductive Rs (α : Type) where
  | ok (a : α) (m : List O) | ex (c : Str) (m : List O) | stk
abbrev Lc := List (Option D)
abbrev FE := Lc → List O → Rs D
abbrev FA := Lc → List O → Rs (List D)
abbrev FT := Lc → List O → Rs Bool
def Rs.bind {α β : Type} (r : Rs α) (k : α → List O → Rs β) : Rs β := match r with
  | .ok a m => k a m
  | .ex c m => .ex c m
  | .stk => .stk
inductive Fl where
  | nx (r : Lc) | rt (d : D) | bk (r : Lc) | ct (r : Lc)
inductive Rt where
  | ok (f : Fl) (m : List O) | ex (c : Str) (r : Lc) (m : List O) | stk
abbrev FS := Lc → List O → Rt

/-- the class of an exception, by its name -/
def ExV (T : Tx) (c : Str) (cv : Value) : Prop := T.mg c = some cv

def Post {α β : Type} (T : Tx) (R : Wo → α → β → Prop) (W : Str → Wo → Prop) (w : Wo) (r : Rs α) (Q : β → Hp → Prop) : Prop := match r with
  | .ok a m => ∀ w' b, Ex w w' → Ok T w' → w'.mu = m → R w' a b → Q b w'.H
  | .ex c m => ∀ w', Ex w w' → Ok T w' → w'.mu = m → W c w'
  | .stk => False
theorem Post.ex {α β : Type} {R : Wo → α → β → Prop} {W : Str → Wo → Prop} {w w1 : Wo} {r : Rs α} {Q : β → Hp → Prop} (h : Post T R W w r Q) (e : Ex w w1) : Post T R W w1 r Q := by
  cases r with
  | ok a m => exact fun w' b e' ok hm hr => h w' b (e.trans e') ok hm hr
  | ex c m => exact fun w' e' ok hm => h w' (e.trans e') ok hm
  | stk => exact h
def wx (T : Tx) (W : WX) (s : St) : Str → Wo → Prop := fun c w => ∀ cv, ExV T c cv → W cv none s w.H
/-- an expression's reading by value -/
def rd (T : Tx) (W : WX) (f : FE) : TE := fun s H Q => ∃ (w : Wo) (r : Lc), w.H = H ∧ Ok T w ∧ RelE T w r s ∧ Post T (RelD T) (wx T W s) w (f r w.mu) Q
def rdA (T : Tx) (W : WX) (f : FA) : TA := fun s H Q => ∃ (w : Wo) (r : Lc), w.H = H ∧ Ok T w ∧ RelE T w r s ∧ Post T (RelDs T) (wx T W s) w (f r w.mu) Q
def rdT (T : Tx) (W : WX) (f : FT) : TT := fun s H Q => ∃ (w : Wo) (r : Lc), w.H = H ∧ Ok T w ∧ RelE T w r s ∧ Post T (fun _ (a b : Bool) => a = b) (wx T W s) w (f r w.mu) Q

def PostS (T : Tx) (W : WX) (w : Wo) (r : Rt) (E : Ends) : Prop := match r with
  | .ok (.nx r) m => ∀ w' s', Ex w w' → Ok T w' → w'.mu = m → RelE T w' r s' → E.nx s' w'.H
  | .ok (.rt d) m => ∀ w' v, Ex w w' → Ok T w' → w'.mu = m → RelD T w' d v → E.rt v w'.H
  | .ok (.bk r) m => ∀ w' s', Ex w w' → Ok T w' → w'.mu = m → RelE T w' r s' → E.bk s' w'.H
  | .ok (.ct r) m => ∀ w' s', Ex w w' → Ok T w' → w'.mu = m → RelE T w' r s' → E.ct s' w'.H
  | .ex c r m => ∀ w' s', Ex w w' → Ok T w' → w'.mu = m → RelE T w' r s' → wx T W s' c w'
  | .stk => False
theorem PostS.ex {W : WX} {w w1 : Wo} {r : Rt} {E : Ends} (h : PostS T W w r E) (e : Ex w w1) : PostS T W w1 r E := by
  cases r with
  | ok f m => cases f with
    | nx r => exact fun w' b e' ok hm hr => h w' b (e.trans e') ok hm hr
    | rt r => exact fun w' b e' ok hm hr => h w' b (e.trans e') ok hm hr
    | bk r => exact fun w' b e' ok hm hr => h w' b (e.trans e') ok hm hr
    | ct r => exact fun w' b e' ok hm hr => h w' b (e.trans e') ok hm hr
  | ex c r m => exact fun w' s' e' ok hm hr => h w' s' (e.trans e') ok hm hr
  | stk => exact h
def rdS (T : Tx) (W : WX) (f : FS) : TS := fun E s H => ∃ (w : Wo) (r : Lc), w.H = H ∧ Ok T w ∧ RelE T w r s ∧ PostS T W w (f r w.mu) E

/-! ### consequence -/
section
variable {X : Cx}
theorem pe_imp {e : Expr} {t t' : TE} (h : PE X e t) (q : ∀ s H Q, t' s H Q → t s H Q) : PE X e t' := ⟨fun pins s σ H Q I hw => h.run pins s σ H Q I (q _ _ _ hw)⟩
theorem pt_imp {e : Expr} {t t' : TT} (h : PT X e t) (q : ∀ s H Q, t' s H Q → t s H Q) : PT X e t' := ⟨fun pins s σ H Q I hw => h.run pins s σ H Q I (q _ _ _ hw)⟩
theorem pw_imp {e : Expr} {t t' : TT} (h : PW X e t) (q : ∀ s H Q, t' s H Q → t s H Q) : PW X e t' := ⟨fun wh pins s σ H Q I hw => h.run wh pins s σ H Q I (q _ _ _ hw)⟩
theorem pa_imp {e : List Expr} {t t' : TA} (h : PA X e t) (q : ∀ s H Q, t' s H Q → t s H Q) : PA X e t' := ⟨fun pos pins s σ H Q I hw => h.run pos pins s σ H Q I (q _ _ _ hw)⟩
theorem ps_imp {e : Stmt} {t t' : TS} (h : PS X e t) (q : ∀ D s H, t' D s H → t D s H) : PS X e t' := ⟨fun pins s σ H D I hw => h.run pins s σ H D I (q _ _ _ hw)⟩
theorem pss_imp {e : List Stmt} {t t' : TS} (h : PSs X e t) (q : ∀ D s H, t' D s H → t D s H) : PSs X e t' := ⟨fun pins s σ H D I hw => h.run pins s σ H D I (q _ _ _ hw)⟩
end

/-- one step behind another: the general word -/
theorem go {α β γ δ : Type} {R : Wo → α → β → Prop} {R2 : Wo → γ → δ → Prop} {W : Str → Wo → Prop} {w : Wo} {r : Rs α} {k : α → List O → Rs γ} {Q : δ → Hp → Prop} {Z : β → Hp → Prop}
    (h : Post T R2 W w (r.bind k) Q) (hk : ∀ a w1 b, Ex w w1 → Ok T w1 → R w1 a b → Post T R2 W w1 (k a w1.mu) Q → Z b w1.H) : Post T R W w r Z := by
  cases r with
  | ok a m => exact fun w1 b e ok hm hr => hk a w1 b e ok hr (by subst hm; exact Post.ex h e)
  | ex c m => exact h
  | stk => exact h
theorem go_e {f : FE} {γ δ : Type} {R2 : Wo → γ → δ → Prop} {W : WX} {s : St} {w : Wo} {r : Lc} {k : D → List O → Rs γ} {Q : δ → Hp → Prop} {Z : V → Hp → Prop} (ok : Ok T w) (re : RelE T w r s)
    (h : Post T R2 (wx T W s) w ((f r w.mu).bind k) Q) (hk : ∀ a w1 b, Ex w w1 → Ok T w1 → RelE T w1 r s → RelD T w1 a b → Post T R2 (wx T W s) w1 (k a w1.mu) Q → Z b w1.H) : rd T W f s w.H Z :=
  ⟨w, r, rfl, ok, re, go h fun a w1 b e ok1 q h1 => hk a w1 b e ok1 (re.ex ok e.toEx0) q h1⟩
theorem go_a {f : FA} {γ δ : Type} {R2 : Wo → γ → δ → Prop} {W : WX} {s : St} {w : Wo} {r : Lc} {k : List D → List O → Rs γ} {Q : δ → Hp → Prop} {Z : List V → Hp → Prop} (ok : Ok T w) (re : RelE T w r s)
    (h : Post T R2 (wx T W s) w ((f r w.mu).bind k) Q) (hk : ∀ a w1 b, Ex w w1 → Ok T w1 → RelE T w1 r s → RelDs T w1 a b → Post T R2 (wx T W s) w1 (k a w1.mu) Q → Z b w1.H) : rdA T W f s w.H Z :=
  ⟨w, r, rfl, ok, re, go h fun a w1 b e ok1 q h1 => hk a w1 b e ok1 (re.ex ok e.toEx0) q h1⟩
theorem go_t {f : FT} {γ δ : Type} {R2 : Wo → γ → δ → Prop} {W : WX} {s : St} {w : Wo} {r : Lc} {k : Bool → List O → Rs γ} {Q : δ → Hp → Prop} {Z : Bool → Hp → Prop} (ok : Ok T w) (re : RelE T w r s)
    (h : Post T R2 (wx T W s) w ((f r w.mu).bind k) Q) (hk : ∀ a w1, Ex w w1 → Ok T w1 → RelE T w1 r s → Post T R2 (wx T W s) w1 (k a w1.mu) Q → Z a w1.H) : rdT T W f s w.H Z :=
  ⟨w, r, rfl, ok, re, go (R := fun _ (a b : Bool) => a = b) h fun a w1 b e ok1 q h1 => by subst q; exact hk a w1 e ok1 (re.ex ok e.toEx0) h1⟩
/-- the end of an expression without a change -/
theorem Post.now {α β : Type} {R : Wo → α → β → Prop} {W : Str → Wo → Prop} {w : Wo} {a : α} {b : β} {Q : β → Hp → Prop} (h : Post T R W w (.ok a w.mu) Q) (ok : Ok T w) (hr : R w a b) : Q b w.H :=
  h w b .rfl' ok rfl hr

/-! ### a new thing is laid -/
/-- laid at a free address, not in the store -/
def Wo.lay (w : Wo) (p : Addr) (o : HO) : Wo := { w with H := upd w.H p o }
theorem Rd.upd {H : Hp} {a p : Addr} {o u : HO} (h : a ≠ p) : Rd (upd H p o) a u ↔ Rd H a u := by
  unfold L2.Rd; rw [upd_ne h]
theorem Stb.upd {H : Hp} {a p : Addr} {o u : HO} (h : a ≠ p) (q : Stb H a u) : Stb (upd H p o) a u := by
  cases u <;> simp only [Stb] at q ⊢ <;> first | exact (Rd.upd h).mpr q | (rw [upd_ne h]; exact q)
theorem not_bt {w : Wo} (ok : Ok T w) {p : Addr} (h : w.H p = none) : p ∉ w.bt := fun hb => ok.tr p hb h
theorem not_hid {w : Wo} (ok : Ok T w) {p : Addr} (h : w.H p = none) : ¬ w.hid p := fun hb => by obtain ⟨o, e, _⟩ := ok.hidT p hb; rw [h] at e; cases e
theorem hid_ne {w : Wo} (ok : Ok T w) {p a : Addr} (h : w.H p = none) (ha : w.hid a) : a ≠ p := fun e => not_hid ok h (e ▸ ha)
theorem not_live {w : Wo} (ok : Ok T w) {p : Addr} (h : w.H p = none) : ¬ Live w p := by
  rintro (hh | ⟨n, hn, _⟩)
  · exact not_hid ok h hh
  · exact not_bt ok h (List.mem_of_getElem? hn)
theorem lay_ex {w : Wo} (ok : Ok T w) {p : Addr} {o : HO} (h : w.H p = none) : Ex w (w.lay p o) := by
  refine ⟨⟨⟨[], by simp [Wo.lay]⟩, fun a q => ?_, fun a u q _ => ?_, fun a _ q => q⟩, rfl, fun a ha => upd_ne (hid_ne ok h ha)⟩
  · show upd w.H p o a ≠ none
    unfold upd; split
    · simp
    · exact q
  · refine Stb.upd ?_ q
    rintro rfl
    exact q.ne h
theorem RelOb.ex {w w' : Wo} (ok : Ok T w) (e : Ex0 w w') {a : Addr} {o : O} (h : RelOb T w a o) (he : w'.H a = w.H a) : RelOb T w' a o := by
  cases o with
  | lst ds => obtain ⟨vs, h1, h2⟩ := h; exact ⟨vs, he.trans h1, h2.ex ok e⟩
  | dct ks ds => obtain ⟨vs, h1, hl, h2⟩ := h; exact ⟨vs, he.trans h1, hl, h2.ex ok e⟩
  | ins c ns ds => obtain ⟨C, dx, vs, hc, h1, hl, h2⟩ := h; exact ⟨C, dx, vs, hc, he.trans h1, hl, h2.ex ok e⟩
  | dead => trivial
theorem lay_ok {w : Wo} (ok : Ok T w) {p : Addr} {o : HO} (h : w.H p = none) : Ok T (w.lay p o) := by
  refine ⟨fun a ha => by obtain ⟨u, e, q⟩ := ok.hidT a ha; exact ⟨u, (upd_ne (hid_ne ok h ha)).trans e, q⟩, ok.hidN, ok.len, ok.nd, fun a ha => (lay_ex (o := o) ok h).some_ a (ok.tr a ha), fun n ob a h1 h2 => ?_⟩
  refine RelOb.ex ok (lay_ex ok h).toEx0 (ok.obj n ob a h1 h2) ?_
  exact upd_ne fun e => not_bt ok h (by rw [← e]; exact List.mem_of_getElem? h2)
/-- laid, and in the store -/
def Wo.new (w : Wo) (p : Addr) (o : HO) (u : O) : Wo := ⟨w.bt ++ [p], w.mu ++ [u], w.hid, upd w.H p o⟩
theorem new_ex {w : Wo} (ok : Ok T w) {p : Addr} {o : HO} {u : O} (h : w.H p = none) : Ex w (w.new p o u) := by
  have l := lay_ex (o := o) ok h
  refine ⟨⟨⟨[p], rfl⟩, l.some_, l.keep, fun a ha q => ?_⟩, rfl, l.hidK⟩
  rcases q with q | ⟨n, hn, ob, hm, hd⟩
  · exact .inl q
  refine .inr ?_
  have hn' : (w.bt ++ [p])[n]? = some a := hn
  have hm' : (w.mu ++ [u])[n]? = some ob := hm
  by_cases hl : n < w.bt.length
  · rw [List.getElem?_append_left hl] at hn'
    rw [List.getElem?_append_left (by rw [ok.len]; exact hl)] at hm'
    exact ⟨n, hn', ob, hm', hd⟩
  · rw [List.getElem?_append_right (by omega)] at hn'
    have : a = p := by
      cases hq : n - w.bt.length with
      | zero => rw [hq] at hn'; simpa using hn'.symm
      | succ k => rw [hq] at hn'; simp at hn'
    exact absurd (this ▸ h) ha
theorem new_ok {w : Wo} (ok : Ok T w) {p : Addr} {o : HO} {u : O} (h : w.H p = none) (hu : RelOb T (w.new p o u) p u) : Ok T (w.new p o u) := by
  have hx := new_ex (o := o) (u := u) ok h
  refine ⟨fun a ha => by obtain ⟨u, e, q⟩ := ok.hidT a ha; exact ⟨u, (upd_ne (hid_ne ok h ha)).trans e, q⟩, fun a ha => ?_, by simp [Wo.new, ok.len], ?_, fun a ha => ?_, fun n ob a h1 h2 => ?_⟩
  · rcases List.mem_append.mp (show a ∈ w.bt ++ [p] from ha) with q | q
    · exact ok.hidN a q
    · simp at q; subst q; exact not_hid ok h
  · show (w.bt ++ [p]).Nodup
    rw [List.nodup_append]
    exact ⟨ok.nd, by simp, fun a ha b hb => by simp at hb; subst hb; rintro rfl; exact not_bt ok h ha⟩
  · rcases List.mem_append.mp (show a ∈ w.bt ++ [p] from ha) with q | q
    · exact hx.some_ a (ok.tr a q)
    · simp at q; subst q
      show upd w.H a o a ≠ none
      rw [upd_same]; simp
  · have h1' : (w.mu ++ [u])[n]? = some ob := h1
    have h2' : (w.bt ++ [p])[n]? = some a := h2
    by_cases hl : n < w.bt.length
    · rw [List.getElem?_append_left hl] at h2'
      rw [List.getElem?_append_left (by rw [ok.len]; exact hl)] at h1'
      refine RelOb.ex ok hx.toEx0 (ok.obj n ob a h1' h2') ?_
      exact upd_ne fun e => not_bt ok h (by rw [← e]; exact List.mem_of_getElem? h2')
    · rw [List.getElem?_append_right (by omega)] at h2'
      rw [List.getElem?_append_right (by rw [ok.len]; omega), ok.len] at h1'
      cases hq : n - w.bt.length with
      | zero =>
        rw [hq] at h1' h2'
        simp at h1' h2'
        subst h1' h2'
        exact hu
      | succ k => rw [hq] at h2'; simp at h2'
/-- an object of the store is written -/
def Wo.put (w : Wo) (n : Nat) (a : Addr) (o : HO) (u : O) : Wo := ⟨w.bt, w.mu.set n u, w.hid, upd w.H a o⟩
theorem bt_inj {w : Wo} (ok : Ok T w) {n m : Nat} {a : Addr} (h : w.bt[n]? = some a) (q : w.bt[m]? = some a) : n = m := by
  obtain ⟨h1, e1⟩ := List.getElem?_eq_some_iff.mp h
  obtain ⟨h2, e2⟩ := List.getElem?_eq_some_iff.mp q
  exact (List.getElem_inj ok.nd).mp (e1.trans e2.symm)
theorem put_ex {w : Wo} (ok : Ok T w) {n : Nat} {a : Addr} {o : HO} {u v : O} (h : w.bt[n]? = some a) (hl : w.mu[n]? = some v) (hd : v ≠ .dead) : Ex w (w.put n a o u) := by
  have nh : ∀ b, w.hid b → b ≠ a := fun b hb e => ok.hidN a (List.mem_of_getElem? h) (e ▸ hb)
  refine ⟨⟨⟨[], by simp [Wo.put]⟩, fun b q => ?_, fun b x q nl => ?_, fun b hb q => ?_⟩, rfl, fun b hb => upd_ne (nh b hb)⟩
  · show upd w.H a o b ≠ none
    unfold upd; split
    · simp
    · exact q
  · refine Stb.upd ?_ q
    rintro rfl
    exact nl (.inr ⟨n, h, v, hl, hd⟩)
  · rcases q with q | ⟨m, h1, ob, h2, h3⟩
    · exact .inl q
    refine .inr ?_
    have h2' : (w.mu.set n u)[m]? = some ob := h2
    by_cases e : m = n
    · subst e
      exact ⟨m, h1, v, hl, hd⟩
    · rw [List.getElem?_set_ne (Ne.symm e)] at h2'
      exact ⟨m, h1, ob, h2', h3⟩
theorem put_ok {w : Wo} (ok : Ok T w) {n : Nat} {a : Addr} {o : HO} {u v : O} (h : w.bt[n]? = some a) (hl : w.mu[n]? = some v) (hd : v ≠ .dead) (hu : RelOb T (w.put n a o u) a u) : Ok T (w.put n a o u) := by
  have hx := put_ex (o := o) (u := u) ok h hl hd
  have nh : ∀ b, w.hid b → b ≠ a := fun b hb e => ok.hidN a (List.mem_of_getElem? h) (e ▸ hb)
  refine ⟨fun b hb => by obtain ⟨x, e, q⟩ := ok.hidT b hb; exact ⟨x, (upd_ne (nh b hb)).trans e, q⟩, ok.hidN, by simp [Wo.put, ok.len], ok.nd, fun b hb => hx.some_ b (ok.tr b hb), fun m ob b h1 h2 => ?_⟩
  have h1' : (w.mu.set n u)[m]? = some ob := h1
  have h2' : w.bt[m]? = some b := h2
  by_cases e : m = n
  · subst e
    rw [h] at h2'; cases h2'
    rw [List.getElem?_set] at h1'
    have hn : m < w.mu.length := (List.getElem?_eq_some_iff.mp hl).1
    simp [hn] at h1'
    subst h1'
    exact hu
  · rw [List.getElem?_set_ne (Ne.symm e)] at h1'
    refine RelOb.ex ok hx.toEx0 (ok.obj m ob b h1' h2') ?_
    exact upd_ne fun q => e (bt_inj ok (q ▸ h2') h)
/-- an object leaves the store: nobody changes it any more -/
def Wo.kill (w : Wo) (n : Nat) : Wo := { w with mu := w.mu.set n .dead }
theorem kill_ex {w : Wo} {n : Nat} : Ex w (w.kill n) := by
  refine ⟨⟨⟨[], by simp [Wo.kill]⟩, fun _ q => q, fun _ _ q _ => q, fun b hb q => ?_⟩, rfl, fun _ _ => rfl⟩
  rcases q with q | ⟨m, h1, ob, h2, h3⟩
  · exact .inl q
  refine .inr ?_
  have h2' : (w.mu.set n .dead)[m]? = some ob := h2
  by_cases e : m = n
  · subst e
    rw [List.getElem?_set] at h2'
    by_cases hn : m < w.mu.length
    · simp [hn] at h2'; exact absurd h2'.symm h3
    · simp [hn] at h2'
  · rw [List.getElem?_set_ne (Ne.symm e)] at h2'
    exact ⟨m, h1, ob, h2', h3⟩
theorem kill_ok {w : Wo} (ok : Ok T w) {n : Nat} : Ok T (w.kill n) := by
  refine ⟨ok.hidT, ok.hidN, by simp [Wo.kill, ok.len], ok.nd, ok.tr, fun m ob b h1 h2 => ?_⟩
  have h1' : (w.mu.set n .dead)[m]? = some ob := h1
  by_cases e : m = n
  · subst e
    rw [List.getElem?_set] at h1'
    by_cases hn : m < w.mu.length
    · simp [hn] at h1'; subst h1'; trivial
    · simp [hn] at h1'
  · rw [List.getElem?_set_ne (Ne.symm e)] at h1'
    exact RelOb.ex ok kill_ex.toEx0 (ok.obj m ob b h1' h2) rfl
theorem kill_dead {w : Wo} (ok : Ok T w) {n : Nat} {a : Addr} (h : w.bt[n]? = some a) : ¬ Live (w.kill n) a := by
  rintro (q | ⟨m, h1, ob, h2, h3⟩)
  · exact ok.hidN a (List.mem_of_getElem? h) q
  have e : m = n := bt_inj ok h1 h
  subst e
  have h2' : (w.mu.set m .dead)[m]? = some ob := h2
  rw [List.getElem?_set] at h2'
  by_cases hn : m < w.mu.length
  · simp [hn] at h2'; exact h3 h2'.symm
  · simp [hn] at h2'
/-! ### a private object: nothing else knows of it -/
/-- p is laid and hidden -/
def Wo.hide (w : Wo) (p : Addr) (o : HO) : Wo := { w with hid := fun a => a = p ∨ w.hid a, H := upd w.H p o }
theorem hide_ex {w : Wo} (ok : Ok T w) {p : Addr} {o : HO} (h : w.H p = none) : Ex0 w (w.hide p o) := by
  have l := lay_ex (o := o) ok h
  refine ⟨l.pre, l.some_, l.keep, fun a ha q => ?_⟩
  rcases q with (q | q) | q
  · subst q; exact absurd h ha
  · exact .inl q
  · exact .inr q
theorem hide_ok {w : Wo} (ok : Ok T w) {p : Addr} {o : HO} (h : w.H p = none) (hd : Hd o) : Ok T (w.hide p o) := by
  have hx := hide_ex (o := o) ok h
  refine ⟨fun a ha => ?_, fun a ha q => ?_, ok.len, ok.nd, fun a ha => hx.some_ a (ok.tr a ha), fun n ob a h1 h2 => ?_⟩
  · rcases ha with ha | ha
    · subst ha; exact ⟨o, upd_same, hd⟩
    · obtain ⟨u, e, q⟩ := ok.hidT a ha
      exact ⟨u, (upd_ne (hid_ne ok h ha)).trans e, q⟩
  · rcases q with q | q
    · subst q; exact not_bt ok h ha
    · exact ok.hidN a ha q
  · refine RelOb.ex ok hx (ok.obj n ob a h1 h2) ?_
    exact upd_ne fun e => not_bt ok h (by rw [← e]; exact List.mem_of_getElem? h2)
/-- a hidden object is written -/
theorem over_ex {w : Wo} {p : Addr} {o : HO} (h : w.hid p) : Ex0 w (w.lay p o) := by
  refine ⟨⟨[], by simp [Wo.lay]⟩, fun a q => ?_, fun a u q nl => ?_, fun a _ q => q⟩
  · show upd w.H p o a ≠ none
    unfold upd; split
    · simp
    · exact q
  · refine Stb.upd ?_ q
    rintro rfl
    exact nl (.inl h)
theorem over_ok {w : Wo} (ok : Ok T w) {p : Addr} {o : HO} (h : w.hid p) (hd : Hd o) : Ok T (w.lay p o) := by
  have hx := over_ex (o := o) h
  refine ⟨fun a ha => ?_, ok.hidN, ok.len, ok.nd, fun a ha => hx.some_ a (ok.tr a ha), fun n ob a h1 h2 => ?_⟩
  · by_cases e : a = p
    · subst e; exact ⟨o, upd_same, hd⟩
    · obtain ⟨u, e', q⟩ := ok.hidT a ha
      exact ⟨u, (upd_ne e).trans e', q⟩
  · refine RelOb.ex ok hx (ok.obj n ob a h1 h2) ?_
    exact upd_ne fun e => ok.hidN a (List.mem_of_getElem? h2) (e ▸ h)
/-- hidden no longer -/
def Wo.show_ (w : Wo) (hd : Addr → Prop) : Wo := { w with hid := hd }
theorem show_ex {w : Wo} {hd : Addr → Prop} (h : ∀ a, hd a → w.hid a) : Ex0 w (w.show_ hd) := by
  refine ⟨⟨[], by simp [Wo.show_]⟩, fun _ q => q, fun _ _ q _ => q, fun a _ q => ?_⟩
  rcases q with q | q
  · exact .inl (h a q)
  · exact .inr q
theorem show_ok {w : Wo} (ok : Ok T w) {hd : Addr → Prop} (h : ∀ a, hd a → w.hid a) : Ok T (w.show_ hd) :=
  ⟨fun a ha => ok.hidT a (h a ha), fun a ha q => ok.hidN a ha (h a q), ok.len, ok.nd, ok.tr, fun n ob a h1 h2 => RelOb.ex ok (show_ex h) (ok.obj n ob a h1 h2) rfl⟩
end FR
set_option Elab.async false
set_option linter.all false
set_option maxRecDepth 100000
set_option maxHeartbeats 4000000
/-! ## Expressions -/
namespace FR
open PySem PySem.Spec L2
set_option autoImplicit false

abbrev tx (X : Cx) : Tx := ⟨X.K, X.mg⟩
variable {X : Cx} {T : Tx} {W : WX} {f g h : FE} {fa : FA} {ft gt : FT} {a b c e : Expr} {es : List Expr} {pos : Pos} {k : Nat}

/-! ### store reads -/
@[reducible] def derefL (d : D) (m : List O) : Option (List D) := match d with
  | .lst xs => some xs
  | .loc n => match m[n]? with
    | some (.lst xs) => some xs
    | _ => none
  | _ => none
@[reducible] def derefS (d : D) (m : List O) : Option (List D) := match d with
  | .tup xs => some xs
  | .lst xs => some xs
  | .loc n => match m[n]? with
    | some (.lst xs) => some xs
    | _ => none
  | _ => none
theorem derefL_ok {w : Wo} {d : D} {v : V} {xs : List D} (ok : Ok T w) (r : RelD T w d v) (h : derefL d w.mu = some xs) : ∃ a vs, v = .ref a ∧ w.H a = some (.lst vs) ∧ RelDs T w xs vs := by
  unfold derefL at h
  split at h
  · cases h
    simp only [RelD] at r
    obtain ⟨a, vs, h1, h2, _, h3⟩ := r
    exact ⟨a, vs, h1, h2, h3⟩
  · split at h
    · cases h
      rename_i n _ _ hm
      simp only [RelD] at r
      obtain ⟨a, h1, h2⟩ := r
      obtain ⟨vs, h3, h4⟩ := ok.obj _ _ _ hm h2
      exact ⟨a, vs, h1, h3, h4⟩
    · cases h
  · cases h
theorem derefS_ok {w : Wo} {d : D} {v : V} {xs : List D} (ok : Ok T w) (r : RelD T w d v) (h : derefS d w.mu = some xs) : ∃ a vs, v = .ref a ∧ (SqL T.K w.H a vs ∨ SqT T.K w.H a vs) ∧ RelDs T w xs vs := by
  cases d with
  | tup ds =>
    cases h
    simp only [RelD] at r
    obtain ⟨a, vs, h1, h2, h3⟩ := r
    exact ⟨a, vs, h1, .inr h2, h3⟩
  | lst ds =>
    obtain ⟨a, vs, h1, h2, h3⟩ := derefL_ok (d := .lst ds) (xs := xs) ok r h
    exact ⟨a, vs, h1, .inl (SqL.of h2), h3⟩
  | loc n =>
    obtain ⟨a, vs, h1, h2, h3⟩ := derefL_ok (d := .loc n) (xs := xs) ok r h
    exact ⟨a, vs, h1, .inl (SqL.of h2), h3⟩
  | _ => cases h

/-! ### names, constants -/
def fVar (i : Nat) : FE := fun r m => match r[i]? with
  | some (some d) => .ok d m
  | _ => .stk
def fC (d : D) : FE := fun _ m => .ok d m
theorem v_var {i : Nat} {x : Str} (hN : X.N[i]? = some x := by rfl) (hv : Vis X.env.scope x := by first | exact Or.inl rfl | exact Or.inr (Or.inl rfl) | exact Or.inr (Or.inr rfl)) (hd : (x == ("__debug__" : Str)) = false := by decide)
    (hcd : (x == ("__classdict__" : Str)) = false := by decide) : PE X (.Name x pos) (rd (tx X) W (fVar i)) := by
  refine pe_imp (pe_var hN hv hd hcd) fun s H Q h => ?_
  obtain ⟨w, r, rfl, ok, re, h⟩ := h
  unfold fVar at h
  split at h
  · rename_i d e
    obtain ⟨v, h1, h2⟩ := re.2 i d e
    exact ⟨v, h1, h.now ok h2⟩
  · exact h.elim
theorem v_int {i : Int} {j} : PE X (.Constant (.int i) j pos) (rd (tx X) W (fC (.int i))) := pe_imp pe_int fun s H Q ⟨w, r, e, ok, re, h⟩ => by subst e; exact h.now ok (by simp only [RelD])
theorem v_bl {i : Bool} {j} : PE X (.Constant (.bool i) j pos) (rd (tx X) W (fC (.bl i))) := pe_imp pe_bl fun s H Q ⟨w, r, e, ok, re, h⟩ => by subst e; exact h.now ok (by simp only [RelD])
theorem v_non {j} : PE X (.Constant .none j pos) (rd (tx X) W (fC .non)) := pe_imp pe_non fun s H Q ⟨w, r, e, ok, re, h⟩ => by subst e; exact h.now ok (by simp only [RelD])
theorem v_str {i : Str} {j} : PE X (.Constant (.str i) j pos) (rd (tx X) W (fC (.str i))) := pe_imp pe_str fun s H Q ⟨w, r, e, ok, re, h⟩ => by subst e; exact h.now ok (by simp only [RelD])
/-- a module's constant -/
def GV (T : Tx) (x : Str) (d : D) : Prop := ∃ u v, T.mg x = some u ∧ RelV v u ∧ ∀ w, RelD T w d v
theorem v_glob {x : Str} {d : D} (hg : Gl X x) (gv : GV (tx X) x d) (hd : (x == ("__debug__" : Str)) = false := by decide) : PE X (.Name x pos) (rd (tx X) W (fC d)) := by
  obtain ⟨u, v, hm, rv, hr⟩ := gv
  exact pe_imp (pe_glob hg hm rv hd) fun s H Q ⟨w, r, e, ok, re, h⟩ => by subst e; exact h.now ok (hr w)
theorem v_bty {x : Str} {n : String} (hg : Gl X x) (hm : X.mg x = none) (hv : bootBuiltins x = some (.type n)) (hn : x ≠ "__name__" := by decide) (hd : (x == ("__debug__" : Str)) = false := by decide) :
    PE X (.Name x pos) (rd (tx X) W (fC (.ty n))) :=
  pe_imp (pe_bltn (v := .ty n) hg hm hv rfl hn hd) fun s H Q ⟨w, r, e, ok, re, h⟩ => by subst e; exact h.now ok (by simp only [RelD])

/-! ### operators -/
def fBin (o : D → D → List O → Rs D) (f g : FE) : FE := fun r m => (f r m).bind fun a m => (g r m).bind fun b m => o a b m
def OpS (T : Tx) (r : R2) (o : D → D → List O → Rs D) : Prop := ∀ (W : Str → Wo → Prop) (w : Wo) (d e : D) (v u : V) (Q : VK), Ok T w → RelD T w d v → RelD T w e u → Post T (RelD T) W w (o d e w.mu) Q → r v u w.H Q
theorem opS {r : R2} {o : D → D → List O → Rs D} (s : OpS T r o) : ∀ σ H Q, rd T W (fBin o f g) σ H Q → tOp r (rd T W f) (rd T W g) σ H Q := by
  rintro σ H Q ⟨w, l, rfl, ok, re, h⟩
  refine go_e ok re h fun a w1 b e1 ok1 re1 r1 h1 => ?_
  refine go_e ok1 re1 h1 fun a2 w2 b2 e2 ok2 re2 r2 h2 => ?_
  exact s _ w2 _ _ _ _ _ ok2 (r1.ex ok1 e2.toEx0) r2 h2
theorem v_bin {op : Operator} {r : R2} {o : D → D → List O → Rs D} (ho : OpR X (binaryOp op) r) (s : OpS (tx X) r o) (ha : PE X a (rd (tx X) W f)) (hb : PE X b (rd (tx X) W g)) : PE X (.BinOp a op b pos) (rd (tx X) W (fBin o f g)) :=
  pe_imp (pe_op ho ha hb) (opS s)
/-- a new tuple, a new list -/
theorem new_tup {W : Str → Wo → Prop} {w : Wo} {ds : List D} {vs : List V} {Q : VK} (ok : Ok T w) (r : RelDs T w ds vs) (h : Post T (RelD T) W w (.ok (.tup ds) w.mu) Q) (p : Addr) (hp : w.H p = none) : Q (.ref p) (upd w.H p (.tup vs)) :=
  h (w.lay p (.tup vs)) (.ref p) (lay_ex ok hp) (lay_ok ok hp) rfl (by simp only [RelD]; exact ⟨p, vs, rfl, SqT.of upd_same, r.ex ok (lay_ex ok hp).toEx0⟩)
theorem new_lst {W : Str → Wo → Prop} {w : Wo} {ds : List D} {vs : List V} {Q : VK} (ok : Ok T w) (r : RelDs T w ds vs) (h : Post T (RelD T) W w (.ok (.lst ds) w.mu) Q) (p : Addr) (hp : w.H p = none) : Q (.ref p) (upd w.H p (.lst vs)) :=
  h (w.lay p (.lst vs)) (.ref p) (lay_ex ok hp) (lay_ok ok hp) rfl (by simp only [RelD]; exact ⟨p, vs, rfl, upd_same, not_live ok hp, r.ex ok (lay_ex ok hp).toEx0⟩)
theorem new_loc {W : Str → Wo → Prop} {w : Wo} {ds : List D} {vs : List V} {Q : VK} (ok : Ok T w) (r : RelDs T w ds vs) (h : Post T (RelD T) W w (.ok (.loc w.mu.length) (w.mu ++ [.lst ds])) Q) (p : Addr) (hp : w.H p = none) : Q (.ref p) (upd w.H p (.lst vs)) :=
  h (w.new p (.lst vs) (.lst ds)) (.ref p) (new_ex ok hp) (new_ok ok hp ⟨vs, upd_same, r.ex ok (new_ex ok hp).toEx0⟩) rfl (by
    simp only [RelD]; refine ⟨p, rfl, ?_⟩
    show (w.bt ++ [p])[w.mu.length]? = some p
    rw [ok.len]; simp)

def gAdd : D → D → List O → Rs D := fun a b m => match a, b with
  | .int i, .int j => .ok (.int (i + j)) m
  | .str x, .str y => if x.length + y.length ≤ 16777216 then .ok (.str (x ++ y)) m else .stk
  | .tup xs, .tup ys => if xs.length + ys.length ≤ 16777216 then .ok (.tup (xs ++ ys)) m else .stk
  | .int i, .bl j => .ok (.int (i + PyProof.Rows.b2i j)) m
  | x, y => match derefL x m, derefL y m with
    | some xs, some ys => if xs.length + ys.length ≤ 16777216 then .ok (.lst (xs ++ ys)) m else .stk
    | _, _ => .stk
def rAddAll (K : PySem.W.Frag) : R2 := fun x y H Q => ((rI0 (fun i j => .int (i + j)) x y H Q ∨ (∃ i j, x = .str i ∧ y = .str j ∧ i.length + j.length ≤ sizeLine ∧ Q (.str (i ++ j)) H)) ∨ rCatA K x y H Q) ∨ ((∃ i k, x = .int i ∧ y = .bl k ∧ Q (.int (i + PyProof.Rows.b2i k)) H) ∨ rCat x y H Q)
theorem op_addAll : OpR X (binaryOp .Add) (rAddAll X.K) := OpR.or (OpR.or (OpR.or op_add op_add_str) op_catA) (OpR.or op_add_ib op_cat)
theorem RelDs.emp {w : Wo} {ds : List D} {vs : List V} (r : RelDs T w ds vs) : vs = [] ↔ ds = [] := by
  have := r.length
  constructor
  · rintro rfl; exact List.length_eq_zero_iff.mp this.symm
  · rintro rfl; exact List.length_eq_zero_iff.mp this
theorem s_add : OpS T (rAddAll T.K) gAdd := by
  intro W w d e v u Q ok r1 r2 h
  unfold gAdd at h
  split at h
  · simp only [RelD] at r1 r2; subst r1 r2
    exact .inl (.inl (.inl ⟨_, _, rfl, rfl, h.now ok (by simp only [RelD])⟩))
  · simp only [RelD] at r1 r2; subst r1 r2
    split at h
    · rename_i hl
      exact .inl (.inl (.inr ⟨_, _, rfl, rfl, by rw [sizeLine_eq]; exact hl, h.now ok (by simp only [RelD])⟩))
    · exact h.elim
  · split at h
    · rename_i hl
      simp only [RelD] at r1 r2
      obtain ⟨p, vs, rfl, h1, q1⟩ := r1
      obtain ⟨p2, vs2, rfl, h2, q2⟩ := r2
      refine .inl (.inr ⟨p, p2, vs, vs2, rfl, rfl, h1, h2, by rw [sizeLine_eq, q1.length, q2.length]; exact hl, fun e => ?_, fun _ e => ?_, fun _ _ => new_tup ok (q1.append q2) h⟩)
      · have := q1.emp.mp e; subst this
        exact h.now ok (by simp only [RelD]; exact ⟨p2, vs2, rfl, h2, q2⟩)
      · have := q2.emp.mp e; subst this
        exact h.now ok (by simp only [RelD]; exact ⟨p, vs, rfl, h1, by simpa using q1⟩)
    · exact h.elim
  · simp only [RelD] at r1 r2; subst r1 r2
    exact .inr (.inl ⟨_, _, rfl, rfl, h.now ok (by simp only [RelD])⟩)
  · split at h
    · rename_i xs ys e1 e2
      split at h
      · rename_i hl
        obtain ⟨a, vs, rfl, h1, q1⟩ := derefL_ok ok r1 e1
        obtain ⟨a2, vs2, rfl, h2, q2⟩ := derefL_ok ok r2 e2
        exact .inr (.inr ⟨a, a2, vs, vs2, rfl, rfl, h1, h2, by rw [sizeLine_eq, q1.length, q2.length]; exact hl, new_lst ok (q1.append q2) h⟩)
      · exact h.elim
    · exact h.elim
theorem v_add (ha : PE X a (rd (tx X) W f)) (hb : PE X b (rd (tx X) W g)) : PE X (.BinOp a .Add b pos) (rd (tx X) W (fBin gAdd f g)) := v_bin op_addAll s_add ha hb

/-- ints -/
def gI (c : Int → Int → Bool) (o : Int → Int → D) : D → D → List O → Rs D := fun a b m => match a, b with
  | .int i, .int j => if c i j = true then .ok (o i j) m else .stk
  | _, _ => .stk
theorem s_I {C : Int → Int → Prop} {c : Int → Int → Bool} {r : Int → Int → V} {o : Int → Int → D} (hc : ∀ i j, c i j = true → C i j) (ho : ∀ w i j, RelD T w (o i j) (r i j)) : OpS T (rI C r) (gI c o) := by
  intro W w d e v u Q ok r1 r2 h
  unfold gI at h
  split at h
  · simp only [RelD] at r1 r2; subst r1 r2
    split at h
    · rename_i q
      exact ⟨_, _, rfl, rfl, hc _ _ q, h.now ok (ho _ _ _)⟩
    · exact h.elim
  · exact h.elim
theorem s_I0 {r : Int → Int → V} {o : Int → Int → D} (ho : ∀ w i j, RelD T w (o i j) (r i j)) : OpS T (rI0 r) (gI (fun _ _ => true) o) := by
  intro W w d e v u Q ok r1 r2 h
  unfold gI at h
  split at h
  · simp only [RelD] at r1 r2; subst r1 r2
    exact ⟨_, _, rfl, rfl, h.now ok (ho _ _ _)⟩
  · exact h.elim
def gSub := gI (fun _ _ => true) fun i j => .int (i - j)
theorem v_sub (ha : PE X a (rd (tx X) W f)) (hb : PE X b (rd (tx X) W g)) : PE X (.BinOp a .Sub b pos) (rd (tx X) W (fBin gSub f g)) := v_bin op_sub (s_I0 fun _ _ _ => by simp only [RelD]) ha hb
@[reducible] def cMul (i j : Int) : Bool := (decide (-(2 ^ 64) < i) && decide (i < 2 ^ 64)) || (decide (-(2 ^ 64) < j) && decide (j < 2 ^ 64))
def gMulI := gI cMul fun i j => .int (i * j)
theorem v_mul (ha : PE X a (rd (tx X) W f)) (hb : PE X b (rd (tx X) W g)) : PE X (.BinOp a .Mult b pos) (rd (tx X) W (fBin gMulI f g)) :=
  v_bin op_mul (s_I (fun i j h => by simpa [cMul, CMul] using h) fun _ _ _ => by simp only [RelD]) ha hb
def gMod := gI (fun _ j => decide (0 < j)) fun i j => .int (i % j)
theorem v_mod (ha : PE X a (rd (tx X) W f)) (hb : PE X b (rd (tx X) W g)) : PE X (.BinOp a .Mod b pos) (rd (tx X) W (fBin gMod f g)) :=
  v_bin op_mod (s_I (fun i j h => of_decide_eq_true h) fun _ _ _ => by simp only [RelD]) ha hb
def gFdiv := gI (fun _ j => decide (0 < j ∧ j < 1073741824)) fun i j => .int (i / j)
theorem v_fdiv (ha : PE X a (rd (tx X) W f)) (hb : PE X b (rd (tx X) W g)) : PE X (.BinOp a .FloorDiv b pos) (rd (tx X) W (fBin gFdiv f g)) :=
  v_bin op_fdiv (s_I (fun i j h => by simpa [CDiv] using h) fun _ _ _ => by simp only [RelD]) ha hb
def gPow := gI (fun i j => decide (0 ≤ j ∧ j ≤ 1000000 ∧ i.natAbs < 2 ^ 64)) fun i j => .int (i ^ j.toNat)
theorem v_pow (ha : PE X a (rd (tx X) W f)) (hb : PE X b (rd (tx X) W g)) : PE X (.BinOp a .Pow b pos) (rd (tx X) W (fBin gPow f g)) :=
  v_bin op_pow (s_I (fun i j h => by simpa [CPow] using h) fun _ _ _ => by simp only [RelD]) ha hb
def gNeg : D → List O → Rs D := fun a m => match a with
  | .int i => .ok (.int (-i)) m
  | _ => .stk
def fUn (o : D → List O → Rs D) (f : FE) : FE := fun r m => (f r m).bind o
theorem v_neg (ha : PE X a (rd (tx X) W f)) : PE X (.UnaryOp .USub a pos) (rd (tx X) W (fUn gNeg f)) := by
  refine pe_imp (pe_un un_neg ha) ?_
  rintro σ H Q ⟨w, l, rfl, ok, re, h⟩
  refine go_e ok re h fun d w1 v e1 ok1 re1 r1 h1 => ?_
  unfold gNeg at h1
  split at h1
  · simp only [RelD] at r1; subst r1
    exact ⟨_, rfl, h1.now ok1 (by simp only [RelD])⟩
  · exact h1.elim

/-! ### comparisons -/
/-- a comparison, by values -/
def Cm (X : Cx) (op : CmpOp) (o : D → D → List O → Rs D) : Prop := ∃ r, OpR X (compareOp op) r ∧ OpS (tx X) r o
theorem v_cmp {op : CmpOp} {o : D → D → List O → Rs D} (hm : behindInMarks op b = false) (m : Cm X op o) (ha : PE X a (rd (tx X) W f)) (hb : PE X b (rd (tx X) W g)) :
    PE X (.Compare a [op] [b] pos) (rd (tx X) W (fBin o f g)) := let ⟨_, ho, s⟩ := m; pe_imp (pe_cmpR ho ha hb hm) (opS s)
def tVal (f : FE) : FT := fun r m => (f r m).bind fun d m => match d with
  | .bl z => .ok z m
  | _ => .stk
theorem tvalS : ∀ σ H Q, rdT T W (tVal f) σ H Q → rd T W f σ H fun x H' => ∃ k, x = .bl k ∧ Q k H' := by
  rintro σ H Q ⟨w, l, rfl, ok, re, h⟩
  refine go_e ok re h fun d w1 v e1 ok1 re1 r1 h1 => ?_
  split at h1
  · simp only [RelD] at r1; subst r1
    exact ⟨_, rfl, h1.now ok1 rfl⟩
  · exact h1.elim
theorem t_cmp {op : CmpOp} {o : D → D → List O → Rs D} (hm : behindInMarks op b = false) (m : Cm X op o) (ha : PE X a (rd (tx X) W f)) (hb : PE X b (rd (tx X) W g)) :
    PT X (.Compare a [op] [b] pos) (rdT (tx X) W (tVal (fBin o f g))) := let ⟨_, ho, s⟩ := m; pt_imp (pt_cmpR ho ha hb hm) fun σ H Q h => opS s σ H _ (tvalS σ H Q h)
def gLt := gI (fun _ _ => true) fun i j => .bl (decide (i < j))
def gLe := gI (fun _ _ => true) fun i j => .bl (decide (i ≤ j))
def gGt := gI (fun _ _ => true) fun i j => .bl (decide (j < i))
def gGe := gI (fun _ _ => true) fun i j => .bl (decide (j ≤ i))
theorem cm_lt : Cm X .Lt gLt := ⟨_, op_lt, s_I0 fun _ _ _ => by simp only [RelD]⟩
theorem cm_le : Cm X .LtE gLe := ⟨_, op_le, s_I0 fun _ _ _ => by simp only [RelD]⟩
theorem cm_gt : Cm X .Gt gGt := ⟨_, op_gt, s_I0 fun _ _ _ => by simp only [RelD]⟩
theorem cm_ge : Cm X .GtE gGe := ⟨_, op_ge, s_I0 fun _ _ _ => by simp only [RelD]⟩
/-- a op b op' c -/
def fChain (o o' : D → D → List O → Rs D) (f g h : FE) : FE := fun r m => (f r m).bind fun a m => (g r m).bind fun b m => (o a b m).bind fun z m => match z with
  | .bl true => (h r m).bind fun c m => o' b c m
  | .bl false => .ok (.bl false) m
  | _ => .stk
theorem chainS {r r' : R2} {o o' : D → D → List O → Rs D} (s : OpS T r o) (s' : OpS T r' o') : ∀ σ H Q, rd T W (fChain o o' f g h) σ H Q → tChain r r' (rd T W f) (rd T W g) (rd T W h) σ H Q := by
  rintro σ H Q ⟨w, l, rfl, ok, re, hh⟩
  refine go_e ok re hh fun a w1 x e1 ok1 re1 r1 h1 => ?_
  refine go_e ok1 re1 h1 fun b w2 y e2 ok2 re2 r2 h2 => ?_
  refine s (wx T W σ) w2 a b x y _ ok2 (r1.ex ok1 e2.toEx0) r2 (go h2 fun z w3 v3 e3 ok3 r3 h3 => ?_)
  have r2' := r2.ex ok2 e3.toEx0
  have re3 := re2.ex ok2 e3.toEx0
  split at h3
  · simp only [RelD] at r3; subst r3
    refine ⟨true, rfl, ?_⟩
    simp only [if_true]
    refine go_e ok3 re3 h3 fun c w4 z4 e4 ok4 re4 r4 h4 => ?_
    exact s' _ w4 _ _ _ _ _ ok4 (r2'.ex ok3 e4.toEx0) r4 h4
  · simp only [RelD] at r3; subst r3
    exact ⟨false, rfl, by simp only [Bool.false_eq_true, if_false]; exact h3.now ok3 (by simp only [RelD])⟩
  · exact h3.elim
theorem v_chain {op op' : CmpOp} {o o' : D → D → List O → Rs D} (hm : lastMarks [op, op'] [b, c] = false) (m : Cm X op o) (m' : Cm X op' o') (ha : PE X a (rd (tx X) W f)) (hb : PE X b (rd (tx X) W g)) (hc : PE X c (rd (tx X) W h)) :
    PE X (.Compare a [op, op'] [b, c] pos) (rd (tx X) W (fChain o o' f g h)) := let ⟨_, ho, s⟩ := m; let ⟨_, ho', s'⟩ := m'; pe_imp (pe_chain ho ho' ha hb hc hm) (chainS s s')
theorem t_chain {op op' : CmpOp} {o o' : D → D → List O → Rs D} (hm : lastMarks [op, op'] [b, c] = false) (m : Cm X op o) (m' : Cm X op' o') (ha : PE X a (rd (tx X) W f)) (hb : PE X b (rd (tx X) W g)) (hc : PE X c (rd (tx X) W h)) :
    PT X (.Compare a [op, op'] [b, c] pos) (rdT (tx X) W (tVal (fChain o o' f g h))) := let ⟨_, ho, s⟩ := m; let ⟨_, ho', s'⟩ := m'; pt_imp (pt_chain ho ho' ha hb hc hm) fun σ H Q h => chainS s s' σ H _ (tvalS σ H Q h)

/-! ### == and != of data -/
mutual
def toPy : D → Option PyData
  | .non => some .none
  | .bl b => some (.bool b)
  | .int i => some (.int i)
  | .str x => some (.str x)
  | .tup xs => (toPys xs).map .tuple
  | .lst xs => (toPys xs).map .list
  | _ => none
def toPys : List D → Option (List PyData)
  | [] => some []
  | x :: xs => match toPy x, toPys xs with
    | some p, some ps => some (p :: ps)
    | _, _ => none
end
mutual
theorem toPy_ok {w : Wo} : ∀ {d : D} {v : V} {p : PyData}, RelD T w d v → toPy d = some p → Dp T.K w.H v p
  | .non, v, p, r, h => by simp only [RelD] at r; simp only [toPy, Option.some.injEq] at h; subst r h; exact .non
  | .bl _, v, p, r, h => by simp only [RelD] at r; simp only [toPy, Option.some.injEq] at h; subst r h; exact .bl _
  | .int _, v, p, r, h => by simp only [RelD] at r; simp only [toPy, Option.some.injEq] at h; subst r h; exact .int _
  | .str _, v, p, r, h => by simp only [RelD] at r; simp only [toPy, Option.some.injEq] at h; subst r h; exact .str _
  | .tup xs, v, p, r, h => by
    simp only [RelD] at r
    obtain ⟨a, vs, rfl, h1, h2⟩ := r
    simp only [toPy, Option.map_eq_some_iff] at h
    obtain ⟨ps, e, rfl⟩ := h
    exact .tup h1 (toPys_ok h2 e)
  | .lst xs, v, p, r, h => by
    simp only [RelD] at r
    obtain ⟨a, vs, rfl, h1, _, h2⟩ := r
    simp only [toPy, Option.map_eq_some_iff] at h
    obtain ⟨ps, e, rfl⟩ := h
    exact .lst (SqL.of h1) (toPys_ok h2 e)
  | .ty _, _, _, _, h => by simp [toPy] at h
  | .dct _ _, _, _, _, h => by simp [toPy] at h
  | .ins _ _ _, _, _, _, h => by simp [toPy] at h
  | .loc _, _, _, _, h => by simp [toPy] at h
  | .glo _, _, _, _, h => by simp [toPy] at h
  | .scr _, _, _, _, h => by simp [toPy] at h
  | .exc _, _, _, _, h => by simp [toPy] at h
theorem toPys_ok {w : Wo} : ∀ {ds : List D} {vs : List V} {ps : List PyData}, RelDs T w ds vs → toPys ds = some ps → DpAll T.K w.H vs ps
  | [], vs, ps, r, h => by simp only [RelDs] at r; simp only [toPys, Option.some.injEq] at h; subst r h; exact .nil
  | d :: ds, vs, ps, r, h => by
    simp only [RelDs] at r
    obtain ⟨v, l, rfl, h1, h2⟩ := r
    simp only [toPys] at h
    split at h
    · rename_i p ps' e1 e2
      cases h
      exact .cons (toPy_ok h1 e1) (toPys_ok h2 e2)
    · cases h
end
def gEqW (n : Bool) : D → D → List O → Rs D := fun a b m => match toPy a, toPy b with
  | some p, some q => if (SeqAt.shaped p && SeqAt.shaped q) = true then .ok (.bl (if n then !PyData.eqv p q else PyData.eqv p q)) m else .stk
  | _, _ => .stk
def gEq := gEqW false
def gNe := gEqW true
theorem s_eq : OpS T (rEqD T.K) gEq := by
  intro W w d e v u Q ok r1 r2 h
  unfold gEq gEqW at h
  split at h
  · rename_i p q e1 e2
    split at h
    · rename_i hs
      rw [Bool.and_eq_true] at hs
      exact ⟨p, q, toPy_ok r1 e1, toPy_ok r2 e2, hs.1, hs.2, h.now ok (by simp [RelD])⟩
    · exact h.elim
  · exact h.elim
theorem s_ne : OpS T (rNeD T.K) gNe := by
  intro W w d e v u Q ok r1 r2 h
  unfold gNe gEqW at h
  split at h
  · rename_i p q e1 e2
    split at h
    · rename_i hs
      rw [Bool.and_eq_true] at hs
      exact ⟨p, q, toPy_ok r1 e1, toPy_ok r2 e2, hs.1, hs.2, h.now ok (by simp [RelD])⟩
    · exact h.elim
  · exact h.elim
theorem cm_eq (hr : Room k X.A) : Cm X .Eq gEq := ⟨_, op_eqD hr.units, s_eq⟩
theorem cm_ne (hr : Room k X.A) : Cm X .NotEq gNe := ⟨_, op_neD hr.units, s_ne⟩

/-! ### is None, is of types -/
@[reducible] def isNon : D → Bool
  | .non => true
  | _ => false
def gIsW (n : Bool) : D → D → List O → Rs D := fun a b m => match b with
  | .non => .ok (.bl (if n then !isNon a else isNon a)) m
  | .ty y => match a with
    | .ty x => .ok (.bl (if n then !decide (x = y) else decide (x = y))) m
    | _ => .stk
  | _ => .stk
theorem isNon_val {w : Wo} {d : D} {v : V} (r : RelD T w d v) : decide (v = .non) = isNon d := by
  cases d <;> simp only [RelD] at r
  case non => subst r; rfl
  all_goals refine decide_eq_false ?_
  all_goals first
    | (subst r; simp)
    | (obtain ⟨_, _, e, _⟩ := r; subst e; simp)
    | (obtain ⟨_, e, _⟩ := r; subst e; simp)
    | (obtain ⟨_, _, _, _, e, _⟩ := r; subst e; simp)
def gIs := gIsW false
def gIsNot := gIsW true
theorem cm_is : Cm X .Is gIs := by
  refine ⟨_, OpR.or op_isN op_isTyB, fun W w d e v u Q ok r1 r2 h => ?_⟩
  unfold gIs gIsW at h
  split at h
  · simp only [RelD] at r2; subst r2
    refine .inl ⟨rfl, ?_⟩
    rw [isNon_val r1]
    exact h.now ok (by simp [RelD])
  · split at h
    · simp only [RelD] at r1 r2; subst r1 r2
      exact .inr ⟨_, _, rfl, rfl, h.now ok (by simp [RelD])⟩
    · exact h.elim
  · exact h.elim
theorem cm_isNot : Cm X .IsNot gIsNot := by
  refine ⟨_, OpR.or op_notN op_notTyB, fun W w d e v u Q ok r1 r2 h => ?_⟩
  unfold gIsNot gIsW at h
  split at h
  · simp only [RelD] at r2; subst r2
    refine .inl ⟨rfl, ?_⟩
    rw [isNon_val r1]
    exact h.now ok (by simp [RelD])
  · split at h
    · simp only [RelD] at r1 r2; subst r1 r2
      exact .inr ⟨_, _, rfl, rfl, h.now ok (by simp [RelD])⟩
    · exact h.elim
  · exact h.elim

/-! ### in: a sign in a text, a flat value in a list or tuple -/
@[reducible] def flatD : D → Bool
  | .non => true
  | .bl _ => true
  | .int _ => true
  | .str _ => true
  | _ => false
@[reducible] def eqF : D → D → Bool
  | .non, .non => true
  | .bl a, .bl b => a == b
  | .bl a, .int b => (if a then 1 else 0) == b
  | .int a, .bl b => a == (if b then 1 else 0)
  | .int a, .int b => a == b
  | .str a, .str b => a == b
  | _, _ => false
theorem flat_val {w : Wo} {d : D} {v : V} (r : RelD T w d v) (h : flatD d = true) : flatV v = true := by
  cases d <;> simp only [RelD] at r <;> first | (subst r; rfl) | cases h
theorem eqF_val {w : Wo} {d e : D} {v u : V} (r : RelD T w d v) (q : RelD T w e u) (h : flatD d = true) (h2 : flatD e = true) : eqF d e = eqV v u := by
  cases d <;> simp only [RelD] at r <;> first | (subst r) | cases h
  all_goals (cases e <;> simp only [RelD] at q <;> first | (subst q; rfl) | cases h2)
theorem inV_val {w : Wo} {d : D} {v : V} (r : RelD T w d v) (h : flatD d = true) : ∀ {ds : List D} {vs : List V}, RelDs T w ds vs → ds.all flatD = true → vs.all flatV = true ∧ inV v vs = ds.any fun y => eqF y d
  | [], vs, q, _ => by simp only [RelDs] at q; subst q; exact ⟨rfl, rfl⟩
  | e :: ds, vs, q, hf => by
    simp only [RelDs] at q
    obtain ⟨u, l, rfl, h1, h2⟩ := q
    rw [List.all_cons, Bool.and_eq_true] at hf
    obtain ⟨i1, i2⟩ := inV_val r h h2 hf.2
    refine ⟨by rw [List.all_cons, flat_val h1 hf.1, i1]; rfl, ?_⟩
    unfold inV at i2 ⊢
    rw [List.any_cons, List.any_cons, i2, eqF_val h1 r hf.1 h]
def gInW (n : Bool) : D → D → List O → Rs D := fun a b m => match a, b with
  | .str x, .str z => if x.cps.size = 1 then .ok (.bl (if n then !decide (x.cps.getD 0 0 ∈ z.cps.toList) else decide (x.cps.getD 0 0 ∈ z.cps.toList))) m else .stk
  | x, y => match derefS y m with
    | some ys => if (flatD x && ys.all flatD) = true then .ok (.bl (if n then !(ys.any fun y => eqF y x) else ys.any fun y => eqF y x)) m else .stk
    | none => .stk
theorem sign_of {x : Str} (h : x.cps.size = 1) : x = ⟨#[x.cps.getD 0 0]⟩ := by
  obtain ⟨⟨l⟩⟩ := x
  match l, h with
  | [c], _ => rfl
def gIn := gInW false
def gNotIn := gInW true
theorem cm_in : Cm X .In gIn := by
  refine ⟨_, OpR.or op_in_sign op_in_seq, fun W w d e v u Q ok r1 r2 h => ?_⟩
  unfold gIn gInW at h
  split at h
  · split at h
    · rename_i hz
      simp only [RelD] at r1 r2; subst r1 r2
      exact .inl ⟨_, _, by rw [sign_of hz], rfl, h.now ok (by simp [RelD])⟩
    · exact h.elim
  · split at h
    · rename_i ys e1
      split at h
      · rename_i hf
        rw [Bool.and_eq_true] at hf
        obtain ⟨p, vs, rfl, h1, h2⟩ := derefS_ok ok r2 e1
        obtain ⟨i1, i2⟩ := inV_val r1 hf.1 h2 hf.2
        refine .inr ⟨p, vs, rfl, h1, flat_val r1 hf.1, i1, ?_⟩
        simp only [Bool.false_eq_true, if_false]
        rw [i2]
        exact h.now ok (by simp [RelD])
      · exact h.elim
    · exact h.elim
theorem cm_notIn : Cm X .NotIn gNotIn := by
  refine ⟨_, OpR.or op_notIn_sign op_notIn_seq, fun W w d e v u Q ok r1 r2 h => ?_⟩
  unfold gNotIn gInW at h
  split at h
  · split at h
    · rename_i hz
      simp only [RelD] at r1 r2; subst r1 r2
      exact .inl ⟨_, _, by rw [sign_of hz], rfl, h.now ok (by simp [RelD])⟩
    · exact h.elim
  · split at h
    · rename_i ys e1
      split at h
      · rename_i hf
        rw [Bool.and_eq_true] at hf
        obtain ⟨p, vs, rfl, h1, h2⟩ := derefS_ok ok r2 e1
        obtain ⟨i1, i2⟩ := inV_val r1 hf.1 h2 hf.2
        refine .inr ⟨p, vs, rfl, h1, flat_val r1 hf.1, i1, ?_⟩
        simp only [if_true]
        rw [i2]
        exact h.now ok (by simp [RelD])
      · exact h.elim
    · exact h.elim
end FR
set_option Elab.async false
set_option linter.all false
set_option maxRecDepth 100000
set_option maxHeartbeats 4000000
/-! ## Tests, displays, items, built-ins, methods -/
namespace FR
open PySem PySem.Spec L2
set_option autoImplicit false
variable {X : Cx} {T : Tx} {W : WX} {f g h : FE} {fa : FA} {ft gt : FT} {a b c e o : Expr} {es rest : List Expr} {pos : Pos} {k : Nat}

/-! ### and, or, not, a choice -/
def fAnd (f g : FE) : FE := fun r m => (f r m).bind fun d m => match d with
  | .bl true => g r m
  | .bl false => .ok (.bl false) m
  | _ => .stk
def fOr (f g : FE) : FE := fun r m => (f r m).bind fun d m => match d with
  | .bl true => .ok (.bl true) m
  | .bl false => g r m
  | _ => .stk
theorem v_one {op} (ha : PE X a (rd (tx X) W f)) : PE X (.BoolOp op [a] pos) (rd (tx X) W f) := pe_one ha
theorem v_and (ha : PE X a (rd (tx X) W f)) (hb : PE X (.BoolOp .And (b :: rest) pos) (rd (tx X) W g)) : PE X (.BoolOp .And (a :: b :: rest) pos) (rd (tx X) W (fAnd f g)) := by
  refine pe_imp (pe_and ha hb) ?_
  rintro σ H Q ⟨w, l, rfl, ok, re, h⟩
  refine go_e ok re h fun d w1 v e1 ok1 re1 r1 h1 => ?_
  split at h1
  · simp only [RelD] at r1; subst r1
    refine ⟨true, rfl, ?_⟩
    simp only [if_true]
    exact ⟨w1, l, rfl, ok1, re1, h1⟩
  · simp only [RelD] at r1; subst r1
    refine ⟨false, rfl, ?_⟩
    simp only [Bool.false_eq_true, if_false]
    exact h1.now ok1 (by simp only [RelD])
  · exact h1.elim
theorem v_or (ha : PE X a (rd (tx X) W f)) (hb : PE X (.BoolOp .Or (b :: rest) pos) (rd (tx X) W g)) : PE X (.BoolOp .Or (a :: b :: rest) pos) (rd (tx X) W (fOr f g)) := by
  refine pe_imp (pe_or ha hb) ?_
  rintro σ H Q ⟨w, l, rfl, ok, re, h⟩
  refine go_e ok re h fun d w1 v e1 ok1 re1 r1 h1 => ?_
  split at h1
  · simp only [RelD] at r1; subst r1
    refine ⟨true, rfl, ?_⟩
    simp only [if_true]
    exact h1.now ok1 (by simp only [RelD])
  · simp only [RelD] at r1; subst r1
    refine ⟨false, rfl, ?_⟩
    simp only [Bool.false_eq_true, if_false]
    exact ⟨w1, l, rfl, ok1, re1, h1⟩
  · exact h1.elim

/-! ### tests -/
/-- an expression whose value is a bool -/
theorem t_val (he : PE X e (rd (tx X) W f)) (h : ∀ whole, isTrue e X.env whole = (do let v ← whole; standAt e.pos; holding [v] (truthy v)) := by intro _; rfl) : PT X e (rdT (tx X) W (tVal f)) := by
  refine pt_imp (pt_val he h) fun σ H Q q => ?_
  exact tvalS σ H Q q
/-- truth of any value -/
@[reducible] def truD (d : D) (m : List O) : Option Bool := match d with
  | .non => some false
  | .bl z => some z
  | .int i => some (i != 0)
  | .str x => if x.length ≤ 16777216 then some ((x.length : Int) != 0) else none
  | d => match derefS d m with
    | some xs => some (!xs.isEmpty)
    | none => none
def tTru (f : FE) : FT := fun r m => (f r m).bind fun d m => match truD d m with
  | some z => .ok z m
  | none => .stk
theorem RelDs.isEmpty {w : Wo} {ds : List D} {vs : List V} (r : RelDs T w ds vs) : vs.isEmpty = ds.isEmpty := by
  have := r.length
  cases ds <;> cases vs <;> first | rfl | simp at this
theorem truD_ok {w : Wo} {d : D} {v : V} {z : Bool} (ok : Ok T w) (r : RelD T w d v) (h : truD d w.mu = some z) : TruV T.K v w.H z := by
  have seq : derefS d w.mu ≠ none → ∀ z, (match derefS d w.mu with | some xs => some (!xs.isEmpty) | none => none) = some z → TruV T.K v w.H z := by
    intro hn z hz
    split at hz
    · rename_i xs e
      cases hz
      obtain ⟨a, vs, rfl, h1, h2⟩ := derefS_ok ok r e
      rcases h1 with h1 | h1
      · exact .inl ⟨vs, h1, by rw [h2.isEmpty]⟩
      · exact .inr (.inl ⟨vs, h1, by rw [h2.isEmpty]⟩)
    · cases hz
  cases d with
  | non => simp only [RelD] at r; subst r; cases h; rfl
  | bl _ => simp only [RelD] at r; subst r; cases h; rfl
  | int _ => simp only [RelD] at r; subst r; cases h; rfl
  | str x =>
    simp only [RelD] at r; subst r
    have h' : (if x.length ≤ 16777216 then some ((x.length : Int) != 0) else none) = some z := h
    by_cases hl : x.length ≤ 16777216
    · rw [if_pos hl] at h'; cases h'; exact ⟨by rw [sizeLine_eq]; exact hl, rfl⟩
    · rw [if_neg hl] at h'; cases h'
  | tup xs => exact seq (by simp [derefS]) z h
  | lst xs => exact seq (by simp [derefS]) z h
  | loc n =>
    have h' : (match derefS (.loc n) w.mu with | some xs => some (!xs.isEmpty) | none => none) = some z := h
    exact seq (by intro q; rw [q] at h'; cases h') z h'
  | _ => cases h
theorem t_tru (he : PE X e (rd (tx X) W f)) (h : ∀ whole, isTrue e X.env whole = (do let v ← whole; standAt e.pos; holding [v] (truthy v)) := by intro _; rfl) : PT X e (rdT (tx X) W (tTru f)) := by
  refine pt_imp (pt_truth he h) ?_
  rintro σ H Q ⟨w, l, rfl, ok, re, h⟩
  refine go_e ok re h fun d w1 v e1 ok1 re1 r1 h1 => ?_
  split at h1
  · rename_i z ez
    exact ⟨z, truD_ok ok1 r1 ez, h1.now ok1 rfl⟩
  · exact h1.elim
def tNot_ (f : FT) : FT := fun r m => (f r m).bind fun z m => .ok (!z) m
def tAnd_ (f g : FT) : FT := fun r m => (f r m).bind fun z m => if z = true then g r m else .ok false m
def tOr_ (f g : FT) : FT := fun r m => (f r m).bind fun z m => if z = true then .ok true m else g r m
theorem t_not (h : PT X a (rdT (tx X) W ft)) : PT X (.UnaryOp .Not a pos) (rdT (tx X) W (tNot_ ft)) := by
  refine pt_imp (pt_not h) ?_
  rintro σ H Q ⟨w, l, rfl, ok, re, h⟩
  exact go_t ok re h fun z w1 e1 ok1 re1 h1 => h1.now ok1 rfl
theorem w_and1 (h : PT X a (rdT (tx X) W ft)) : PW X (.BoolOp .And [a] pos) (rdT (tx X) W ft) := pw_and1 h
theorem w_or1 (h : PT X a (rdT (tx X) W ft)) : PW X (.BoolOp .Or [a] pos) (rdT (tx X) W ft) := pw_or1 h
theorem w_and (ha : PT X a (rdT (tx X) W ft)) (hb : PW X (.BoolOp .And (b :: rest) pos) (rdT (tx X) W gt)) : PW X (.BoolOp .And (a :: b :: rest) pos) (rdT (tx X) W (tAnd_ ft gt)) := by
  refine pw_imp (pw_and ha hb) ?_
  rintro σ H Q ⟨w, l, rfl, ok, re, h⟩
  refine go_t ok re h fun z w1 e1 ok1 re1 h1 => ?_
  cases z with
  | true => simp only [if_true] at h1 ⊢; exact ⟨w1, l, rfl, ok1, re1, h1⟩
  | false => simp only [Bool.false_eq_true, if_false] at h1 ⊢; exact h1.now ok1 rfl
theorem w_or (ha : PT X a (rdT (tx X) W ft)) (hb : PW X (.BoolOp .Or (b :: rest) pos) (rdT (tx X) W gt)) : PW X (.BoolOp .Or (a :: b :: rest) pos) (rdT (tx X) W (tOr_ ft gt)) := by
  refine pw_imp (pw_or ha hb) ?_
  rintro σ H Q ⟨w, l, rfl, ok, re, h⟩
  refine go_t ok re h fun z w1 e1 ok1 re1 h1 => ?_
  cases z with
  | true => simp only [if_true] at h1 ⊢; exact h1.now ok1 rfl
  | false => simp only [Bool.false_eq_true, if_false] at h1 ⊢; exact ⟨w1, l, rfl, ok1, re1, h1⟩
theorem t_w (h : PW X a (rdT (tx X) W ft)) : PT X a (rdT (tx X) W ft) := h.pt
/-- not of a bool, as a value -/
def gNot : D → List O → Rs D := fun d m => match d with
  | .bl z => .ok (.bl (!z)) m
  | _ => .stk
theorem v_not (ha : PE X a (rd (tx X) W f)) : PE X (.UnaryOp .Not a pos) (rd (tx X) W (fUn gNot f)) := by
  refine pe_imp (pe_not ha) ?_
  rintro σ H Q ⟨w, l, rfl, ok, re, h⟩
  refine go_e ok re h fun d w1 v e1 ok1 re1 r1 h1 => ?_
  unfold gNot at h1
  split at h1
  · simp only [RelD] at r1; subst r1
    exact ⟨_, rfl, h1.now ok1 (by simp only [RelD])⟩
  · exact h1.elim
def fIf (t : FT) (f g : FE) : FE := fun r m => (t r m).bind fun z m => if z = true then f r m else g r m
theorem v_if (hc : PT X c (rdT (tx X) W ft)) (ha : PE X a (rd (tx X) W f)) (hb : PE X b (rd (tx X) W g)) : PE X (.IfExp c a b pos) (rd (tx X) W (fIf ft f g)) := by
  refine pe_imp (pe_ifExp hc ha hb) ?_
  rintro σ H Q ⟨w, l, rfl, ok, re, h⟩
  refine go_t ok re h fun z w1 e1 ok1 re1 h1 => ?_
  cases z with
  | true => simp only [if_true] at h1 ⊢; exact ⟨w1, l, rfl, ok1, re1, h1⟩
  | false => simp only [Bool.false_eq_true, if_false] at h1 ⊢; exact ⟨w1, l, rfl, ok1, re1, h1⟩

/-! ### arguments, displays -/
def aNil : FA := fun _ m => .ok [] m
def aCons (f : FE) (fa : FA) : FA := fun r m => (f r m).bind fun d m => (fa r m).bind fun ds m => .ok (d :: ds) m
def aStar (f : FE) (fa : FA) : FA := fun r m => (f r m).bind fun d m => match derefS d m with
  | some xs => (fa r m).bind fun ds m => .ok (xs ++ ds) m
  | none => .stk
theorem a_nil : PA X [] (rdA (tx X) W aNil) := by
  refine pa_imp pa_nil ?_
  rintro σ H Q ⟨w, l, rfl, ok, re, h⟩
  exact h.now ok .nil
theorem a_cons (ha : PE X e (rd (tx X) W f)) (hr : PA X es (rdA (tx X) W fa)) (hs : starEach (e :: es) X.env = (false, eval e X.env) :: starEach es X.env := by rfl) : PA X (e :: es) (rdA (tx X) W (aCons f fa)) := by
  refine pa_imp (pa_cons ha hr hs) ?_
  rintro σ H Q ⟨w, l, rfl, ok, re, h⟩
  refine go_e ok re h fun d w1 v e1 ok1 re1 r1 h1 => ?_
  refine go_a ok1 re1 h1 fun ds w2 vs e2 ok2 re2 r2 h2 => ?_
  exact h2.now ok2 (.cons (r1.ex ok1 e2.toEx0) r2)
theorem a_star {p : Pos} (ha : PE X e (rd (tx X) W f)) (hr : PA X es (rdA (tx X) W fa)) (hs : starEach (.Starred e p :: es) X.env = (true, eval e X.env) :: starEach es X.env := by rfl) : PA X (.Starred e p :: es) (rdA (tx X) W (aStar f fa)) := by
  refine pa_imp (StX.pa_star ha hr hs) ?_
  rintro σ H Q ⟨w, l, rfl, ok, re, h⟩
  refine go_e ok re h fun d w1 v e1 ok1 re1 r1 h1 => ?_
  split at h1
  · rename_i xs ex
    obtain ⟨p, vs, rfl, q1, q2⟩ := derefS_ok ok1 r1 ex
    refine ⟨p, vs, rfl, q1.symm, ?_⟩
    refine go_a ok1 re1 h1 fun ds w2 us e2 ok2 re2 r2 h2 => ?_
    exact h2.now ok2 ((q2.ex ok1 e2.toEx0).append r2)
  · exact h1.elim
def fTup (fa : FA) : FE := fun r m => (fa r m).bind fun ds m => if ds.length ≤ 16777216 then .ok (.tup ds) m else .stk
def fLst (fa : FA) : FE := fun r m => (fa r m).bind fun ds m => if ds.length ≤ 16777216 then .ok (.lst ds) m else .stk
def fNew (fa : FA) : FE := fun r m => (fa r m).bind fun ds m => if ds.length ≤ 16777216 then .ok (.loc m.length) (m ++ [.lst ds]) else .stk
theorem v_tup {x1} (h : PA X es (rdA (tx X) W fa)) : PE X (.Tuple es x1 pos) (rd (tx X) W (fTup fa)) := by
  refine pe_imp (pe_tup h) ?_
  rintro σ H Q ⟨w, l, rfl, ok, re, h⟩
  refine go_a ok re h fun ds w1 vs e1 ok1 re1 r1 h1 => ?_
  split at h1
  · rename_i hl
    exact ⟨by rw [sizeLine_eq, r1.length]; exact hl, new_tup ok1 r1 h1⟩
  · exact h1.elim
theorem v_lst (h : PA X es (rdA (tx X) W fa)) : PE X (.List es pos) (rd (tx X) W (fLst fa)) := by
  refine pe_imp (pe_lst h) ?_
  rintro σ H Q ⟨w, l, rfl, ok, re, h⟩
  refine go_a ok re h fun ds w1 vs e1 ok1 re1 r1 h1 => ?_
  split at h1
  · rename_i hl
    exact ⟨by rw [sizeLine_eq, r1.length]; exact hl, new_lst ok1 r1 h1⟩
  · exact h1.elim
theorem v_new (h : PA X es (rdA (tx X) W fa)) : PE X (.List es pos) (rd (tx X) W (fNew fa)) := by
  refine pe_imp (pe_lst h) ?_
  rintro σ H Q ⟨w, l, rfl, ok, re, h⟩
  refine go_a ok re h fun ds w1 vs e1 ok1 re1 r1 h1 => ?_
  split at h1
  · rename_i hl
    exact ⟨by rw [sizeLine_eq, r1.length]; exact hl, new_loc ok1 r1 h1⟩
  · exact h1.elim
/-- a list of the store is left to itself: it changes no more -/
def gFrz : D → List O → Rs D := fun d m => match d with
  | .loc n => match m[n]? with
    | some (.lst xs) => .ok (.lst xs) (m.set n .dead)
    | some (.dct ks xs) => .ok (.dct ks xs) (m.set n .dead)
    | some (.ins c ns xs) => .ok (.ins c ns xs) (m.set n .dead)
    | _ => .stk
  | d => .ok d m
theorem frzS {w : Wo} {d : D} {v : V} {W : Str → Wo → Prop} {Q : VK} (ok : Ok T w) (r : RelD T w d v) (h : Post T (RelD T) W w (gFrz d w.mu) Q) : Q v w.H := by
  unfold gFrz at h
  split at h
  · rename_i n
    simp only [RelD] at r
    obtain ⟨a, rfl, hb⟩ := r
    have kx : Ex w (w.kill n) := kill_ex
    split at h
    · rename_i xs hm
      obtain ⟨vs, h1, h2⟩ := ok.obj _ _ _ hm hb
      exact h (w.kill n) (.ref a) kx (kill_ok ok) rfl (by simp only [RelD]; exact ⟨a, vs, rfl, h1, kill_dead ok hb, h2.ex ok kx.toEx0⟩)
    · rename_i ks xs hm
      obtain ⟨vs, h1, hl, h2⟩ := ok.obj _ _ _ hm hb
      exact h (w.kill n) (.ref a) kx (kill_ok ok) rfl (by simp only [RelD]; exact ⟨a, vs, rfl, .inl h1, hl, kill_dead ok hb, h2.ex ok kx.toEx0⟩)
    · rename_i c ns xs hm
      obtain ⟨C, dx, vs, hc, h1, hl, h2⟩ := ok.obj _ _ _ hm hb
      exact h (w.kill n) (.ref a) kx (kill_ok ok) rfl (by simp only [RelD]; exact ⟨a, C, dx, vs, rfl, hc, h1, hl, kill_dead ok hb, h2.ex ok kx.toEx0⟩)
    · exact h.elim
  · exact h.now ok r
def fFrz (f : FE) : FE := fUn gFrz f
theorem v_frz (h : PE X e (rd (tx X) W f)) : PE X e (rd (tx X) W (fFrz f)) := by
  refine pe_imp h ?_
  rintro σ H Q ⟨w, l, rfl, ok, re, h⟩
  exact go_e ok re h fun d w1 v e1 ok1 re1 r1 h1 => frzS ok1 r1 h1

/-! ### items -/
def gIx : D → D → List O → Rs D := fun d i m => match d, i with
  | .str z, .int i => if z.length ≤ 16777216 then match atI z.cps.toList i with
      | some c => .ok (.str ⟨#[c]⟩) m
      | none => .stk
    else .stk
  | .scr ns, .int i => match atI ns i with
    | some n => .ok (.int n) m
    | none => .stk
  | d, .int i => match derefS d m with
    | some xs => match atI xs i with
      | some x => .ok x m
      | none => .stk
    | none => .stk
  | _, _ => .stk
theorem atI_val {w : Wo} {ds : List D} {vs : List V} {i : Int} {d : D} (r : RelDs T w ds vs) (h : atI ds i = some d) : ∃ v, atI vs i = some v ∧ RelD T w d v := by
  unfold atI at h ⊢
  rw [r.length]
  cases e : ixN ds.length i with
  | none => rw [e] at h; cases h
  | some j => rw [e] at h; exact r.get h
theorem v_ix (ha : PE X a (rd (tx X) W f)) (hb : PE X b (rd (tx X) W g)) (hs : PlainIx b := by exact fun _ _ => rfl) : PE X (.Subscript a b pos) (rd (tx X) W (fBin gIx f g)) := by
  refine pe_imp (pe_ix ix_seq ha hb hs) (opS fun W w d i v u Q ok r1 r2 h => ?_)
  unfold gIx at h
  split at h
  · split at h
    · rename_i hl
      split at h
      · rename_i c hc
        simp only [RelD] at r1 r2; subst r1 r2
        exact .inr (.inr ⟨_, _, _, rfl, rfl, by rw [sizeLine_eq]; exact hl, hc, h.now ok (by simp only [RelD])⟩)
      · exact h.elim
    · exact h.elim
  · rename_i ns i
    split at h
    · rename_i n hn
      simp only [RelD] at r1 r2; subst r2
      obtain ⟨p, rfl, q⟩ := r1
      refine .inl ⟨p, ns.map V.int, i, .int n, rfl, rfl, ?_, ?_, h.now ok (by simp only [RelD])⟩
      · rcases q with ⟨o, q⟩ | (q | q)
        · exact .inl (.inr ⟨o, q⟩)
        · rcases q with q | ⟨_, q⟩ <;> cases q
        · exact .inr q
      · unfold atI at hn ⊢
        rw [List.length_map]
        cases e : ixN ns.length i with
        | none => rw [e] at hn; cases hn
        | some j => rw [e] at hn; simp only [Option.bind_some] at hn ⊢; rw [List.getElem?_map, hn]; rfl
    · exact h.elim
  · split at h
    · rename_i xs ex
      split at h
      · rename_i x hx
        simp only [RelD] at r2; subst r2
        obtain ⟨p, vs, rfl, q1, q2⟩ := derefS_ok ok r1 ex
        obtain ⟨y, hy, ry⟩ := atI_val q2 hx
        rcases q1 with q1 | q1
        · exact .inl ⟨p, vs, _, y, rfl, rfl, q1, hy, h.now ok ry⟩
        · exact .inr (.inl ⟨p, vs, _, y, rfl, rfl, q1, hy, h.now ok ry⟩)
      · exact h.elim
    · exact h.elim
  · exact h.elim

/-! ### slices -/
abbrev FP := Lc → List O → Rs (Option Int)
def rdP (T : Tx) (W : WX) (f : FP) : TO := fun s H Q => ∃ (w : Wo) (r : Lc), w.H = H ∧ Ok T w ∧ RelE T w r s ∧ Post T (fun _ (a b : Option Int) => a = b) (wx T W s) w (f r w.mu) Q
theorem po_imp {e : Option Expr} {t t' : TO} (h : PO X e t) (q : ∀ s H Q, t' s H Q → t s H Q) : PO X e t' := ⟨fun pins s σ H Q I hw => h.run pins s σ H Q I (q _ _ _ hw)⟩
def pNo : FP := fun _ m => .ok none m
def pSo (f : FE) : FP := fun r m => (f r m).bind fun d m => match d with
  | .int i => .ok (some i) m
  | _ => .stk
theorem p_no : PO X none (rdP (tx X) W pNo) := by
  refine po_imp po_none ?_
  rintro σ H Q ⟨w, l, rfl, ok, re, h⟩
  exact h.now ok rfl
theorem p_so (h : PE X e (rd (tx X) W f)) : PO X (some e) (rdP (tx X) W (pSo f)) := by
  refine po_imp (po_some h) ?_
  rintro σ H Q ⟨w, l, rfl, ok, re, h⟩
  refine go_e ok re h fun d w1 v e1 ok1 re1 r1 h1 => ?_
  split at h1
  · simp only [RelD] at r1; subst r1
    exact ⟨_, rfl, h1.now ok1 rfl⟩
  · exact h1.elim
def cutD {α : Type} (xs : List α) (lo hi : Option Int) : List α := (xs.drop (HT.sIx xs.length 0 lo)).take (HT.sIx xs.length xs.length hi - HT.sIx xs.length 0 lo)
theorem RelDs.drop {w : Wo} : ∀ {ds : List D} {vs : List V} (n : Nat), RelDs T w ds vs → RelDs T w (ds.drop n) (vs.drop n)
  | ds, vs, 0, h => by simpa using h
  | [], vs, n + 1, h => by simp only [RelDs] at h; subst h; simp [RelDs]
  | d :: ds, vs, n + 1, h => by
    simp only [RelDs] at h
    obtain ⟨v, l, rfl, h1, h2⟩ := h
    exact RelDs.drop n h2
theorem RelDs.take {w : Wo} : ∀ {ds : List D} {vs : List V} (n : Nat), RelDs T w ds vs → RelDs T w (ds.take n) (vs.take n)
  | ds, vs, 0, h => by simp [RelDs]
  | [], vs, n + 1, h => by simp only [RelDs] at h; subst h; simp [RelDs]
  | d :: ds, vs, n + 1, h => by
    simp only [RelDs] at h
    obtain ⟨v, l, rfl, h1, h2⟩ := h
    exact RelDs.cons h1 (RelDs.take n h2)
theorem RelDs.cut {w : Wo} {ds : List D} {vs : List V} (r : RelDs T w ds vs) (lo hi : Option Int) : RelDs T w (cutD ds lo hi) (cutV vs lo hi) := by
  unfold cutD cutV
  rw [r.length]
  exact (r.drop _).take _
def gSl (d : D) (lo hi : Option Int) (m : List O) : Rs D := match d with
  | .str z => if z.length ≤ 16777216 then .ok (.str (cutS z lo hi)) m else .stk
  | .tup xs => .ok (.tup (cutD xs lo hi)) m
  | d => match derefL d m with
    | some xs => .ok (.lst (cutD xs lo hi)) m
    | none => .stk
def fSl (f : FE) (lo hi : FP) : FE := fun r m => (f r m).bind fun d m => (lo r m).bind fun l m => (hi r m).bind fun u m => gSl d l u m
theorem v_sl {lo hi : Option Expr} {p2 : Pos} {fl fu : FP} (ha : PE X e (rd (tx X) W f)) (hl : PO X lo (rdP (tx X) W fl)) (hu : PO X hi (rdP (tx X) W fu)) : PE X (.Subscript e (.Slice lo hi none p2) pos) (rd (tx X) W (fSl f fl fu)) := by
  refine pe_imp (pe_slice (SlR.or (SlR.or sl_tupA sl_list) sl_str) ha hl hu) ?_
  rintro σ H Q ⟨w, l, rfl, ok, re, h⟩
  refine go_e ok re h fun d w1 v e1 ok1 re1 r1 h1 => ?_
  refine ⟨w1, l, rfl, ok1, re1, go (R := fun _ (a b : Option Int) => a = b) h1 fun lo w2 b2 e2 ok2 q2 h2 => ?_⟩
  subst q2
  have re2 := re1.ex ok1 e2.toEx0
  refine ⟨w2, l, rfl, ok2, re2, go (R := fun _ (a b : Option Int) => a = b) h2 fun hi w3 b3 e3 ok3 q3 h3 => ?_⟩
  subst q3
  have r3 := (r1.ex ok1 e2.toEx0).ex ok2 e3.toEx0
  unfold gSl at h3
  split at h3
  · split at h3
    · rename_i hz
      simp only [RelD] at r3; subst r3
      exact .inr ⟨_, rfl, by rw [sizeLine_eq]; exact hz, h3.now ok3 (by simp only [RelD])⟩
    · exact h3.elim
  · rename_i xs
    simp only [RelD] at r3
    obtain ⟨p, vs, rfl, q1, q2⟩ := r3
    refine .inl (.inl ⟨p, vs, rfl, q1, fun ⟨z1, z2⟩ => ?_, fun _ => new_tup ok3 (q2.cut lo hi) h3⟩)
    have hcut : cutD xs lo hi = xs := by
      unfold cutD
      rw [q2.length] at z1 z2
      rw [z1, z2]; simp
    rw [hcut] at h3
    exact h3.now ok3 (by simp only [RelD]; exact ⟨p, vs, rfl, q1, q2⟩)
  · split at h3
    · rename_i xs ex
      obtain ⟨p, vs, rfl, q1, q2⟩ := derefL_ok ok3 r3 ex
      exact .inl (.inr ⟨p, vs, rfl, SqL.of q1, new_lst ok3 (q2.cut lo hi) h3⟩)
    · exact h3.elim

/-! ### built-ins, by values -/
def CallS (T : Tx) (r : List V → Hp → VK → Prop) (o : List D → List O → Rs D) : Prop := ∀ (W : Str → Wo → Prop) (w : Wo) (ds : List D) (vs : List V) (Q : VK), Ok T w → RelDs T w ds vs → Post T (RelD T) W w (o ds w.mu) Q → r vs w.H Q
def Cb (X : Cx) (v : Value) (o : List D → List O → Rs D) : Prop := ∃ r, CallR X v r ∧ CallS (tx X) r o
def fCB (o : List D → List O → Rs D) (fa : FA) : FE := fun r m => (fa r m).bind o
theorem callS {r : List V → Hp → VK → Prop} {o : List D → List O → Rs D} (s : CallS T r o) : ∀ σ H Q, rd T W (fCB o fa) σ H Q → tCB r (rdA T W fa) σ H Q := by
  rintro σ H Q ⟨w, l, rfl, ok, re, h⟩
  exact go_a ok re h fun ds w1 vs e1 ok1 re1 r1 h1 => s _ w1 _ _ _ ok1 r1 h1
theorem v_blt {x : Str} {p : Pos} {id : String} {o : List D → List O → Rs D} (m : Cb X (.builtin id) o) (hm : X.mg x = none) (hv : bootBuiltins x = some (.builtin id)) (ha : PA X (e :: es) (rdA (tx X) W fa)) (hg : Gl X x := by rfl)
    (hn : x ≠ "__name__" := by decide) (hdb : (x == ("__debug__" : Str)) = false := by decide)
    (he : starEach (e :: es) X.env = (false, eval e X.env) :: starEach es X.env := by rfl) (hpl : (backTo pos (starEach es X.env)).any (·.1) = false := by rfl) :
    PE X (.Call (.Name x p) (e :: es) [] pos) (rd (tx X) W (fCB o fa)) := let ⟨_, hc, s⟩ := m; pe_imp (pe_callB hc hg hm hv ha hn hdb he hpl) (callS s)
theorem v_typ {x : Str} {p : Pos} {id : String} {o : List D → List O → Rs D} (m : Cb X (.type id) o) (hm : X.mg x = none) (hv : bootBuiltins x = some (.type id)) (ha : PA X (e :: es) (rdA (tx X) W fa)) (hg : Gl X x := by rfl)
    (hn : x ≠ "__name__" := by decide) (hdb : (x == ("__debug__" : Str)) = false := by decide)
    (he : starEach (e :: es) X.env = (false, eval e X.env) :: starEach es X.env := by rfl) (hpl : (backTo pos (starEach es X.env)).any (·.1) = false := by rfl) :
    PE X (.Call (.Name x p) (e :: es) [] pos) (rd (tx X) W (fCB o fa)) := let ⟨_, hc, s⟩ := m; pe_imp (pe_callTy hc hg hm hv ha hn hdb he hpl) (callS s)
theorem RelDs.one {w : Wo} {d : D} {vs : List V} (r : RelDs T w [d] vs) : ∃ v, vs = [v] ∧ RelD T w d v := by
  simp only [RelDs] at r
  obtain ⟨v, l, rfl, h, rfl⟩ := r
  exact ⟨v, rfl, h⟩
theorem RelDs.two {w : Wo} {d e : D} {vs : List V} (r : RelDs T w [d, e] vs) : ∃ v u, vs = [v, u] ∧ RelD T w d v ∧ RelD T w e u := by
  simp only [RelDs] at r
  obtain ⟨v, l, rfl, h, u, l2, rfl, h2, rfl⟩ := r
  exact ⟨v, u, rfl, h, h2⟩
theorem scr_sq {w : Wo} {ns : List Int} {v : V} (r : RelD T w (.scr ns) v) : ∃ p, v = .ref p ∧ SqL T.K w.H p (ns.map V.int) := by
  simp only [RelD] at r
  obtain ⟨p, rfl, q⟩ := r
  refine ⟨p, rfl, ?_⟩
  rcases q with ⟨o, q⟩ | (q | q)
  · exact .inl (.inr ⟨o, q⟩)
  · rcases q with q | ⟨_, q⟩ <;> cases q
  · exact .inr q
def bLen : List D → List O → Rs D := fun ds m => match ds with
  | [.str x] => if x.length ≤ 16777216 then .ok (.int x.length) m else .stk
  | [.scr ns] => .ok (.int ns.length) m
  | [d] => match derefS d m with
    | some xs => .ok (.int xs.length) m
    | none => .stk
  | _ => .stk
theorem cb_len : Cb X (.builtin "len") bLen := by
  refine ⟨_, call_len, fun W w ds vs Q ok r h => ?_⟩
  unfold bLen at h
  split at h
  · split at h
    · rename_i hl
      replace r := r.one; obtain ⟨v, rfl, r⟩ := r
      simp only [RelD] at r; subst r
      exact ⟨_, _, rfl, ⟨by rw [sizeLine_eq]; exact hl, rfl⟩, h.now ok (by simp only [RelD])⟩
    · exact h.elim
  · replace r := r.one; obtain ⟨v, rfl, r⟩ := r
    obtain ⟨p, rfl, q⟩ := scr_sq r
    exact ⟨_, _, rfl, .inl ⟨_, q, rfl⟩, h.now ok (by simp [RelD])⟩
  · split at h
    · rename_i xs ex
      replace r := r.one; obtain ⟨v, rfl, r⟩ := r
      obtain ⟨p, vs, rfl, q1, q2⟩ := derefS_ok ok r ex
      refine ⟨_, vs.length, rfl, ?_, h.now ok (by simp only [RelD]; rw [q2.length])⟩
      rcases q1 with q1 | q1
      · exact .inl ⟨_, q1, rfl⟩
      · exact .inr ⟨_, q1, rfl⟩
    · exact h.elim
  · exact h.elim
def bInt : List D → List O → Rs D := fun ds m => match ds with
  | [.int i] => .ok (.int i) m
  | [.bl z] => .ok (.int (if z then 1 else 0)) m
  | _ => .stk
theorem cb_int : Cb X (.type "int") bInt := by
  refine ⟨_, call_int1, fun W w ds vs Q ok r h => ?_⟩
  unfold bInt at h
  split at h
  · replace r := r.one; obtain ⟨v, rfl, r⟩ := r
    simp only [RelD] at r; subst r
    exact .inl ⟨_, rfl, h.now ok (by simp only [RelD])⟩
  · replace r := r.one; obtain ⟨v, rfl, r⟩ := r
    simp only [RelD] at r; subst r
    exact .inr ⟨_, rfl, h.now ok (by simp only [RelD])⟩
  · exact h.elim
def bAbs : List D → List O → Rs D := fun ds m => match ds with
  | [.int i] => .ok (.int (if i < 0 then -i else i)) m
  | _ => .stk
theorem cb_abs : Cb X (.builtin "abs") bAbs := by
  refine ⟨_, call_abs, fun W w ds vs Q ok r h => ?_⟩
  unfold bAbs at h
  split at h
  · replace r := r.one; obtain ⟨v, rfl, r⟩ := r
    simp only [RelD] at r; subst r
    exact ⟨_, rfl, h.now ok (by simp only [RelD])⟩
  · exact h.elim
def bTuple : List D → List O → Rs D := fun ds m => match ds with
  | [.tup xs] => .ok (.tup xs) m
  | [d] => match derefL d m with
    | some xs => .ok (.tup xs) m
    | none => .stk
  | _ => .stk
theorem cb_tuple : Cb X (.type "tuple") bTuple := by
  refine ⟨_, call_tuple_of, fun W w ds vs Q ok r h => ?_⟩
  unfold bTuple at h
  split at h
  · replace r := r.one; obtain ⟨v, rfl, r⟩ := r
    have r' := r
    simp only [RelD] at r
    obtain ⟨p, us, rfl, q1, q2⟩ := r
    exact ⟨p, us, rfl, .inr ⟨q1, h.now ok r'⟩⟩
  · split at h
    · rename_i xs ex
      replace r := r.one; obtain ⟨v, rfl, r⟩ := r
      obtain ⟨p, us, rfl, q1, q2⟩ := derefL_ok ok r ex
      exact ⟨p, us, rfl, .inl ⟨SqL.of q1, new_tup ok q2 h⟩⟩
    · exact h.elim
  · exact h.elim
def bList : List D → List O → Rs D := fun ds m => match ds with
  | [d] => match derefS d m with
    | some xs => .ok (.lst xs) m
    | none => .stk
  | _ => .stk
def bListN : List D → List O → Rs D := fun ds m => match ds with
  | [d] => match derefS d m with
    | some xs => .ok (.loc m.length) (m ++ [.lst xs])
    | none => .stk
  | _ => .stk
theorem cb_list : Cb X (.type "list") bList := by
  refine ⟨_, call_list_of, fun W w ds vs Q ok r h => ?_⟩
  unfold bList at h
  split at h
  · split at h
    · rename_i xs ex
      replace r := r.one; obtain ⟨v, rfl, r⟩ := r
      obtain ⟨p, us, rfl, q1, q2⟩ := derefS_ok ok r ex
      exact ⟨p, us, rfl, q1, new_lst ok q2 h⟩
    · exact h.elim
  · exact h.elim
theorem cb_listN : Cb X (.type "list") bListN := by
  refine ⟨_, call_list_of, fun W w ds vs Q ok r h => ?_⟩
  unfold bListN at h
  split at h
  · split at h
    · rename_i xs ex
      replace r := r.one; obtain ⟨v, rfl, r⟩ := r
      obtain ⟨p, us, rfl, q1, q2⟩ := derefS_ok ok r ex
      exact ⟨p, us, rfl, q1, new_loc ok q2 h⟩
    · exact h.elim
  · exact h.elim
/-- a list of ints, of bools -/
@[reducible] def intsD : List D → Option (List Int)
  | [] => some []
  | .int i :: ds => (intsD ds).map (i :: ·)
  | _ => none
@[reducible] def blsD : List D → Option (List Bool)
  | [] => some []
  | .bl i :: ds => (blsD ds).map (i :: ·)
  | _ => none
theorem intsD_val {w : Wo} : ∀ {ds : List D} {vs : List V} {ns : List Int}, RelDs T w ds vs → intsD ds = some ns → vs = ns.map V.int
  | [], vs, ns, r, h => by simp only [RelDs] at r; cases h; exact r
  | d :: ds, vs, ns, r, h => by
    simp only [RelDs] at r
    obtain ⟨v, l, rfl, h1, h2⟩ := r
    cases d <;> simp only [intsD, reduceCtorEq] at h
    rw [Option.map_eq_some_iff] at h
    obtain ⟨ms, e, rfl⟩ := h
    simp only [RelD] at h1
    rw [h1, intsD_val h2 e]; rfl
theorem blsD_val {w : Wo} : ∀ {ds : List D} {vs : List V} {ns : List Bool}, RelDs T w ds vs → blsD ds = some ns → vs = ns.map V.bl
  | [], vs, ns, r, h => by simp only [RelDs] at r; cases h; exact r
  | d :: ds, vs, ns, r, h => by
    simp only [RelDs] at r
    obtain ⟨v, l, rfl, h1, h2⟩ := r
    cases d <;> simp only [blsD, reduceCtorEq] at h
    rw [Option.map_eq_some_iff] at h
    obtain ⟨ms, e, rfl⟩ := h
    simp only [RelD] at h1
    rw [h1, blsD_val h2 e]; rfl
def bOvI (o : List Int → Option D) : List D → List O → Rs D := fun ds m => match ds with
  | [d] => match derefL d m with
    | some xs => match intsD xs with
      | some ns => match o ns with
        | some z => .ok z m
        | none => .stk
      | none => .stk
    | none => .stk
  | _ => .stk
def bOvB (o : List Bool → D) : List D → List O → Rs D := fun ds m => match ds with
  | [d] => match derefL d m with
    | some xs => match blsD xs with
      | some ns => .ok (o ns) m
      | none => .stk
    | none => .stk
  | _ => .stk
def bSum := bOvI fun ns => some (.int ns.sum)
theorem cb_sum (hc : X.calm = true) : Cb X (.builtin "sum") bSum := by
  refine ⟨_, cr_sum hc, fun W w ds vs Q ok r h => ?_⟩
  unfold bSum bOvI at h
  split at h
  · split at h
    · rename_i xs ex
      split at h
      · rename_i ns en
        replace r := r.one; obtain ⟨v, rfl, r⟩ := r
        obtain ⟨p, us, rfl, q1, q2⟩ := derefL_ok ok r ex
        have := intsD_val q2 en; subst this
        exact ⟨p, ns, rfl, SqL.of q1, h.now ok (by simp only [RelD])⟩
      · exact h.elim
    · exact h.elim
  · exact h.elim
def bAll := bOvB fun ns => .bl (ns.all id)
def bAny := bOvB fun ns => .bl (ns.any id)
theorem cb_all (hc : X.calm = true) : Cb X (.builtin "all") bAll := by
  refine ⟨_, cr_all hc, fun W w ds vs Q ok r h => ?_⟩
  unfold bAll bOvB at h
  split at h
  · split at h
    · rename_i xs ex
      split at h
      · rename_i ns en
        replace r := r.one; obtain ⟨v, rfl, r⟩ := r
        obtain ⟨p, us, rfl, q1, q2⟩ := derefL_ok ok r ex
        have := blsD_val q2 en; subst this
        exact ⟨p, ns, rfl, SqL.of q1, h.now ok (by simp only [RelD])⟩
      · exact h.elim
    · exact h.elim
  · exact h.elim
theorem cb_any (hc : X.calm = true) : Cb X (.builtin "any") bAny := by
  refine ⟨_, cr_any hc, fun W w ds vs Q ok r h => ?_⟩
  unfold bAny bOvB at h
  split at h
  · split at h
    · rename_i xs ex
      split at h
      · rename_i ns en
        replace r := r.one; obtain ⟨v, rfl, r⟩ := r
        obtain ⟨p, us, rfl, q1, q2⟩ := derefL_ok ok r ex
        have := blsD_val q2 en; subst this
        exact ⟨p, ns, rfl, SqL.of q1, h.now ok (by simp only [RelD])⟩
      · exact h.elim
    · exact h.elim
  · exact h.elim
/-! ### types -/
@[reducible] def tyD (d : D) (m : List O) : Option String := match d with
  | .non => some "NoneType"
  | .bl _ => some "bool"
  | .int _ => some "int"
  | .str _ => some "str"
  | .tup _ => some "tuple"
  | .lst _ => some "list"
  | .dct _ _ => some "dict"
  | .loc n => match m[n]? with
    | some (.lst _) => some "list"
    | some (.dct _ _) => some "dict"
    | _ => none
  | _ => none
theorem tyD_tyx {w : Wo} {d : D} {v : V} {t : String} (ok : Ok T w) (r : RelD T w d v) (h : tyD d w.mu = some t) : TyX T.K w.H v (.type t) := by
  cases d <;> simp only [tyD, Option.some.injEq, reduceCtorEq] at h
  case non => subst h; simp only [RelD] at r; subst r; exact .base .non
  case bl => subst h; simp only [RelD] at r; subst r; exact .base (.bl _)
  case int => subst h; simp only [RelD] at r; subst r; exact .base (.int _)
  case str => subst h; simp only [RelD] at r; subst r; exact .base (.str _)
  case tup =>
    subst h; simp only [RelD] at r
    obtain ⟨a, vs, rfl, q, _⟩ := r
    rcases q with (q | ⟨o, q⟩) | ⟨o, its, n, q, c, _⟩
    · exact .base (.tup q)
    · exact .fTuple q
    · exact .kTuple q c
  case lst =>
    subst h; simp only [RelD] at r
    obtain ⟨a, vs, rfl, q, _⟩ := r
    exact .base (.lst q)
  case dct =>
    subst h; simp only [RelD] at r
    obtain ⟨a, vs, rfl, q, _⟩ := r
    rcases q with q | ⟨o, q⟩
    · exact .base (.dK q)
    · exact .fDict q
  case loc n =>
    simp only [RelD] at r
    obtain ⟨a, rfl, hb⟩ := r
    split at h
    · rename_i hm; cases h
      obtain ⟨vs, q, _⟩ := ok.obj _ _ _ hm hb
      exact .base (.lst q)
    · rename_i hm; cases h
      obtain ⟨vs, q, _⟩ := ok.obj _ _ _ hm hb
      exact .base (.dK q)
    · cases h
def bIsi : List D → List O → Rs D := fun ds m => match ds with
  | [d, .ty c] => match tyD d m with
    | some t => match kitB t c with
      | some z => .ok (.bl z) m
      | none => .stk
    | none => .stk
  | _ => .stk
theorem cb_isi : Cb X (.builtin "isinstance") bIsi := by
  refine ⟨_, call_isi, fun W w ds vs Q ok r h => ?_⟩
  unfold bIsi at h
  split at h
  · split at h
    · rename_i t et
      split at h
      · rename_i z ez
        obtain ⟨v, u, rfl, r1, r2⟩ := r.two
        simp only [RelD] at r2; subst r2
        exact ⟨v, _, _, _, z, rfl, .ty _, tyD_tyx ok r1 et, kit_ty ez, h.now ok (by simp only [RelD])⟩
      · exact h.elim
    · exact h.elim
  · exact h.elim
def bType : List D → List O → Rs D := fun ds m => match ds with
  | [.dct _ _] => .stk
  | [d] => match tyD d m with
    | some t => .ok (.ty t) m
    | none => .stk
  | _ => .stk
theorem cb_type : Cb X (.type "type") bType := by
  refine ⟨_, call_type1, fun W w ds vs Q ok r h => ?_⟩
  unfold bType at h
  split at h
  · exact h.elim
  · split at h
    · rename_i d nd _ t et
      replace r := r.one; obtain ⟨v, rfl, r⟩ := r
      refine ⟨v, t, rfl, ?_, h.now ok (by simp only [RelD])⟩
      cases d <;> simp only [tyD, Option.some.injEq, reduceCtorEq] at et
      case non => subst et; simp only [RelD] at r; subst r; exact .non
      case bl => subst et; simp only [RelD] at r; subst r; exact .bl _
      case int => subst et; simp only [RelD] at r; subst r; exact .int _
      case str => subst et; simp only [RelD] at r; subst r; exact .str _
      case tup =>
        subst et; simp only [RelD] at r
        obtain ⟨a, vs, rfl, q, _⟩ := r
        exact .tup q
      case lst =>
        subst et; simp only [RelD] at r
        obtain ⟨a, vs, rfl, q, _⟩ := r
        exact .lst (SqL.of q)
      case dct => exact absurd rfl (nd _ _)
      case loc n =>
        simp only [RelD] at r
        obtain ⟨a, rfl, hb⟩ := r
        split at et
        · rename_i hm; cases et
          obtain ⟨vs, q, _⟩ := ok.obj _ _ _ hm hb
          exact .lst (SqL.of q)
        · rename_i hm; cases et
          obtain ⟨vs, q, _⟩ := ok.obj _ _ _ hm hb
          exact .dK q
        · cases et
    · exact h.elim
  · exact h.elim
end FR
set_option Elab.async false
set_option linter.all false
set_option maxRecDepth 100000
set_option maxHeartbeats 4000000
/-! ## Targets, loops, comprehensions, methods of lists and texts, statements -/
namespace FR
open PySem PySem.Spec L2
set_option autoImplicit false
variable {X : Cx} {T : Tx} {W : WX} {f g h : FE} {fa : FA} {ft gt : FT} {a b c e o tg iter : Expr} {es rest : List Expr} {pos : Pos} {k : Nat}

/-! ### targets -/
inductive Pt where
  | nm (i : Nat) | tp (is : List Nat)
@[reducible] def setAll : Lc → List Nat → List D → Lc
  | r, i :: is, d :: ds => setAll (r.set i (some d)) is ds
  | r, _, _ => r
@[reducible] def asg : Pt → D → Lc → Option Lc
  | .nm i, d, r => some (r.set i (some d))
  | .tp is, .tup ds, r => if ds.length = is.length then some (setAll r is ds) else none
  | .tp is, .lst ds, r => if ds.length = is.length then some (setAll r is ds) else none
  | _, _, _ => none
@[reducible] def gNames : List Nat → TGs
  | [] => gNil
  | i :: is => gCons (gName i) (gNames is)
@[reducible] def gOf (K : PySem.W.Frag) : Pt → TG
  | .nm i => gName i
  | .tp is => fun v s H Q => gTup K is.length (gNames is) v s H Q ∨ gUnl K is.length (gNames is) v s H Q
theorem pg_or {t t' : TG} (h : PG X e t) (h' : PG X e t') : PG X e (fun v s H Q => t v s H Q ∨ t' v s H Q) := ⟨fun pins s σ H v u Q I r hw => hw.elim (h.run pins s σ H v u Q I r) (h'.run pins s σ H v u Q I r)⟩
def setAllV : St → List Nat → List V → St
  | s, i :: is, v :: vs => setAllV (s.set i (some v)) is vs
  | s, _, _ => s
theorem gNames_ok : ∀ {is : List Nat} {vs : List V} {s : St} {H : Hp} {Q : St → Hp → Prop}, vs.length = is.length → Q (setAllV s is vs) H → gNames is vs s H Q
  | [], [], _, _, _, _, h => ⟨rfl, h⟩
  | i :: is, v :: vs, s, H, Q, hl, h => ⟨v, vs, rfl, gNames_ok (is := is) (by simpa using hl) h⟩
  | [], _ :: _, _, _, _, hl, _ => by simp at hl
  | _ :: _, [], _, _, _, hl, _ => by simp at hl
theorem RelE.setAll {w : Wo} : ∀ {is : List Nat} {r : Lc} {s : St} {ds : List D} {vs : List V}, RelE T w r s → RelDs T w ds vs → RelE T w (setAll r is ds) (setAllV s is vs)
  | [], _, _, ds, vs, h, q => by cases ds <;> exact h
  | i :: is, r, s, [], vs, h, q => by simp only [RelDs] at q; subst q; exact h
  | i :: is, r, s, d :: ds, vs, h, q => by
    simp only [RelDs] at q
    obtain ⟨v, l, rfl, h1, h2⟩ := q
    exact RelE.setAll (is := is) (h.set i h1) h2
@[reducible] def Pt.slots : Pt → List Nat
  | .nm i => [i]
  | .tp is => is
theorem wipe_get (s : St) : ∀ (vs : List Nat) (j : Nat), (wipe s vs)[j]? = if j ∈ vs then (if j < s.length then some none else none) else s[j]?
  | [], j => by simp [wipe]
  | v :: vs, j => by
    unfold wipe
    rw [List.getElem?_set, wipe_length]
    by_cases e : v = j
    · subst e; simp
    · rw [if_neg e, wipe_get s vs j]
      have : (j ∈ v :: vs) = (j ∈ vs) := by simp [Ne.symm e]
      simp only [this]
theorem wipe_set {s : St} {vs : List Nat} {i : Nat} {x : Option V} (h : i ∈ vs) : wipe (s.set i x) vs = wipe s vs := by
  apply List.ext_getElem?
  intro j
  rw [wipe_get, wipe_get, List.length_set]
  split
  · rfl
  · rename_i hj
    rw [List.getElem?_set_ne (by rintro rfl; exact hj h)]
theorem wipe_setAll : ∀ {is : List Nat} {s : St} {vs : List V} {ws : List Nat}, (∀ i ∈ is, i ∈ ws) → wipe (setAllV s is vs) ws = wipe s ws
  | [], _, vs, _, _ => by cases vs <;> rfl
  | i :: is, s, [], ws, _ => rfl
  | i :: is, s, v :: vs, ws, h => by
    show wipe (setAllV (s.set i (some v)) is vs) ws = wipe s ws
    rw [wipe_setAll (is := is) fun j hj => h j (List.mem_cons_of_mem _ hj), wipe_set (h i List.mem_cons_self)]
theorem wipe_wipe {s : St} {vs : List Nat} : wipe (wipe s vs) vs = wipe s vs := by
  apply List.ext_getElem?
  intro j
  rw [wipe_get, wipe_get, wipe_length]
  split <;> rfl
theorem gOf_ok {w : Wo} {p : Pt} {d : D} {v : V} {r r' : Lc} {s : St} (ok : Ok T w) (re : RelE T w r s) (rd : RelD T w d v) (h : asg p d r = some r') :
    ∃ s', RelE T w r' s' ∧ (∀ vs, (∀ i ∈ p.slots, i ∈ vs) → wipe s' vs = wipe s vs) ∧ ∀ Q : St → Hp → Prop, Q s' w.H → gOf T.K p v s w.H Q := by
  unfold asg at h
  split at h
  · cases h
    rename_i i
    exact ⟨_, re.set i rd, fun vs hv => wipe_set (hv i (by simp [Pt.slots])), fun Q q => q⟩
  · rename_i is ds
    split at h
    · rename_i hl
      cases h
      simp only [RelD] at rd
      obtain ⟨p, us, rfl, q1, q2⟩ := rd
      refine ⟨setAllV s is us, re.setAll q2, fun vs hv => wipe_setAll hv, fun Q q => .inl ⟨p, us, rfl, q1, by rw [q2.length, hl], gNames_ok (by rw [q2.length, hl]) q⟩⟩
    · cases h
  · rename_i is ds
    split at h
    · rename_i hl
      cases h
      simp only [RelD] at rd
      obtain ⟨p, us, rfl, q1, _, q2⟩ := rd
      refine ⟨setAllV s is us, re.setAll q2, fun vs hv => wipe_setAll hv, fun Q q => .inr ⟨p, us, rfl, SqL.of q1, by rw [q2.length, hl], gNames_ok (by rw [q2.length, hl]) q⟩⟩
    · cases h
  · cases h

/-! ### what is walked -/
def IterOk (T : Tx) (J : It) (w0 : Wo) (ds : List D) : Prop := ∀ w, Ex0 w0 w → Ok T w →
  (∀ i d, ds[i]? = some d → J.go i w.H ∧ ∀ x H', J.yld i w.H x H' → ∃ w', Ex w w' ∧ Ok T w' ∧ w'.mu = w.mu ∧ w'.H = H' ∧ RelD T w' d x) ∧ ∀ i, ds.length ≤ i → J.stop i w.H
theorem yld_same {w : Wo} {H' : Hp} {d : D} {x : V} (ok : Ok T w) (e : H' = w.H) (r : RelD T w d x) : ∃ w', Ex w w' ∧ Ok T w' ∧ w'.mu = w.mu ∧ w'.H = H' ∧ RelD T w' d x := ⟨w, .rfl', ok, rfl, e.symm, r⟩
abbrev FI := Lc → List O → Rs (List D)
def rdI (T : Tx) (W : WX) (f : FI) : TI := fun s H R => ∃ (w : Wo) (r : Lc), w.H = H ∧ Ok T w ∧ RelE T w r s ∧ match f r w.mu with
  | .ok ds m => ∀ w' J, Ex w w' → Ok T w' → w'.mu = m → IterOk T J w' ds → R J w'.H
  | .ex c m => ∀ w', Ex w w' → Ok T w' → w'.mu = m → wx T W s c w'
  | .stk => False
theorem pi_imp {t t' : TI} (h : PI X tg e t) (q : ∀ s H R, t' s H R → t s H R) : PI X tg e t' := ⟨fun pins s σ H Q I hw => h.run pins s σ H Q I (q _ _ _ hw)⟩
theorem pi_or {t t' : TI} (h : PI X tg e t) (h' : PI X tg e t') : PI X tg e (fun s H R => t s H R ∨ t' s H R) := ⟨fun pins s σ H Q I hw => hw.elim (h.run pins s σ H Q I) (h'.run pins s σ H Q I)⟩
def iSeq (f : FE) : FI := fun r m => (f r m).bind fun d m => match d with
  | .lst xs => .ok xs m
  | .tup xs => .ok xs m
  | _ => .stk
theorem iter_lst {w0 : Wo} {p : Addr} {vs : List V} {ds : List D} (ok0 : Ok T w0) (h : w0.H p = some (.lst vs)) (nl : ¬ Live w0 p) (r : RelDs T w0 ds vs) : IterOk T (Itl T.K p) w0 ds := by
  intro w ex ok
  have hp : w.H p = some (.lst vs) := ex.keep p (.lst vs) h nl
  have r' := r.ex ok0 ex
  refine ⟨fun i d hd => ?_, fun i hi => ⟨vs, SqL.of hp, by rw [r.length]; exact hi⟩⟩
  obtain ⟨v, hv, rv⟩ := r'.get hd
  refine ⟨⟨vs, v, SqL.of hp, hv⟩, fun x H' y => yld_same ok y.1 ?_⟩
  have := y.2 vs (SqL.of hp)
  rw [hv] at this; cases this; exact rv
theorem iter_tup {w0 : Wo} {p : Addr} {vs : List V} {ds : List D} (ok0 : Ok T w0) (h : SqT T.K w0.H p vs) (r : RelDs T w0 ds vs) : IterOk T (Itt T.K p) w0 ds := by
  intro w ex ok
  have hp := SqT.ex ok0 ex h
  have r' := r.ex ok0 ex
  refine ⟨fun i d hd => ?_, fun i hi => ⟨vs, hp, by rw [r.length]; exact hi⟩⟩
  obtain ⟨v, hv, rv⟩ := r'.get hd
  refine ⟨⟨vs, v, hp, hv⟩, fun x H' y => yld_same ok y.1 ?_⟩
  have := y.2 vs hp
  rw [hv] at this; cases this; exact rv
theorem i_seq (he : PE X e (rd (tx X) W f)) : PI X tg e (rdI (tx X) W (iSeq f)) := by
  refine pi_imp (pi_or (pi_list he) (pi_tup he)) ?_
  rintro σ H R ⟨w, l, rfl, ok, re, h⟩
  have hf : f l w.mu = f l w.mu := rfl
  cases e1 : f l w.mu with
  | stk => rw [iSeq, e1] at h; exact h.elim
  | ex c m =>
    rw [iSeq, e1] at h
    exact .inl ⟨w, l, rfl, ok, re, by rw [e1]; exact h⟩
  | ok d m =>
    rw [iSeq, e1] at h
    simp only [Rs.bind] at h
    cases d with
    | lst xs =>
      refine .inl ⟨w, l, rfl, ok, re, ?_⟩
      rw [e1]
      intro w1 v ex ok1 hm r1
      simp only [RelD] at r1
      obtain ⟨p, vs, rfl, q1, q2, q3⟩ := r1
      exact ⟨p, rfl, ⟨vs, SqL.of q1⟩, h w1 _ ex ok1 hm (iter_lst ok1 q1 q2 q3)⟩
    | tup xs =>
      refine .inr ⟨w, l, rfl, ok, re, ?_⟩
      rw [e1]
      intro w1 v ex ok1 hm r1
      simp only [RelD] at r1
      obtain ⟨p, vs, rfl, q1, q3⟩ := r1
      exact ⟨p, rfl, ⟨vs, q1⟩, h w1 _ ex ok1 hm (iter_tup ok1 q1 q3)⟩
    | _ => exact h.elim
@[reducible] def rangeD (i j : Int) : List D := (List.range (j - i).toNat).map fun k => D.int (i + (k : Nat))
theorem iter_rng {w0 : Wo} {i j : Int} : IterOk T (Itr i (j - i).toNat) w0 (rangeD i j) := by
  intro w ex ok
  refine ⟨fun n d hd => ?_, fun n hn => by simpa [Itr, rangeD] using hn⟩
  unfold rangeD at hd
  rw [List.getElem?_map] at hd
  by_cases hl : n < (j - i).toNat
  · rw [List.getElem?_range hl] at hd
    cases hd
    exact ⟨hl, fun x H' y => yld_same ok y.1 (by simp only [RelD]; exact y.2)⟩
  · rw [List.getElem?_eq_none (by simpa using hl)] at hd; cases hd
def iR1 (fa : FA) : FI := fun r m => (fa r m).bind fun ds m => match ds with
  | [.int j] => if -(2 ^ 62) ≤ j ∧ j < 2 ^ 62 then .ok (rangeD 0 j) m else .stk
  | _ => .stk
def iR2 (fa : FA) : FI := fun r m => (fa r m).bind fun ds m => match ds with
  | [.int i, .int j] => if -(2 ^ 62) ≤ i ∧ i < 2 ^ 62 ∧ -(2 ^ 62) ≤ j ∧ j < 2 ^ 62 then .ok (rangeD i j) m else .stk
  | _ => .stk
theorem go_i {fi : FI} {k : List D → List O → Rs (List D)} {s : St} {w : Wo} {r : Lc} {R : It → Hp → Prop} {Z : List V → Hp → Prop} (ok : Ok T w) (re : RelE T w r s)
    (h : match (fi r w.mu).bind k with
      | .ok ds m => ∀ w' J, Ex w w' → Ok T w' → w'.mu = m → IterOk T J w' ds → R J w'.H
      | .ex c m => ∀ w', Ex w w' → Ok T w' → w'.mu = m → wx T W s c w'
      | .stk => False) (hk : ∀ ds w1 vs, Ex w w1 → Ok T w1 → RelE T w1 r s → RelDs T w1 ds vs → (match k ds w1.mu with
      | .ok ds m => ∀ w' J, Ex w1 w' → Ok T w' → w'.mu = m → IterOk T J w' ds → R J w'.H
      | .ex c m => ∀ w', Ex w1 w' → Ok T w' → w'.mu = m → wx T W s c w'
      | .stk => False) → Z vs w1.H) : rdA T W fi s w.H Z := by
  refine ⟨w, r, rfl, ok, re, ?_⟩
  cases e : fi r w.mu with
  | stk => rw [e] at h; exact h
  | ex c m => rw [e] at h; exact h
  | ok ds m =>
    rw [e] at h
    intro w1 vs ex ok1 hm r1
    subst hm
    refine hk ds w1 vs ex ok1 (re.ex ok ex.toEx0) r1 ?_
    simp only [Rs.bind] at h
    revert h
    cases k ds w1.mu with
    | stk => exact fun h => h
    | ex c m => exact fun h w' e' ok' hm => h w' (ex.trans e') ok' hm
    | ok ds m => exact fun h w' J e' ok' hm => h w' J (ex.trans e') ok' hm
theorem i_r1 {p : Pos} (hm : X.mg "range" = none) (ha : PA X [a] (rdA (tx X) W fa)) (hg : Gl X "range" := by rfl) (hs : starEach [a] X.env = [(false, eval a X.env)] := by rfl) : PI X tg (.Call (.Name "range" p) [a] [] pos) (rdI (tx X) W (iR1 fa)) := by
  refine pi_imp (pi_range1 hg hm ha hs) ?_
  rintro σ H R ⟨w, l, rfl, ok, re, h⟩
  refine go_i (fi := fa) ok re h fun ds w1 vs e1 ok1 re1 r1 h1 => ?_
  split at h1
  · rename_i j m hq
    split at hq
    · rename_i j
      split at hq
      · rename_i hb
        cases hq
        replace r1 := r1.one
        obtain ⟨v, rfl, r1⟩ := r1
        simp only [RelD] at r1; subst r1
        refine ⟨j, rfl, hb.1, hb.2, ?_⟩
        have q := h1 w1 (Itr 0 (j - 0).toNat) .rfl' ok1 rfl iter_rng
        rw [Int.sub_zero] at q
        exact q
      · cases hq
    · cases hq
  · rename_i hq
    split at hq
    · split at hq <;> cases hq
    · cases hq
  · exact h1.elim
theorem i_r2 {p : Pos} (hm : X.mg "range" = none) (ha : PA X [a, b] (rdA (tx X) W fa)) (hg : Gl X "range" := by rfl) (hs : starEach [a, b] X.env = [(false, eval a X.env), (false, eval b X.env)] := by rfl) (hs2 : starEach [b] X.env = [(false, eval b X.env)] := by rfl) : PI X tg (.Call (.Name "range" p) [a, b] [] pos) (rdI (tx X) W (iR2 fa)) := by
  refine pi_imp (pi_range2 hg hm ha hs hs2) ?_
  rintro σ H R ⟨w, l, rfl, ok, re, h⟩
  refine go_i (fi := fa) ok re h fun ds w1 vs e1 ok1 re1 r1 h1 => ?_
  split at h1
  · rename_i j m hq
    split at hq
    · rename_i i j
      split at hq
      · rename_i hb
        cases hq
        replace r1 := r1.two
        obtain ⟨v, u, rfl, r1, r2⟩ := r1
        simp only [RelD] at r1 r2; subst r1 r2
        exact ⟨i, j, rfl, hb, h1 w1 (Itr i (j - i).toNat) .rfl' ok1 rfl iter_rng⟩
      · cases hq
    · cases hq
  · rename_i hq
    split at hq
    · split at hq <;> cases hq
    · cases hq
  · exact h1.elim
def iStrD (f : FE) : FI := fun r m => (f r m).bind fun d m => match d with
  | .str x => .ok (x.cps.toList.map fun c => .str ⟨#[c]⟩) m
  | _ => .stk

/-! ### list comprehensions -/
@[reducible] def wipeL (r : Lc) : List Nat → Lc
  | [] => r
  | v :: vs => (wipeL r vs).set v none
theorem RelE.wipes {w : Wo} {r : Lc} {s : St} (h : RelE T w r s) : ∀ vs : List Nat, RelE T w (wipeL r vs) (L2.wipe s vs)
  | [] => h
  | v :: vs => RelE.wipe v (RelE.wipes h vs)
def compL (p : Pt) (t : FT) (f : FE) (r : Lc) : List D → List O → Rs (List D)
  | [], m => .ok [] m
  | d :: ds, m => match asg p d r with
    | none => .stk
    | some r1 => match t r1 m with
      | .ok true m => match f r1 m with
        | .ok y m => (compL p t f r ds m).bind fun ys m => .ok (y :: ys) m
        | _ => .stk
      | .ok false m => compL p t f r ds m
      | _ => .stk
def fLc (vs : List Nat) (p : Pt) (fi : FI) (t : FT) (f : FE) : FE := fun r m => (fi r m).bind fun ds m => if ds.length ≤ 16777215 then (compL p t f (wipeL r vs) ds m).bind fun ys m => .ok (.lst ys) m else .stk
def W0 : WX := fun _ _ _ _ => False
def tTrue : FT := fun _ m => .ok true m
theorem ts_nil : PTs X [] (rdT (tx X) W tTrue) := ⟨fun pins s σ H Q I hw => pts_nil.run pins s σ H Q I (by
  obtain ⟨w, r, rfl, ok, re, h⟩ := hw
  exact h.now ok rfl)⟩
theorem ts_one (h : PT X c (rdT (tx X) W ft)) : PTs X [c] (rdT (tx X) W ft) := pts_one h
theorem compL_no {p : Pt} {t : FT} {f : FE} {r : Lc} : ∀ {ds : List D} {m m' : List O} {c : Str}, compL p t f r ds m ≠ .ex c m'
  | [], _, _, _, h => by cases h
  | d :: ds, m, m', c, h => by
    simp only [compL] at h
    split at h
    · cases h
    · split at h
      · split at h
        · rename_i y m2 _
          cases e : compL p t f r ds m2 with
          | ok ys m3 => rw [e] at h; cases h
          | ex c m3 => exact compL_no e
          | stk => rw [e] at h; cases h
        · cases h
      · exact compL_no h
      · cases h
theorem lc_sem {vs : List Nat} {p : Pt} {fi : FI} (hp : ∀ i ∈ p.slots, i ∈ vs) : ∀ σ H Q, rd T W (fLc vs p fi ft f) σ H Q → tLc (rdI T W fi) (gOf T.K p) (rdT T W0 ft) (rd T W0 f) vs σ H Q := by
  rintro σ H Q ⟨w, l, rfl, ok, re, h⟩
  refine ⟨w, l, rfl, ok, re, ?_⟩
  cases e1 : fi l w.mu with
  | stk => rw [fLc, e1] at h; exact h
  | ex c m => rw [fLc, e1] at h; exact h
  | ok ds m =>
  rw [fLc, e1] at h
  simp only [Rs.bind] at h
  split at h
  case isFalse => exact h.elim
  rename_i hlen
  intro w1 J ex1 ok1 hm it A0 hD
  subst hm
  -- the list that is made is hidden
  have hx : Ex0 w1 (w1.hide A0 (.lst [])) := hide_ex ok1 hD
  have hok : Ok T (w1.hide A0 (.lst [])) := hide_ok ok1 hD trivial
  have re1 := re.ex ok ex1.toEx0
  refine ⟨fun i m H => m = ds.length - i ∧ i ≤ ds.length ∧ ∃ (w2 : Wo) (acc : List D) (av : List V), w2.H = H ∧ Ok T w2 ∧ Ex0 w1 w2 ∧ w2.hid = (fun a => a = A0 ∨ w1.hid a) ∧ (∀ a, w1.hid a → w2.H a = w1.H a) ∧
      w2.H A0 = some (.lst av) ∧ RelDs T w2 acc av ∧ acc.length ≤ i ∧
      Post T (RelD T) (wx T W σ) w ((compL p ft f (wipeL l vs) (ds.drop i) w2.mu).bind fun ys m => .ok (.lst (acc ++ ys)) m) Q,
    ⟨ds.length, by simp, Nat.zero_le _, w1.hide A0 (.lst []), [], [], rfl, hok, hx, rfl, fun a ha => upd_ne (hid_ne ok1 hD ha), upd_same, .nil, Nat.le_refl _, ?_⟩, ?_⟩
  · simp only [List.drop_zero, List.nil_append]; exact h
  rintro i m H ⟨rfl, hi, w2, acc, av, rfl, ok2, x2, hid2, hk2, hD2, ra, hacc, hpost⟩
  obtain ⟨go_, stop_⟩ := it w2 x2 ok2
  have re2 := re1.ex ok1 x2
  by_cases hlt : i < ds.length
  · right
    obtain ⟨d, hd⟩ : ∃ d, ds[i]? = some d := ⟨ds[i], by simp [hlt]⟩
    obtain ⟨hgo, hy⟩ := go_ i d hd
    have hdrop : ds.drop i = d :: ds.drop (i + 1) := by
      rw [List.drop_eq_getElem_cons hlt]
      have : ds[i] = d := by rw [List.getElem?_eq_getElem hlt] at hd; exact Option.some.inj hd
      rw [this]
    refine ⟨hgo, fun H' => ∃ (w3 : Wo) (acc : List FR.D) (av : List V), w3.H = H' ∧ Ok T w3 ∧ Ex0 w1 w3 ∧ w3.hid = (fun a => a = A0 ∨ w1.hid a) ∧ (∀ a, w1.hid a → w3.H a = w1.H a) ∧
      w3.H A0 = some (.lst av) ∧ RelDs T w3 acc av ∧ acc.length ≤ i + 1 ∧
      Post T (RelD T) (wx T W σ) w ((compL p ft f (wipeL l vs) (ds.drop (i + 1)) w3.mu).bind fun ys m => .ok (.lst (acc ++ ys)) m) Q,
      fun H' q => ⟨ds.length - (i + 1), by omega, rfl, hlt, q⟩, fun x H' hyl => ?_⟩
    obtain ⟨wb, xb, okb, hmu, rfl, rx⟩ := hy x H' hyl
    have x2b : Ex0 w1 wb := x2.trans xb.toEx0
    have hid2b : wb.hid = (fun a => a = A0 ∨ w1.hid a) := xb.hidE.trans hid2
    have hk2b : ∀ a, w1.hid a → wb.H a = w1.H a := fun a ha => (xb.hidK a (by rw [hid2]; exact .inr ha)).trans (hk2 a ha)
    have hD2b : wb.H A0 = some (.lst av) := (xb.hidK A0 (by rw [hid2]; exact .inl rfl)).trans hD2
    have rab : RelDs T wb acc av := ra.ex ok2 xb.toEx0
    have re2b := re2.ex ok2 xb.toEx0
    rw [← hmu] at hpost
    rw [hdrop] at hpost
    simp only [compL] at hpost
    cases ea : asg p d (wipeL l vs) with
    | none => rw [ea] at hpost; exact hpost.elim
    | some r1 =>
    rw [ea] at hpost
    simp only at hpost
    obtain ⟨s', re', hw, hg⟩ := gOf_ok okb (re2b.wipes vs) rx ea
    refine hg _ ⟨by rw [hw vs hp, wipe_wipe], ?_⟩
    refine ⟨wb, r1, rfl, okb, re', ?_⟩
    cases et : ft r1 wb.mu with
    | stk => rw [et] at hpost; exact hpost.elim
    | ex c m3 => rw [et] at hpost; exact hpost.elim
    | ok z m3 =>
    rw [et] at hpost
    intro w3 z' e3 ok3 hm3 hz
    subst hz
    subst hm3
    have x3 : Ex0 w1 w3 := x2b.trans e3.toEx0
    have hid3 : w3.hid = fun a => a = A0 ∨ w1.hid a := e3.hidE.trans hid2b
    have hk3 : ∀ a, w1.hid a → w3.H a = w1.H a := fun a ha => (e3.hidK a (by rw [hid2b]; exact .inr ha)).trans (hk2b a ha)
    have hD3 : w3.H A0 = some (.lst av) := (e3.hidK A0 (by rw [hid2b]; exact .inl rfl)).trans hD2b
    have ra3 := rab.ex okb e3.toEx0
    cases z with
    | false =>
      simp only [Bool.false_eq_true, if_false]
      exact ⟨w3, acc, av, rfl, ok3, x3, hid3, hk3, hD3, ra3, by omega, hpost⟩
    | true =>
      simp only [if_true]
      refine ⟨w3, r1, rfl, ok3, re'.ex okb e3.toEx0, ?_⟩
      simp only at hpost
      cases ef : f r1 w3.mu with
      | stk => rw [ef] at hpost; exact hpost.elim
      | ex c m4 => rw [ef] at hpost; exact hpost.elim
      | ok y m4 =>
      rw [ef] at hpost
      intro w4 v e4 ok4 hm4 rv
      subst hm4
      have hid4 : w4.hid = fun a => a = A0 ∨ w1.hid a := e4.hidE.trans hid3
      have hh4 : w4.hid A0 := by rw [hid4]; exact .inl rfl
      have hk4 : ∀ a, w1.hid a → w4.H a = w1.H a := fun a ha => (e4.hidK a (by rw [hid3]; exact .inr ha)).trans (hk3 a ha)
      have hD4 : w4.H A0 = some (.lst av) := (e4.hidK A0 (by rw [hid3]; exact .inl rfl)).trans hD3
      have ra4 := ra3.ex ok3 e4.toEx0
      refine ⟨av, hD4, by rw [sizeLine_eq, ra4.length]; omega, ?_⟩
      have x5 : Ex0 w4 (w4.lay A0 (.lst (av ++ [v]))) := over_ex hh4
      refine ⟨w4.lay A0 (.lst (av ++ [v])), acc ++ [y], av ++ [v], rfl, over_ok ok4 hh4 trivial, (x3.trans e4.toEx0).trans x5, hid4, fun a ha => ?_, upd_same, (ra4.append (.cons rv .nil)).ex ok4 x5, by simp; omega, ?_⟩
      · exact (upd_ne (hid_ne ok1 hD ha)).trans (hk4 a ha)
      · have hb : ((compL p ft f (wipeL l vs) (ds.drop (i + 1)) w4.mu).bind fun ys m => Rs.ok (y :: ys) m).bind (fun ys m => Rs.ok (FR.D.lst (acc ++ ys)) m) = (compL p ft f (wipeL l vs) (ds.drop (i + 1)) w4.mu).bind fun ys m => Rs.ok (FR.D.lst (acc ++ [y] ++ ys)) m := by
          cases compL p ft f (wipeL l vs) (ds.drop (i + 1)) w4.mu with
          | ok ys m => simp [Rs.bind]
          | ex c m => rfl
          | stk => rfl
        simp only at hpost
        rw [hb] at hpost
        exact hpost
  · left
    have e : i = ds.length := by omega
    subst e
    refine ⟨stop_ _ (Nat.le_refl _), ?_⟩
    rw [List.drop_length] at hpost
    simp only [compL, Rs.bind, List.append_nil] at hpost
    -- hidden no longer
    have hs : ∀ a, w1.hid a → w2.hid a := fun a ha => by rw [hid2]; exact .inr ha
    have x6 : Ex0 w2 (w2.show_ w1.hid) := show_ex hs
    have ok6 : Ok T (w2.show_ w1.hid) := show_ok ok2 hs
    have ex6 : Ex w1 (w2.show_ w1.hid) := ⟨x2.trans x6, rfl, hk2⟩
    refine hpost (w2.show_ w1.hid) (.ref A0) (ex1.trans ex6) ok6 rfl ?_
    simp only [RelD]
    refine ⟨A0, av, rfl, hD2, ?_, ra.ex ok2 x6⟩
    rintro (q | ⟨n, hn, _⟩)
    · exact not_hid ok1 hD q
    · exact ok2.hidN A0 (List.mem_of_getElem? hn) (by rw [hid2]; exact .inl rfl)
theorem v_lc {ifs : List Expr} {scope : Scope} {own : List (Str × Nat)} {p : Pt} {fi : FI} (hp : (p.slots.all fun i => (own.map (·.2)).contains i) = true) (hc : X.calm = true) (hN : X.N.Nodup) (hi : PI X tg iter (rdI (tx X) W fi)) (ok : BlkOk X.N X.env.scope scope own)
    (hg : ∀ (s : Shared) (H : Hp) (C : Addr) (cl : List (Str × Addr)) (fp : List Addr), PG (X.blk s H scope (compEnvC scope cl C X.env) fp) tg (gOf X.K p))
    (ht : ∀ (s : Shared) (H : Hp) (C : Addr) (cl : List (Str × Addr)) (fp : List Addr), PTs (X.blk s H scope (compEnvC scope cl C X.env) fp) ifs (rdT (tx X) W0 ft))
    (he : ∀ (s : Shared) (H : Hp) (C : Addr) (cl : List (Str × Addr)) (fp : List Addr), PE (X.blk s H scope (compEnvC scope cl C X.env) fp) e (rd (tx X) W0 f)) (hs : ∀ x, foldedSetIterable iter X.env x = pure x := by intro _; rfl) :
    PE X (.ListComp e [⟨tg, iter, ifs, 0⟩] scope pos) (rd (tx X) W (fLc (own.map (·.2)) p fi ft f)) :=
  pe_imp (pe_lc hc hN hi ok hg ht he hs) (lc_sem fun i hi => by
    have := List.all_eq_true.mp hp i hi
    simpa using this)
end FR
set_option Elab.async false
set_option linter.all false
set_option maxRecDepth 100000
set_option maxHeartbeats 4000000
/-! ## Statements, calls, exceptions, functions -/
namespace FR
open PySem PySem.Spec L2
set_option autoImplicit false
variable {X : Cx} {T : Tx} {W : WX} {f g h : FE} {fa : FA} {ft gt : FT} {a b c e o tg iter : Expr} {es rest : List Expr} {pos : Pos} {k : Nat} {st0 : Stmt} {sts : List Stmt} {m m' : FS}

def Rs.sq {α : Type} (x : Rs α) (r : Lc) (k : α → List O → Rt) : Rt := match x with
  | .ok a m => k a m
  | .ex c m => .ex c r m
  | .stk => .stk
theorem go_s {E : Ends} {s : St} {w : Wo} {r : Lc} {k : D → List O → Rt} {Z : V → Hp → Prop} (ok : Ok T w) (re : RelE T w r s) (h : PostS T W w ((f r w.mu).sq r k) E)
    (hk : ∀ a w1 b, Ex w w1 → Ok T w1 → RelE T w1 r s → RelD T w1 a b → PostS T W w1 (k a w1.mu) E → Z b w1.H) : rd T W f s w.H Z := by
  refine ⟨w, r, rfl, ok, re, ?_⟩
  cases e : f r w.mu with
  | stk => rw [e] at h; exact h
  | ex c m => rw [e] at h; exact fun w' x ok' hm => h w' s x ok' hm (re.ex ok x.toEx0)
  | ok a m =>
    rw [e] at h
    intro w1 b x ok1 hm hr
    subst hm
    exact hk a w1 b x ok1 (re.ex ok x.toEx0) hr (PostS.ex h x)
theorem go_st {E : Ends} {s : St} {w : Wo} {r : Lc} {k : Bool → List O → Rt} {Z : Bool → Hp → Prop} (ok : Ok T w) (re : RelE T w r s) (h : PostS T W w ((ft r w.mu).sq r k) E)
    (hk : ∀ a w1, Ex w w1 → Ok T w1 → RelE T w1 r s → PostS T W w1 (k a w1.mu) E → Z a w1.H) : rdT T W ft s w.H Z := by
  refine ⟨w, r, rfl, ok, re, ?_⟩
  cases e : ft r w.mu with
  | stk => rw [e] at h; exact h
  | ex c m => rw [e] at h; exact fun w' x ok' hm => h w' s x ok' hm (re.ex ok x.toEx0)
  | ok a m =>
    rw [e] at h
    intro w1 b x ok1 hm hr
    subst hr
    subst hm
    exact hk a w1 x ok1 (re.ex ok x.toEx0) (PostS.ex h x)
theorem PostS.nxt {E : Ends} {w : Wo} {r : Lc} {s : St} (h : PostS T W w (.ok (.nx r) w.mu) E) (ok : Ok T w) (re : RelE T w r s) : E.nx s w.H := h w s .rfl' ok rfl re

/-! ### simple statements -/
def sSet (i : Nat) (f : FE) : FS := fun r m => (f r m).sq r fun d m => .ok (.nx (r.set i (some d))) m
def sAsg (p : Pt) (f : FE) : FS := fun r m => (f r m).sq r fun d m => match asg p d r with
  | some r' => .ok (.nx r') m
  | none => .stk
def sRet (f : FE) : FS := fun r m => (f r m).sq r fun d m => .ok (.rt d) m
def sExp (f : FE) : FS := fun r m => (f r m).sq r fun _ m => .ok (.nx r) m
def sIf (t : FT) (a b : FS) : FS := fun r m => (t r m).sq r fun z m => if z = true then a r m else b r m
def sNx : FS := fun r m => .ok (.nx r) m
def sBk : FS := fun r m => .ok (.bk r) m
def sCt : FS := fun r m => .ok (.ct r) m
def sRetN : FS := fun _ m => .ok (.rt .non) m
def sSeq (a b : FS) : FS := fun r m => match a r m with
  | .ok (.nx r) m => b r m
  | x => x
theorem s_set {i : Nat} {x : Str} {p' : Pos} (hN : X.N.Nodup) (he : PE X e (rd (tx X) W f)) (hi : X.N[i]? = some x := by rfl) (hx : Loc X.env.scope x := by first | exact .inl rfl | exact .inr rfl) (hs : swapsWith e (some (.Name x p')) pos.line X.env = pure false := by rfl)
    (hf : X.fn x = true ∨ X.env.scope.names.lookup x = some .local := by first | exact .inl rfl | exact .inr rfl) : PS X (.Assign [.Name x p'] e pos) (rdS (tx X) W (sSet i f)) := by
  refine ps_imp (ps_set hN hi hx he hs hf) ?_
  rintro E s H ⟨w, r, rfl, ok, re, h⟩
  exact go_s ok re h fun d w1 v x ok1 re1 r1 h1 => h1.nxt ok1 (re1.set i r1)
theorem s_setLc {i : Nat} {y : Str} {py spos : Pos} {ifs : List Expr} {scope : Scope} {own : List (Str × Nat)} {p : Pt} {fi : FI} (hp : (p.slots.all fun i => (own.map (·.2)).contains i) = true) (hc : X.calm = true) (hN : X.N.Nodup)
    (hsw : swapsWith (.ListComp e [⟨tg, iter, ifs, 0⟩] scope pos) (some (.Name y py)) spos.line X.env = pure true) (hi : PI X tg iter (rdI (tx X) W fi)) (ok : BlkOk X.N X.env.scope scope own)
    (hg : ∀ (s : Shared) (H : Hp) (C : Addr) (cl : List (Str × Addr)) (fp : List Addr), PG (X.blk s H scope (compEnvC scope cl C X.env) fp) tg (gOf X.K p))
    (ht : ∀ (s : Shared) (H : Hp) (C : Addr) (cl : List (Str × Addr)) (fp : List Addr), PTs (X.blk s H scope (compEnvC scope cl C X.env) fp) ifs (rdT (tx X) W0 ft))
    (he : ∀ (s : Shared) (H : Hp) (C : Addr) (cl : List (Str × Addr)) (fp : List Addr), PE (X.blk s H scope (compEnvC scope cl C X.env) fp) e (rd (tx X) W0 f)) (hy : X.N[i]? = some y := by rfl) (hyl : X.env.scope.names.lookup y = some .local := by rfl)
    (hs : ∀ x, foldedSetIterable iter X.env x = pure x := by intro _; rfl) :
    PS X (.Assign [.Name y py] (.ListComp e [⟨tg, iter, ifs, 0⟩] scope pos) spos) (rdS (tx X) W (sSet i (fLc (own.map (·.2)) p fi ft f))) := by
  refine ps_imp (ps_setLc hc hN hy hyl hsw hi ok hg ht he hs) ?_
  rintro E s H ⟨w, r, rfl, ok, re, h⟩
  exact lc_sem (fun i hi => by
    have := List.all_eq_true.mp hp i hi
    simpa using this) _ _ _ (go_s ok re h fun d w1 v x ok1 re1 r1 h1 => h1.nxt ok1 (re1.set i r1))
theorem s_asg {p : Pt} (he : PE X e (rd (tx X) W f)) (hg : PG X tg (gOf X.K p)) (hs : swapsWithSole [tg] e pos.line X.env = pure false := by rfl) (hw : swappedStores [tg] e X.env = pure none := by rfl)
    (h1 : (assignEach [tg] X.env).map (·.2) = [assign tg X.env] := by rfl) : PS X (.Assign [tg] e pos) (rdS (tx X) W (sAsg p f)) := by
  refine ps_imp (ps_asg he hg hs hw h1) ?_
  rintro E s H ⟨w, r, rfl, ok, re, h⟩
  refine go_s ok re h fun d w1 v x ok1 re1 r1 h1 => ?_
  split at h1
  · rename_i r' ha
    obtain ⟨s', re', _, hq⟩ := gOf_ok ok1 re1 r1 ha
    exact hq _ (h1.nxt ok1 re')
  · exact h1.elim
theorem s_ret (he : PE X e (rd (tx X) W f)) : PS X (.Return (some e) pos) (rdS (tx X) W (sRet f)) := by
  refine ps_imp (ps_ret he) ?_
  rintro E s H ⟨w, r, rfl, ok, re, h⟩
  exact go_s ok re h fun d w1 v x ok1 re1 r1 h1 => h1 w1 v .rfl' ok1 rfl r1
theorem s_retN : PS X (.Return none pos) (rdS (tx X) W sRetN) := by
  refine ps_imp ps_retN ?_
  rintro E s H ⟨w, r, rfl, ok, re, h⟩
  exact h w .non .rfl' ok rfl (by simp only [RelD])
theorem s_exp (he : PE X e (rd (tx X) W f)) (hs : swapsWith e none pos.line X.env = pure false := by rfl) : PS X (.Expr e pos) (rdS (tx X) W (sExp f)) := by
  refine ps_imp (ps_expr he hs) ?_
  rintro E s H ⟨w, r, rfl, ok, re, h⟩
  exact go_s ok re h fun d w1 v x ok1 re1 r1 h1 => h1.nxt ok1 re1
theorem s_doc {x j} {p' : Pos} : PS X (.Expr (.Constant (.str x) j p') pos) (rdS (tx X) W sNx) := by
  refine ps_imp ps_doc ?_
  rintro E s H ⟨w, r, rfl, ok, re, h⟩
  exact h.nxt ok re
theorem s_if {A B : List Stmt} (hc : PT X c (rdT (tx X) W ft)) (ha : PSs X A (rdS (tx X) W m)) (hb : PSs X B (rdS (tx X) W m')) : PS X (.If c A B pos) (rdS (tx X) W (sIf ft m m')) := by
  refine ps_imp (ps_if hc ha hb) ?_
  rintro E s H ⟨w, r, rfl, ok, re, h⟩
  refine go_st ok re h fun z w1 x ok1 re1 h1 => ?_
  cases z with
  | true => simp only [if_true] at h1 ⊢; exact ⟨w1, r, rfl, ok1, re1, h1⟩
  | false => simp only [Bool.false_eq_true, if_false] at h1 ⊢; exact ⟨w1, r, rfl, ok1, re1, h1⟩
theorem s_pass : PS X (.Pass pos) (rdS (tx X) W sNx) := by
  refine ps_imp ps_pass ?_
  rintro E s H ⟨w, r, rfl, ok, re, h⟩
  exact h.nxt ok re
theorem s_bk : PS X (.Break pos) (rdS (tx X) W sBk) := by
  refine ps_imp ps_break ?_
  rintro E s H ⟨w, r, rfl, ok, re, h⟩
  exact h w s .rfl' ok rfl re
theorem s_ct : PS X (.Continue pos) (rdS (tx X) W sCt) := by
  refine ps_imp ps_continue ?_
  rintro E s H ⟨w, r, rfl, ok, re, h⟩
  exact h w s .rfl' ok rfl re
theorem ss_nil : PSs X [] (rdS (tx X) W sNx) := by
  refine pss_imp pss_nil ?_
  rintro E s H ⟨w, r, rfl, ok, re, h⟩
  exact h.nxt ok re
theorem ss_one (h : PS X st0 (rdS (tx X) W m)) : PSs X [st0] (rdS (tx X) W m) := pss_one h
theorem ss_cons (h1 : PS X st0 (rdS (tx X) W m)) (h2 : PSs X sts (rdS (tx X) W m')) : PSs X (st0 :: sts) (rdS (tx X) W (sSeq m m')) := by
  refine pss_imp (pss_cons h1 h2) ?_
  rintro E s H ⟨w, r, rfl, ok, re, h⟩
  refine ⟨w, r, rfl, ok, re, ?_⟩
  unfold sSeq at h
  cases e : m r w.mu with
  | stk => rw [e] at h; exact h
  | ex c r' mm => rw [e] at h; exact h
  | ok fl mm =>
    rw [e] at h
    cases fl with
    | nx r' =>
      intro w' s' x ok' hm re'
      subst hm
      exact ⟨w', r', rfl, ok', re', PostS.ex h x⟩
    | rt d => exact h
    | bk r' => exact h
    | ct r' => exact h

/-! ### for -/
def forL (p : Pt) (body : FS) : List D → FS
  | [], r, m => .ok (.nx r) m
  | d :: ds, r, m => match asg p d r with
    | none => .stk
    | some r1 => match body r1 m with
      | .ok (.nx r2) m => forL p body ds r2 m
      | .ok (.ct r2) m => forL p body ds r2 m
      | .ok (.bk r2) m => .ok (.nx r2) m
      | .ok (.rt d) m => .ok (.rt d) m
      | .ex c r m => .ex c r m
      | .stk => .stk
def sFor (p : Pt) (fi : FI) (body : FS) : FS := fun r m => (fi r m).sq r fun ds m => forL p body ds r m
theorem s_for {p : Pt} {fi : FI} {body : List Stmt} (hp : PassesOwn (model X.prog X.w) X.A X.env X.xe) (hc : X.calm = true) (hi : PI X tg iter (rdI (tx X) W fi)) (hg : PG X tg (gOf X.K p)) (hb : PSs X body (rdS (tx X) W m)) (hs : ∀ x, foldedSetIterable iter X.env x = pure x := by intro _; rfl) :
    PS X (.For tg iter body [] pos) (rdS (tx X) W (sFor p fi m)) := by
  refine ps_imp (ps_for hp hc hi hg hb hs) ?_
  rintro E s H ⟨w, r, rfl, ok, re, h⟩
  refine ⟨w, r, rfl, ok, re, ?_⟩
  unfold sFor at h
  cases e : fi r w.mu with
  | stk => rw [e] at h; exact h
  | ex c mm => rw [e] at h; exact fun w' x ok' hm => h w' s x ok' hm (re.ex ok x.toEx0)
  | ok ds mm =>
  rw [e] at h
  intro w0 J x0 ok0 hm it
  subst hm
  have h0 : PostS (tx X) W w0 (forL p m ds r w0.mu) E := PostS.ex h x0
  have Wd : ∀ i m' s' H', (m' = ds.length - i ∧ i ≤ ds.length ∧ ∃ (w : Wo) (r : Lc), w.H = H' ∧ Ok (tx X) w ∧ Ex w0 w ∧ RelE (tx X) w r s' ∧ PostS (tx X) W w (forL p m (ds.drop i) r w.mu) E) → True := fun _ _ _ _ _ => trivial
  refine ⟨fun i m' s' H' => m' = ds.length - i ∧ i ≤ ds.length ∧ ∃ (w : Wo) (r : Lc), w.H = H' ∧ Ok (tx X) w ∧ Ex w0 w ∧ RelE (tx X) w r s' ∧ PostS (tx X) W w (forL p m (ds.drop i) r w.mu) E,
    ⟨ds.length, by simp, Nat.zero_le _, w0, r, rfl, ok0, .rfl', re.ex ok x0.toEx0, by simpa using h0⟩, ?_⟩
  rintro i m' s' H' ⟨rfl, hi', w1, r1, rfl, ok1, x1, re1, hpost⟩
  obtain ⟨go_, stop_⟩ := it w1 x1.toEx0 ok1
  by_cases hlt : i < ds.length
  · right
    obtain ⟨d, hd⟩ : ∃ d, ds[i]? = some d := ⟨ds[i], by simp [hlt]⟩
    obtain ⟨hgo, hy⟩ := go_ i d hd
    have hdrop : ds.drop i = d :: ds.drop (i + 1) := by
      rw [List.drop_eq_getElem_cons hlt]
      have : ds[i] = d := by rw [List.getElem?_eq_getElem hlt] at hd; exact Option.some.inj hd
      rw [this]
    refine ⟨hgo, fun s' H' => ∃ (w : Wo) (r : Lc), w.H = H' ∧ Ok (tx X) w ∧ Ex w0 w ∧ RelE (tx X) w r s' ∧ PostS (tx X) W w (forL p m (ds.drop (i + 1)) r w.mu) E,
      fun s' H' q => ⟨ds.length - (i + 1), by omega, rfl, hlt, q⟩, fun v H' hyl => ?_⟩
    obtain ⟨wb, xb, okb, hmu, rfl, rv⟩ := hy v H' hyl
    have reb := re1.ex ok1 xb.toEx0
    have x1b := x1.trans xb
    rw [← hmu] at hpost
    replace hpost := PostS.ex hpost xb
    rw [hdrop] at hpost
    simp only [forL] at hpost
    cases ea : asg p d r1 with
    | none => rw [ea] at hpost; exact hpost.elim
    | some r2 =>
    rw [ea] at hpost
    simp only at hpost
    obtain ⟨s2, re2, _, hq⟩ := gOf_ok okb reb rv ea
    refine hq _ ⟨wb, r2, rfl, okb, re2, ?_⟩
    cases eb : m r2 wb.mu with
    | stk => rw [eb] at hpost; exact hpost
    | ex c r' mm => rw [eb] at hpost; exact hpost
    | ok fl mm =>
      rw [eb] at hpost
      cases fl with
      | nx r3 => exact fun w3 s3 x3 ok3 hm3 re3 => by subst hm3; exact ⟨w3, r3, rfl, ok3, x1b.trans x3, re3, PostS.ex hpost x3⟩
      | ct r3 => exact fun w3 s3 x3 ok3 hm3 re3 => by subst hm3; exact ⟨w3, r3, rfl, ok3, x1b.trans x3, re3, PostS.ex hpost x3⟩
      | bk r3 => exact hpost
      | rt d => exact hpost
  · left
    have e : i = ds.length := by omega
    subst e
    rw [List.drop_length] at hpost
    exact ⟨stop_ _ (Nat.le_refl _), hpost.nxt ok1 re1⟩

/-! ### stores to lists -/
def gPut (o i d : D) (m : List O) : Option (List O) := match o, i with
  | .loc n, .int k => match m[n]? with
    | some (.lst xs) => match ixN xs.length k with
      | some j => some (m.set n (.lst (xs.set j d)))
      | none => none
    | _ => none
  | _, _ => none
def sPut (fo fi f : FE) : FS := fun r m => (f r m).sq r fun d m => (fo r m).sq r fun o m => (fi r m).sq r fun i m => match gPut o i d m with
  | some m => .ok (.nx r) m
  | none => .stk
theorem RelDs.set {w : Wo} {d : D} {v : V} (r : RelD T w d v) : ∀ {ds : List D} {vs : List V} (i : Nat), RelDs T w ds vs → RelDs T w (ds.set i d) (vs.set i v)
  | [], vs, i, h => by simp only [RelDs] at h; subst h; simp [RelDs]
  | e :: ds, vs, 0, h => by
    simp only [RelDs] at h
    obtain ⟨u, l, rfl, h1, h2⟩ := h
    exact RelDs.cons r h2
  | e :: ds, vs, i + 1, h => by
    simp only [RelDs] at h
    obtain ⟨u, l, rfl, h1, h2⟩ := h
    exact RelDs.cons h1 (RelDs.set r i h2)
theorem put_lst {w : Wo} {n : Nat} {a : Addr} {xs : List D} {ds : List D} {vs : List V} (ok : Ok T w) (hb : w.bt[n]? = some a) (hm : w.mu[n]? = some (.lst xs)) (r : RelDs T w ds vs) :
    Ex w (w.put n a (.lst vs) (.lst ds)) ∧ Ok T (w.put n a (.lst vs) (.lst ds)) := by
  have x : Ex w (w.put n a (.lst vs) (.lst ds)) := put_ex ok hb hm (by simp)
  exact ⟨x, put_ok ok hb hm (by simp) ⟨vs, upd_same, r.ex ok x.toEx0⟩⟩
theorem s_put {o' : Expr} {i : Expr} {p' : Pos} {fo fi : FE} (ho : PE X o' (rd (tx X) W fo)) (hi : PE X i (rd (tx X) W fi)) (he : PE X e (rd (tx X) W f))
    (ha : ∀ v, assign (.Subscript o' i p') X.env v = (do
      let ov ← holding [v] (eval o' X.env)
      let iv ← holding [v, ov] (eval i X.env)
      standAt p'
      holding [v, ov, iv] (setItem ov iv v)
      release [v, ov, iv] []) := by intro _; rfl)
    (hs : swapsWithSole [.Subscript o' i p'] e pos.line X.env = pure false := by rfl) (hw : swappedStores [.Subscript o' i p'] e X.env = pure none := by rfl)
    (h1 : (assignEach [.Subscript o' i p'] X.env).map (·.2) = [assign (.Subscript o' i p') X.env] := by rfl) :
    PS X (.Assign [.Subscript o' i p'] e pos) (rdS (tx X) W (sPut fo fi f)) := by
  refine ps_imp (ps_asg he (pg_sub ho hi set_list ha) hs hw h1) ?_
  rintro E s H ⟨w, r, rfl, ok, re, h⟩
  refine go_s ok re h fun d w1 v x1 ok1 re1 r1 h1 => ?_
  refine go_s ok1 re1 h1 fun o w2 ov x2 ok2 re2 r2 h2 => ?_
  refine go_s ok2 re2 h2 fun i w3 iv x3 ok3 re3 r3 h3 => ?_
  split at h3
  · rename_i mm hg
    unfold gPut at hg
    split at hg
    · split at hg
      · split at hg
        · rename_i n kk _ xs hm _ j hj
          cases hg
          simp only [RelD] at r3; subst r3
          have ro := r2.ex ok2 x3.toEx0
          simp only [RelD] at ro
          obtain ⟨p, rfl, hb⟩ := ro
          have rv := (r1.ex ok1 x2.toEx0).ex ok2 x3.toEx0
          obtain ⟨vs, hv, rvs⟩ := ok3.obj _ _ _ hm hb
          obtain ⟨x4, ok4⟩ := put_lst ok3 hb hm (rvs.set rv j)
          refine ⟨p, vs, kk, j, rfl, rfl, hv, by rw [rvs.length]; exact hj, ?_⟩
          exact h3 _ _ x4 ok4 rfl (re3.ex ok3 x4.toEx0)
        · cases hg
      · cases hg
    · cases hg
  · exact h3.elim

/-! ### methods of lists and texts -/
def fApp (fo : FE) (fa : FA) : FE := fun r m => (fo r m).bind fun o m => match derefL o m with
  | none => .stk
  | some _ => (fa r m).bind fun ds m => match o, ds with
    | .loc n, [d] => match m[n]? with
      | some (.lst xs) => if xs.length < 16777216 then .ok .non (m.set n (.lst (xs ++ [d]))) else .stk
      | _ => .stk
    | _, _ => .stk
def fExt (fo : FE) (fa : FA) : FE := fun r m => (fo r m).bind fun o m => match derefL o m with
  | none => .stk
  | some _ => (fa r m).bind fun ds m => match o, ds with
    | .loc n, [d] => match m[n]?, derefL d m with
      | some (.lst xs), some ys => if xs.length + ys.length ≤ 16777216 then .ok .non (m.set n (.lst (xs ++ ys))) else .stk
      | _, _ => .stk
    | _, _ => .stk
theorem tyV_lst {w : Wo} {d : D} {v : V} {xs : List D} (ok : Ok T w) (r : RelD T w d v) (h : derefL d w.mu = some xs) : tyV T.K "list" v w.H := by
  obtain ⟨a, vs, rfl, h1, _⟩ := derefL_ok ok r h
  exact .inl ⟨rfl, vs, SqL.of h1⟩
theorem v_app {apos cpos : Pos} {fo : FE} (ho : PE X o (rd (tx X) W fo)) (ha : PA X (e :: es) (rdA (tx X) W fa))
    (hbase : attributeBase o "append" X.env (eval o X.env) = eval o X.env := by rfl)
    (hfew : ((backTo cpos (starEach (e :: es) X.env)).all (fun x => !x.1) && (backToKw cpos (keywordEach [] X.env)).all (fun x => x.1.isSome)
      && decide ((e :: es).length + ([] : List Keyword).length + (if ([] : List Keyword).isEmpty then 0 else 1) < 30)) = true := by rfl)
    (hline : (apos.endLine == cpos.line) = true := by rfl) (hs : starEach (e :: es) X.env = (false, eval e X.env) :: starEach es X.env := by rfl) (hplain : (backTo cpos (starEach es X.env)).any (·.1) = false := by rfl) :
    PE X (.Call (.Attribute o "append" apos) (e :: es) [] cpos) (rd (tx X) W (fApp fo fa)) := by
  refine pe_imp (pe_bm PySem.F.plainAttrs_list PySem.F.slot_list_append PySem.F.type_list_append mt_append ho ha hbase hfew hline hs hplain) ?_
  rintro σ H Q ⟨w, l, rfl, ok, re, h⟩
  refine go_e ok re h fun d w1 v e1 ok1 re1 r1 h1 => ?_
  split at h1
  · exact h1.elim
  · rename_i xs0 hx0
    refine ⟨tyV_lst ok1 r1 hx0, ?_⟩
    refine go_a ok1 re1 h1 fun ds w2 vs e2 ok2 re2 r2 h2 => ?_
    split at h2
    · split at h2
      · split at h2
        · rename_i n y _ xs hm hl
          have r1' := r1.ex ok1 e2.toEx0
          simp only [RelD] at r1'
          obtain ⟨p, rfl, hb⟩ := r1'
          replace r2 := r2.one
          obtain ⟨u, rfl, r2⟩ := r2
          obtain ⟨us, hv, rvs⟩ := ok2.obj _ _ _ hm hb
          obtain ⟨x4, ok4⟩ := put_lst ok2 hb hm (rvs.append (.cons r2 .nil))
          exact ⟨p, us, u, rfl, rfl, hv, by rw [sizeLine_eq, rvs.length]; exact hl, h2 _ _ x4 ok4 rfl (by simp only [RelD])⟩
        · exact h2.elim
      · exact h2.elim
    · exact h2.elim
theorem v_ext {apos cpos : Pos} {fo : FE} (ho : PE X o (rd (tx X) W fo)) (ha : PA X (e :: es) (rdA (tx X) W fa))
    (hbase : attributeBase o "extend" X.env (eval o X.env) = eval o X.env := by rfl)
    (hfew : ((backTo cpos (starEach (e :: es) X.env)).all (fun x => !x.1) && (backToKw cpos (keywordEach [] X.env)).all (fun x => x.1.isSome)
      && decide ((e :: es).length + ([] : List Keyword).length + (if ([] : List Keyword).isEmpty then 0 else 1) < 30)) = true := by rfl)
    (hline : (apos.endLine == cpos.line) = true := by rfl) (hs : starEach (e :: es) X.env = (false, eval e X.env) :: starEach es X.env := by rfl) (hplain : (backTo cpos (starEach es X.env)).any (·.1) = false := by rfl) :
    PE X (.Call (.Attribute o "extend" apos) (e :: es) [] cpos) (rd (tx X) W (fExt fo fa)) := by
  refine pe_imp (pe_bm PySem.F.plainAttrs_list PySem.F.slot_list_extend PySem.F.type_list_extend mt_extend ho ha hbase hfew hline hs hplain) ?_
  rintro σ H Q ⟨w, l, rfl, ok, re, h⟩
  refine go_e ok re h fun d w1 v e1 ok1 re1 r1 h1 => ?_
  split at h1
  · exact h1.elim
  · rename_i xs0 hx0
    refine ⟨tyV_lst ok1 r1 hx0, ?_⟩
    refine go_a ok1 re1 h1 fun ds w2 vs e2 ok2 re2 r2 h2 => ?_
    split at h2
    · split at h2
      · split at h2
        · rename_i n y _ _ xs ys hm hy hl
          have r1' := r1.ex ok1 e2.toEx0
          simp only [RelD] at r1'
          obtain ⟨p, rfl, hb⟩ := r1'
          replace r2 := r2.one
          obtain ⟨u, rfl, r2⟩ := r2
          obtain ⟨us, hv, rvs⟩ := ok2.obj _ _ _ hm hb
          obtain ⟨q, zs, rfl, hz, rzs⟩ := derefL_ok ok2 r2 hy
          obtain ⟨x4, ok4⟩ := put_lst ok2 hb hm (rvs.append rzs)
          exact ⟨p, q, us, zs, rfl, rfl, hv, hz, by rw [sizeLine_eq, rvs.length, rzs.length]; exact hl, h2 _ _ x4 ok4 rfl (by simp only [RelD])⟩
        · exact h2.elim
      · exact h2.elim
    · exact h2.elim
@[reducible] def strsD : List D → Option (List Str)
  | [] => some []
  | .str i :: ds => (strsD ds).map (i :: ·)
  | _ => none
theorem strsD_val {w : Wo} : ∀ {ds : List D} {vs : List V} {ns : List Str}, RelDs T w ds vs → strsD ds = some ns → vs = ns.map V.str
  | [], vs, ns, r, h => by simp only [RelDs] at r; cases h; exact r
  | d :: ds, vs, ns, r, h => by
    simp only [RelDs] at r
    obtain ⟨v, l, rfl, h1, h2⟩ := r
    cases d <;> simp only [strsD, reduceCtorEq] at h
    rw [Option.map_eq_some_iff] at h
    obtain ⟨ms, e, rfl⟩ := h
    simp only [RelD] at h1
    rw [h1, strsD_val h2 e]; rfl
def fJoin (fo f : FE) : FE := fun r m => (fo r m).bind fun o m => match o with
  | .str x => (f r m).bind fun d m => match derefS d m with
    | some xs => match strsD xs with
      | some ys => if (ys.map (·.length)).sum + ys.length * x.length ≤ 16777216 then .ok (.str (Txt.join x ys)) m else .stk
      | none => .stk
    | none => .stk
  | _ => .stk
theorem v_join {apos : Pos} {fo : FE} (ho : PE X o (rd (tx X) W fo)) (he : PE X e (rd (tx X) W f))
    (hs : starEach [e] X.env = [(false, eval e X.env)] := by rfl) (hbase : attributeBase o "join" X.env (eval o X.env) = eval o X.env := by rfl) (hline : (apos.endLine == pos.line) = true := by rfl) :
    PE X (.Call (.Attribute o "join" apos) [e] [] pos) (rd (tx X) W (fJoin fo f)) := by
  refine pe_imp (pe_m1 PySem.F.slot_str_join PySem.F.type_str_join mt_join ho he hs hbase hline) ?_
  rintro σ H Q ⟨w, l, rfl, ok, re, h⟩
  refine go_e ok re h fun d w1 v e1 ok1 re1 r1 h1 => ?_
  split at h1
  · rename_i x
    simp only [RelD] at r1; subst r1
    refine ⟨⟨x, rfl⟩, ?_⟩
    refine go_e ok1 re1 h1 fun d2 w2 v2 e2 ok2 re2 r2 h2 => ?_
    split at h2
    · rename_i xs hx
      split at h2
      · rename_i ys hy
        split at h2
        · rename_i hl
          obtain ⟨q, zs, rfl, hz, rzs⟩ := derefS_ok ok2 r2 hx
          have := strsD_val rzs hy; subst this
          exact ⟨x, q, ys, rfl, rfl, hz, hl, h2.now ok2 (by simp only [RelD])⟩
        · exact h2.elim
      · exact h2.elim
    · exact h2.elim
  · exact h1.elim

/-! ### f-strings of texts -/
def gFmt : D → List O → Rs D := fun d m => match d with
  | .str x => if x.length ≤ 16777216 then .ok (.str x) m else .stk
  | _ => .stk
theorem v_fmt (he : PE X e (rd (tx X) W f)) : PE X (.FormattedValue e (-1) none pos) (rd (tx X) W (fUn gFmt f)) := by
  refine pe_imp (pe_fmt he) ?_
  rintro σ H Q ⟨w, l, rfl, ok, re, h⟩
  refine go_e ok re h fun d w1 v e1 ok1 re1 r1 h1 => ?_
  unfold gFmt at h1
  split at h1
  · split at h1
    · rename_i x hl
      simp only [RelD] at r1; subst r1
      exact .inl ⟨x, rfl, by rw [sizeLine_eq]; exact hl, h1.now ok1 (by simp only [RelD])⟩
    · exact h1.elim
  · exact h1.elim
def jsL : List FE → Str → Lc → List O → Rs Str
  | [], acc, _, m => .ok acc m
  | f :: fs, acc, r, m => (f r m).bind fun d m => match d with
    | .str y => if (acc ++ y).length ≤ 16777216 then jsL fs (acc ++ y) r m else .stk
    | _ => .stk
def fJs (fs : List FE) : FE := fun r m => (jsL fs Str.empty r m).bind fun x m => .ok (.str x) m
theorem js_sem : ∀ {fs : List FE} {acc : Str} {s : St} {w : Wo} {r : Lc} {Q : Str → Hp → Prop} {k : Str → List O → Rs D} {Q' : VK}, Ok T w → RelE T w r s →
    Post T (RelD T) (wx T W s) w ((jsL fs acc r w.mu).bind k) Q' → (∀ x w1, Ex w w1 → Ok T w1 → Post T (RelD T) (wx T W s) w1 (k x w1.mu) Q' → Q x w1.H) → tJs (fs.map (rd T W)) acc s w.H Q
  | [], acc, s, w, r, Q, k, Q', ok, re, h, hk => hk acc w .rfl' ok h
  | f :: fs, acc, s, w, r, Q, k, Q', ok, re, h, hk => by
    show rd T W f s w.H _
    simp only [jsL] at h
    have h' : Post T (RelD T) (wx T W s) w ((f r w.mu).bind fun d m => (match d with
      | .str y => if (acc ++ y).length ≤ 16777216 then jsL fs (acc ++ y) r m else .stk
      | _ => .stk : Rs Str).bind k) Q' := by
      cases e : f r w.mu with
      | ok d m => rw [e] at h; exact h
      | ex c m => rw [e] at h; exact h
      | stk => rw [e] at h; exact h
    refine go_e ok re h' fun d w1 v e1 ok1 re1 r1 h1 => ?_
    split at h1
    · rename_i y
      simp only [RelD] at r1; subst r1
      split at h1
      · rename_i hl
        exact ⟨y, rfl, by rw [sizeLine_eq]; exact hl, js_sem (fs := fs) ok1 re1 h1 fun x w2 x2 ok2 h2 => hk x w2 (e1.trans x2) ok2 h2⟩
      · exact h1.elim
    · exact h1.elim
theorem v_js {v1 v2 : Expr} {fs : List FE} (h : PJ X (v1 :: v2 :: rest) (fs.map (rd (tx X) W))) : PE X (.JoinedStr (v1 :: v2 :: rest) pos) (rd (tx X) W (fJs fs)) := by
  refine pe_imp (pe_joined h) ?_
  rintro σ H Q ⟨w, l, rfl, ok, re, h⟩
  exact js_sem ok re h fun x w1 x1 ok1 h1 => h1.now ok1 (by simp only [RelD])
theorem j_nil : PJ X [] (([] : List FE).map (rd (tx X) W)) := .nil
theorem j_cons {fs : List FE} (h : PE X e (rd (tx X) W f)) (r : PJ X es (fs.map (rd (tx X) W))) : PJ X (e :: es) ((f :: fs).map (rd (tx X) W)) := .cons h r

/-! ### calls of the program's own functions -/
def spF (T : Tx) (n : Nat) (o : List D → List O → Rs D) : Sp := fun vs H Q E => ∃ (w : Wo) (ds : List D), w.H = H ∧ Ok T w ∧ RelDs T w ds vs ∧ ds.length = n ∧ Post T (RelD T) (fun c w' => ∀ cv, ExV T c cv → E cv none w'.H) w (o ds w.mu) Q
/-- a function of the program stands under the name x: it gives what o gives -/
structure FnG (P : Program) (w : World) (T : Tx) (base : Heap) (x : Str) (k n : Nat) (o : List D → List O → Rs D) : Prop where
  ex : ∃ (f : Addr) (fd : FuncData) (ps : List Str), FnOk P w T.K T.mg base (L2.CX P w) k f fd ps (spF T n o) ∧ T.mg x = some (.ref f) ∧ PySem.W.keepIn T.K (.ref f) = true ∧ Binds T.K fd ps []
theorem FnG.mono {P : Program} {w : World} {base : Heap} {x : Str} {k k' n : Nat} {o : List D → List O → Rs D} (F : FnG P w T base x k n o) (h : k ≤ k') : FnG P w T base x k' n o := by
  obtain ⟨f, fd, ps, h1, h2⟩ := F.ex
  exact ⟨f, fd, ps, h1.mono h, h2⟩
/-- another word for what it gives -/
theorem FnG.imp {P : Program} {w : World} {base : Heap} {x : Str} {k n : Nat} {o o' : List D → List O → Rs D} (F : FnG P w T base x k n o) (h : ∀ ds m, ds.length = n → o' ds m = .stk ∨ o' ds m = o ds m) : FnG P w T base x k n o' := by
  obtain ⟨f, fd, ps, h1, h2⟩ := F.ex
  refine ⟨f, fd, ps, h1.imp fun vs H Q E ⟨w, ds, e, ok, r, hl, q⟩ => ⟨w, ds, e, ok, r, hl, ?_⟩, h2⟩
  rcases h ds w.mu hl with z | z
  · rw [z] at q; exact q.elim
  · rw [← z]; exact q
theorem v_call {x : Str} {p : Pos} {n : Nat} {oo : List D → List O → Rs D} (F : FnG X.prog X.w (tx X) X.base x k n oo) (hr : Room k X.A) (tk : Takes X W) (ha : PA X (e :: es) (rdA (tx X) W fa)) (hn : ∀ r m, ∀ ds m', fa r m = .ok ds m' → ds.length = n) (hg : Gl X x := by rfl)
    (hdb : (x == ("__debug__" : Str)) = false := by decide) (he : starEach (e :: es) X.env = (false, eval e X.env) :: starEach es X.env := by rfl) (hpl : (backTo pos (starEach es X.env)).any (·.1) = false := by rfl) :
    PE X (.Call (.Name x p) (e :: es) [] pos) (rd (tx X) W (fCB oo fa)) := by
  obtain ⟨f, fd, ps, hF, hm, hk, hb⟩ := F.ex
  refine pe_imp (pe_callS hF hr hg hm hk hb (E := fun σ => WE W σ) (fun σ => passAt tk σ) ha hdb he hpl) ?_
  rintro σ H Q ⟨w, l, rfl, ok, re, h⟩
  refine ⟨w, l, rfl, ok, re, ?_⟩
  cases e1 : fa l w.mu with
  | stk => rw [fCB, e1] at h; exact h
  | ex c mm => rw [fCB, e1] at h; exact h
  | ok ds mm =>
    rw [fCB, e1] at h
    intro w1 vs x1 ok1 hm1 r1
    subst hm1
    exact ⟨w1, ds, rfl, ok1, r1, hn _ _ _ _ e1, Post.ex h x1⟩
/-- a function's body -/
def runF (n : Nat) (body : FS) : List D → List O → Rs D := fun ds m => match body (ds.map some ++ List.replicate (n - ds.length) none) m with
  | .ok (.nx _) m => .ok .non m
  | .ok (.rt d) m => .ok d m
  | .ok _ _ => .stk
  | .ex c _ m => .ex c m
  | .stk => .stk
theorem RelE_start {w : Wo} {N : List Str} {ds : List D} {vs : List V} (r : RelDs T w ds vs) : RelE T w (ds.map some ++ List.replicate (N.length - ds.length) none) (L2.start N vs) := by
  unfold L2.start
  rw [r.length]
  refine ⟨by simp [r.length], fun i d h => ?_⟩
  by_cases hi : i < ds.length
  · rw [List.getElem?_append_left (by simpa using hi), List.getElem?_map] at h
    cases e : ds[i]? with
    | none => rw [e] at h; cases h
    | some d' =>
      rw [e] at h; cases h
      obtain ⟨v, hv, q⟩ := r.get e
      exact ⟨v, by rw [List.getElem?_append_left (by simp [r.length, hi]), List.getElem?_map, hv]; rfl, q⟩
  · rw [List.getElem?_append_right (by simpa using hi), List.getElem?_replicate] at h
    split at h <;> cases h
abbrev WF (E : XK) : WX := fun cls d _ H => E cls d H
theorem run_sem {n : Nat} {N : List Str} {body : FS} {vs : List V} {H : Hp} {Q : VK} {E : XK} (hN : N.length = n) {kk : Nat} (h : spF T kk (runF n body) vs H Q E) :
    rdS T (WF E) body { nx := fun _ H' => Q .non H', rt := Q } (start N vs) H := by
  obtain ⟨w, ds, rfl, ok, r, hl, q⟩ := h
  refine ⟨w, ds.map some ++ List.replicate (N.length - ds.length) none, rfl, ok, RelE_start r, ?_⟩
  unfold runF at q
  rw [hN]
  cases e : body (ds.map some ++ List.replicate (n - ds.length) none) w.mu with
  | stk => rw [e] at q; exact q
  | ex c r' mm => rw [e] at q; exact fun w' s' x ok' hm _ => q w' x ok' hm
  | ok fl mm =>
    rw [e] at q
    cases fl with
    | nx r' => exact fun w' s' x ok' hm _ => q w' .non x ok' hm (by simp only [RelD])
    | rt d => exact q
    | bk r' => exact q.elim
    | ct r' => exact q.elim
/-- the context of a function's body -/
abbrev cxF (P : Program) (w : World) (T : Tx) (base : Heap) (N : List Str) (qual : Str) (sc : Scope) (f : Addr) (cdv : Value) (A : Around) (outer : List Env) (s : Shared) (H : Hp) (E : XK) : Cx :=
  cxOf (L2.CX P w) P w T.K T.mg base N qual sc f cdv A outer s H E
theorem fn_rule {P : Program} {w : World} {base : Heap} {x qual : Str} {st : Stmt} {f : Addr} {fd : FuncData} {N ps : List Str} {body : FS} (F : L2.Fun T.K x qual st f fd) (S : FnScope N ps (defScope st))
    (hb : ∀ (cdv : Value) (A : Around) (outer : List Env) (s : Shared) (H : Hp) (E : XK), Room k (A.deeper (PyProof.Rows.envOfC qual (defScope st) s.heap.objs.size f cdv)) →
      PSs (cxF P w T base N qual (defScope st) f cdv A outer s H E) (defBody st) (rdS T (WF E) body)) :
    FnOk P w T.K T.mg base (L2.CX P w) (k + 1) f fd ps (spF T ps.length (runF N.length body)) :=
  F.okX S (fun vs H Q E ⟨w, ds, _, _, r, hl, _⟩ => by rw [r.length]; exact hl) fun cdv A outer s H vs Q E hr h => ⟨_, hb cdv A outer s H E hr, run_sem rfl h⟩
theorem fn_zero {P : Program} {w : World} {base : Heap} {f : Addr} {fd : FuncData} {ps : List Str} {n : Nat} : FnOk P w T.K T.mg base (L2.CX P w) k f fd ps (spF T n fun _ _ => .stk) :=
  ⟨fun vs H Q E ⟨w, ds, _, _, _, _, q⟩ => q.elim, fun A outer s H args us vs Q E hr e0 hb r ⟨w, ds, _, _, _, _, q⟩ => q.elim⟩

/-! ### raise -/
def sRaise (c : Str) : FS := fun r m => .ex c r m
/-- an exception's class over ValueError, without a maker of its own -/
structure ExOk (T : Tx) (x : Str) (C : Addr) : Prop where
  gC : T.mg x = some (.ref C)
  ex : PySem.W.excIn T.K C [.type "ValueError", .type "Exception", .type "BaseException", .type "object"] "ValueError.__new__" = true
  kC : PySem.W.keepIn T.K (.ref C) = true
  sB : PySem.W.subIn T.K (.ref C) (.type "BaseException") = some true
  tC : PySem.W.typeIn T.K (.ref C) = some (.type "type")
theorem s_raise {x mm : Str} {j : Nat} {p p2 p3 : Pos} {C : Addr} (hc : X.calm = true) (tk : Takes X W) (E : ExOk (tx X) x C) (hg : Gl X x := by rfl) (hdb : (x == ("__debug__" : Str)) = false := by decide) :
    PS X (.Raise (some (.Call (.Name x p) [.Constant (.str mm) j p2] [] p3)) none pos) (rdS (tx X) W (sRaise x)) := by
  refine ps_imp (ps_raise hc tk (pmk_own PySem.F.excBase_ValueError E.ex E.gC E.kC (raises_own E.sB E.tC) hg hdb)) ?_
  rintro En s H ⟨w, r, rfl, ok, re, h⟩
  exact h w s .rfl' ok rfl re _ E.gC

end FR
set_option Elab.async false
set_option linter.all false
set_option maxRecDepth 100000
set_option maxHeartbeats 4000000
/-! ## len of a set comprehension of texts; attributes; making; try -/
namespace FR
open PySem PySem.Spec L2
set_option autoImplicit false

/-! ### the set comprehension -/
section
variable {X : Cx}
/-- one turn of a set comprehension over keys -/
abbrev KcTurn (P : Program) (w : World) (J : It) (g : TG) (tt : TT) (te : TE) (vs : List Nat) (s : L2.St) (a : Addr) (Done : Hp → Prop) (V : Nat → Nat → Hp → Prop) (i m : Nat) (H : Hp) : Prop :=
  (J.stop i H ∧ Done H) ∨ (J.go i H ∧ ∃ Next : Hp → Prop, (∀ H', Next H' → ∃ m', m' < m ∧ V (i + 1) m' H') ∧ ∀ x H', J.yld i H x H' → g x (L2.wipe s vs) H' fun s2 H2 => L2.wipe s2 vs = L2.wipe s vs ∧ tt s2 H2 fun z H3 =>
    if z = true then te s2 H3 fun y H4 => ∃ (c : Key) (S : Key → Bool) (n : Nat), y = kV c ∧ H4 a = some (SetK P w a S n) ∧ n + 1 < scanBound ∧ Next (upd H4 a (SetK P w a (fun j => S j || decide (j = c)) (if S c = true then n else n + 1))) else Next H3)
def tKc (P : Program) (w : World) (wi : TI) (g : TG) (tt : TT) (te : TE) (vs : List Nat) : TE := fun s H Q => wi s H fun J H1 => ∀ a, H1 a = none →
  ∃ V : Nat → Nat → Hp → Prop, (∃ m, V 0 m (upd H1 a (SetK P w a (fun _ => false) 0))) ∧ ∀ i m H, V i m H → KcTurn P w J g tt te vs s a (fun H => Q (.ref a) H) V i m H
theorem pe_kc {elt tg iter : Expr} {ifs : List Expr} {scope : Scope} {own : List (PySem.Str × Nat)} {pos : Pos} {wi : TI} {g : TG} {tt : TT} {te : TE} (calm : X.calm = true) (nodup : X.N.Nodup) (walks : PI X tg iter wi) (blk : BlkOk X.N X.env.scope scope own)
    (target : ∀ s H C cl fp, PG (X.blk s H scope (compEnvC scope cl C X.env) fp) tg g) (tests : ∀ s H C cl fp, PTs (X.blk s H scope (compEnvC scope cl C X.env) fp) ifs tt)
    (elem : ∀ s H C cl fp, PE (X.blk s H scope (compEnvC scope cl C X.env) fp) elt te) (plain : ∀ x, foldedSetIterable iter X.env x = pure x := by intro _; rfl) :
    PE X (.SetComp elt [⟨tg, iter, ifs, 0⟩] scope pos) (tKc X.prog X.w wi g tt te (own.map (·.2))) := by
  refine ⟨fun pins s0 sg H0 Q I0 h0 => ?_⟩
  rw [PpSet.eval_SetComp]
  have bound : ∀ y ∈ scope.names, y.2 = .free → ∃ c, X.env.cells.lookup y.1 = some c := fun y hy hf =>
    (blk.free y hy hf).elim (fun k => I0.ok.has _ (.inl k)) fun k => I0.ok.has _ (.inr k)
  refine wpAny_comprehension_free (use := none) rfl plain (closure_ok bound) blk.kind (fun y hy hf => by rw [blk.uniq y hy, hf]) (thn (walks.run pins s0 sg H0 _ I0 h0) fun _ _ h1 => thn h1 fun itv sa ha => ?_)
  obtain ⟨it, fp, tn, J, Ha, rfl, Ia, Tn, sta, fpa, q⟩ := ha
  refine PpSet.newSet_ok (newEnv_comp ?_)
  obtain ⟨a, ea⟩ : ∃ a, sa.heap.objs.size = a := ⟨_, rfl⟩
  rw [ea]
  have fresh : Ha a = none := Ia.hok.fresh (Nat.le_of_eq ea)
  obtain ⟨V, ⟨m0, v0⟩, turn⟩ := q a fresh
  obtain ⟨sb, esb⟩ : ∃ sb : Shared, sb = { sa with heap := sa.heap.push { cls := .type "set", dict := none, data := .set #[] 0 (.fresh 0 0 (!X.w.params.followText "set-order")) } } := ⟨_, rfl⟩
  rw [← esb]
  have hsb : sb.heap = sa.heap.push { cls := .type "set", dict := none, data := .set #[] 0 (.fresh 0 0 (!X.w.params.followText "set-order")) } := by rw [esb]
  have Ib : Inv X pins sg (upd Ha a (SetK X.prog X.w a (fun _ => false) 0)) sb := by
    have r : sb.heap.SetOf (mixKind X.prog X.w) a (fun _ => false) 0 := by
      rw [hsb, ← ea]
      exact ⟨_, #[], 0, _, Heap.get?_push_size _ rfl, ⟨rfl, rfl, rfl⟩, rfl, fun _ z => by simp at z, fun _ => by simp, by decide, by rfl, rfl⟩
    have k := Ia.laid (h' := sb.heap) (t' := sa.toks) (fun b o e => by rw [hsb]; exact Heap.get?_push_of_some _ e) (Nat.le_of_eq ea) (setK_new r)
    rw [esb] at k ⊢
    exact k
  obtain ⟨Hb, eHb⟩ : ∃ Hb, Hb = upd Ha a (SetK X.prog X.w a (fun _ => false) 0) := ⟨_, rfl⟩
  rw [← eHb] at Ib v0
  have young : ∀ b ∈ fp, b < sa.heap.objs.size := fun b hb => let ⟨_, e, _⟩ := Tn.obj _ _ sta b hb; Heap.lt_size e
  have fpb : ∀ b ∈ fp, FpOk X pins Hb b ∧ b < sb.heap.objs.size := fun b hb => by
    have lt := young b hb
    exact ⟨⟨by rw [eHb, upd_ne (by rw [← ea]; exact Nat.ne_of_lt lt)]; exact (fpa b hb).1, (fpa b hb).2⟩, by rw [hsb, Heap.size_push]; exact Nat.lt_succ_of_lt lt⟩
  have stb : tn 0 sb.heap := Tn.keep _ _ _ sta fun b _ o e => by rw [hsb]; exact Heap.get?_push_of_some _ e
  have Ic := block_start Ib blk nodup fpb
  obtain ⟨L, eL⟩ : ∃ L, sb.heap.objs.size = L := ⟨_, rfl⟩
  obtain ⟨cl, ecl⟩ : ∃ cl, cellsFrom (sb.heap.objs.size + 1) scope.names (cloFrom X.env.cells scope.names []) = cl := ⟨_, rfl⟩
  have tg1 := target sb Hb sb.heap.objs.size cl fp
  have tt1 := tests sb Hb sb.heap.objs.size cl fp
  have te1 := elem sb Hb sb.heap.objs.size cl fp
  show codeAny _ _ (.compStart (.SetComp elt [⟨tg, iter, ifs, 0⟩] scope pos) 0 (.ref it) (.ref a) (compEnvC scope (cellsFrom (sb.heap.objs.size + 1) scope.names (cloFrom X.env.cells scope.names [])) sb.heap.objs.size X.env)) (compPost (model X.prog X.w) X.A X.xe none (EP X pins sg Q) (.ref a) sb.heap.objs.size) { sb with heap := pushCells (sb.heap.push { cls := .type "dict", data := .dict #[] }) scope.names }
  rw [ecl] at Ic ⊢
  obtain ⟨ce, ece⟩ : ∃ ce, compEnvC scope cl sb.heap.objs.size X.env = ce := ⟨_, rfl⟩
  have lce : ce.locals = sb.heap.objs.size := by rw [← ece]; rfl
  rw [ece] at Ic tg1 tt1 te1 ⊢
  obtain ⟨sc, esc⟩ : ∃ sc : Shared, sc = { sb with heap := pushCells (sb.heap.push { cls := .type "dict", data := .dict #[] }) scope.names } := ⟨_, rfl⟩
  rw [← esc] at Ic ⊢
  have stc : tn 0 sc.heap := Tn.keep _ _ _ stb fun b _ o e => by rw [esc]; exact pushCells_keeps _ _ _ _ (Heap.get?_push_of_some _ e)
  have own_fp : ∀ {s1 : L2.St} {H1 : Hp} {z : Shared}, Inv (X.blk sb Hb scope ce fp) [] s1 H1 z → (∀ b ∈ fp, H1 b = none) → ∀ b ∈ fp, FpOk (X.blk sb Hb scope ce fp) [] H1 b := fun {s1 H1 z} J1 hn b hb =>
    ⟨hn b hb, (J1.ok.exf b hb).1, J1.ok.exfs b hb, .inl hb, fun x c e => (J1.ok.exf b hb).2 x c e, fun p hp => absurd (show p ∈ ([] : List (Addr × Obj)) ++ [] from hp) (by simp)⟩
  have all : codeAny (model X.prog X.w) X.A (.compLoop (.SetComp elt [⟨tg, iter, ifs, 0⟩] scope pos) 0 (.ref it) (.ref a) ce) (compPost (model X.prog X.w) X.A X.xe none (EP X pins sg Q) (.ref a) sb.heap.objs.size) sc := by
    refine PpSet.compLoopS_any (fun n z => ∃ i H1, Inv (X.blk sb Hb scope ce fp) [] (L2.wipe sg (own.map (·.2))) H1 z ∧ tn i z.heap ∧ (∀ b ∈ fp, H1 b = none) ∧ V i n H1) (fun n z hz => ?_) m0 ⟨0, Hb, Ic, stc, fun b hb => (fpb b hb).1.1, v0⟩
    obtain ⟨i, H1, I1, st1, n1, w1⟩ := hz
    rcases turn i n H1 w1 with ⟨stop, done⟩ | ⟨go, Next, hNext, step⟩
    · refine thnF (Tn.done (X.blk sb Hb scope ce fp) rfl rfl rfl calm i [] z _ H1 (fun _ _ => False) I1 (own_fp I1 n1) st1 stop) fun r z2 hr => ?_
      obtain ⟨rfl, I2⟩ := hr
      have I3 : Inv X pins sg H1 z2 := Ib.call' (ch := fp) I2.os I2.base I2.hok I2.bare fun b hb => let k := (fpb b hb).1; ⟨k.2.2.2.1, k.2.1, k.2.2.2.2.1, k.2.2.2.2.2⟩
      have free : H1 sb.heap.objs.size = none := by have k : H1 ce.locals = none := I2.free; rw [lce] at k; exact k
      obtain ⟨mm, hns, _⟩ := I2.loc
      have hns : z2.heap.Ns ce.locals mm := hns
      rw [lce] at hns
      obtain ⟨f0, f1, f2, f3, f4, f5⟩ := Ib.fpOk (Nat.le_refl _) free
      exact ⟨mm, hns, fun h'' sm => ⟨.ref a, H1, I3.turned (t' := z2.toks) (fun b o hb e => (sm.2 b hb).trans e) f0 f1 f3 f4 f5, rfl, done⟩⟩
    · refine thnF (Tn.item (X.blk sb Hb scope ce fp) rfl rfl rfl calm i [] z _ H1 (fun _ _ => False) I1 (own_fp I1 n1) st1 go) fun r z2 hr => ?_
      obtain ⟨u, rfl, h2⟩ := hr
      refine thnF h2 fun _ z3 ⟨x, H3, I3, r3, y3, st3, n3⟩ => ?_
      have I4 := I3.pinned (own_fp I3 n3) (Tn.obj _ _ st3)
      refine thnF (tg1.run _ z3 _ H3 x u _ I4 r3 (step x H3 y3)) fun _ z5 ⟨s5, H5, I5, hw5, q5⟩ => ?_
      refine thnF (tt1.run _ z5 s5 H5 _ I5 q5) fun zb z6 ⟨H6, I6, q6⟩ => ?_
      have close : ∀ {z' : Shared} {H' : Hp}, Inv (X.blk sb Hb scope ce fp) ([] ++ pinsAt fp z3.heap) s5 H' z' → Next H' → ∃ m, m < n ∧ ∃ i H1, Inv (X.blk sb Hb scope ce fp) [] (L2.wipe sg (own.map (·.2))) H1 z' ∧ tn i z'.heap ∧ (∀ b ∈ fp, H1 b = none) ∧ V i m H1 := fun {z' H'} I' nx => by
        obtain ⟨m', lt, w'⟩ := hNext H' nx
        have pinned : ∀ b ∈ fp, ∀ o, z3.heap.get? b = some o → z'.heap.get? b = some o ∧ H' b = none := fun b hb o e => let k := I'.pin (b, o) (List.mem_append_right _ (List.mem_append_right _ (mem_pinsAt hb e))); ⟨k.1, k.2.1⟩
        refine ⟨m', lt, i + 1, H', I'.unpinned (pins := []) |>.weak (by rw [← hw5, L2.wipe_length]) fun j v e => ?_, Tn.keep _ _ _ st3 fun b hb o e => (pinned b hb o e).1, fun b hb => ?_, w'⟩
        · rw [← hw5] at e
          exact (wipe_some e).1
        · obtain ⟨o, e, _⟩ := Tn.obj _ _ st3 b hb
          exact (pinned b hb o e).2
      cases zb with
      | false =>
        simp only [Bool.false_eq_true, if_false] at q6 ⊢
        exact close I6 q6
      | true =>
        simp only [if_true] at q6 ⊢
        refine thnF (te1.run _ z6 s5 H6 _ I6 q6) fun uv z7 ⟨yv, H7, I7, r7, c, S, nn, ey, ha7, room, nx⟩ => ?_
        have add := mt_saddK (X := X.blk sb Hb scope ce fp) _ z7 s5 H7 (.ref a) [yv] (.ref a) [uv] (fun v H' => Next H') I7 rfl (.cons r7 .nil) ⟨a, c, S, nn, rfl, by rw [ey], ha7, room, nx⟩
        exact thnF add fun _ z8 ⟨_, H8, I8, _, q8⟩ => close I8 q8
  exact PpSet.codeAny_compStart_set all (Tn.self X.A 0 _ _ _ stc all)
/-- len of it -/
theorem call_lenK : CallR X (.builtin "len") (fun xs H Q => ∃ a S n, xs = [.ref a] ∧ H a = some (SetK X.prog X.w a S n) ∧ Q (.int (n : Nat)) H) := by
  intro pins s sg H xs us Q I r h
  obtain ⟨a, S, n, rfl, ha, q⟩ := h
  obtain ⟨u, rfl, rfl⟩ := vals1 r
  obtain ⟨o, es, ep, t, ho, hx, hd, _, _, hz, hf, hn⟩ := setK_get I ha
  exact call_len_set ho hx hd hf (by have : (scanBound : Nat) = 4096 := rfl; omega) ⟨.int (n : Nat), H, I.tok _, ⟨_, by rw [hn]⟩, q⟩
end

variable {X : Cx} {T : Tx} {W : WX} {f g h : FE} {fa : FA} {ft gt : FT} {a b c e o tg iter : Expr} {es rest : List Expr} {pos : Pos} {k : Nat} {st0 : Stmt} {sts : List Stmt} {m m' : FS}
/-- how many there are, each once -/
@[reducible] def setN : List Str → List Str → Nat
  | [], seen => seen.length
  | x :: xs, seen => if x ∈ seen then setN xs seen else setN xs (x :: seen)
def fLenSet (vs : List Nat) (p : Pt) (fi : FI) (t : FT) (f : FE) : FE := fun r m => (fi r m).bind fun ds m => if ds.length ≤ 4000 then (compL p t f (wipeL r vs) ds m).bind fun ys m => match strsD ys with
  | some xs => .ok (.int (setN xs [] : Nat)) m
  | none => .stk
  else .stk
theorem strsD_cons {d : D} {ds : List D} {ys : List Str} (h : strsD (d :: ds) = some ys) : ∃ x xs, d = .str x ∧ strsD ds = some xs ∧ ys = x :: xs := by
  cases d <;> simp only [strsD, reduceCtorEq] at h
  rw [Option.map_eq_some_iff] at h
  obtain ⟨ms, e, rfl⟩ := h
  exact ⟨_, ms, rfl, e, rfl⟩
theorem sc_sem {P : Program} {w' : World} {vs : List Nat} {p : Pt} {fi : FI} (hp : ∀ i ∈ p.slots, i ∈ vs) : ∀ s H Q, rd T W (fLenSet vs p fi ft f) s H Q →
    tKc P w' (rdI T W fi) (gOf T.K p) (rdT T W0 ft) (rd T W0 f) vs s H fun x H1 => ∃ a S n, [x] = [V.ref a] ∧ H1 a = some (SetK P w' a S n) ∧ Q (.int (n : Nat)) H1 := by
  rintro sg H Q ⟨w, l, rfl, ok, re, h⟩
  refine ⟨w, l, rfl, ok, re, ?_⟩
  cases e1 : fi l w.mu with
  | stk => rw [fLenSet, e1] at h; exact h
  | ex c m => rw [fLenSet, e1] at h; exact h
  | ok ds m =>
  rw [fLenSet, e1] at h
  simp only [Rs.bind] at h
  split at h
  case isFalse => exact h.elim
  rename_i hlen
  intro w1 J ex1 ok1 hm it A0 hD
  subst hm
  have re1 := re.ex ok ex1.toEx0
  have hx : Ex0 w1 (w1.hide A0 (SetK P w' A0 (fun _ => false) 0)) := hide_ex ok1 hD
  have hok : Ok T (w1.hide A0 (SetK P w' A0 (fun _ => false) 0)) := hide_ok ok1 hD trivial
  -- what is kept behind i turns: the seen texts
  let Inv_ : Nat → Hp → Prop := fun i H' => ∃ (w2 : Wo) (seen : List Str) (S : Key → Bool), w2.H = H' ∧ Ok T w2 ∧ Ex0 w1 w2 ∧ w2.hid = (fun a => a = A0 ∨ w1.hid a) ∧ (∀ a, w1.hid a → w2.H a = w1.H a) ∧
    w2.H A0 = some (SetK P w' A0 S seen.length) ∧ (∀ x : Str, S (.inr x) = decide (x ∈ seen)) ∧ seen.length ≤ i ∧
    Post T (RelD T) (wx T W sg) w ((compL p ft f (wipeL l vs) (ds.drop i) w2.mu).bind fun ys m => match strsD ys with
      | some xs => .ok (.int (setN xs seen : Nat)) m
      | none => .stk) Q
  refine ⟨fun i m H' => m = ds.length - i ∧ i ≤ ds.length ∧ Inv_ i H', ⟨ds.length, by simp, Nat.zero_le _, w1.hide A0 (SetK P w' A0 (fun _ => false) 0), [], fun _ => false, rfl, hok, hx, rfl, fun a ha => upd_ne (hid_ne ok1 hD ha), upd_same, fun x => by simp, Nat.le_refl _, ?_⟩, ?_⟩
  · simp only [List.drop_zero]; exact h
  rintro i m H' ⟨rfl, hi, w2, seen, S, rfl, ok2, x2, hid2, hk2, hD2, hS, hseen, hpost⟩
  obtain ⟨go_, stop_⟩ := it w2 x2 ok2
  have re2 := re1.ex ok1 x2
  by_cases hlt : i < ds.length
  · right
    obtain ⟨d, hd⟩ : ∃ d, ds[i]? = some d := ⟨ds[i], by simp [hlt]⟩
    obtain ⟨hgo, hy⟩ := go_ i d hd
    have hdrop : ds.drop i = d :: ds.drop (i + 1) := by
      rw [List.drop_eq_getElem_cons hlt]
      have : ds[i] = d := by rw [List.getElem?_eq_getElem hlt] at hd; exact Option.some.inj hd
      rw [this]
    refine ⟨hgo, Inv_ (i + 1), fun H' q => ⟨ds.length - (i + 1), by omega, rfl, hlt, q⟩, fun x H' hyl => ?_⟩
    obtain ⟨wb, xb, okb, hmu, rfl, rx⟩ := hy x H' hyl
    have x2b : Ex0 w1 wb := x2.trans xb.toEx0
    have hid2b : wb.hid = (fun a => a = A0 ∨ w1.hid a) := xb.hidE.trans hid2
    have hk2b : ∀ a, w1.hid a → wb.H a = w1.H a := fun a ha => (xb.hidK a (by rw [hid2]; exact .inr ha)).trans (hk2 a ha)
    have hD2b : wb.H A0 = some (SetK P w' A0 S seen.length) := (xb.hidK A0 (by rw [hid2]; exact .inl rfl)).trans hD2
    have re2b := re2.ex ok2 xb.toEx0
    rw [← hmu] at hpost
    rw [hdrop] at hpost
    simp only [compL] at hpost
    cases ea : asg p d (wipeL l vs) with
    | none => rw [ea] at hpost; exact hpost.elim
    | some r1 =>
    rw [ea] at hpost
    simp only at hpost
    obtain ⟨s', re', hw, hg⟩ := gOf_ok okb (re2b.wipes vs) rx ea
    refine hg _ ⟨by rw [hw vs hp, wipe_wipe], ?_⟩
    refine ⟨wb, r1, rfl, okb, re', ?_⟩
    cases et : ft r1 wb.mu with
    | stk => rw [et] at hpost; exact hpost.elim
    | ex c m3 => rw [et] at hpost; exact hpost.elim
    | ok z m3 =>
    rw [et] at hpost
    intro w3 z' e3 ok3 hm3 hz
    subst hz
    subst hm3
    have x3 : Ex0 w1 w3 := x2b.trans e3.toEx0
    have hid3 : w3.hid = fun a => a = A0 ∨ w1.hid a := e3.hidE.trans hid2b
    have hk3 : ∀ a, w1.hid a → w3.H a = w1.H a := fun a ha => (e3.hidK a (by rw [hid2b]; exact .inr ha)).trans (hk2b a ha)
    have hD3 : w3.H A0 = some (SetK P w' A0 S seen.length) := (e3.hidK A0 (by rw [hid2b]; exact .inl rfl)).trans hD2b
    cases z with
    | false =>
      simp only [Bool.false_eq_true, if_false]
      exact ⟨w3, seen, S, rfl, ok3, x3, hid3, hk3, hD3, hS, by omega, hpost⟩
    | true =>
      simp only [if_true]
      refine ⟨w3, r1, rfl, ok3, re'.ex okb e3.toEx0, ?_⟩
      simp only at hpost
      cases ef : f r1 w3.mu with
      | stk => rw [ef] at hpost; exact hpost.elim
      | ex c m4 => rw [ef] at hpost; exact hpost.elim
      | ok y m4 =>
      rw [ef] at hpost
      intro w4 v e4 ok4 hm4 rv
      subst hm4
      have hid4 : w4.hid = fun a => a = A0 ∨ w1.hid a := e4.hidE.trans hid3
      have hh4 : w4.hid A0 := by rw [hid4]; exact .inl rfl
      have hk4 : ∀ a, w1.hid a → w4.H a = w1.H a := fun a ha => (e4.hidK a (by rw [hid3]; exact .inr ha)).trans (hk3 a ha)
      have hD4 : w4.H A0 = some (SetK P w' A0 S seen.length) := (e4.hidK A0 (by rw [hid3]; exact .inl rfl)).trans hD3
      simp only at hpost
      cases ec : compL p ft f (wipeL l vs) (ds.drop (i + 1)) w4.mu with
      | stk => rw [ec] at hpost; exact hpost.elim
      | ex c m5 => exact absurd ec compL_no
      | ok ys m5 =>
      rw [ec] at hpost
      simp only [Rs.bind] at hpost
      cases es : strsD (y :: ys) with
      | none => rw [es] at hpost; exact hpost.elim
      | some zs =>
      rw [es] at hpost
      obtain ⟨t, ts, rfl, hts, rfl⟩ := strsD_cons es
      simp only [RelD] at rv
      subst rv
      refine ⟨.inr t, S, seen.length, rfl, hD4, by have : (scanBound : Nat) = 4096 := rfl; omega, ?_⟩
      have x5 : ∀ o, Ex0 w4 (w4.lay A0 o) := fun o => over_ex hh4
      by_cases hin : t ∈ seen
      · have hSt : S (.inr t) = true := by rw [hS]; exact decide_eq_true hin
        rw [if_pos hSt]
        refine ⟨w4.lay A0 (SetK P w' A0 (fun j => S j || decide (j = .inr t)) seen.length), seen, fun j => S j || decide (j = .inr t), rfl, over_ok ok4 hh4 trivial, (x3.trans e4.toEx0).trans (x5 _), hid4, fun a ha => (upd_ne (hid_ne ok1 hD ha)).trans (hk4 a ha), upd_same, fun x => ?_, by omega, ?_⟩
        · show (S (.inr x) || decide ((Sum.inr x : Key) = .inr t)) = _
          rw [hS]
          by_cases hxt : x = t
          · subst hxt; simp [hin]
          · simp [hxt]
        · have hc : compL p ft f (wipeL l vs) (ds.drop (i + 1)) (w4.lay A0 (SetK P w' A0 (fun j => S j || decide (j = .inr t)) seen.length)).mu = .ok ys m5 := ec
          rw [hc]
          simp only [Rs.bind, hts]
          simp only [setN, hin, if_true] at hpost
          exact hpost
      · have hSt : S (.inr t) = false := by rw [hS]; exact decide_eq_false hin
        rw [if_neg (by rw [hSt]; simp)]
        refine ⟨w4.lay A0 (SetK P w' A0 (fun j => S j || decide (j = .inr t)) (seen.length + 1)), t :: seen, fun j => S j || decide (j = .inr t), rfl, over_ok ok4 hh4 trivial, (x3.trans e4.toEx0).trans (x5 _), hid4, fun a ha => (upd_ne (hid_ne ok1 hD ha)).trans (hk4 a ha), upd_same, fun x => ?_, by simp; omega, ?_⟩
        · show (S (.inr x) || decide ((Sum.inr x : Key) = .inr t)) = _
          rw [hS]
          by_cases hxt : x = t
          · subst hxt; simp
          · simp [hxt]
        · have hc : compL p ft f (wipeL l vs) (ds.drop (i + 1)) (w4.lay A0 (SetK P w' A0 (fun j => S j || decide (j = .inr t)) (seen.length + 1))).mu = .ok ys m5 := ec
          rw [hc]
          simp only [Rs.bind, hts]
          simp only [setN, hin, if_false] at hpost
          exact hpost
  · left
    have e : i = ds.length := by omega
    subst e
    refine ⟨stop_ _ (Nat.le_refl _), A0, S, seen.length, rfl, hD2, ?_⟩
    rw [List.drop_length] at hpost
    simp only [compL, Rs.bind, strsD, setN] at hpost
    have hs : ∀ a, w1.hid a → w2.hid a := fun a ha => by rw [hid2]; exact .inr ha
    have x6 : Ex0 w2 (w2.show_ w1.hid) := show_ex hs
    have ex6 : Ex w1 (w2.show_ w1.hid) := ⟨x2.trans x6, rfl, hk2⟩
    exact hpost (w2.show_ w1.hid) (.int (seen.length : Nat)) (ex1.trans ex6) (show_ok ok2 hs) rfl (by simp only [RelD])
theorem v_lenSet {x : Str} {p1 p2 : Pos} {elt : Expr} {ifs : List Expr} {scope : Scope} {own : List (Str × Nat)} {p : Pt} {fi : FI} (hp : (p.slots.all fun i => (own.map (·.2)).contains i) = true) (hm : X.mg x = none) (hv : bootBuiltins x = some (.builtin "len")) (hc : X.calm = true) (hN : X.N.Nodup) (hi : PI X tg iter (rdI (tx X) W fi)) (ok : BlkOk X.N X.env.scope scope own)
    (hg : ∀ s H C cl fp, PG (X.blk s H scope (compEnvC scope cl C X.env) fp) tg (gOf X.K p)) (ht : ∀ s H C cl fp, PTs (X.blk s H scope (compEnvC scope cl C X.env) fp) ifs (rdT (tx X) W0 ft))
    (he : ∀ s H C cl fp, PE (X.blk s H scope (compEnvC scope cl C X.env) fp) elt (rd (tx X) W0 f)) (hgl : Gl X x := by rfl) (hs : ∀ x, foldedSetIterable iter X.env x = pure x := by intro _; rfl)
    (hn : x ≠ "__name__" := by decide) (hdb : (x == ("__debug__" : Str)) = false := by decide)
    (hse : starEach [.SetComp elt [⟨tg, iter, ifs, 0⟩] scope p2] X.env = (false, eval (.SetComp elt [⟨tg, iter, ifs, 0⟩] scope p2) X.env) :: starEach [] X.env := by rfl) (hpl : (backTo pos (starEach [] X.env)).any (·.1) = false := by rfl) :
    PE X (.Call (.Name x p1) [.SetComp elt [⟨tg, iter, ifs, 0⟩] scope p2] [] pos) (rd (tx X) W (fLenSet (own.map (·.2)) p fi ft f)) := by
  refine pe_imp (pe_callB call_lenK hgl hm hv (pa_cons (pe_kc hc hN hi ok hg ht he hs) pa_nil hse) hn hdb hse hpl) fun s H Q q => ?_
  exact sc_sem (fun i hi => by have := List.all_eq_true.mp hp i hi; simpa using this) s H Q q
end FR
set_option Elab.async false
set_option linter.all false
set_option maxRecDepth 100000
set_option maxHeartbeats 4000000
/-! ## Attributes, making, methods, try -/
namespace FR
open PySem PySem.Spec L2
set_option autoImplicit false
variable {X : Cx} {T : Tx} {W : WX} {f g h : FE} {fa : FA} {ft gt : FT} {a b c e o tg iter : Expr} {es rest : List Expr} {pos : Pos} {k : Nat} {st0 : Stmt} {sts : List Stmt} {m m' : FS}

/-! ### attributes -/
@[reducible] def lookD : List Str → List D → Str → Option D
  | n :: ns, v :: vs, x => if x = n then some v else lookD ns vs x
  | _, _, _ => none
theorem lookD_val {w : Wo} {x : Str} : ∀ {ns : List Str} {ds : List D} {vs : List V} {d : D}, RelDs T w ds vs → lookD ns ds x = some d → ∃ v, (ns.zip vs).lookup x = some v ∧ RelD T w d v
  | [], ds, vs, d, r, h => by simp [lookD] at h
  | n :: ns, [], vs, d, r, h => by simp [lookD] at h
  | n :: ns, e :: ds, vs, d, r, h => by
    simp only [RelDs] at r
    obtain ⟨v, l, rfl, h1, h2⟩ := r
    simp only [lookD] at h
    by_cases q : x = n
    · subst q
      rw [if_pos rfl] at h
      cases h
      exact ⟨v, by simp [List.lookup], h1⟩
    · rw [if_neg q] at h
      obtain ⟨u, hu, ru⟩ := lookD_val h2 h
      refine ⟨u, ?_, ru⟩
      have : (x == n) = false := by simpa using q
      simp [List.lookup, this, hu]
def gFld (c x : Str) : D → List O → Rs D := fun d m => match d with
  | .ins c' ns vs => if c' = c then match lookD ns vs x with
    | some v => .ok v m
    | none => .stk
    else .stk
  | .loc n => match m[n]? with
    | some (.ins c' ns vs) => if c' = c then match lookD ns vs x with
      | some v => .ok v m
      | none => .stk
      else .stk
    | _ => .stk
  | _ => .stk
/-- a class of the program -/
structure ClG (T : Tx) (c : Str) (C : Addr) : Prop where
  g : T.mg c = some (.ref C)
  cl : Cls T.K C
theorem v_fld {c x : Str} {C : Addr} (cg : ClG (tx X) c C) (na : NoAttr X.K C x) (he : PE X e (rd (tx X) W f)) (hb : attributeBase e x X.env (eval e X.env) = eval e X.env := by rfl) :
    PE X (.Attribute e x pos) (rd (tx X) W (fUn (gFld c x) f)) := by
  refine pe_imp (pe_fld he hb) ?_
  rintro σ H Q ⟨w, l, rfl, ok, re, h⟩
  refine go_e ok re h fun d w1 v e1 ok1 re1 r1 h1 => ?_
  unfold gFld at h1
  split at h1
  · rename_i c' ns vs
    split at h1
    · rename_i hc; subst hc
      split at h1
      · rename_i dv hl
        simp only [RelD] at r1
        obtain ⟨p, C', dx, us, rfl, hg, hH, hlen, nl, rr⟩ := r1
        have : C' = C := by have q := hg.symm.trans cg.g; cases q; rfl
        subst this
        obtain ⟨u, hu, ru⟩ := lookD_val rr hl
        exact ⟨p, C', dx, _, u, rfl, hH, cg.cl, na, hu, h1.now ok1 ru⟩
      · exact h1.elim
    · exact h1.elim
  · split at h1
    · rename_i n _ c' ns vs hm
      split at h1
      · rename_i hc; subst hc
        split at h1
        · rename_i dv hl
          simp only [RelD] at r1
          obtain ⟨p, rfl, hb⟩ := r1
          obtain ⟨C', dx, us, hg, hH, hlen, rr⟩ := ok1.obj _ _ _ hm hb
          have : C' = C := by have q := hg.symm.trans cg.g; cases q; rfl
          subst this
          obtain ⟨u, hu, ru⟩ := lookD_val rr hl
          exact ⟨p, C', dx, _, u, rfl, hH, cg.cl, na, hu, h1.now ok1 ru⟩
        · exact h1.elim
      · exact h1.elim
    · exact h1.elim
  · exact h1.elim
@[reducible] def putNs (x : Str) : List Str → List Str
  | [] => [x]
  | n :: ns => if n = x then n :: ns else n :: putNs x ns
@[reducible] def putVs {α : Type} (x : Str) (d : α) : List Str → List α → List α
  | n :: ns, v :: vs => if n = x then d :: vs else v :: putVs x d ns vs
  | _, _ => [d]
theorem put_zip {x : Str} {v : V} : ∀ {ns : List Str} {vs : List V}, vs.length = ns.length → putF x v (ns.zip vs) = (putNs x ns).zip (putVs x v ns vs) ∧ (putVs x v ns vs).length = (putNs x ns).length
  | [], [], _ => ⟨rfl, rfl⟩
  | n :: ns, u :: vs, h => by
    obtain ⟨i1, i2⟩ := put_zip (x := x) (v := v) (ns := ns) (vs := vs) (by simpa using h)
    by_cases q : n = x
    · refine ⟨?_, ?_⟩
      · show putF x v ((n, u) :: ns.zip vs) = _
        unfold putF
        rw [if_pos q]; simp [putNs, putVs, q]
      · simp [putNs, putVs, q]; simpa using h
    · refine ⟨?_, ?_⟩
      · show putF x v ((n, u) :: ns.zip vs) = _
        unfold putF
        rw [if_neg q, i1]; simp [putNs, putVs, q]
      · simp [putNs, putVs, q, i2]
  | [], _ :: _, h => by simp at h
  | _ :: _, [], h => by simp at h
theorem putVs_rel {w : Wo} {x : Str} {d : D} {v : V} (r : RelD T w d v) : ∀ {ns : List Str} {ds : List D} {vs : List V}, RelDs T w ds vs → RelDs T w (putVs x d ns ds) (putVs x v ns vs)
  | [], ds, vs, h => by
    have : putVs x d [] ds = [d] := by cases ds <;> rfl
    have h2 : putVs x v [] vs = [v] := by cases vs <;> rfl
    rw [this, h2]; exact .cons r .nil
  | n :: ns, [], vs, h => by simp only [RelDs] at h; subst h; exact .cons r .nil
  | n :: ns, e :: ds, vs, h => by
    simp only [RelDs] at h
    obtain ⟨u, l, rfl, h1, h2⟩ := h
    simp only [putVs]
    by_cases q : n = x
    · rw [if_pos q, if_pos q]; exact .cons r h2
    · rw [if_neg q, if_neg q]; exact .cons h1 (putVs_rel r h2)
def gPutF (c x : Str) (o d : D) (m : List O) : Option (List O) := match o with
  | .loc n => match m[n]? with
    | some (.ins c' ns vs) => if c' = c ∧ ns.length < 1000 then some (m.set n (.ins c (putNs x ns) (putVs x d ns vs))) else none
    | _ => none
  | _ => none
def sFldS (c x : Str) (fo f : FE) : FS := fun r m => (f r m).sq r fun d m => (fo r m).sq r fun o m => match gPutF c x o d m with
  | some m => .ok (.nx r) m
  | none => .stk
theorem s_fld {c x : Str} {C : Addr} {p' : Pos} {fo : FE} (cg : ClG (tx X) c C) (na : NoAttr X.K C x) (ho : PE X o (rd (tx X) W fo)) (he : PE X e (rd (tx X) W f)) (hs : swapsWith e (some (.Attribute o x p')) pos.line X.env = pure false := by rfl) :
    PS X (.Assign [.Attribute o x p'] e pos) (rdS (tx X) W (sFldS c x fo f)) := by
  refine ps_imp (ps_fld ho he hs) ?_
  rintro E s H ⟨w, r, rfl, ok, re, h⟩
  refine go_s ok re h fun d w1 v x1 ok1 re1 r1 h1 => ?_
  refine go_s ok1 re1 h1 fun od w2 ov x2 ok2 re2 r2 h2 => ?_
  split at h2
  · rename_i mm hg
    unfold gPutF at hg
    split at hg
    · split at hg
      · split at hg
        · rename_i n _ c' ns vs hm hc
          cases hg
          obtain ⟨hc, hlen⟩ := hc
          subst hc
          simp only [RelD] at r2
          obtain ⟨p, rfl, hb⟩ := r2
          obtain ⟨C', dx, us, hgC, hH, hl, rr⟩ := ok2.obj _ _ _ hm hb
          have : C' = C := by have q := hgC.symm.trans cg.g; cases q; rfl
          subst this
          have rv := r1.ex ok1 x2.toEx0
          obtain ⟨z1, z2⟩ := put_zip (x := x) (v := v) hl
          refine ⟨p, C', dx, _, rfl, hH, cg.cl, na, by simp [hl]; exact hlen, ?_⟩
          rw [z1]
          have xx : Ex w2 (w2.put n p (.ins C' dx ((putNs x ns).zip (putVs x v ns us))) (.ins c' (putNs x ns) (putVs x d ns vs))) := put_ex ok2 hb hm (by simp)
          have okk : Ok (tx X) (w2.put n p (.ins C' dx ((putNs x ns).zip (putVs x v ns us))) (.ins c' (putNs x ns) (putVs x d ns vs))) := put_ok ok2 hb hm (by simp) ⟨C', dx, putVs x v ns us, hgC, upd_same, z2, (putVs_rel rv rr).ex ok2 xx.toEx0⟩
          exact h2 _ _ xx okk rfl (re2.ex ok2 xx.toEx0)
        · cases hg
      · cases hg
    · cases hg
  · exact h2.elim

/-! ### a new instance -/
/-- the class c of the program is made by its __init__, which gives what o gives -/
structure MkG (P : Program) (w : World) (T : Tx) (base : Heap) (c : Str) (k n : Nat) (o : List D → List O → Rs D) : Prop where
  ex : ∃ (C f : Addr) (fd : FuncData) (ps : List Str), FnOk P w T.K T.mg base (L2.CX P w) k f fd ps (spF T (n + 1) o) ∧ T.mg c = some (.ref C) ∧ Mk T.K C f ∧ Binds T.K fd ps []
theorem run_mkS {CX : CXT} {C f : Addr} {fd : FuncData} {ps : List Str} {sp : Sp} {E : L2.St → XK} {pins : List (Addr × Obj)} {sg : L2.St} {H : Hp} {s : Shared} {Q : VK} {us : List Value} {vs : List V} (mk : Mk X.K C f) (F : FnOk X.prog X.w X.K X.mg X.base CX k f fd ps sp) (room : Room (k + 1) X.A) (bi : Binds X.K fd ps [])
    (out : PassesAt CX X sg (E sg)) (I : Inv X pins sg H s) (r : Vals vs us) (h : ∀ x dx, H x = none → H dx = none → dx ≠ x → sp (.ref x :: vs) (upd (upd H dx (.own x)) x (.ins C dx [])) (fun v H2 => v = .non ∧ Q (.ref x) H2) (E sg)) :
    wpAny (model X.prog X.w) X.A (call (.ref C) us) (EP X pins sg Q) X.xe s := by
  have q := h (s.heap.objs.size + 1) s.heap.objs.size (I.hok.fresh (Nat.le_succ _)) (I.hok.fresh (Nat.le_refl _)) (Nat.ne_of_lt (Nat.lt_succ_self _))
  have J := Inv.made (C := C) I
  have rr : Vals (V.ref (s.heap.objs.size + 1) :: vs) (Value.ref (s.heap.objs.size + 1) :: us) := .cons rfl r
  have len : (Value.ref (s.heap.objs.size + 1) :: us).length = ps.length := by rw [← rr.length]; exact F.len _ _ _ _ q
  have b := bi _ (Value.ref (s.heap.objs.size + 1) :: us) J.kIn (by rw [List.append_nil]; exact len)
  rw [List.append_nil] at b
  have body := F.run _ X.stack _ _ ⟨Value.ref (s.heap.objs.size + 1) :: us, []⟩ _ _ _ (E sg) (room.make C us []) (J.env0.make C us []) b rr q
  refine wpAny_call (make_map (f := f) I.kIn mk.makes mk.init (beq_iff_eq.mp mk.fn) (codeAny_mono body fun res s' hres => ?_))
  match res, hres with
  | .error e, hres => exact out pins _ _ e s' J hres
  | .ok (.ret u), hres =>
    obtain ⟨v, H', K', rv, ev, qq⟩ := J.after hres
    subst ev
    exact ⟨rv, V.ref (s.heap.objs.size + 1), H', K', rfl, qq⟩
  | .ok .next, hres => exact hres.elim
  | .ok .brk, hres => exact hres.elim
  | .ok .cont, hres => exact hres.elim
def tMkS (C : Addr) (sp : Sp) (E : L2.St → XK) (t : TA) : TE := fun sg H Q => t sg H fun vs H1 => ∀ x dx, H1 x = none → H1 dx = none → dx ≠ x → sp (.ref x :: vs) (upd (upd H1 dx (.own x)) x (.ins C dx [])) (fun v H2 => v = .non ∧ Q (.ref x) H2) (E sg)
theorem pe_mkS {CX : CXT} {C f : Addr} {fd : FuncData} {ps : List Str} {sp : Sp} {E : L2.St → XK} {x : Str} {p : Pos} {t : TA} (mk : Mk X.K C f) (F : FnOk X.prog X.w X.K X.mg X.base CX k f fd ps sp) (room : Room (k + 1) X.A) (hg : Gl X x) (hm : X.mg x = some (.ref C)) (bi : Binds X.K fd ps []) (out : ∀ sg, PassesAt CX X sg (E sg)) (ha : PA X (e :: es) t)
    (hdb : (x == ("__debug__" : Str)) = false := by decide) (he : starEach (e :: es) X.env = (false, eval e X.env) :: starEach es X.env := by rfl) (hpl : (backTo pos (starEach es X.env)).any (·.1) = false := by rfl) :
    PE X (.Call (.Name x p) (e :: es) [] pos) (tMkS C sp E t) :=
  ⟨fun pins s sg H Q I h => wpAny_Call_Name_kw (ld_glob I hg hm (PySem.W.callWith_K (h₀ := X.base) I.ok.mod.kin mk.kp (thn (ha.run pos pins s sg H _ I h) fun us s1 ⟨vs, H1, I1, r, q⟩ => ⟨I1.kIn, run_mkS mk F room bi (out sg) I1 r q⟩) he hpl) hdb)⟩
def fMake (c : Str) (o : List D → List O → Rs D) (fa : FA) : FE := fun r m => (fa r m).bind fun ds m => match o (.loc m.length :: ds) (m ++ [.ins c [] []]) with
  | .ok .non m' => .ok (.loc m.length) m'
  | .ok _ _ => .stk
  | .ex c m' => .ex c m'
  | .stk => .stk
theorem v_make {x : Str} {p : Pos} {n : Nat} {oo : List D → List O → Rs D} (F : MkG X.prog X.w (tx X) X.base x k n oo) (hr : Room (k + 1) X.A) (tk : Takes X W) (ha : PA X (e :: es) (rdA (tx X) W fa)) (hn : ∀ r m, ∀ ds m', fa r m = .ok ds m' → ds.length = n) (hg : Gl X x := by rfl)
    (hdb : (x == ("__debug__" : Str)) = false := by decide) (he : starEach (e :: es) X.env = (false, eval e X.env) :: starEach es X.env := by rfl) (hpl : (backTo pos (starEach es X.env)).any (·.1) = false := by rfl) :
    PE X (.Call (.Name x p) (e :: es) [] pos) (rd (tx X) W (fMake x oo fa)) := by
  obtain ⟨C, f, fd, ps, hF, hm, hk, hb⟩ := F.ex
  refine pe_imp (pe_mkS hk hF hr hg hm hb (E := fun σ => WE W σ) (fun σ => passAt tk σ) ha hdb he hpl) ?_
  rintro σ H Q ⟨w, l, rfl, ok, re, h⟩
  refine ⟨w, l, rfl, ok, re, ?_⟩
  cases e1 : fa l w.mu with
  | stk => rw [fMake, e1] at h; exact h
  | ex c mm => rw [fMake, e1] at h; exact h
  | ok ds mm =>
    rw [fMake, e1] at h
    intro w1 vs x1 ok1 hm1 r1
    subst hm1
    simp only [Rs.bind] at h
    intro a dx ha hdx hne
    -- the own dict, then the instance
    have xa : Ex w1 (w1.lay dx (.own a)) := lay_ex ok1 hdx
    have oka : Ok (tx X) (w1.lay dx (.own a)) := lay_ok ok1 hdx
    have fra : (w1.lay dx (.own a)).H a = none := by
      show upd w1.H dx (.own a) a = none
      rw [upd_ne (Ne.symm hne)]; exact ha
    have hu : RelOb (tx X) ((w1.lay dx (.own a)).new a (.ins C dx []) (.ins x [] [])) a (.ins x [] []) := ⟨C, dx, [], hm, upd_same, rfl, .nil⟩
    have xb : Ex (w1.lay dx (.own a)) ((w1.lay dx (.own a)).new a (.ins C dx []) (.ins x [] [])) := new_ex oka fra
    have okb : Ok (tx X) ((w1.lay dx (.own a)).new a (.ins C dx []) (.ins x [] [])) := new_ok oka fra hu
    have hbt : ((w1.lay dx (.own a)).new a (.ins C dx []) (.ins x [] [])).bt[w1.mu.length]? = some a := by
      show (w1.bt ++ [a])[w1.mu.length]? = some a
      rw [ok1.len]; simp
    refine ⟨_, .loc w1.mu.length :: ds, rfl, okb, .cons ?_ (((r1.ex ok1 xa.toEx0)).ex oka xb.toEx0), by simp [hn _ _ _ _ e1], ?_⟩
    · simp only [RelD]; exact ⟨a, rfl, hbt⟩
    · have xab := x1.trans (xa.trans xb)
      show Post (tx X) (RelD (tx X)) _ _ (oo (.loc w1.mu.length :: ds) (w1.mu ++ [.ins x [] []])) _
      cases eo : oo (.loc w1.mu.length :: ds) (w1.mu ++ [.ins x [] []]) with
      | stk => rw [eo] at h; exact h
      | ex c m' => rw [eo] at h; exact fun w' e' ok' hm' => h w' (xab.trans e') ok' hm'
      | ok d m' =>
        rw [eo] at h
        intro w' v e' ok' hm' rv
        cases d <;> first | exact h.elim | skip
        simp only [RelD] at rv
        exact ⟨rv, h w' (.ref a) (xab.trans e') ok' hm' (by simp only [RelD]; exact ⟨a, rfl, e'.bt hbt⟩)⟩

/-! ### an own method -/
/-- the method x of the class c gives what o gives (of the object and n arguments) -/
structure MtG (P : Program) (w : World) (T : Tx) (base : Heap) (c x : Str) (k n : Nat) (o : List D → List O → Rs D) : Prop where
  ex : ∃ (C f : Addr) (fd : FuncData) (ps : List Str), FnOk P w T.K T.mg base (L2.CX P w) k f fd ps (spF T (n + 1) o) ∧ ClG T c C ∧ Meth T.K C x f ∧ Binds T.K fd ps []
@[reducible] def isIns (c x : Str) (d : D) (m : List O) : Bool := match d with
  | .ins c' ns _ => decide (c' = c) && !ns.contains x
  | .loc n => match m[n]? with
    | some (.ins c' ns _) => decide (c' = c) && !ns.contains x
    | _ => false
  | _ => false
theorem lookup_none {x : Str} : ∀ {ns : List Str} {vs : List V}, ns.contains x = false → (ns.zip vs).lookup x = none
  | [], vs, _ => by simp
  | n :: ns, [], _ => by simp
  | n :: ns, v :: vs, h => by
    simp only [List.contains_cons, Bool.or_eq_false_iff] at h
    simp [List.lookup, h.1, lookup_none h.2]
theorem isIns_ok {w : Wo} {c x : Str} {C : Addr} {d : D} {v : V} (cg : ClG T c C) (ok : Ok T w) (r : RelD T w d v) (h : isIns c x d w.mu = true) : ∃ p dx fs, v = .ref p ∧ w.H p = some (.ins C dx fs) ∧ fs.lookup x = none := by
  unfold isIns at h
  split at h
  · rw [Bool.and_eq_true] at h
    simp only [RelD] at r
    obtain ⟨p, C', dx, us, rfl, hg, hH, hlen, nl, rr⟩ := r
    rw [of_decide_eq_true h.1] at hg
    have : C' = C := by have q := hg.symm.trans cg.g; cases q; rfl
    subst this
    exact ⟨p, dx, _, rfl, hH, lookup_none (by simpa using h.2)⟩
  · split at h
    · rename_i hm
      rw [Bool.and_eq_true] at h
      simp only [RelD] at r
      obtain ⟨p, rfl, hb⟩ := r
      obtain ⟨C', dx, us, hg, hH, hlen, rr⟩ := ok.obj _ _ _ hm hb
      rw [of_decide_eq_true h.1] at hg
      have : C' = C := by have q := hg.symm.trans cg.g; cases q; rfl
      subst this
      exact ⟨p, dx, _, rfl, hH, lookup_none (by simpa using h.2)⟩
    · cases h
  · cases h
def tMtS (C : Addr) (x : Str) (sp : Sp) (E : L2.St → XK) (ta : TE) (t : TA) : TE := fun sg H Q => ta sg H fun v H1 => ∃ p dx fs, v = .ref p ∧ H1 p = some (.ins C dx fs) ∧ fs.lookup x = none ∧ t sg H1 fun vs H2 => sp (v :: vs) H2 Q (E sg)
theorem pe_mtS {CX : CXT} {C f : Addr} {fd : FuncData} {ps : List Str} {sp : Sp} {E : L2.St → XK} {x : Str} {apos : Pos} {ta : TE} {t : TA} {pl : Sem Bool} (ho : PE X o ta) (cl : Cls X.K C) (hm : Meth X.K C x f) (F : FnOk X.prog X.w X.K X.mg X.base CX k f fd ps sp) (room : Room k X.A) (bi : Binds X.K fd ps []) (out : ∀ sg, PassesAt CX X sg (E sg)) (ha : PA X (e :: es) t)
    (hst : starEach (e :: es) X.env = (false, eval e X.env) :: starEach es X.env := by rfl) (hpl : (backTo pos (starEach es X.env)).any (·.1) = false := by rfl)
    (ht : eval (.Call (.Attribute o x apos) (e :: es) [] pos) X.env = (do
      let ov ← eval o X.env
      standAt apos.atName
      let (f, first) ← holding [ov] (getMethod ov x pl)
      callWith pos f first (backTo pos (starEach (e :: es) X.env)) (backToKw pos (keywordEach [] X.env))) := by rfl) :
    PE X (.Call (.Attribute o x apos) (e :: es) [] pos) (tMtS C x sp E ta t) := by
  refine ⟨fun pins s sg H Q I h => PySem.W.methodCall_KW (pl := pl) (thn (ho.run pins s sg H _ I h) fun u s1 ⟨v, H1, I1, rv, p, dx, fs, ev, ep, hl, q⟩ => ?_) ht⟩
  subst ev
  obtain rfl : u = Value.ref p := rv
  exact getmeth_ok I1 ep cl hm hl (PySem.W.callWith_K (first := [.ref p]) (h₀ := X.base) I.ok.mod.kin hm.kp (thn (ha.run pos pins s1 sg H1 _ I1 q) fun us s2 ⟨vs, H2, I2, r, q2⟩ => ⟨I2.kIn, run_fnS (us := .ref p :: us) (vs := .ref p :: vs) F room bi (out sg) I2 (.cons rfl r) q2⟩) hst hpl)
def fMeth (c x : Str) (o : List D → List O → Rs D) (fo : FE) (fa : FA) : FE := fun r m => (fo r m).bind fun d m => if isIns c x d m = true then (fa r m).bind fun ds m => o (d :: ds) m else .stk
theorem v_meth {c x : Str} {apos : Pos} {n : Nat} {oo : List D → List O → Rs D} {fo : FE} {pl : Sem Bool} (F : MtG X.prog X.w (tx X) X.base c x k n oo) (hr : Room k X.A) (tk : Takes X W) (ho : PE X o (rd (tx X) W fo)) (ha : PA X (e :: es) (rdA (tx X) W fa)) (hn : ∀ r m, ∀ ds m', fa r m = .ok ds m' → ds.length = n)
    (hst : starEach (e :: es) X.env = (false, eval e X.env) :: starEach es X.env := by rfl) (hpl : (backTo pos (starEach es X.env)).any (·.1) = false := by rfl)
    (ht : eval (.Call (.Attribute o x apos) (e :: es) [] pos) X.env = (do
      let ov ← eval o X.env
      standAt apos.atName
      let (f, first) ← holding [ov] (getMethod ov x pl)
      callWith pos f first (backTo pos (starEach (e :: es) X.env)) (backToKw pos (keywordEach [] X.env))) := by rfl) :
    PE X (.Call (.Attribute o x apos) (e :: es) [] pos) (rd (tx X) W (fMeth c x oo fo fa)) := by
  obtain ⟨C, f, fd, ps, hF, cg, hm, hb⟩ := F.ex
  refine pe_imp (pe_mtS ho cg.cl hm hF hr hb (E := fun σ => WE W σ) (fun σ => passAt tk σ) ha hst hpl ht) ?_
  rintro σ H Q ⟨w, l, rfl, ok, re, h⟩
  refine go_e ok re h fun d w1 v x1 ok1 re1 r1 h1 => ?_
  split at h1
  · rename_i hi
    obtain ⟨p, dx, fs, rfl, hH, hl⟩ := isIns_ok cg ok1 r1 hi
    refine ⟨p, dx, fs, rfl, hH, hl, w1, l, rfl, ok1, re1, ?_⟩
    cases e1 : fa l w1.mu with
    | stk => rw [e1] at h1; exact h1
    | ex c mm => rw [e1] at h1; exact h1
    | ok ds mm =>
      rw [e1] at h1
      intro w2 vs x2 ok2 hm2 r2
      subst hm2
      exact ⟨w2, d :: ds, rfl, ok2, .cons (r1.ex ok1 x2.toEx0) r2, by simp [hn _ _ _ _ e1], Post.ex h1 x2⟩
  · exact h1.elim

/-! ### try .. except one class of the program -/
def noex : Rt → Rt
  | .ex _ _ _ => .stk
  | x => x
def sTry (c : Str) (body suite : FS) : FS := fun r m => match body r m with
  | .ex c' r' m' => if c' = c then noex (suite r' m') else .stk
  | x => x
/-- what stays of a suite's end: the name of the error is gone -/
def gone (i : Nat) : Rt → Rt
  | .ok (.nx r) m => .ok (.nx (r.set i none)) m
  | .ok (.bk r) m => .ok (.bk (r.set i none)) m
  | .ok (.ct r) m => .ok (.ct (r.set i none)) m
  | x => x
/-- the error's own class, its address within the suite -/
structure ExAt (T : Tx) (c : Str) (C : Addr) : Prop where
  gC : T.mg c = some (.ref C)
  me : PySem.W.exmOne T.K (.ref C) (.ref C) = some true
theorem s_try {x : Str} {c : Addr} {body suite : List Stmt} {b0 : Stmt} {np p' : Pos} {mb ms : FS} (hs : X.stack = X.env :: X.outer) (hf : X.env.frame = some X.env.locals) (E : ExAt (tx X) x c) (tk : Takes X W)
    (hb : ∀ (W : WX) (pn : List (Addr × Obj)) (xe : Value → Shared → Prop), Takes (X.tr pn xe) W → PassesOwn (model X.prog X.w) X.A X.env xe → PSs (X.tr pn xe) body (rdS (tx X) W mb))
    (hsu : ∀ (a : Addr) (oe : Obj) (pn : List (Addr × Obj)), Zc (.ref c) none oe → (∃ vs, oe.data = .fields vs) → PSs (X.suite a ((a, oe) :: pn)) (b0 :: suite) (rdS (tx X) W0 ms)) (hg : Gl X x := by rfl) (hdb : (x == ("__debug__" : Str)) = false := by decide) :
    PS X (.Try body [.ExceptHandler (some (.Name x np)) none (b0 :: suite) p'] [] [] pos) (rdS (tx X) W (sTry x mb ms)) := by
  refine ps_imp (ps_try_only (Wout := W) (c := .ref c) (tb := fun W => rdS (tx X) W mb) (ts := fun a cls d => fun D s H => cls = .ref c ∧ d = none ∧ rdS (tx X) W0 ms D s H) hs hf ⟨hg, hdb, .inl E.gC⟩ tk hb (fun a oe cls d pn hz hd => ?_)) ?_
  · refine ⟨fun pins s σ H D I ⟨h1, h2, h3⟩ => ?_⟩
    subst h1 h2
    exact (hsu a oe pn hz hd).run pins s σ H D I h3
  rintro En s H ⟨w, r, rfl, ok, re, h⟩
  refine ⟨w, r, rfl, ok, re, ?_⟩
  unfold sTry at h
  cases e : mb r w.mu with
  | stk => rw [e] at h; exact h
  | ok fl mm => rw [e] at h; cases fl <;> exact h
  | ex c' r' mm =>
    rw [e] at h
    simp only at h
    split at h
    · rename_i hc
      subst hc
      intro w1 s1 x1 ok1 hm re1 cv hcv
      subst hm
      have : cv = .ref c := by have := E.gC; rw [ExV] at hcv; rw [hcv] at this; exact Option.some.inj this
      subst this
      refine ⟨true, E.me, fun _ a _ => ⟨rfl, rfl, w1, r', rfl, ok1, re1, ?_⟩, fun q => nomatch q⟩
      have hp := PostS.ex h x1
      -- nothing leaves the suite
      cases em : ms r' w1.mu with
      | stk => rw [em] at hp; exact hp
      | ok fl m2 => rw [em] at hp; cases fl <;> exact hp
      | ex c2 r2 m2 => rw [em] at hp; exact hp.elim
    · exact h.elim
/-- .. as n: within the suite slot i is the error at a; M: what comes of the suite, whatever a is -/
theorem s_tryAs {x n : Str} {i : Nat} {c : Addr} {body suite : List Stmt} {b0 : Stmt} {np p' : Pos} {mb M : FS} {ms : Addr → FS} (hs : X.stack = X.env :: X.outer) (hf : X.env.frame = some X.env.locals) (hN : X.N.Nodup) (E : ExAt (tx X) x c) (tk : Takes X W)
    (hb : ∀ (W : WX) (pn : List (Addr × Obj)) (xe : Value → Shared → Prop), Takes (X.tr pn xe) W → PassesOwn (model X.prog X.w) X.A X.env xe → PSs (X.tr pn xe) body (rdS (tx X) W mb))
    (hsu : ∀ (a : Addr) (oe : Obj) (pn : List (Addr × Obj)), Zc (.ref c) none oe → (∃ vs, oe.data = .fields vs) → PSs (X.suite a ((a, oe) :: pn)) (b0 :: suite) (rdS (tx X) W0 (ms a)))
    (hM : ∀ a r m, i < r.length → gone i (noex (ms a (r.set i (some (.exc a))) m)) = M r m ∨ M r m = .stk) (hi : X.N[i]? = some n := by rfl) (hln : X.env.kindOf n = some .local := by rfl) (hg : Gl X x := by rfl) (hdb : (x == ("__debug__" : Str)) = false := by decide) :
    PS X (.Try body [.ExceptHandler (some (.Name x np)) (some n) (b0 :: suite) p'] [] [] pos) (rdS (tx X) W (sTry x mb (fun r m => if i < r.length then M r m else .stk))) := by
  refine ps_imp (ps_try_as (i := i) (Wout := W) (c := .ref c) (tb := fun W => rdS (tx X) W mb) (ts := fun a cls d => fun D s H => cls = .ref c ∧ d = none ∧ rdS (tx X) W0 (ms a) D s H) hs hf hN hi hln ⟨hg, hdb, .inl E.gC⟩ tk hb (fun a oe cls d pn hz hd => ?_)) ?_
  · refine ⟨fun pins s σ H D I ⟨h1, h2, h3⟩ => ?_⟩
    subst h1 h2
    exact (hsu a oe pn hz hd).run pins s σ H D I h3
  rintro En s H ⟨w, r, rfl, ok, re, h⟩
  refine ⟨w, r, rfl, ok, re, ?_⟩
  unfold sTry at h
  cases e : mb r w.mu with
  | stk => rw [e] at h; exact h
  | ok fl mm => rw [e] at h; cases fl <;> exact h
  | ex c' r' mm =>
    rw [e] at h
    simp only at h
    split at h
    · rename_i hc
      subst hc
      intro w1 s1 x1 ok1 hm re1 cv hcv
      subst hm
      have : cv = .ref c := by have := E.gC; rw [ExV] at hcv; rw [hcv] at this; exact Option.some.inj this
      subst this
      refine ⟨true, E.me, fun _ a _ => ?_, fun q => nomatch q⟩
      have hp := PostS.ex h x1
      by_cases hlen' : i < r'.length
      · rw [if_pos hlen'] at hp
        have re2 : RelE (tx X) w1 (r'.set i (some (.exc a))) (s1.set i (some (.ref a))) := re1.set i (by simp only [RelD])
        refine ⟨rfl, rfl, w1, r'.set i (some (.exc a)), rfl, ok1, re2, ?_⟩
        rcases hM a r' w1.mu hlen' with q | q
        · rw [← q] at hp
          cases em : ms a (r'.set i (some (.exc a))) w1.mu with
          | stk => rw [em] at hp; exact hp
          | ex c2 r2 m2 => rw [em] at hp; exact hp.elim
          | ok fl m2 =>
            rw [em] at hp
            cases fl with
            | nx r3 => exact fun w3 s3 x3 ok3 hm3 re3 => hp w3 _ x3 ok3 hm3 (re3.wipe i)
            | bk r3 => exact fun w3 s3 x3 ok3 hm3 re3 => hp w3 _ x3 ok3 hm3 (re3.wipe i)
            | ct r3 => exact fun w3 s3 x3 ok3 hm3 re3 => hp w3 _ x3 ok3 hm3 (re3.wipe i)
            | rt d => exact hp
        · rw [q] at hp; exact hp.elim
      · rw [if_neg hlen'] at hp; exact hp.elim
    · exact h.elim
/-- isinstance(e, C), e the error that the suite holds, C above its class -/
def bIsE (a : Addr) (c : D) : List D → List O → Rs D := fun ds m => match ds, c with
  | [.exc x, .glo y], .glo z => if x = a ∧ y = z then .ok (.bl true) m else .stk
  | [.exc x, .ty y], .ty z => if x = a ∧ y = z then .ok (.bl true) m else .stk
  | _, _ => .stk
theorem cb_isE {a C : Addr} {oe : Obj} {pn : List (Addr × Obj)} {c : D} (E : ExcC X.K C) (hz : Zc (.ref C) none oe) (hd : ∃ vs, oe.data = .fields vs)
    (hk : match c with
      | .glo z => ∃ b, X.mg z = some (.ref b) ∧ PySem.W.kitOne X.K (.ref C) (.ref b) = some true
      | .ty z => PySem.W.kitOne X.K (.ref C) (.type z) = some true
      | _ => False) : Cb (X.suite a ((a, oe) :: pn)) (.builtin "isinstance") (bIsE a c) := by
  refine ⟨_, call_isE E hz hd, fun W w ds vs Q ok r h => ?_⟩
  unfold bIsE at h
  split at h
  · split at h
    · rename_i hq
      obtain ⟨rfl, rfl⟩ := hq
      obtain ⟨v, u, rfl, r1, r2⟩ := r.two
      simp only [RelD] at r1 r2
      obtain ⟨b, hb, hk⟩ := hk
      obtain ⟨b2, rfl, hb2⟩ := r2
      have : b2 = b := by have q : some (Value.ref b2) = some (Value.ref b) := hb2.symm.trans hb; cases q; rfl
      subst this r1
      exact ⟨.ref b2, .ref b2, true, rfl, fun u hu => hu, hk, h.now ok (by simp only [RelD])⟩
    · exact h.elim
  · split at h
    · rename_i hq
      obtain ⟨rfl, rfl⟩ := hq
      obtain ⟨v, u, rfl, r1, r2⟩ := r.two
      simp only [RelD] at r1 r2
      subst r1 r2
      exact ⟨.ty _, .type _, true, rfl, fun u hu => hu, hk, h.now ok (by simp only [RelD])⟩
    · exact h.elim
  · exact h.elim
theorem gv_ref {x : Str} {a : Addr} (h : T.mg x = some (.ref a)) : GV T x (.glo x) := ⟨_, .ref a, h, rfl, fun w => by simp only [RelD]; exact ⟨a, rfl, h⟩⟩
theorem tk0 : Takes X W0 := takes0
/-! ### how many arguments -/
def ALen (fa : FA) (n : Nat) : Prop := ∀ r m, ∀ ds m', fa r m = .ok ds m' → ds.length = n
theorem al_nil : ALen aNil 0 := fun r m ds m' h => by cases h; rfl
theorem al_cons {n : Nat} (h : ALen fa n) : ALen (aCons f fa) (n + 1) := fun r m ds m' e => by
  simp only [aCons] at e
  cases e1 : f r m with
  | stk => rw [e1] at e; cases e
  | ex c mm => rw [e1] at e; cases e
  | ok d mm =>
    rw [e1] at e
    simp only [Rs.bind] at e
    cases e2 : fa r mm with
    | stk => rw [e2] at e; cases e
    | ex c m2 => rw [e2] at e; cases e
    | ok ds' m2 =>
      rw [e2] at e
      cases e
      simp [h _ _ _ _ e2]
/-! ### a def of the program, by its name -/
structure Df (T : Tx) (x : Str) (st : Stmt) (ps : List Str) : Prop where
  ex : ∃ (f : Addr) (fd : FuncData), L2.Fun T.K x x st f fd ∧ T.mg x = some (.ref f) ∧ Binds T.K fd ps []
theorem g_rule {P : Program} {w : World} {base : Heap} {x : Str} {st : Stmt} {N ps : List Str} {body : FS} {n nn : Nat} (d : Df T x st ps) (S : FnScope N ps (defScope st)) (hn : ps.length = n) (hnn : N.length = nn)
    (hb : ∀ (f : Addr) (cdv : Value) (A : Around) (outer : List Env) (s : Shared) (H : Hp) (E : XK), Room k (A.deeper (PyProof.Rows.envOfC x (defScope st) s.heap.objs.size f cdv)) →
      PSs (cxF P w T base N x (defScope st) f cdv A outer s H E) (defBody st) (rdS T (WF E) body)) : FnG P w T base x (k + 1) n (runF nn body) := by
  obtain ⟨f, fd, F, hm, b⟩ := d.ex
  subst hn hnn
  exact ⟨f, fd, ps, fn_rule F S (hb f), hm, F.kp, b⟩
end FR
set_option Elab.async false
set_option linter.all false
set_option maxRecDepth 100000
set_option maxHeartbeats 4000000
/-! ## Further words -/
namespace FR
open PySem PySem.Spec L2
set_option autoImplicit false
variable {X : Cx} {T : Tx} {W : WX} {f g h : FE} {fa : FA} {ft gt : FT} {a b c e o tg iter : Expr} {es rest : List Expr} {pos : Pos} {k : Nat} {st0 : Stmt} {sts : List Stmt} {m m' : FS}

/-! ### products -/
theorem op_mulStr : OpR X (binaryOp .Mult) (fun x y H Q => ∃ z i, x = .str z ∧ y = .int i ∧ z.length ≤ 16 ∧ 0 ≤ i ∧ i ≤ 1048576 ∧ Q (.str (Txt.mul z i)) H) := by
  intro pins s sg H x y v u Q I rx ry h
  obtain ⟨z, i, rfl, rfl, h1, h2, h3, q⟩ := h
  obtain ⟨t, rfl⟩ := rx
  obtain ⟨t', rfl⟩ := ry
  exact PySem.W.KXi.mul rfl h1 (by omega) (by omega) fun t2 k2 _ _ => ⟨.str _, H, I.tok _, ⟨_, rfl⟩, q⟩
def gMul : D → D → List O → Rs D := fun a b m => match a, b with
  | .int i, .int j => if cMul i j = true then .ok (.int (i * j)) m else .stk
  | .str z, .int i => if z.length ≤ 16 ∧ 0 ≤ i ∧ i ≤ 1048576 then .ok (.str (Txt.mul z i)) m else .stk
  | .tup xs, .int i => if xs ≠ [] ∧ 2 ≤ i ∧ i ≤ 1000 ∧ xs.length ≤ 1000 then .ok (.tup (List.replicate i.toNat xs).flatten) m else .stk
  | .lst xs, .int i => if i < 1000000 ∧ -1000000 < i ∧ xs.length * i.toNat ≤ 16777216 then .ok (.lst (List.replicate i.toNat xs).flatten) m else .stk
  | _, _ => .stk
theorem RelDs.rep {w : Wo} {ds : List D} {vs : List V} (r : RelDs T w ds vs) : ∀ n : Nat, RelDs T w (List.replicate n ds).flatten (List.replicate n vs).flatten
  | 0 => .nil
  | n + 1 => by
    rw [List.replicate_succ, List.replicate_succ, List.flatten_cons, List.flatten_cons]
    exact r.append (RelDs.rep r n)
theorem v_mulA (ha : PE X a (rd (tx X) W f)) (hb : PE X b (rd (tx X) W g)) : PE X (.BinOp a .Mult b pos) (rd (tx X) W (fBin gMul f g)) := by
  refine v_bin (OpR.or (OpR.or (OpR.or op_mul op_mulStr) op_repT) op_rep) (fun W w d e v u Q ok r1 r2 h => ?_) ha hb
  unfold gMul at h
  split at h
  · split at h
    · rename_i q
      simp only [RelD] at r1 r2; subst r1 r2
      exact .inl (.inl (.inl ⟨_, _, rfl, rfl, by simpa [cMul, CMul] using q, h.now ok (by simp only [RelD])⟩))
    · exact h.elim
  · split at h
    · rename_i q
      simp only [RelD] at r1 r2; subst r1 r2
      exact .inl (.inl (.inr ⟨_, _, rfl, rfl, q.1, q.2.1, q.2.2, h.now ok (by simp only [RelD])⟩))
    · exact h.elim
  · split at h
    · rename_i xs i q
      simp only [RelD] at r1 r2; subst r2
      obtain ⟨p, vs, rfl, q1, q2⟩ := r1
      exact .inl (.inr ⟨p, i, vs, rfl, rfl, q1, fun e => q.1 (q2.emp.mp e), q.2.1, q.2.2.1, by rw [q2.length]; exact q.2.2.2, new_tup ok (q2.rep _) h⟩)
    · exact h.elim
  · split at h
    · rename_i xs i q
      simp only [RelD] at r1 r2; subst r2
      obtain ⟨p, vs, rfl, q1, _, q2⟩ := r1
      exact .inr ⟨p, i, vs, rfl, rfl, q1, by omega, by omega, by rw [q2.length, sizeLine_eq]; exact q.2.2, new_lst ok (q2.rep _) h⟩
    · exact h.elim
  · exact h.elim

/-! ### what is walked: a list, a tuple, a text -/
@[reducible] def chD (x : Str) : List D := x.cps.toList.map fun c => .str ⟨#[c]⟩
def iAll (f : FE) : FI := fun r m => (f r m).bind fun d m => match d with
  | .lst xs => .ok xs m
  | .tup xs => .ok xs m
  | .str x => .ok (chD x) m
  | _ => .stk
theorem iter_str {w0 : Wo} {x : Str} : IterOk T (Its x) w0 (chD x) := by
  intro w ex ok
  unfold chD
  refine ⟨fun n d hd => ?_, fun n hn => ?_⟩
  · rw [List.getElem?_map] at hd
    cases e : x.cps.toList[n]? with
    | none => rw [e] at hd; cases hd
    | some c =>
      rw [e] at hd
      cases hd
      have e' : x.cps[n]? = some c := by simpa using e
      have hl := (Array.getElem?_eq_some_iff.mp e').1
      refine ⟨?_, fun v H' y => ?_⟩
      · first | exact ⟨c, e'⟩ | exact hl | (show n < x.length; exact hl)
      · obtain ⟨y1, y2⟩ := y
        refine yld_same ok y1 ?_
        simp only [RelD]
        first | (obtain ⟨c', h1, h2⟩ := y2; rw [e'] at h1; cases h1; exact h2) | (rw [e'] at y2; simpa using y2) | simpa [e'] using y2
  · have hl : x.cps.size ≤ n := by simpa using hn
    first | exact hl | (show x.length ≤ n; exact hl)
theorem i_all (he : PE X e (rd (tx X) W f)) : PI X tg e (rdI (tx X) W (iAll f)) := by
  refine pi_imp (pi_or (pi_or (pi_list he) (pi_tup he)) (pi_str he)) ?_
  rintro σ H R ⟨w, l, rfl, ok, re, h⟩
  cases e1 : f l w.mu with
  | stk => rw [iAll, e1] at h; exact h.elim
  | ex c m =>
    rw [iAll, e1] at h
    exact .inl (.inl ⟨w, l, rfl, ok, re, by rw [e1]; exact h⟩)
  | ok d m =>
    rw [iAll, e1] at h
    simp only [Rs.bind] at h
    cases d with
    | lst xs =>
      refine .inl (.inl ⟨w, l, rfl, ok, re, ?_⟩)
      rw [e1]
      intro w1 v ex ok1 hm r1
      simp only [RelD] at r1
      obtain ⟨p, vs, rfl, q1, q2, q3⟩ := r1
      exact ⟨p, rfl, ⟨vs, SqL.of q1⟩, h w1 _ ex ok1 hm (iter_lst ok1 q1 q2 q3)⟩
    | tup xs =>
      refine .inl (.inr ⟨w, l, rfl, ok, re, ?_⟩)
      rw [e1]
      intro w1 v ex ok1 hm r1
      simp only [RelD] at r1
      obtain ⟨p, vs, rfl, q1, q3⟩ := r1
      exact ⟨p, rfl, ⟨vs, q1⟩, h w1 _ ex ok1 hm (iter_tup ok1 q1 q3)⟩
    | str x =>
      refine .inr ⟨w, l, rfl, ok, re, ?_⟩
      rw [e1]
      intro w1 v ex ok1 hm r1
      simp only [RelD] at r1
      subst r1
      exact ⟨x, rfl, h w1 _ ex ok1 hm iter_str⟩
    | _ => exact h.elim

/-! ### targets, short -/
theorem g_nm {i : Nat} {x : Str} (nd : X.N.Nodup) (hi : X.N[i]? = some x := by rfl) (hx : Loc X.env.scope x := by first | exact .inl rfl | exact .inr rfl) (hf : X.fn x = true ∨ X.env.scope.names.lookup x = some .local := by first | exact .inl rfl | exact .inr rfl) : PG X (.Name x pos) (gOf X.K (.nm i)) := pg_name nd hi hx hf
theorem gs_nil : PGs X [] (gNames []) := pgs_nil
theorem gs_cons {i : Nat} {is : List Nat} (h : PG X e (gOf X.K (.nm i))) (r : PGs X es (gNames is)) (hs : (assignEach (e :: es) X.env).map (·.2) = assign e X.env :: (assignEach es X.env).map (·.2) := by rfl) : PGs X (e :: es) (gNames (i :: is)) := pgs_cons h r hs
theorem g_tp {k : Nat} {is : List Nat} (hc : X.calm = true) (h : PGs X es (gNames is)) (hn : (assignEach es X.env).length = is.length := by rfl) (hst : (assignEach es X.env).findIdx? (·.1) = none := by rfl) : PG X (.Tuple es k pos) (gOf X.K (.tp is)) := pg_or (pg_tup hc h hn hst) (pg_unl hc h hn hst)
/-! ### zip of two tuples, two lists -/
@[reducible] def zipD (xs ys : List D) : List D := List.zipWith (fun a b => D.tup [a, b]) xs ys
def iZip (fa : FA) : FI := fun r m => (fa r m).bind fun ds m => match ds with
  | [.tup xs, .tup ys] => .ok (zipD xs ys) m
  | [.lst xs, .lst ys] => .ok (zipD xs ys) m
  | _ => .stk
theorem zipD_get {xs ys : List D} {i : Nat} {d : D} (h : (zipD xs ys)[i]? = some d) : ∃ a b, xs[i]? = some a ∧ ys[i]? = some b ∧ d = .tup [a, b] := by
  unfold zipD at h
  rw [List.getElem?_zipWith] at h
  cases ea : xs[i]? with
  | none => rw [ea] at h; simp at h
  | some a =>
    cases eb : ys[i]? with
    | none => rw [ea, eb] at h; simp at h
    | some b =>
      rw [ea, eb] at h
      simp at h
      exact ⟨a, b, rfl, rfl, h.symm⟩
theorem pair_ok {w : Wo} {t : Addr} {x y : V} {a b : D} (ok : Ok T w) (ht : w.H t = none) (ra : RelD T w a x) (rb : RelD T w b y) : ∃ w', Ex w w' ∧ Ok T w' ∧ w'.mu = w.mu ∧ w'.H = upd w.H t (.tup [x, y]) ∧ RelD T w' (.tup [a, b]) (.ref t) := by
  have e := lay_ex (o := .tup [x, y]) ok ht
  refine ⟨w.lay t (.tup [x, y]), e, lay_ok ok ht, rfl, rfl, ?_⟩
  simp only [RelD]
  exact ⟨t, [x, y], rfl, .inl (.inl upd_same), .cons (ra.ex ok e.toEx0) (.cons (rb.ex ok e.toEx0) .nil)⟩
theorem iter_zipT {w0 : Wo} {p q : Addr} {vs us : List V} {xs ys : List D} (ok0 : Ok T w0) (hp : SqT T.K w0.H p vs) (hq : SqT T.K w0.H q us) (rx : RelDs T w0 xs vs) (ry : RelDs T w0 ys us) : IterOk T (RZ.ItzT T.K p q) w0 (zipD xs ys) := by
  intro w ex ok
  have hp := SqT.ex ok0 ex hp
  have hq := SqT.ex ok0 ex hq
  have rx := rx.ex ok0 ex
  have ry := ry.ex ok0 ex
  refine ⟨fun i d hd => ?_, fun i hi => ⟨vs, us, hp, hq, ?_⟩⟩
  · obtain ⟨a, b, ea, eb, rfl⟩ := zipD_get hd
    obtain ⟨v, hv, rv⟩ := rx.get ea
    obtain ⟨u, hu, ru⟩ := ry.get eb
    refine ⟨⟨vs, us, v, u, hp, hq, hv, hu⟩, fun x H' y => ?_⟩
    obtain ⟨t, x', y', rfl, ht, rfl, f1, f2⟩ := y
    have g1 := f1 vs hp
    have g2 := f2 us hq
    rw [hv] at g1; cases g1
    rw [hu] at g2; cases g2
    exact pair_ok ok ht rv ru
  · rw [rx.length, ry.length]
    simp [zipD] at hi
    omega
theorem iter_zipL {w0 : Wo} {p q : Addr} {vs us : List V} {xs ys : List D} (ok0 : Ok T w0) (hp : w0.H p = some (.lst vs)) (np : ¬ Live w0 p) (hq : w0.H q = some (.lst us)) (nq : ¬ Live w0 q) (rx : RelDs T w0 xs vs) (ry : RelDs T w0 ys us) : IterOk T (Itz T.K p q) w0 (zipD xs ys) := by
  intro w ex ok
  have hp : SqL T.K w.H p vs := SqL.of (ex.keep p (.lst vs) hp np)
  have hq : SqL T.K w.H q us := SqL.of (ex.keep q (.lst us) hq nq)
  have rx := rx.ex ok0 ex
  have ry := ry.ex ok0 ex
  refine ⟨fun i d hd => ?_, fun i hi => ⟨vs, us, hp, hq, ?_⟩⟩
  · obtain ⟨a, b, ea, eb, rfl⟩ := zipD_get hd
    obtain ⟨v, hv, rv⟩ := rx.get ea
    obtain ⟨u, hu, ru⟩ := ry.get eb
    refine ⟨⟨vs, us, v, u, hp, hq, hv, hu⟩, fun x H' y => ?_⟩
    obtain ⟨t, x', y', rfl, ht, rfl, f1, f2⟩ := y
    have g1 := f1 vs hp
    have g2 := f2 us hq
    rw [hv] at g1; cases g1
    rw [hu] at g2; cases g2
    exact pair_ok ok ht rv ru
  · rw [rx.length, ry.length]
    simp [zipD] at hi
    omega
theorem i_zip {p tpos : Pos} {elts : List Expr} {kk : Nat} (hm : X.mg "zip" = none) (ha : PA X [a, b] (rdA (tx X) W fa)) (hg : Gl X "zip" := by rfl) (hs : starEach [a, b] X.env = (false, eval a X.env) :: starEach [b] X.env := by rfl) (hpl : (backTo pos (starEach [b] X.env)).any (·.1) = false := by rfl) :
    PI X (.Tuple elts kk tpos) (.Call (.Name "zip" p) [a, b] [] pos) (rdI (tx X) W (iZip fa)) := by
  refine pi_imp (RZ.pi_zipA hg hm ha hs hpl) ?_
  rintro σ H R ⟨w, l, rfl, ok, re, h⟩
  refine go_i (fi := fa) ok re h fun ds w1 vs e1 ok1 re1 r1 h1 => ?_
  split at h1
  · rename_i j m hq
    split at hq
    · cases hq
      replace r1 := r1.two
      obtain ⟨v, u, rfl, r1, r2⟩ := r1
      simp only [RelD] at r1 r2
      obtain ⟨p1, vs, rfl, a1, a2⟩ := r1
      obtain ⟨p2, us, rfl, b1, b2⟩ := r2
      exact ⟨p1, p2, vs, us, rfl, .inr ⟨a1, b1, h1 w1 _ .rfl' ok1 rfl (iter_zipT ok1 a1 b1 a2 b2)⟩⟩
    · cases hq
      replace r1 := r1.two
      obtain ⟨v, u, rfl, r1, r2⟩ := r1
      simp only [RelD] at r1 r2
      obtain ⟨p1, vs, rfl, a1, a2, a3⟩ := r1
      obtain ⟨p2, us, rfl, b1, b2, b3⟩ := r2
      exact ⟨p1, p2, vs, us, rfl, .inl ⟨SqL.of a1, SqL.of b1, h1 w1 _ .rfl' ok1 rfl (iter_zipL ok1 a1 a2 b1 b2 a3 b3)⟩⟩
    · cases hq
  · rename_i hq
    split at hq
    · cases hq
    · cases hq
    · cases hq
  · exact h1.elim
/-! ### what a walk may leave unread: nothing is promised there -/
theorem s_stk : PS X st0 (rdS (tx X) W fun _ _ => .stk) := ⟨fun pins s σ H D I ⟨w, r, _, _, _, h⟩ => h.elim⟩
theorem v_stk : PE X e (rd (tx X) W fun _ _ => .stk) := ⟨fun pins s σ H Q I ⟨w, r, _, _, _, h⟩ => h.elim⟩
/-! ### list.index -/
def fIdx (fo f : FE) : FE := fun r m => (fo r m).bind fun o m => match derefL o m with
  | none => .stk
  | some _ => (f r m).bind fun d m => match derefL o m with
    | some xs => if (flatD d && xs.all flatD) = true then match xs.findIdx? (fun y => eqF y d) with
      | some j => .ok (.int (j : Nat)) m
      | none => .stk
      else .stk
    | none => .stk
theorem v_idx {apos cpos : Pos} {fo : FE} (ho : PE X o (rd (tx X) W fo)) (ha : PE X e (rd (tx X) W f))
    (hbase : attributeBase o "index" X.env (eval o X.env) = eval o X.env := by rfl)
    (hfew : ((backTo cpos (starEach [e] X.env)).all (fun x => !x.1) && (backToKw cpos (keywordEach [] X.env)).all (fun x => x.1.isSome)
      && decide (([e] : List Expr).length + ([] : List Keyword).length + (if ([] : List Keyword).isEmpty then 0 else 1) < 30)) = true := by rfl)
    (hline : (apos.endLine == cpos.line) = true := by rfl) (hs : starEach [e] X.env = (false, eval e X.env) :: starEach [] X.env := by rfl) (hplain : (backTo cpos (starEach [] X.env)).any (·.1) = false := by rfl) :
    PE X (.Call (.Attribute o "index" apos) [e] [] cpos) (rd (tx X) W (fIdx fo f)) := by
  refine pe_imp (pe_bm PySem.F.plainAttrs_list PySem.F.slot_list_index PySem.F.type_list_index mt_index ho (a_cons ha a_nil (hs := hs)) hbase hfew hline hs hplain) ?_
  rintro σ H Q ⟨w, l, rfl, ok, re, h⟩
  refine go_e ok re h fun d w1 v e1 ok1 re1 r1 h1 => ?_
  split at h1
  · exact h1.elim
  · rename_i xs0 hx0
    refine ⟨tyV_lst ok1 r1 hx0, ?_⟩
    have h1' : Post (tx X) (RelD (tx X)) (wx (tx X) W σ) w1 (((aCons f aNil) l w1.mu).bind fun ds m => match ds with
      | [d'] => (match derefL d m with
        | some xs => if (flatD d' && xs.all flatD) = true then match xs.findIdx? (fun y => eqF y d') with
          | some j => .ok (.int (j : Nat)) m
          | none => .stk
          else .stk
        | none => .stk)
      | _ => .stk) Q := by
      cases ef : f l w1.mu with
      | stk => rw [ef] at h1; exact h1.elim
      | ex c mm => rw [ef] at h1; simp only [aCons, ef, Rs.bind] at h1 ⊢; exact h1
      | ok a mm => rw [ef] at h1; simp only [aCons, aNil, ef, Rs.bind] at h1 ⊢; exact h1
    refine go_a ok1 re1 h1' fun ds w2 vs e2 ok2 re2 r2 h2 => ?_
    split at h2
    · rename_i d'
      split at h2
      · rename_i xs hx
        split at h2
        · rename_i hfl
          split at h2
          · rename_i j hj
            rw [Bool.and_eq_true] at hfl
            replace r2 := r2.one
            obtain ⟨u, rfl, r2⟩ := r2
            obtain ⟨q, zs, rfl, hz, rzs⟩ := derefL_ok ok2 (r1.ex ok1 e2.toEx0) hx
            obtain ⟨hlt, hz1, hz2⟩ := List.findIdx?_eq_some_iff_getElem.mp hj
            obtain ⟨i1, _⟩ := inV_val r2 hfl.1 rzs hfl.2
            have hgd : xs[j]? = some xs[j] := List.getElem?_eq_getElem hlt
            obtain ⟨z, hzz, rz⟩ := rzs.get hgd
            have fl : ∀ y ∈ xs, flatD y = true := fun y hy => List.all_eq_true.mp hfl.2 y hy
            refine ⟨q, zs, u, j, z, rfl, rfl, SqL.of hz, flat_val r2 hfl.1, i1, hzz, ?_, fun k z' hk hz' => ?_, h2.now ok2 (by simp only [RelD])⟩
            · rw [← eqF_val rz r2 (fl _ (List.getElem_mem hlt)) hfl.1]; exact hz1
            · have hkl : k < xs.length := by omega
              have hgk : xs[k]? = some xs[k] := List.getElem?_eq_getElem hkl
              obtain ⟨z2, hz2', rz2⟩ := rzs.get hgk
              rw [hz'] at hz2'
              cases hz2'
              rw [← eqF_val rz2 r2 (fl _ (List.getElem_mem hkl)) hfl.1]
              simpa using hz2 k hk
          · exact h2.elim
        · exact h2.elim
      · exact h2.elim
    · exact h2.elim
/-! ### a list of the store told as a value from here on -/
def sFroz (i : Nat) (f : FS) : FS := fun r m => match r[i]? with
  | some (some (.loc n)) => (match m[n]? with
    | some (.lst xs) => f (r.set i (some (.lst xs))) (m.set n .dead)
    | _ => .stk)
  | _ => .stk
theorem s_froz {i : Nat} (h : PS X st0 (rdS (tx X) W m)) : PS X st0 (rdS (tx X) W (sFroz i m)) := by
  refine ps_imp h ?_
  rintro E s H ⟨w, r, rfl, ok, re, q⟩
  unfold sFroz at q
  split at q
  · rename_i n hn
    split at q
    · rename_i xs hm
      obtain ⟨v, hv, rv⟩ := re.2 i _ hn
      simp only [RelD] at rv
      obtain ⟨a, rfl, hb⟩ := rv
      obtain ⟨vs, h1, h2⟩ := ok.obj _ _ _ hm hb
      have kx : Ex w (w.kill n) := kill_ex
      have re1 := re.ex ok kx.toEx0
      refine ⟨w.kill n, r.set i (some (.lst xs)), rfl, kill_ok ok, ⟨by rw [List.length_set]; exact re1.1, fun j d hj => ?_⟩, PostS.ex q kx⟩
      by_cases e : j = i
      · subst e
        rw [List.getElem?_set] at hj
        by_cases hl : j < r.length
        · simp [hl] at hj
          subst hj
          exact ⟨_, hv, by simp only [RelD]; exact ⟨a, vs, rfl, h1, kill_dead ok hb, h2.ex ok kx.toEx0⟩⟩
        · simp [hl] at hj
      · rw [List.getElem?_set_ne (Ne.symm e)] at hj
        exact re1.2 j d hj
    · exact q.elim
  · exact q.elim
end FR
set_option Elab.async false
set_option linter.all false
set_option maxRecDepth 100000
set_option maxHeartbeats 4000000
/-! ## The head: constants, more facts, the end -/
namespace FR
open PySem PySem.Spec L2
set_option autoImplicit false
mutual
def okD (K : PySem.W.Frag) : D → Value → Bool
  | .non, .none => true
  | .bl b, .bool c => b == c
  | .int i, .int j _ => decide (i = j)
  | .str x, .str y _ => decide (x = y)
  | .tup ds, .ref a => (match K.lookup a with
    | some ob => (match ob.cls, ob.data with
      | .type c, .seq its _ => (decide (c = "tuple") && decide (its.size ≤ sizeLine)) && okDs K ds its.toList
      | _, _ => false)
    | none => false)
  | _, _ => false
def okDs (K : PySem.W.Frag) : List D → List Value → Bool
  | [], us => us.isEmpty
  | d :: ds, us => (match us with
    | u :: us => okD K d u && okDs K ds us
    | [] => false)
end
theorem ands {a b : Bool} (h : (a && b) = true) : a = true ∧ b = true := Bool.and_eq_true_iff.mp h
mutual
theorem okD_rel {T : Tx} : ∀ (d : D) (u : Value), okD T.K d u = true → ∃ v, RelV v u ∧ ∀ w, RelD T w d v
  | .non, u, h => by
    cases u <;> first | exact ⟨.non, rfl, fun w => rfl⟩ | (simp [okD] at h)
  | .bl b, u, h => by
    cases u with
    | bool c =>
      have e : b = c := by simpa [okD] using h
      subst e
      exact ⟨.bl b, rfl, fun w => rfl⟩
    | _ => simp [okD] at h
  | .int i, u, h => by
    cases u with
    | int j t =>
      have e : i = j := by simpa [okD] using h
      subst e
      exact ⟨.int i, ⟨t, rfl⟩, fun w => rfl⟩
    | _ => simp [okD] at h
  | .str x, u, h => by
    cases u with
    | str y t =>
      have e : x = y := by simpa [okD] using h
      subst e
      exact ⟨.str x, ⟨t, rfl⟩, fun w => rfl⟩
    | _ => simp [okD] at h
  | .tup ds, u, h => by
    cases u with
    | ref a =>
      unfold okD at h
      cases e : T.K.lookup a with
      | none => rw [e] at h; cases h
      | some ob =>
        rw [e] at h
        obtain ⟨oc, od, dt, sl⟩ := ob
        cases oc with
        | type c =>
          cases dt with
          | seq its n =>
            obtain ⟨h1, h2⟩ := ands (show ((decide (c = "tuple") && decide (its.size ≤ sizeLine)) && okDs T.K ds its.toList) = true from h)
            obtain ⟨h3, h4⟩ := ands h1
            obtain ⟨vs, r, q⟩ := okDs_rel ds its.toList h2
            exact ⟨.ref a, rfl, fun w => ⟨a, vs, rfl, .inr ⟨_, its, n, e, congrArg Value.type (of_decide_eq_true h3), rfl, of_decide_eq_true h4, r⟩, q w⟩⟩
          | _ => cases h
        | _ => cases h
    | _ => simp [okD] at h
  | .ty n, u, h => by simp [okD] at h
  | .lst ds, u, h => by simp [okD] at h
  | .dct a b, u, h => by simp [okD] at h
  | .ins a b c, u, h => by simp [okD] at h
  | .loc a, u, h => by simp [okD] at h
  | .glo a, u, h => by simp [okD] at h
  | .scr a, u, h => by simp [okD] at h
  | .exc a, u, h => by simp [okD] at h
theorem okDs_rel {T : Tx} : ∀ (ds : List D) (us : List Value), okDs T.K ds us = true → ∃ vs, Vals vs us ∧ ∀ w, RelDs T w ds vs
  | [], us, h => by
    cases us with
    | nil => exact ⟨[], .nil, fun w => rfl⟩
    | cons _ _ => simp [okDs] at h
  | d :: ds, us, h => by
    cases us with
    | nil => simp [okDs] at h
    | cons u us =>
      unfold okDs at h
      obtain ⟨h1, h2⟩ := ands h
      obtain ⟨v, r, q⟩ := okD_rel d u h1
      obtain ⟨vs, rs, qs⟩ := okDs_rel ds us h2
      exact ⟨v :: vs, .cons r rs, fun w => ⟨v, vs, rfl, q w, qs w⟩⟩
end
/-- more facts of the written part -/
inductive Fx where
  | con (x : Str) (d : D)
  | xc (x : Str)
  | kit (x y : Str) (b : Bool)
  | kitT (x : Str) (n : String) (b : Bool)
  | kitF (n : String) (x : Str) (b : Bool)
  | nsub (n : String) (x : Str)
  | ic (x : Str)
def sameO (a b : Option (Option Value)) : Bool := decide (a = b)
def sameB (a : Option Bool) (b : Bool) : Bool := match a with
  | some c => c == b
  | none => false
theorem sameB_ok {a : Option Bool} {b : Bool} (h : sameB a b = true) : a = some b := by
  cases a with
  | none => cases h
  | some c => have e : c = b := by simpa [sameB] using h
              rw [e]
def conB (K : PySem.W.Frag) (x : Str) (d : D) : Bool := match PySem.W.nsIn K mainGlobals x with
  | some (some u) => okD K d u
  | _ => false
def xcB (K : PySem.W.Frag) (D : Addr) : Bool := (sameO (PySem.W.findIn K (.ref D) "__getattribute__") (some (some (.builtin "BaseException.__getattribute__"))) && sameO (PySem.W.findIn K (.ref D) "__getattr__") (some none)) &&
    ((sameB (PySem.W.subIn K (.ref D) (.type "BaseException")) true && PySem.W.hasDictIn K D) &&
    ((sameO (PySem.W.findIn K (.ref D) "__class__") (some (some (.builtin "object.__class__"))) && sameO (PySem.W.specialIn K (.builtin "object.__class__") "__get__") (some (some (.builtin "getset_descriptor.__get__")))) &&
    (sameB (PySem.W.takesIn K (.builtin "object.__class__")) true && sameB (PySem.W.mroIn K D (.type "object")) true)))
def icB (K : PySem.W.Frag) (D : Addr) : Bool :=
  (sameO (PySem.W.findIn K (.ref D) "__class__") (some (some (.builtin "object.__class__"))) && sameO (PySem.W.specialIn K (.builtin "object.__class__") "__get__") (some (some (.builtin "getset_descriptor.__get__")))) &&
    (sameB (PySem.W.takesIn K (.builtin "object.__class__")) true && sameB (PySem.W.mroIn K D (.type "object")) true)
/-- what isinstance asks of an own class -/
structure IcG (T : Tx) (C : Addr) : Prop where
  ha : PySem.W.findIn T.K (.ref C) "__class__" = some (some (.builtin "object.__class__"))
  hn : PySem.W.specialIn T.K (.builtin "object.__class__") "__get__" = some (some (.builtin "getset_descriptor.__get__"))
  ht : PySem.W.takesIn T.K (.builtin "object.__class__") = some true
  hm : PySem.W.mroIn T.K C (.type "object") = some true
def Fx.ok (K : PySem.W.Frag) : Fx → Bool
  | .con x d => conB K x d
  | .xc x => xcB K (He.ga K x)
  | .kit x y b => sameB (PySem.W.kitOne K (.ref (He.ga K x)) (.ref (He.ga K y))) b
  | .kitT x n b => sameB (PySem.W.kitOne K (.ref (He.ga K x)) (.type n)) b
  | .kitF n x b => sameB (PySem.W.kitOne K (.type n) (.ref (He.ga K x))) b
  | .nsub n x => sameB (PySem.W.subIn K (.type n) (.ref (He.ga K x))) false
  | .ic x => icB K (He.ga K x)
section
variable {T : Tx} {h : Heap}
theorem con_ok (X : T.K.In h) (G : h.Ns mainGlobals T.mg) {x : Str} {d : D} (c : (Fx.con x d).ok T.K = true) : GV T x d := by
  have c : conB T.K x d = true := c
  unfold conB at c
  cases e : PySem.W.nsIn T.K mainGlobals x with
  | none => rw [e] at c; cases c
  | some o =>
    cases o with
    | none => rw [e] at c; cases c
    | some u =>
      rw [e] at c
      obtain ⟨v, r, q⟩ := okD_rel d u c
      exact ⟨u, v, PySem.W.mg_of X G e, r, q⟩
theorem xc_ok {x : Str} (c : (Fx.xc x).ok T.K = true) : ExcC T.K (He.ga T.K x) := by
  have c : xcB T.K (He.ga T.K x) = true := c
  unfold xcB at c
  obtain ⟨c1, c⟩ := ands c
  obtain ⟨c2, c⟩ := ands c
  obtain ⟨c3, c4⟩ := ands c
  exact ⟨of_decide_eq_true (ands c1).1, of_decide_eq_true (ands c1).2, sameB_ok (ands c2).1, (ands c2).2, of_decide_eq_true (ands c3).1, of_decide_eq_true (ands c3).2, sameB_ok (ands c4).1, sameB_ok (ands c4).2⟩
theorem kit_ok {x y : Str} {b : Bool} (c : (Fx.kit x y b).ok T.K = true) : PySem.W.kitOne T.K (.ref (He.ga T.K x)) (.ref (He.ga T.K y)) = some b := sameB_ok c
theorem kitT_ok {x : Str} {n : String} {b : Bool} (c : (Fx.kitT x n b).ok T.K = true) : PySem.W.kitOne T.K (.ref (He.ga T.K x)) (.type n) = some b := sameB_ok c
theorem kitF_ok {x : Str} {n : String} {b : Bool} (c : (Fx.kitF n x b).ok T.K = true) : PySem.W.kitOne T.K (.type n) (.ref (He.ga T.K x)) = some b := sameB_ok c
theorem nsub_ok {x : Str} {n : String} (c : (Fx.nsub n x).ok T.K = true) : PySem.W.subIn T.K (.type n) (.ref (He.ga T.K x)) = some false := sameB_ok c
theorem ic_ok {x : Str} (c : (Fx.ic x).ok T.K = true) : IcG T (He.ga T.K x) := by
  have c : icB T.K (He.ga T.K x) = true := c
  unfold icB at c
  obtain ⟨c1, c2⟩ := ands c
  exact ⟨of_decide_eq_true (ands c1).1, of_decide_eq_true (ands c1).2, sameB_ok (ands c2).1, sameB_ok (ands c2).2⟩
theorem clg_ok (X : T.K.In h) (G : h.Ns mainGlobals T.mg) {x : Str} (g : (He.Fa.glo x).ok T.K = true) (c : (He.Fa.cls x).ok T.K = true) : ClG T x (He.ga T.K x) := ⟨He.glo_ok X G g, He.cls_ok c⟩
theorem exok_ok (X : T.K.In h) (G : h.Ns mainGlobals T.mg) {x : Str} (g : (He.Fa.glo x).ok T.K = true) (c : (He.Fa.exc x).ok T.K = true) : ExOk T x (He.ga T.K x) := by
  obtain ⟨a, b, d, e⟩ := He.exc_ok c
  exact ⟨He.glo_ok X G g, a, b, d, e⟩
theorem exat_ok (X : T.K.In h) (G : h.Ns mainGlobals T.mg) {x : Str} (g : (He.Fa.glo x).ok T.K = true) (c : (He.Fa.exm x x true).ok T.K = true) : ExAt T x (He.ga T.K x) := ⟨He.glo_ok X G g, He.exm_ok c⟩
end
theorem funOf {K : PySem.W.Frag} {x q : Str} {st : Stmt} {f : Addr} {fd : FuncData} (F : FunD K x q (defArgs st) (defBody st) (defScope st) [] [] f fd) : L2.Fun K x q st f fd := by
  obtain ⟨oc, od, dV, kV, doc, pm, an, cdv, ct, osl, e, l, c, hd, hk⟩ := F.ex
  have z : dV = .none := by
    rcases hd with ⟨_, z⟩ | ⟨z, _⟩
    · exact z
    · exact absurd rfl z
  subst z
  exact ⟨⟨oc, od, kV, doc, pm, an, cdv, ct, osl, e, l, c⟩, F.kp⟩
theorem binds_one {K : PySem.W.Frag} {x q : Str} {st : Stmt} {f : Addr} {fd : FuncData} (F : L2.Fun K x q st f fd)
    (h : ∀ (kV doc pm : Value) (an : Option Addr) (cdv ct : Value) (u : Value), bindArgs (PySem.W.fnOf x q (defArgs st) (defBody st) (defScope st) .none kV doc pm an cdv ct) ⟨[u], []⟩ = pure [(("script" : Str), u)]) (s : Shared) (u : Value) : BindsTo s fd ⟨[u], []⟩ [("script", u)] := by
  obtain ⟨oc, od, kV, doc, pm, an, cdv, ct, osl, e, _, _⟩ := F.ex
  subst e
  exact .of_eq (h kV doc pm an cdv ct u)
/-! ### the Hook -/
def hookY (n : Nat) (fa : List He.Fa) (fn : List He.DefD) (xs : List Fx) : PySem.W.Hook where
  α := He.AlD × Bool
  obs := fun s => (He.obsD fa fn (He.frG s.heap.get? (He.asD s.heap.get? n)), xs.all fun z => z.ok (He.frG s.heap.get? (He.asD s.heap.get? n)))
  val := fun _ => (He.valD fn, true)
  says := fun _ h => ∃ K : PySem.W.Frag, K.In h ∧ He.SaysD fa fn K ∧ (xs.all fun z => z.ok K) = true
  of := fun _ _ e => ⟨_, He.frG_in, congrArg (fun z : He.AlD × Bool => z.1) e, congrArg (fun z : He.AlD × Bool => z.2) e⟩
  keeps := fun _ _ _ ⟨K, hK, c⟩ k => ⟨K, PySem.W.Frag.In.keeps hK k, c⟩
def obY (n : Nat) (fa : List He.Fa) (fn : List He.DefD) (xs : List Fx) (s : PySem.W.SharedT) : He.AlD × Bool :=
  (He.obsD fa fn (He.frG (HandSHeadRun.getT s) (He.asD (HandSHeadRun.getT s) n)), xs.all fun z => z.ok (He.frG (HandSHeadRun.getT s) (He.asD (HandSHeadRun.getT s) n)))
theorem obY_eq {n : Nat} {fa : List He.Fa} {fn : List He.DefD} {xs : List Fx} (s : PySem.W.SharedT) : obY n fa fn xs s = (hookY n fa fn xs).obs s.abs := by
  have e : HandSHeadRun.getT s = s.abs.heap.get? := funext (HandSHeadRun.getT_eq s)
  unfold obY
  rw [e]
  rfl
/-! ### the end -/
theorem law_fin {l : PySem.W.OpenLaw} {k : Nat} {q : Program} {loose : List Str} {XP : (Str → Option Value) → Heap → Prop} {YP : World → Heap → Prop} {d : DefRec} {o : List D → List O → Rs D}
    (hn : l.most = some 63) (hdf : d.params.defaults = []) (hr : Room k callerA) (ho : ∀ ns : List Int, ns.length ≤ 63 → ∃ m, o [.scr ns] [] = .ok (.bl true) m)
    (F : ∀ (w : World) (mg : Str → Option Value) (fa : Addr) (h : Heap), YP w h → h.Ns mainGlobals mg → mg d.name = some (.ref fa) →
      ∃ (K : PySem.W.Frag) (fd : FuncData), K.In h ∧ (∀ (s : Shared) (u : Value), BindsTo s fd ⟨[u], []⟩ [("script", u)]) ∧ ∀ base : Heap, K.In base → base.Ns mainGlobals mg → FnOk l.prog w K mg base (L2.CX l.prog w) k fa fd ["script"] (spF ⟨K, mg⟩ 1 o)) :
    PySem.W.WalkO q loose XP YP l.row.toRowW d [] (fun f vs => PySem.call f vs) := by
  apply Att.attach_call hn hdf
  intro w s0 sh mg mb fa ob pm cd doc a vs ns G Y g1 g2 g3 g4 g5 g6 g7 g8
  obtain ⟨K, fd, KX, hb, hF⟩ := F w mg fa _ Y G.T.g g4
  refine law_call (sp := spF ⟨K, mg⟩ 1 o) (k := k) (CX := L2.CX l.prog w) KX G.T.g G.T.b G.T.builtins G.T.nolimit g8 g5 g6 (Nat.le_trans g7 (by decide)) hr hF hb (fun H hO hS => ?_) fun H e s' hc => ?_
  · obtain ⟨m, hm⟩ := ho ns g7
    refine ⟨⟨[], [], fun _ => False, H⟩, [.scr ns], rfl, ⟨?_, ?_, rfl, List.nodup_nil, ?_, ?_⟩, ⟨_, _, rfl, ⟨a, rfl, ?_⟩, rfl⟩, rfl, ?_⟩
    · intro b hb; exact hb.elim
    · intro b hb; cases hb
    · intro b hb; cases hb
    · intro n oo b hb; simp at hb
    · rcases hS with hR | hK
      · left
        rcases hO a with z | ⟨o1, xs, z⟩
        · rcases hR with z2 | ⟨o2, z2⟩
          · rw [z] at z2; cases z2
          · rw [z] at z2; cases z2
        · rcases hR with z2 | ⟨o2, z2⟩
          · rw [z] at z2; cases z2
          · exact ⟨o2, z2⟩
      · exact .inr (.inr hK)
    · rw [hm]
      intro w' b _ _ _ hr'
      exact hr'
  · obtain ⟨a, B, H', cls, dd, _, _, _, _, _, _, _, hz⟩ := hc
    exact hz
end FR
set_option Elab.async false
set_option linter.all false
set_option maxRecDepth 100000
set_option maxHeartbeats 4000000
/-! ## while, places of places, own len and ==, texts' index -/
namespace FR
open PySem PySem.Spec L2
set_option autoImplicit false
variable {X : Cx} {T : Tx} {W : WX} {f g h : FE} {fa : FA} {ft gt : FT} {a b c e o tg iter : Expr} {es rest : List Expr} {pos : Pos} {k : Nat} {st0 : Stmt} {sts : List Stmt} {m m' : FS}

/-! ### while -/
def wTurn (k : FS) : Rt → Rt
  | .ok (.nx r) m => k r m
  | .ok (.ct r) m => k r m
  | .ok (.bk r) m => .ok (.nx r) m
  | x => x
def whileL (t : FT) (body : FS) : Nat → FS
  | 0 => fun _ _ => .stk
  | n + 1 => fun r m => (t r m).sq r fun z m => if z = true then wTurn (whileL t body n) (body r m) else .ok (.nx r) m
theorem s_while (N : Nat) {body : List Stmt} (hp : PassesOwn (model X.prog X.w) X.A X.env X.xe) (hc : PT X c (rdT (tx X) W ft)) (hb : PSs X body (rdS (tx X) W m)) : PS X (.While c body [] pos) (rdS (tx X) W (whileL ft m N)) := by
  refine ps_imp (ps_while hp hc hb) ?_
  rintro E s H ⟨w, r, rfl, ok, re, h⟩
  refine ⟨fun k s' H' => ∃ (w : Wo) (r : Lc), w.H = H' ∧ Ok (tx X) w ∧ RelE (tx X) w r s' ∧ PostS (tx X) W w (whileL ft m k r w.mu) E, ⟨N, w, r, rfl, ok, re, h⟩, ?_⟩
  rintro k s' H' ⟨w1, r1, rfl, ok1, re1, h1⟩
  cases k with
  | zero => exact h1.elim
  | succ k =>
    refine go_st ok1 re1 h1 fun z w2 x2 ok2 re2 h2 => ?_
    cases z with
    | false =>
      simp only [Bool.false_eq_true, if_false] at h2 ⊢
      exact h2.nxt ok2 re2
    | true =>
      simp only [if_true] at h2 ⊢
      refine ⟨fun s' H' => ∃ (w : Wo) (r : Lc), w.H = H' ∧ Ok (tx X) w ∧ RelE (tx X) w r s' ∧ PostS (tx X) W w (whileL ft m k r w.mu) E, fun s' H' q => ⟨k, Nat.lt_succ_self k, q⟩, w2, r1, rfl, ok2, re2, ?_⟩
      cases eb : m r1 w2.mu with
      | stk => rw [eb] at h2; exact h2
      | ex c r' mm => rw [eb] at h2; exact h2
      | ok fl mm =>
        rw [eb] at h2
        cases fl with
        | nx r3 => exact fun w3 s3 x3 ok3 hm3 re3 => by subst hm3; exact ⟨w3, r3, rfl, ok3, re3, PostS.ex h2 x3⟩
        | ct r3 => exact fun w3 s3 x3 ok3 hm3 re3 => by subst hm3; exact ⟨w3, r3, rfl, ok3, re3, PostS.ex h2 x3⟩
        | bk r3 => exact h2
        | rt d => exact h2

/-! ### o[i] op= e -/
theorem get_list : PGet X (fun o i H Q => ∃ p xs k z, o = .ref p ∧ i = .int k ∧ SqL X.K H p xs ∧ atI xs k = some z ∧ Q z H) := by
  intro pins s σ H o i ov iv Q I ro ri h
  obtain ⟨p, xs, i, z, rfl, rfl, hq, he, q⟩ := h
  cases ro
  obtain ⟨t, rfl⟩ := ri
  obtain ⟨its, r, pl, hz⟩ := I.list hq
  obtain ⟨j, h1, h2, h3, h4, h5⟩ := atI_get he
  obtain ⟨w, ew, rw'⟩ := r.get h2
  have hl := r.length
  have hn := line63
  have fin : EP X pins σ Q w s := ⟨z, H, I, rw', q⟩
  by_cases h0 : 0 ≤ i
  · have hj : i.toNat = j := by
      rw [seqIndex_of h0 h5] at h1
      exact Option.some.inj h1
    exact PySem.wpAny_getItem_list (Q := fun r s' => EP X pins σ Q r s') pl.isList h0 (by omega) (x := w) (by rw [hj]; simpa using ew) fin
  · have hj : (i + (its.toArray.size : Int)).toNat = j := by
      rw [seqIndex_neg (by omega) h4] at h1
      rw [List.size_toArray, ← hl]
      exact Option.some.inj h1
    exact PySem.wpAny_getItem_list_neg (Q := fun r s' => EP X pins σ Q r s') pl.isList (x := w) (by omega) (by rw [List.size_toArray] <;> omega) (by omega) (by rw [hj]; simpa using ew) fin
def gIxL : D → D → List O → Rs D := fun d i m => match i with
  | .int i => match derefL d m with
    | some xs => match atI xs i with
      | some x => .ok x m
      | none => .stk
    | none => .stk
  | _ => .stk
def sAugS (g : D → D → List O → Rs D) (fo fi f : FE) : FS := fun r m => (fo r m).sq r fun o m => (fi r m).sq r fun i m => (gIxL o i m).sq r fun x m => (f r m).sq r fun y m => (g x y m).sq r fun z m => match gPut o i z m with
  | some m => .ok (.nx r) m
  | none => .stk
theorem s_augAdd {i : Expr} {tpos : Pos} {fo fi : FE} (ho : PE X o (rd (tx X) W fo)) (hi : PE X i (rd (tx X) W fi)) (he : PE X e (rd (tx X) W f))
    (ha : ∀ ov iv new, augStore i ov iv new = (do holding [new, ov, iv] (setItem ov iv new); release [new, ov, iv] []; pure .next) := by intros; rfl) :
    PS X (.AugAssign (.Subscript o i tpos) .Add e pos) (rdS (tx X) W (sAugS (gI (fun _ _ => true) fun i j => .int (i + j)) fo fi f)) := by
  refine ps_imp (ps_augS ho hi get_list he ip_add set_list ha) ?_
  rintro E s H ⟨w, r, rfl, ok, re, h⟩
  refine go_s ok re h fun o w1 ov x1 ok1 re1 r1 h1 => ?_
  refine go_s ok1 re1 h1 fun i w2 iv x2 ok2 re2 r2 h2 => ?_
  cases eg : gIxL o i w2.mu with
  | stk => rw [eg] at h2; exact h2.elim
  | ex c mm =>
    exfalso
    unfold gIxL at eg
    split at eg
    · split at eg
      · split at eg <;> cases eg
      · cases eg
    · cases eg
  | ok x mm =>
  rw [eg] at h2
  have eg' := eg
  unfold gIxL at eg'
  split at eg'
  case h_2 => cases eg'
  rename_i kk
  split at eg'
  case h_2 => cases eg'
  rename_i xs hx
  split at eg'
  case h_2 => cases eg'
  rename_i x' hat
  cases eg'
  have r1' := r1.ex ok1 x2.toEx0
  obtain ⟨p, vs, rfl, hp, rvs⟩ := derefL_ok ok2 r1' hx
  obtain ⟨xv, hxv, rxv⟩ := atI_val rvs hat
  have r2c := r2
  simp only [RelD] at r2; subst r2
  refine ⟨p, vs, kk, xv, rfl, rfl, SqL.of hp, hxv, ?_⟩
  refine go_s ok2 re2 h2 fun y w3 yv x3 ok3 re3 r3 h3 => ?_
  have rx3 := rxv.ex ok2 x3.toEx0
  have ro3 := r1'.ex ok2 x3.toEx0
  cases x with
  | int i =>
    cases y with
    | int j =>
      simp only [RelD] at rx3 r3
      subst rx3 r3
      refine ⟨i, j, rfl, rfl, ?_⟩
      have h3' : PostS (tx X) W w3 (match gPut o (.int kk) (.int (i + j)) w3.mu with
        | some m => .ok (.nx r) m
        | none => .stk) E := h3
      split at h3'
      · rename_i mm hg
        unfold gPut at hg
        split at hg
        · rename_i n k2 hk2
          split at hg
          · rename_i ys hm
            split at hg
            · rename_i j2 hj2
              cases hg
              cases hk2
              simp only [RelD] at ro3
              obtain ⟨p', ep, hb⟩ := ro3
              cases ep
              obtain ⟨us, hv, rus⟩ := ok3.obj _ _ _ hm hb
              have rz : RelD (tx X) w3 (.int (i + j)) (.int (i + j)) := by simp only [RelD]
              obtain ⟨x4, ok4⟩ := put_lst ok3 hb hm (rus.set rz j2)
              exact ⟨p, us, kk, j2, rfl, rfl, hv, by rw [rus.length]; exact hj2, h3' _ _ x4 ok4 rfl (re3.ex ok3 x4.toEx0)⟩
            · cases hg
          · cases hg
        · cases hg
      · exact h3'.elim
    | _ => exact h3.elim
  | _ => exact h3.elim

/-! ### a list and the lists in it are left to themselves -/
@[reducible] def frzs : List D → List O → Option (List D × List O)
  | [], m => some ([], m)
  | d :: ds, m => match gFrz d m with
    | .ok d' m' => (match frzs ds m' with
      | some (ds', m2) => some (d' :: ds', m2)
      | none => none)
    | _ => none
theorem frz_one {w : Wo} {d d' : D} {v : V} {m' : List O} (ok : Ok T w) (r : RelD T w d v) (h : gFrz d w.mu = .ok d' m') : ∃ w', Ex w w' ∧ Ok T w' ∧ w'.mu = m' ∧ w'.H = w.H ∧ RelD T w' d' v := by
  unfold gFrz at h
  split at h
  · rename_i n
    simp only [RelD] at r
    obtain ⟨a, rfl, hb⟩ := r
    have kx : Ex w (w.kill n) := kill_ex
    split at h
    · rename_i xs hm
      cases h
      obtain ⟨vs, h1, h2⟩ := ok.obj _ _ _ hm hb
      exact ⟨w.kill n, kx, kill_ok ok, rfl, rfl, by simp only [RelD]; exact ⟨a, vs, rfl, h1, kill_dead ok hb, h2.ex ok kx.toEx0⟩⟩
    · rename_i ks xs hm
      cases h
      obtain ⟨vs, h1, hl, h2⟩ := ok.obj _ _ _ hm hb
      exact ⟨w.kill n, kx, kill_ok ok, rfl, rfl, by simp only [RelD]; exact ⟨a, vs, rfl, .inl h1, hl, kill_dead ok hb, h2.ex ok kx.toEx0⟩⟩
    · rename_i c ns xs hm
      cases h
      obtain ⟨C, dx, vs, hc, h1, hl, h2⟩ := ok.obj _ _ _ hm hb
      exact ⟨w.kill n, kx, kill_ok ok, rfl, rfl, by simp only [RelD]; exact ⟨a, C, dx, vs, rfl, hc, h1, hl, kill_dead ok hb, h2.ex ok kx.toEx0⟩⟩
    · cases h
  · cases h
    exact ⟨w, .rfl', ok, rfl, rfl, r⟩
theorem frzs_ok : ∀ {ds ds' : List D} {w : Wo} {vs : List V} {m' : List O}, Ok T w → RelDs T w ds vs → frzs ds w.mu = some (ds', m') → ∃ w', Ex w w' ∧ Ok T w' ∧ w'.mu = m' ∧ w'.H = w.H ∧ RelDs T w' ds' vs
  | [], ds', w, vs, m', ok, r, h => by
    simp only [frzs] at h
    cases h
    exact ⟨w, .rfl', ok, rfl, rfl, r⟩
  | d :: ds, ds', w, vs, m', ok, r, h => by
    simp only [frzs] at h
    simp only [RelDs] at r
    obtain ⟨v, l, rfl, r1, r2⟩ := r
    cases e1 : gFrz d w.mu with
    | stk => rw [e1] at h; cases h
    | ex c m => rw [e1] at h; cases h
    | ok d1 m1 =>
      rw [e1] at h
      simp only at h
      obtain ⟨w1, x1, ok1, hm1, hH1, q1⟩ := frz_one ok r1 e1
      subst hm1
      cases e2 : frzs ds w1.mu with
      | none => rw [e2] at h; cases h
      | some p =>
        obtain ⟨ds2, m2⟩ := p
        rw [e2] at h
        cases h
        obtain ⟨w2, x2, ok2, hm2, hH2, q2⟩ := frzs_ok ok1 (r2.ex ok x1.toEx0) e2
        exact ⟨w2, x1.trans x2, ok2, hm2, hH2.trans hH1, .cons (q1.ex ok1 x2.toEx0) q2⟩
def gFrz2 : D → List O → Rs D := fun d m => match gFrz d m with
  | .ok (.lst ds) m => (match frzs ds m with
    | some (ds', m) => .ok (.lst ds') m
    | none => .stk)
  | _ => .stk
theorem v_frz2 (h : PE X e (rd (tx X) W f)) : PE X e (rd (tx X) W (fUn gFrz2 f)) := by
  refine pe_imp h ?_
  rintro σ H Q ⟨w, l, rfl, ok, re, h⟩
  refine go_e ok re h fun d w1 v e1 ok1 re1 r1 h1 => ?_
  unfold gFrz2 at h1
  split at h1
  · rename_i ds m hq
    split at h1
    · rename_i ds' m2 hs
      obtain ⟨w2, x2, ok2, hm2, hH2, q2⟩ := frz_one ok1 r1 hq
      subst hm2
      simp only [RelD] at q2
      obtain ⟨p, vs, rfl, a1, a2, a3⟩ := q2
      obtain ⟨w3, x3, ok3, hm3, hH3, q3⟩ := frzs_ok ok2 a3 hs
      have := h1 w3 (.ref p) (x2.trans x3) ok3 hm3 (by simp only [RelD]; exact ⟨p, vs, rfl, x3.keep p (.lst vs) a1 a2, fun l => a2 (x3.live p (by rw [a1]; simp) l), q3⟩)
      rw [hH3, hH2] at this
      exact this
    · exact h1.elim
  · exact h1.elim

/-! ### text.index(text) -/
def fSIdx (fo f : FE) : FE := fun r m => (fo r m).bind fun o m => match o with
  | .str x => (f r m).bind fun d m => match d with
    | .str y => (match Builtin.Str.occurrences x y 0 x.length 1 with
      | i :: _ => .ok (.int (i : Nat)) m
      | [] => .stk)
    | _ => .stk
  | _ => .stk
theorem v_sidx {apos : Pos} {fo : FE} (ho : PE X o (rd (tx X) W fo)) (he : PE X e (rd (tx X) W f))
    (hs : starEach [e] X.env = [(false, eval e X.env)] := by rfl) (hbase : attributeBase o "index" X.env (eval o X.env) = eval o X.env := by rfl) (hline : (apos.endLine == pos.line) = true := by rfl) :
    PE X (.Call (.Attribute o "index" apos) [e] [] pos) (rd (tx X) W (fSIdx fo f)) := by
  refine pe_imp (pe_m1 PySem.F.slot_str_index PySem.F.type_str_index mt_sindex ho he hs hbase hline) ?_
  rintro σ H Q ⟨w, l, rfl, ok, re, h⟩
  refine go_e ok re h fun d w1 v e1 ok1 re1 r1 h1 => ?_
  split at h1
  · rename_i x
    simp only [RelD] at r1; subst r1
    refine ⟨⟨x, rfl⟩, ?_⟩
    refine go_e ok1 re1 h1 fun d2 w2 v2 e2 ok2 re2 r2 h2 => ?_
    split at h2
    · rename_i y
      split at h2
      · rename_i i rest hq
        simp only [RelD] at r2; subst r2
        exact ⟨x, y, i, rest, rfl, rfl, hq, h2.now ok2 (by simp only [RelD])⟩
      · exact h2.elim
    · exact h2.elim
  · exact h1.elim
end FR
set_option Elab.async false
set_option linter.all false
set_option maxRecDepth 100000
set_option maxHeartbeats 4000000
/-! ## len of an own object -/
namespace FR
open PySem PySem.Spec L2
set_option autoImplicit false
variable {X : Cx} {T : Tx} {W : WX} {f g h : FE} {fa : FA} {ft gt : FT} {a b c e o tg iter : Expr} {es rest : List Expr} {pos : Pos} {k : Nat} {st0 : Stmt} {sts : List Stmt} {m m' : FS}

theorem env0_in1 {pins : List (Addr × Obj)} {s : Shared} {σ : St} {H : Hp} (I : Inv X pins σ H s) : Env0 X.prog X.w X.K X.mg X.base X.A.in1 X.stack s H :=
  ⟨I.env0.frames, I.env0.mod, I.env0.bs, I.env0.bsz, I.env0.funs, I.env0.frf, I.env0.hok, I.env0.bare⟩
def rLenO (T : Tx) (C : Addr) (oo : List D → List O → Rs D) : List V → Hp → VK → Prop := fun xs H Q => ∃ p dx fs, xs = [.ref p] ∧ H p = some (.ins C dx fs) ∧ spF T 1 oo [.ref p] H (fun v H' => ∃ n : Int, v = .int n ∧ 0 ≤ n ∧ n < 2 ^ 63 ∧ Q (.int n) H') (fun _ _ _ => False)
theorem call_lenO {C fa' : Addr} {fd : FuncData} {ps : List Str} {oo : List D → List O → Rs D} (F : FnOk X.prog X.w X.K X.mg X.base (L2.CX X.prog X.w) k fa' fd ps (spF (tx X) 1 oo)) (hm : Meth X.K C "__len__" fa') (hb : Binds X.K fd ps []) (hr : Room (k + 1) X.A) :
    CallR X (.builtin "len") (rLenO (tx X) C oo) := by
  intro pins s σ H xs us Q I r h
  obtain ⟨p, dx, fs, rfl, hp, hsp⟩ := h
  have hl := F.len _ _ _ _ hsp
  obtain ⟨u, rfl, rx⟩ := vals1 r
  cases rx
  obtain ⟨mA, J, _⟩ := ins_get I.hok hp
  obtain ⟨od, J, _⟩ := J.look
  obtain ⟨m, hF⟩ := I.fr
  refine PySem.W.len_K hF I.ok.mod.kin J hm.at_ hm.fn ?_
  have r2 : Vals [V.ref p] [Value.ref p] := .cons rfl .nil
  refine wpAny_call (codeAny_mono (F.run X.A.in1 X.stack s H ⟨[.ref p], []⟩ [.ref p] [.ref p] _ _ hr.in1 (env0_in1 I) (by
    have := hb s [.ref p] I.kIn (by simpa using hl)
    simpa using this) r2 hsp) fun r s' hq => ?_)
  cases r with
  | error e =>
    obtain ⟨a, B, H', cls, d, _, _, _, _, _, _, _, hE⟩ := hq
    exact hE.elim
  | ok fl =>
    cases fl with
    | ret w =>
      obtain ⟨z, H', I', rz, n, rfl, h0, h1, q⟩ := I.after hq
      obtain ⟨t, rfl⟩ := rz
      exact ⟨⟨h0, h1⟩, .int n, H', I'.tok _, ⟨_, rfl⟩, q⟩
    | next => exact False.elim hq
    | brk => exact False.elim hq
    | cont => exact False.elim hq
def fLenO (c : Str) (oo : List D → List O → Rs D) (f : FE) : FE := fun r m => (f r m).bind fun d m => if isIns c "__len__" d m = true then (match oo [d] m with
  | .ok (.int n) m => if 0 ≤ n ∧ n < 4611686018427387904 then .ok (.int n) m else .stk
  | _ => .stk) else .stk
theorem v_lenO {c : Str} {p : Pos} {oo : List D → List O → Rs D} (F : MtG X.prog X.w (tx X) X.base c "__len__" k 0 oo) (hr : Room (k + 1) X.A) (hm : X.mg "len" = none) (he : PE X e (rd (tx X) W f)) (hg : Gl X "len" := by rfl)
    (hst : starEach [e] X.env = (false, eval e X.env) :: starEach [] X.env := by rfl) (hpl : (backTo pos (starEach ([] : List Expr) X.env)).any (·.1) = false := by rfl) :
    PE X (.Call (.Name "len" p) [e] [] pos) (rd (tx X) W (fLenO c oo f)) := by
  obtain ⟨C, fa', fd, ps, hF, cg, hmt, hb⟩ := F.ex
  refine pe_imp (pe_callB (call_lenO hF hmt hb hr) hg hm PySem.boot_len (a_cons he a_nil (hs := hst)) (he := hst) (hpl := hpl)) ?_
  rintro σ H Q ⟨w, l, rfl, ok, re, h⟩
  have h' : Post (tx X) (RelD (tx X)) (wx (tx X) W σ) w (((aCons f aNil) l w.mu).bind fun ds m => match ds with
    | [d] => (if isIns c "__len__" d m = true then (match oo [d] m with
      | .ok (.int n) m => if 0 ≤ n ∧ n < 4611686018427387904 then .ok (.int n) m else .stk
      | _ => .stk) else .stk)
    | _ => .stk) Q := by
    cases ef : f l w.mu with
    | stk => simp only [fLenO, ef, Rs.bind] at h; exact h.elim
    | ex c mm => simp only [fLenO, aCons, ef, Rs.bind] at h ⊢; exact h
    | ok a mm => simp only [fLenO, aCons, aNil, ef, Rs.bind] at h ⊢; exact h
  refine go_a ok re h' fun ds w1 vs e1 ok1 re1 r1 h1 => ?_
  split at h1
  · rename_i d
    split at h1
    · rename_i hi
      replace r1 := r1.one
      obtain ⟨v, rfl, r1⟩ := r1
      obtain ⟨p, dx, fs, rfl, hH, hl⟩ := isIns_ok cg ok1 r1 hi
      refine ⟨p, dx, fs, rfl, hH, w1, [d], rfl, ok1, .cons r1 .nil, rfl, ?_⟩
      cases eo : oo [d] w1.mu with
      | stk => rw [eo] at h1; exact h1
      | ex c mm => rw [eo] at h1; exact h1.elim
      | ok z mm =>
        rw [eo] at h1
        cases z with
        | int n =>
          simp only at h1
          split at h1
          · rename_i hn
            intro w2 v2 x2 ok2 hm2 r2
            simp only [RelD] at r2; subst r2
            exact ⟨n, rfl, hn.1, by omega, h1 w2 (.int n) x2 ok2 hm2 (by simp only [RelD])⟩
          · exact h1.elim
        | _ => exact h1.elim
    · exact h1.elim
  · exact h1.elim
/-! ### min of a list of ints -/
@[reducible] def minI : Int → List Int → Int
  | x, [] => x
  | x, y :: ys => minI (if y < x then y else x) ys
theorem minI_le : ∀ (ys : List Int) (x : Int), minI x ys ≤ x ∧ (∀ y ∈ ys, minI x ys ≤ y) ∧ (minI x ys = x ∨ minI x ys ∈ ys)
  | [], x => ⟨Int.le_refl _, fun _ h => by simp at h, .inl rfl⟩
  | z :: ys, x => by
    show minI (if z < x then z else x) ys ≤ x ∧ (∀ y ∈ z :: ys, minI (if z < x then z else x) ys ≤ y) ∧ (minI (if z < x then z else x) ys = x ∨ minI (if z < x then z else x) ys ∈ z :: ys)
    obtain ⟨h1, h2, h3⟩ := minI_le ys (if z < x then z else x)
    by_cases q : z < x
    · rw [if_pos q] at h1 h2 h3 ⊢
      refine ⟨by omega, fun y hy => ?_, ?_⟩
      · rcases List.mem_cons.mp hy with e | e
        · subst e; exact h1
        · exact h2 y e
      · rcases h3 with e | e
        · exact .inr (by rw [e]; exact List.mem_cons_self)
        · exact .inr (List.mem_cons_of_mem _ e)
    · rw [if_neg q] at h1 h2 h3 ⊢
      refine ⟨h1, fun y hy => ?_, ?_⟩
      · rcases List.mem_cons.mp hy with e | e
        · subst e; omega
        · exact h2 y e
      · rcases h3 with e | e
        · exact .inl e
        · exact .inr (List.mem_cons_of_mem _ e)
def bMin := bOvI fun ns => match ns with
  | [] => none
  | n :: ns => some (.int (minI n ns))
theorem cb_min (hc : X.calm = true) : Cb X (.builtin "min") bMin := by
  refine ⟨_, cr_min hc, fun W w ds vs Q ok r h => ?_⟩
  unfold bMin bOvI at h
  split at h
  · split at h
    · rename_i xs ex
      split at h
      · rename_i ns en
        split at h
        · rename_i z hz
          cases ns with
          | nil => cases hz
          | cons n ns' =>
            cases hz
            replace r := r.one; obtain ⟨v, rfl, r⟩ := r
            obtain ⟨p, us, rfl, q1, q2⟩ := derefL_ok ok r ex
            have := intsD_val q2 en; subst this
            obtain ⟨h1, h2, h3⟩ := minI_le ns' n
            refine ⟨p, n :: ns', rfl, SqL.of q1, by simp, fun m hm hle => ?_⟩
            have e : m = minI n ns' := by
              have a1 : m ≤ minI n ns' := by
                rcases h3 with e | e
                · rw [e]; exact hle n List.mem_cons_self
                · exact hle _ (List.mem_cons_of_mem _ e)
              have a2 : minI n ns' ≤ m := by
                rcases List.mem_cons.mp hm with e | e
                · subst e; exact h1
                · exact h2 m e
              omega
            rw [e]
            exact h.now ok (by simp only [RelD])
        · exact h.elim
      · exact h.elim
    · exact h.elim
  · exact h.elim
end FR
set_option Elab.async false
set_option linter.all false
set_option maxRecDepth 100000
set_option maxHeartbeats 4000000
/-! ## A call by itself: values alone go in and come out, the store outside stays as it is -/
namespace FR
open PySem PySem.Spec L2
set_option autoImplicit false
variable {T : Tx}
mutual
def noLoc : D → Bool
  | .loc _ => false
  | .tup xs => noLocs xs
  | .lst xs => noLocs xs
  | .dct _ xs => noLocs xs
  | .ins _ _ xs => noLocs xs
  | _ => true
def noLocs : List D → Bool
  | [] => true
  | x :: xs => noLoc x && noLocs xs
end
mutual
theorem RelD.mv {w w' : Wo} (hH : w'.H = w.H) (hl : ∀ a, Live w' a → Live w a) : ∀ {d : D} {v : V}, noLoc d = true → RelD T w d v → RelD T w' d v
  | .non, _, _, h => by simpa only [RelD] using h
  | .bl _, _, _, h => by simpa only [RelD] using h
  | .int _, _, _, h => by simpa only [RelD] using h
  | .str _, _, _, h => by simpa only [RelD] using h
  | .ty _, _, _, h => by simpa only [RelD] using h
  | .tup ds, v, n, h => by
    simp only [RelD] at h ⊢
    obtain ⟨a, vs, h1, h2, h3⟩ := h
    exact ⟨a, vs, h1, by rw [hH]; exact h2, RelDs.mv hH hl n h3⟩
  | .lst ds, v, n, h => by
    simp only [RelD] at h ⊢
    obtain ⟨a, vs, h1, h2, h3, h4⟩ := h
    exact ⟨a, vs, h1, by rw [hH]; exact h2, fun l => h3 (hl a l), RelDs.mv hH hl n h4⟩
  | .dct ks ds, v, n, h => by
    simp only [RelD] at h ⊢
    obtain ⟨a, vs, h1, h2, hlen, h3, h4⟩ := h
    exact ⟨a, vs, h1, by rw [hH]; exact h2, hlen, fun l => h3 (hl a l), RelDs.mv hH hl n h4⟩
  | .ins c ns ds, v, n, h => by
    simp only [RelD] at h ⊢
    obtain ⟨a, C, dx, vs, h1, hc, h2, hlen, h3, h4⟩ := h
    exact ⟨a, C, dx, vs, h1, hc, by rw [hH]; exact h2, hlen, fun l => h3 (hl a l), RelDs.mv hH hl n h4⟩
  | .loc _, _, n, _ => by simp [noLoc] at n
  | .glo x, v, _, h => by simpa only [RelD] using h
  | .exc _, _, _, h => by simpa only [RelD] using h
  | .scr ns, v, _, h => by
    simp only [RelD] at h ⊢
    rw [hH]; exact h
theorem RelDs.mv {w w' : Wo} (hH : w'.H = w.H) (hl : ∀ a, Live w' a → Live w a) : ∀ {ds : List D} {vs : List V}, noLocs ds = true → RelDs T w ds vs → RelDs T w' ds vs
  | [], _, _, h => by simpa only [RelDs] using h
  | d :: ds, vs, n, h => by
    simp only [RelDs] at h ⊢
    simp only [noLocs, Bool.and_eq_true] at n
    obtain ⟨v, r, h1, h2, h3⟩ := h
    exact ⟨v, r, h1, RelD.mv hH hl n.1 h2, RelDs.mv hH hl n.2 h3⟩
end
/-- the world of a call by itself -/
def Wo.inn (w : Wo) : Wo := ⟨[], [], fun a => Live w a, w.H⟩
theorem inn_live {w : Wo} {a : Addr} : Live w.inn a ↔ Live w a := by
  constructor
  · rintro (h | ⟨n, h, _⟩)
    · exact h
    · simp [Wo.inn] at h
  · exact fun h => .inl h
theorem inn_ok {w : Wo} (ok : Ok T w) : Ok T w.inn := by
  refine ⟨fun a ha => ?_, fun a h => by simp [Wo.inn] at h, rfl, List.nodup_nil, fun a h => by simp [Wo.inn] at h, fun n o a h => by simp [Wo.inn] at h⟩
  rcases ha with h | ⟨n, hb, o, hm, hd⟩
  · exact ok.hidT a h
  · have q := ok.obj n o a hm hb
    cases o with
    | dead => exact absurd rfl hd
    | lst ds => obtain ⟨vs, e, _⟩ := q; exact ⟨_, e, trivial⟩
    | dct ks ds => obtain ⟨vs, e, _⟩ := q; exact ⟨_, e, trivial⟩
    | ins c ns ds => obtain ⟨C, dx, vs, _, e, _⟩ := q; exact ⟨_, e, trivial⟩
/-- back from it -/
def Wo.out (w w0 : Wo) : Wo := ⟨w.bt, w.mu, w.hid, w0.H⟩
theorem out_live {w w0 : Wo} {a : Addr} : Live (w.out w0) a ↔ Live w a := Iff.rfl
theorem out_ex {w w0 : Wo} (x : Ex w.inn w0) : Ex w (w.out w0) :=
  ⟨⟨⟨[], by simp [Wo.out]⟩, fun a h => x.some_ a h, fun a o h n => x.keep a o h fun l => n (inn_live.mp l), fun a _ l => l⟩, rfl, fun a h => x.hidK a (.inl h)⟩
theorem out_ok {w w0 : Wo} (ok : Ok T w) (x : Ex w.inn w0) : Ok T (w.out w0) := by
  refine ⟨fun a ha => ?_, ok.hidN, ok.len, ok.nd, fun a ha => x.some_ a (ok.tr a ha), fun n o a hm hb => ?_⟩
  · obtain ⟨o, e, hd⟩ := ok.hidT a ha
    exact ⟨o, (x.hidK a (.inl ha)).trans e, hd⟩
  · by_cases hd : o = .dead
    · subst hd; trivial
    · exact RelOb.ex ok (out_ex x).toEx0 (ok.obj n o a hm hb) (x.hidK a (.inr ⟨n, hb, o, hm, hd⟩))
def iso (o : List D → List O → Rs D) : List D → List O → Rs D := fun ds m => if noLocs ds = true then (match o ds [] with
  | .ok d _ => if noLoc d = true then .ok d m else .stk
  | .ex c _ => .ex c m
  | .stk => .stk) else .stk
theorem spF_iso {n : Nat} {o : List D → List O → Rs D} : ∀ vs H Q E, spF T n (iso o) vs H Q E → spF T n o vs H Q E := by
  rintro vs H Q E ⟨w, ds, rfl, ok, r, hl, q⟩
  unfold iso at q
  split at q
  case isFalse => exact q.elim
  rename_i hn
  refine ⟨w.inn, ds, rfl, inn_ok ok, RelDs.mv (w := w) (w' := w.inn) rfl (fun a h => inn_live.mp h) hn r, hl, ?_⟩
  show Post T (RelD T) _ w.inn (o ds []) Q
  cases e : o ds [] with
  | stk => rw [e] at q; exact q
  | ex c mm =>
    rw [e] at q
    intro w0 x0 ok0 _
    exact q (w.out w0) (out_ex x0) (out_ok ok x0) rfl
  | ok d mm =>
    rw [e] at q
    simp only at q
    split at q
    case isFalse => exact q.elim
    rename_i hd
    intro w0 v x0 ok0 _ rv
    refine q (w.out w0) v (out_ex x0) (out_ok ok x0) rfl (RelD.mv (w := w0) (w' := w.out w0) rfl (fun a h => ?_) hd rv)
    refine .inl ?_
    rw [x0.hidE]
    exact out_live.mp h
theorem FnG.iso {P : Program} {w : World} {base : Heap} {x : Str} {k n : Nat} {o : List D → List O → Rs D} (F : FnG P w T base x k n o) : FnG P w T base x k n (FR.iso o) := by
  obtain ⟨f, fd, ps, h1, h2⟩ := F.ex
  exact ⟨f, fd, ps, h1.imp spF_iso, h2⟩
end FR
set_option Elab.async false
set_option linter.all false
set_option maxRecDepth 100000
set_option maxHeartbeats 4000000
/-! ## dicts whose keys are texts; insert, enumerate -/
namespace FR
open PySem PySem.Spec L2
set_option autoImplicit false
variable {X : Cx} {T : Tx} {W : WX} {f g h : FE} {fa : FA} {ft gt : FT} {a b c e o tg iter : Expr} {es rest : List Expr} {pos : Pos} {k : Nat} {st0 : Stmt} {sts : List Stmt} {m m' : FS}

theorem pe_or {t t' : TE} (h : PE X e t) (h' : PE X e t') : PE X e (fun s H Q => t s H Q ∨ t' s H Q) := ⟨fun pins s σ H Q I hw => hw.elim (h.run pins s σ H Q I) (h'.run pins s σ H Q I)⟩
theorem callr_or {v : Value} {r r' : List V → Hp → VK → Prop} (h : CallR X v r) (h' : CallR X v r') : CallR X v (fun xs H Q => r xs H Q ∨ r' xs H Q) := fun pins s σ H xs us Q I rv hw => hw.elim (h pins s σ H xs us Q I rv) (h' pins s σ H xs us Q I rv)
/-! ### what a dict holds -/
@[reducible] def derefD (d : D) (m : List O) : Option (List Str × List D) := match d with
  | .dct ks vs => some (ks, vs)
  | .loc n => match m[n]? with
    | some (.dct ks vs) => some (ks, vs)
    | _ => none
  | _ => none
@[reducible] def kz (ks : List Str) (vs : List V) : List (Key × V) := (ks.map Sum.inr).zip vs
theorem derefD_ok {w : Wo} {d : D} {v : V} {ks : List Str} {ds : List D} (ok : Ok T w) (r : RelD T w d v) (h : derefD d w.mu = some (ks, ds)) :
    ∃ a vs, v = .ref a ∧ Rd w.H a (.dK (kz ks vs)) ∧ vs.length = ks.length ∧ RelDs T w ds vs := by
  cases d with
  | dct ks' ds' =>
    cases h
    simp only [RelD] at r
    obtain ⟨a, vs, h1, h2, hl, _, h3⟩ := r
    exact ⟨a, vs, h1, h2, hl, h3⟩
  | loc n =>
    simp only [RelD] at r
    obtain ⟨a, h1, h2⟩ := r
    have h' : (match w.mu[n]? with
      | some (.dct ks vs) => some (ks, vs)
      | _ => none) = some (ks, ds) := h
    split at h'
    · rename_i hm
      cases h'
      obtain ⟨vs, h3, hl, h4⟩ := ok.obj _ _ _ hm h2
      exact ⟨a, vs, h1, .inl h3, hl, h4⟩
    · cases h'
  | _ => cases h
theorem valV_zip {w : Wo} {k : Str} : ∀ {ks : List Str} {ds : List D} {vs : List V} {d : D}, RelDs T w ds vs → lookD ks ds k = some d → ∃ v, valV (kz ks vs) (Sum.inr k) = some v ∧ RelD T w d v
  | [], _, _, _, _, h => by simp [lookD] at h
  | n :: ks, [], _, _, _, h => by simp [lookD] at h
  | n :: ks, e :: ds, vs, d, r, h => by
    simp only [RelDs] at r
    obtain ⟨v, l, rfl, h1, h2⟩ := r
    simp only [lookD] at h
    by_cases q : k = n
    · subst q
      rw [if_pos rfl] at h
      cases h
      exact ⟨v, by simp [valV, kz], h1⟩
    · rw [if_neg q] at h
      obtain ⟨u, hu, ru⟩ := valV_zip h2 h
      refine ⟨u, ?_, ru⟩
      have : decide ((Sum.inr n : Key) = Sum.inr k) = false := decide_eq_false fun e => q (by cases e; rfl)
      unfold valV kz at hu ⊢
      rw [List.map_cons, List.zip_cons_cons, List.find?_cons]
      simp only [this]
      exact hu
/-! ### d[k] -/
def gIxD : D → D → List O → Rs D := fun d i m => match i with
  | .str k => match derefD d m with
    | some p => match lookD p.1 p.2 k with
      | some v => .ok v m
      | none => .stk
    | none => .stk
  | _ => .stk
def gIxA : D → D → List O → Rs D := fun d i m => match i with
  | .str k => gIxD d (.str k) m
  | i => gIx d i m
theorem v_ixA (hr : Room k X.A) (ha : PE X a (rd (tx X) W f)) (hb : PE X b (rd (tx X) W g)) (hs : PlainIx b := by exact fun _ _ => rfl) (hs2 : NoSl b := by exact fun _ _ => rfl) : PE X (.Subscript a b pos) (rd (tx X) W (fBin gIxA f g)) := by
  refine pe_imp (pe_or (v_ix ha hb hs) (pe_dget (hu_of hr) ha hb hs2)) ?_
  rintro σ H Q ⟨w, l, rfl, ok, re, h⟩
  have right_ : Post (tx X) (RelD (tx X)) (wx (tx X) W σ) w (fBin gIxD f g l w.mu) Q → tDGet (rd (tx X) W f) (rd (tx X) W g) σ w.H Q := fun h => by
    refine go_e ok re h fun d w1 v x1 ok1 re1 r1 h1 => ?_
    refine go_e ok1 re1 h1 fun i w2 u x2 ok2 re2 r2 h2 => ?_
    unfold gIxD at h2
    split at h2
    · rename_i k2
      split at h2
      · rename_i p hp
        split at h2
        · rename_i z hz
          obtain ⟨A, vs, rfl, hA, hl, rvs⟩ := derefD_ok ok2 (r1.ex ok1 x2.toEx0) (ks := p.1) (ds := p.2) hp
          obtain ⟨y, hy, ry⟩ := valV_zip rvs hz
          simp only [RelD] at r2; subst r2
          exact ⟨A, y, rfl, .inl ⟨_, Sum.inr k2, hA, rfl, hy.symm⟩, h2.now ok2 ry⟩
        · exact h2.elim
      · exact h2.elim
    · exact h2.elim
  cases e1 : f l w.mu with
  | stk => simp only [fBin, e1, Rs.bind] at h; exact h.elim
  | ex c mm => simp only [fBin, e1, Rs.bind] at h; exact .inl ⟨w, l, rfl, ok, re, by simp only [fBin, e1, Rs.bind]; exact h⟩
  | ok d1 m1 =>
    cases e2 : g l m1 with
    | stk => simp only [fBin, e1, e2, Rs.bind] at h; exact h.elim
    | ex c mm => simp only [fBin, e1, e2, Rs.bind] at h; exact .inl ⟨w, l, rfl, ok, re, by simp only [fBin, e1, e2, Rs.bind]; exact h⟩
    | ok d2 m2 =>
      cases d2 with
      | str kk => exact .inr (right_ (by simp only [fBin, e1, e2, Rs.bind] at h ⊢; exact h))
      | _ => left; refine ⟨w, l, rfl, ok, re, ?_⟩; simp only [fBin, e1, e2, Rs.bind] at h ⊢; exact h

/-! ### {k: v, ..} -/
def trsOf (T : Tx) (W : WX) (ps : List (Str × FE)) : List (TE × TE) := ps.map fun p => (rd T W (fC (.str p.1)), rd T W p.2)
theorem pd_nil : PPs X pos [] [] (trsOf (tx X) W []) := pps_nil
theorem pd_cons {x : Str} {j : Nat} {p' : Pos} {ps : List (Str × FE)} {ks : List (Option Expr)} {vs : List Expr} (hv : PE X e (rd (tx X) W f)) (hr : PPs X pos ks vs (trsOf (tx X) W ps)) :
    PPs X pos (some (.Constant (.str x) j p') :: ks) (e :: vs) (trsOf (tx X) W ((x, f) :: ps)) := pps_cons v_str hv hr
def dctL : List (Str × FE) → Lc → List O → Rs (List D)
  | [], _, m => .ok [] m
  | p :: ps, r, m => match p.2 r m with
    | .ok d m => (match dctL ps r m with
      | .ok ds m => .ok (d :: ds) m
      | _ => .stk)
    | _ => .stk
theorem pairs_sem {s : St} {r : Lc} : ∀ {ps : List (Str × FE)} {w : Wo} {ds : List D} {m : List O} {Qp : List (V × V) → Hp → Prop}, Ok T w → RelE T w r s → dctL ps r w.mu = .ok ds m →
    (∀ w1 vs, Ex w w1 → Ok T w1 → w1.mu = m → RelDs T w1 ds vs → Qp ((ps.map fun p => V.str p.1).zip vs) w1.H) → tPairs (trsOf T W ps) s w.H Qp
  | [], w, ds, m, Qp, ok, re, h, hk => by
    cases h
    exact hk w [] .rfl' ok rfl .nil
  | p :: ps, w, ds, m, Qp, ok, re, h, hk => by
    simp only [dctL] at h
    cases e1 : p.2 r w.mu with
    | stk => rw [e1] at h; cases h
    | ex c mm => rw [e1] at h; cases h
    | ok d m1 =>
      rw [e1] at h
      simp only at h
      cases e2 : dctL ps r m1 with
      | stk => rw [e2] at h; cases h
      | ex c mm => rw [e2] at h; cases h
      | ok ds' m2 =>
        rw [e2] at h
        cases h
        show rd T W (fC (.str p.1)) s w.H _
        refine ⟨w, r, rfl, ok, re, fun w1 x x1 ok1 hm1 rx => ?_⟩
        simp only [RelD] at rx
        subst rx
        refine ⟨w1, r, rfl, ok1, re.ex ok x1.toEx0, ?_⟩
        rw [hm1, e1]
        intro w2 y x2 ok2 hm2 ry
        have re2 := (re.ex ok x1.toEx0).ex ok1 x2.toEx0
        refine pairs_sem (ps := ps) ok2 re2 (by rw [hm2]; exact e2) fun w3 vs x3 ok3 hm3 rvs => ?_
        exact hk w3 (y :: vs) ((x1.trans x2).trans x3) ok3 hm3 (.cons (ry.ex ok2 x3.toEx0) rvs)
def nodupS : List Str → Bool
  | [] => true
  | x :: xs => !xs.contains x && nodupS xs
def fDct (ps : List (Str × FE)) : FE := fun r m => match dctL ps r m with
  | .ok ds m => if (nodupS (ps.map (·.1)) && decide (ps.length ≤ 15)) = true then .ok (.dct (ps.map (·.1)) ds) m else .stk
  | _ => .stk
theorem dctL_len {r : Lc} : ∀ {ps : List (Str × FE)} {m m' : List O} {ds : List D}, dctL ps r m = .ok ds m' → ds.length = ps.length
  | [], _, _, _, h => by cases h; rfl
  | p :: ps, m, m', ds, h => by
    simp only [dctL] at h
    cases e1 : p.2 r m with
    | stk => rw [e1] at h; cases h
    | ex c mm => rw [e1] at h; cases h
    | ok d m1 =>
      rw [e1] at h
      simp only at h
      cases e2 : dctL ps r m1 with
      | stk => rw [e2] at h; cases h
      | ex c mm => rw [e2] at h; cases h
      | ok ds' m2 =>
        rw [e2] at h
        cases h
        simp [dctL_len e2]
theorem merge_zip : ∀ {ks : List Str} {vs : List V} {acc : List (Key × V)}, nodupS ks = true → (∀ x ∈ ks, ∀ p ∈ acc, p.1 ≠ (Sum.inr x : Key)) → vs.length = ks.length → mergeK acc (kz ks vs) = acc ++ kz ks vs
  | [], vs, acc, _, _, _ => by simp [mergeK, kz]
  | x :: ks, [], acc, _, _, hl => by simp at hl
  | x :: ks, v :: vs, acc, hn, hd, hl => by
    simp only [nodupS, Bool.and_eq_true] at hn
    have hnx : x ∉ ks := by simpa using hn.1
    have hput : putK acc (Sum.inr x : Key) v = acc ++ [((Sum.inr x : Key), v)] := by
      refine putK_new v ?_
      unfold valV
      rw [Option.map_eq_none_iff, List.find?_eq_none]
      intro p hp
      simpa using hd x List.mem_cons_self p hp
    show mergeK (putK acc (Sum.inr x : Key) v) (kz ks vs) = _
    rw [hput, merge_zip hn.2 (fun y hy p hp => ?_) (by simpa using hl)]
    · simp [kz]
    · rcases List.mem_append.mp hp with q | q
      · exact hd y (List.mem_cons_of_mem _ hy) p q
      · simp at q
        subst q
        intro e
        cases e
        exact hnx hy
theorem kz_map : ∀ (ks : List Str) (vs : List V), (ks.map V.str).zip vs = (kz ks vs).map fun kv => (kV kv.1, kv.2)
  | [], vs => by simp [kz]
  | k :: ks, [] => by simp [kz]
  | k :: ks, v :: vs => by
    have := kz_map ks vs
    unfold kz at this ⊢
    simp only [List.map_cons, List.zip_cons_cons, this]
    rfl
theorem v_dct {keys : List (Option Expr)} {values : List Expr} {ps : List (Str × FE)} (h : PPs X pos keys values (trsOf (tx X) W ps)) (hall : keys.all (·.isSome) = true := by rfl) (hl : keys.length = values.length := by rfl) (h0 : keys ≠ [] := by intro z; cases z) (h15 : keys.length ≤ 15 := by decide) :
    PE X (.Dict keys values pos) (rd (tx X) W (fDct ps)) := by
  refine pe_imp (pe_disp h hall hl h0 h15) ?_
  rintro σ H Q ⟨w, l, rfl, ok, re, h⟩
  intro p hp
  have hx : Ex0 w (w.hide p (.dK [])) := hide_ex ok hp
  have hok : Ok (tx X) (w.hide p (.dK [])) := hide_ok ok hp trivial
  cases e1 : dctL ps l w.mu with
  | stk => simp only [fDct, e1] at h; exact h.elim
  | ex c mm => simp only [fDct, e1] at h; exact h.elim
  | ok ds m1 =>
    simp only [fDct, e1] at h
    split at h
    case isFalse => exact h.elim
    rename_i hn
    rw [Bool.and_eq_true, decide_eq_true_eq] at hn
    refine pairs_sem (w := w.hide p (.dK [])) hok (re.ex ok hx) e1 fun w1 vs x1 ok1 hm1 rvs => ?_
    have hh : w1.hid p := by rw [x1.hidE]; exact .inl rfl
    have hp1 : w1.H p = some (.dK []) := (x1.hidK p (.inl rfl)).trans upd_same
    have hlen : vs.length = (ps.map (·.1)).length := by rw [rvs.length, dctL_len e1, List.length_map]
    have hz : ((ps.map fun p => V.str p.1).zip vs) = (kz (ps.map (·.1)) vs).map fun kv => (kV kv.1, kv.2) := by
      rw [← kz_map, List.map_map]; rfl
    refine ⟨hp1, kz (ps.map (·.1)) vs, hz, ?_, ?_⟩
    · unfold kz
      rw [List.length_zip]
      simp only [List.length_map]
      omega
    · rw [merge_zip hn.1 (fun _ _ p hp => by simp at hp) hlen, List.nil_append]
      have x2 : Ex0 w1 (w1.lay p (.dK (kz (ps.map (·.1)) vs))) := over_ex hh
      have ok2 := over_ok (o := .dK (kz (ps.map (·.1)) vs)) ok1 hh trivial
      have hs : ∀ a, w.hid a → (w1.lay p (.dK (kz (ps.map (·.1)) vs))).hid a := fun a ha => by
        show w1.hid a
        rw [x1.hidE]; exact .inr ha
      have x3 := show_ex hs
      have ok3 := show_ok ok2 hs
      have exa : Ex w ((w1.lay p (.dK (kz (ps.map (·.1)) vs))).show_ w.hid) :=
        ⟨((hx.trans x1.toEx0).trans x2).trans x3, rfl, fun a ha => by
          have ne : a ≠ p := hid_ne ok hp ha
          show upd w1.H p _ a = w.H a
          rw [upd_ne ne]
          have := x1.hidK a (.inr ha)
          rw [this]
          exact upd_ne ne⟩
      refine h _ (.ref p) exa ok3 hm1 ?_
      simp only [RelD]
      refine ⟨p, vs, rfl, .inl upd_same, hlen, ?_, (rvs.ex ok1 x2).ex ok2 x3⟩
      rintro (q | ⟨n, hn2, _⟩)
      · exact not_hid ok hp q
      · exact ok1.hidN p (List.mem_of_getElem? hn2) hh
/-- {} -/
def fDnew : FE := fun _ m => .ok (.loc m.length) (m ++ [.dct [] []])
def fDnil : FE := fun _ m => .ok (.dct [] []) m
theorem v_dnil : PE X (.Dict [] [] pos) (rd (tx X) W fDnil) := by
  refine pe_imp pe_dnewK ?_
  rintro σ H Q ⟨w, l, rfl, ok, re, h⟩ p hp
  exact h (w.lay p (.dK [])) (.ref p) (lay_ex ok hp) (lay_ok ok hp) rfl (by simp only [RelD]; exact ⟨p, [], rfl, .inl upd_same, rfl, not_live ok hp, .nil⟩)
theorem new_locD {W : Str → Wo → Prop} {w : Wo} {ks : List Str} {ds : List D} {vs : List V} {Q : VK} (ok : Ok T w) (r : RelDs T w ds vs) (hl : vs.length = ks.length) (h : Post T (RelD T) W w (.ok (.loc w.mu.length) (w.mu ++ [.dct ks ds])) Q) (p : Addr) (hp : w.H p = none) : Q (.ref p) (upd w.H p (.dK (kz ks vs))) :=
  h (w.new p (.dK (kz ks vs)) (.dct ks ds)) (.ref p) (new_ex ok hp) (new_ok ok hp ⟨vs, upd_same, hl, r.ex ok (new_ex ok hp).toEx0⟩) rfl (by
    simp only [RelD]; refine ⟨p, rfl, ?_⟩
    show (w.bt ++ [p])[w.mu.length]? = some p
    rw [ok.len]; simp)
theorem v_dnew : PE X (.Dict [] [] pos) (rd (tx X) W fDnew) := by
  refine pe_imp pe_dnewK ?_
  rintro σ H Q ⟨w, l, rfl, ok, re, h⟩ p hp
  exact new_locD ok (ks := []) (vs := []) .nil rfl h p hp
end FR
set_option Elab.async false
set_option linter.all false
set_option maxRecDepth 100000
set_option maxHeartbeats 4000000
/-! ## dicts: stores, copies, keys; insert; enumerate -/
namespace FR
open PySem PySem.Spec L2
set_option autoImplicit false
variable {X : Cx} {T : Tx} {W : WX} {f g h : FE} {fa : FA} {ft gt : FT} {a b c e o tg iter : Expr} {es rest : List Expr} {pos : Pos} {k : Nat} {st0 : Stmt} {sts : List Stmt} {m m' : FS}

/-! ### d[k] = v -/
@[reducible] def putDK (x : Str) (ks : List Str) : List Str := if ks.contains x = true then ks else ks ++ [x]
@[reducible] def repl {α : Type} (x : Str) (d : α) : List Str → List α → List α
  | k :: ks, v :: vs => (if k = x then d else v) :: repl x d ks vs
  | _, _ => []
@[reducible] def putDV {α : Type} (x : Str) (d : α) (ks : List Str) (vs : List α) : List α := if ks.contains x = true then repl x d ks vs else vs ++ [d]
theorem repl_zip {x : Str} {v : V} : ∀ {ks : List Str} {vs : List V}, vs.length = ks.length → (kz ks vs).map (fun kv => if kv.1 = (Sum.inr x : Key) then (kv.1, v) else kv) = kz ks (repl x v ks vs) ∧ (repl x v ks vs).length = ks.length
  | [], vs, h => by simp [kz, repl]
  | k :: ks, [], h => by simp at h
  | k :: ks, u :: vs, h => by
    obtain ⟨i1, i2⟩ := repl_zip (x := x) (v := v) (ks := ks) (vs := vs) (by simpa using h)
    unfold kz at i1 ⊢
    refine ⟨?_, by simp [i2]⟩
    simp only [List.map_cons, List.zip_cons_cons, i1]
    by_cases q : k = x
    · subst q; simp
    · have : (Sum.inr k : Key) ≠ Sum.inr x := fun e => q (by cases e; rfl)
      simp [q]
theorem any_zip {x : Str} : ∀ {ks : List Str} {vs : List V}, vs.length = ks.length → ((kz ks vs).any fun kv => decide (kv.1 = (Sum.inr x : Key))) = ks.contains x
  | [], vs, h => by simp [kz]
  | k :: ks, [], h => by simp at h
  | k :: ks, u :: vs, h => by
    have i := any_zip (x := x) (ks := ks) (vs := vs) (by simpa using h)
    unfold kz at i ⊢
    simp only [List.map_cons, List.zip_cons_cons, List.any_cons, i, List.contains_cons]
    congr 1
    by_cases q : k = x
    · subst q; simp
    · have : (Sum.inr k : Key) ≠ Sum.inr x := fun e => q (by cases e; rfl)
      simp [q, Ne.symm q]
theorem putK_zip {x : Str} {v : V} {ks : List Str} {vs : List V} (h : vs.length = ks.length) : putK (kz ks vs) (Sum.inr x : Key) v = kz (putDK x ks) (putDV x v ks vs) ∧ (putDV x v ks vs).length = (putDK x ks).length := by
  unfold putK
  rw [any_zip h]
  by_cases q : ks.contains x = true
  · obtain ⟨i1, i2⟩ := repl_zip (x := x) (v := v) h
    refine ⟨?_, ?_⟩
    · rw [if_pos q]
      simp only [putDK, putDV, if_pos q]
      exact i1
    · simp only [putDK, putDV, if_pos q]; exact i2
  · refine ⟨?_, ?_⟩
    · rw [if_neg q]
      simp only [putDK, putDV, if_neg q]
      unfold kz
      rw [List.map_append, List.zip_append (by simp [h])]
      rfl
    · simp only [putDK, putDV, if_neg q]; simp [h]
theorem repl_rel {w : Wo} {x : Str} {d : D} {v : V} (r : RelD T w d v) : ∀ {ks : List Str} {ds : List D} {vs : List V}, RelDs T w ds vs → RelDs T w (repl x d ks ds) (repl x v ks vs)
  | [], ds, vs, h => by simp only [repl]; exact .nil
  | k :: ks, [], vs, h => by simp only [RelDs] at h; subst h; exact .nil
  | k :: ks, e :: ds, vs, h => by
    simp only [RelDs] at h
    obtain ⟨u, l, rfl, h1, h2⟩ := h
    simp only [repl]
    by_cases q : k = x
    · rw [if_pos q, if_pos q]; exact .cons r (repl_rel r h2)
    · rw [if_neg q, if_neg q]; exact .cons h1 (repl_rel r h2)
theorem putDV_rel {w : Wo} {x : Str} {d : D} {v : V} (r : RelD T w d v) {ks : List Str} {ds : List D} {vs : List V} (h : RelDs T w ds vs) : RelDs T w (putDV x d ks ds) (putDV x v ks vs) := by
  by_cases q : ks.contains x = true
  · simp only [putDV, if_pos q]; exact repl_rel r h
  · simp only [putDV, if_neg q]; exact h.append (.cons r .nil)
def gPutD (o i d : D) (m : List O) : Option (List O) := match i with
  | .str x => match o with
    | .loc n => match m[n]? with
      | some (.dct ks vs) => if ks.length < 16777216 then some (m.set n (.dct (putDK x ks) (putDV x d ks vs))) else none
      | _ => none
    | _ => none
  | _ => none
def sPutD (fo fi f : FE) : FS := fun r m => (f r m).sq r fun d m => (fo r m).sq r fun o m => (fi r m).sq r fun i m => match gPutD o i d m with
  | some m => .ok (.nx r) m
  | none => .stk
theorem s_putD {o' : Expr} {i : Expr} {p' : Pos} {fo fi : FE} (hr : Room k X.A) (ho : PE X o' (rd (tx X) W fo)) (hi : PE X i (rd (tx X) W fi)) (he : PE X e (rd (tx X) W f))
    (ha : ∀ v, assign (.Subscript o' i p') X.env v = (do
      let ov ← holding [v] (eval o' X.env)
      let iv ← holding [v, ov] (eval i X.env)
      standAt p'
      holding [v, ov, iv] (setItem ov iv v)
      release [v, ov, iv] []) := by intro _; rfl)
    (hs : swapsWithSole [.Subscript o' i p'] e pos.line X.env = pure false := by rfl) (hw : swappedStores [.Subscript o' i p'] e X.env = pure none := by rfl)
    (h1 : (assignEach [.Subscript o' i p'] X.env).map (·.2) = [assign (.Subscript o' i p') X.env] := by rfl) :
    PS X (.Assign [.Subscript o' i p'] e pos) (rdS (tx X) W (sPutD fo fi f)) := by
  refine ps_imp (ps_asg he (pg_sub ho hi (set_dict (hu_of hr)) ha) hs hw h1) ?_
  rintro E s H ⟨w, r, rfl, ok, re, h⟩
  refine go_s ok re h fun d w1 v x1 ok1 re1 r1 h1 => ?_
  refine go_s ok1 re1 h1 fun o w2 ov x2 ok2 re2 r2 h2 => ?_
  refine go_s ok2 re2 h2 fun i w3 iv x3 ok3 re3 r3 h3 => ?_
  split at h3
  · rename_i mm hg
    unfold gPutD at hg
    split at hg
    · rename_i x
      split at hg
      · rename_i n
        split at hg
        · rename_i ks ds hm
          split at hg
          · rename_i hl
            cases hg
            simp only [RelD] at r3; subst r3
            have ro := r2.ex ok2 x3.toEx0
            simp only [RelD] at ro
            obtain ⟨p, rfl, hb⟩ := ro
            have rv := (r1.ex ok1 x2.toEx0).ex ok2 x3.toEx0
            obtain ⟨vs, hv, hlen, rvs⟩ := ok3.obj _ _ _ hm hb
            obtain ⟨e1, e2⟩ := putK_zip (x := x) (v := v) hlen
            have x4 : Ex w3 (w3.put n p (.dK (kz (putDK x ks) (putDV x v ks vs))) (.dct (putDK x ks) (putDV x d ks ds))) := put_ex ok3 hb hm (by simp)
            have ok4 := put_ok (o := .dK (kz (putDK x ks) (putDV x v ks vs))) (u := .dct (putDK x ks) (putDV x d ks ds)) ok3 hb hm (by simp) ⟨_, upd_same, e2, (putDV_rel rv rvs).ex ok3 x4.toEx0⟩
            refine ⟨p, _, rfl, .inl ⟨kz ks vs, Sum.inr x, hv, rfl, ?_, rfl⟩, ?_⟩
            · unfold kz; rw [List.length_zip, List.length_map, sizeLine_eq]; omega
            · rw [e1]
              exact h3 _ _ x4 ok4 rfl (re3.ex ok3 x4.toEx0)
          · cases hg
        · cases hg
      · cases hg
    · cases hg
  · exact h3.elim

/-! ### dict(d), list(d), type(d) -/
def bDictN : List D → List O → Rs D := fun ds m => match ds with
  | [d] => match derefD d m with
    | some p => .ok (.loc m.length) (m ++ [.dct p.1 p.2])
    | none => .stk
  | _ => .stk
def bDict : List D → List O → Rs D := fun ds m => match ds with
  | [d] => match derefD d m with
    | some p => .ok (.dct p.1 p.2) m
    | none => .stk
  | _ => .stk
theorem cb_dictN : Cb X (.type "dict") bDictN := by
  refine ⟨_, call_dictD, fun W w ds vs Q ok r h => ?_⟩
  unfold bDictN at h
  split at h
  · split at h
    · rename_i p hp
      replace r := r.one; obtain ⟨v, rfl, r⟩ := r
      obtain ⟨A, us, rfl, hA, hl, rvs⟩ := derefD_ok ok r (ks := p.1) (ds := p.2) hp
      exact ⟨A, _, rfl, hA, fun q hq => new_locD ok rvs hl h q hq⟩
    · exact h.elim
  · exact h.elim
theorem cb_dict : Cb X (.type "dict") bDict := by
  refine ⟨_, call_dictD, fun W w ds vs Q ok r h => ?_⟩
  unfold bDict at h
  split at h
  · split at h
    · rename_i p hp
      replace r := r.one; obtain ⟨v, rfl, r⟩ := r
      obtain ⟨A, us, rfl, hA, hl, rvs⟩ := derefD_ok ok r (ks := p.1) (ds := p.2) hp
      refine ⟨A, _, rfl, hA, fun q hq => ?_⟩
      exact h (w.lay q (.dK (kz p.1 us))) (.ref q) (lay_ex ok hq) (lay_ok ok hq) rfl (by simp only [RelD]; exact ⟨q, us, rfl, .inl upd_same, hl, not_live ok hq, rvs.ex ok (lay_ex ok hq).toEx0⟩)
    · exact h.elim
  · exact h.elim
theorem strs_rel {w : Wo} : ∀ (ks : List Str), RelDs T w (ks.map D.str) (ks.map V.str)
  | [] => .nil
  | k :: ks => .cons (by simp only [RelD]) (strs_rel ks)
theorem keys_zip {ks : List Str} {vs : List V} (h : vs.length = ks.length) : ((kz ks vs).map fun kv => kV kv.1) = ks.map V.str := by
  induction ks generalizing vs with
  | nil => simp [kz]
  | cons k ks ih =>
    cases vs with
    | nil => simp at h
    | cons v vs =>
      have := ih (vs := vs) (by simpa using h)
      unfold kz at this ⊢
      simp only [List.map_cons, List.zip_cons_cons, this]
      rfl
def bListD : List D → List O → Rs D := fun ds m => match ds with
  | [d] => match derefD d m with
    | some p => .ok (.lst (p.1.map D.str)) m
    | none => .stk
  | _ => .stk
def bListA : List D → List O → Rs D := fun ds m => match ds with
  | [.dct ks vs] => bListD [.dct ks vs] m
  | ds => bList ds m
theorem cb_listA (hc : X.calm = true) : Cb X (.type "list") bListA := by
  refine ⟨_, callr_or call_list_of (call_listD hc), fun W w ds vs Q ok r h => ?_⟩
  unfold bListA at h
  split at h
  · rename_i ks ds'
    right
    have h' : Post (tx X) (RelD (tx X)) W w (bListD [.dct ks ds'] w.mu) Q := h
    simp only [bListD, derefD] at h'
    replace r := r.one; obtain ⟨v, rfl, r⟩ := r
    obtain ⟨A, us, rfl, hA, hl, rvs⟩ := derefD_ok ok r (ks := ks) (ds := ds') rfl
    refine ⟨A, _, rfl, hA, fun q hq => ?_⟩
    rw [keys_zip hl]
    exact new_lst ok (strs_rel ks) h' q hq
  · left
    unfold bList at h
    split at h
    · split at h
      · rename_i xs ex
        replace r := r.one; obtain ⟨v, rfl, r⟩ := r
        obtain ⟨p, us, rfl, q1, q2⟩ := derefS_ok ok r ex
        exact ⟨p, us, rfl, q1, new_lst ok q2 h⟩
      · exact h.elim
    · exact h.elim
theorem call_typeD : CallR X (.type "type") (fun xs H Q => ∃ (a : Addr) (kvs : List (Key × V)), xs = [.ref a] ∧ Rd H a (.dK kvs) ∧ Q (.ty "dict") H) := by
  intro pins s σ H xs us Q I r h
  obtain ⟨a, kvs, rfl, hd, q⟩ := h
  obtain ⟨u, rfl, rx⟩ := vals1 r
  cases rx
  have ht : s.TypeIs (.ref a) "dict" := by
    rcases hd with e | ⟨o, e⟩
    · exact TyB.is (x := .ref a) (u := .ref a) I rfl (.dK e)
    · obtain ⟨_, hx, hexact, _⟩ := I.frzK e
      exact ⟨o, hx, hexact.1⟩
  exact call_type_of ht (by decide +kernel) ⟨.ty "dict", H, I, rfl, q⟩
def bTypeA : List D → List O → Rs D := fun ds m => match ds with
  | [.dct _ _] => .ok (.ty "dict") m
  | ds => bType ds m
theorem cb_typeA : Cb X (.type "type") bTypeA := by
  obtain ⟨r0, h0, s0⟩ := cb_type (X := X)
  refine ⟨_, callr_or h0 call_typeD, fun W w ds vs Q ok r h => ?_⟩
  unfold bTypeA at h
  split at h
  · rename_i ks ds'
    right
    replace r := r.one; obtain ⟨v, rfl, r⟩ := r
    obtain ⟨A, us, rfl, hA, hl, rvs⟩ := derefD_ok ok r (ks := ks) (ds := ds') rfl
    exact ⟨A, _, rfl, hA, h.now ok (by simp only [RelD])⟩
  · exact .inl (s0 W w ds vs Q ok r h)

/-! ### for k in d: the dict is locked from then on -/
def tLockV (t : TE) : TE := fun σ H Q => t σ H fun x H1 => ∃ d kvs, x = .ref d ∧ ((H1 d = some (.dK kvs) ∧ ∀ od, Q x (upd H1 d (.frz od (.dK kvs)))) ∨ ((∃ od, H1 d = some (.frz od (.dK kvs))) ∧ Q x H1))
theorem pe_lockV {t : TE} (h : PE X e t) : PE X e (tLockV t) := by
  refine ⟨fun pins s σ H Q I hw => ?_⟩
  refine thn (h.run pins s σ H _ I hw) fun u s1 ⟨x, H1, I1, rx, d, kvs, ex, q⟩ => ?_
  subst ex
  rcases q with ⟨hd, q⟩ | ⟨_, q⟩
  · obtain ⟨od, I2⟩ := I1.lock hd trivial
    exact ⟨.ref d, _, I2, rx, q od⟩
  · exact ⟨.ref d, H1, I1, rx, q⟩
theorem lock_ex {w : Wo} {d : Addr} {kvs : List (Key × V)} {od : Obj} (hd : w.H d = some (.dK kvs)) (nl : ¬ Live w d) : Ex w (w.lay d (.frz od (.dK kvs))) := by
  refine ⟨⟨⟨[], by simp [Wo.lay]⟩, fun a q => ?_, fun a u q _ => ?_, fun a _ q => q⟩, rfl, fun a ha => upd_ne fun e => nl (.inl (e ▸ ha))⟩
  · show upd w.H d _ a ≠ none
    unfold upd; split
    · simp
    · exact q
  · by_cases e : a = d
    · subst e
      cases u with
      | dK xs =>
        rcases q with q | ⟨o, q⟩
        · rw [hd] at q; cases q
          exact .inr ⟨od, upd_same⟩
        · rw [hd] at q; cases q
      | tup xs =>
        rcases q with q | ⟨o, q⟩ <;> (rw [hd] at q; cases q)
      | lst xs => rw [show Stb w.H a (.lst xs) = (w.H a = some (.lst xs)) from rfl, hd] at q; cases q
      | frz o u => rw [show Stb w.H a (.frz o u) = (w.H a = some (.frz o u)) from rfl, hd] at q; cases q
      | ins C dx fs => rw [show Stb w.H a (.ins C dx fs) = (w.H a = some (.ins C dx fs)) from rfl, hd] at q; cases q
      | _ => exact q.elim
    · exact Stb.upd e q
theorem lock_ok {w : Wo} (ok : Ok T w) {d : Addr} {kvs : List (Key × V)} {od : Obj} (hd : w.H d = some (.dK kvs)) (nl : ¬ Live w d) : Ok T (w.lay d (.frz od (.dK kvs))) := by
  have x := lock_ex (od := od) hd nl
  refine ⟨fun a ha => ?_, ok.hidN, ok.len, ok.nd, fun a ha => x.some_ a (ok.tr a ha), fun n o a hm hb => ?_⟩
  · obtain ⟨o, e, q⟩ := ok.hidT a ha
    exact ⟨o, (x.hidK a ha).trans e, q⟩
  · by_cases hdd : o = .dead
    · subst hdd; trivial
    · refine RelOb.ex ok x.toEx0 (ok.obj n o a hm hb) ?_
      exact upd_ne fun e => nl (.inr ⟨n, e ▸ hb, o, hm, hdd⟩)
theorem iter_keys_ok {w0 : Wo} {d : Addr} {od : Obj} {ks : List Str} {vs : List V} (hd : w0.H d = some (.frz od (.dK (kz ks vs)))) (nl : ¬ Live w0 d) (hl : vs.length = ks.length) : IterOk T (Itk d od (kz ks vs)) w0 (ks.map D.str) := by
  intro w ex ok
  have hd' : w.H d = some (.frz od (.dK (kz ks vs))) := ex.keep d (.frz od (.dK (kz ks vs))) hd nl
  have hlen : (kz ks vs).length = ks.length := by unfold kz; rw [List.length_zip, List.length_map, hl, Nat.min_self]
  refine ⟨fun i x hx => ?_, fun i hi => ⟨hd', by rw [hlen]; simpa using hi⟩⟩
  rw [List.getElem?_map] at hx
  cases e : ks[i]? with
  | none => rw [e] at hx; cases hx
  | some kk =>
    rw [e] at hx
    cases hx
    have hi := (List.getElem?_eq_some_iff.mp e).1
    refine ⟨⟨hd', by rw [hlen]; exact hi⟩, fun v H' y => ?_⟩
    obtain ⟨y1, k2, v2, y2, rfl⟩ := y
    refine yld_same ok y1 ?_
    unfold kz at y2
    rw [List.getElem?_zip_eq_some] at y2
    rw [List.getElem?_map, e] at y2
    obtain ⟨z1, _⟩ := y2
    cases z1
    simp only [RelD]
    rfl
def iKeysD (f : FE) : FI := fun r m => (f r m).bind fun d m => match d with
  | .dct ks _ => .ok (ks.map D.str) m
  | _ => .stk
theorem i_keysD (he : PE X e (rd (tx X) W f)) : PI X tg e (rdI (tx X) W (iKeysD f)) := by
  refine pi_imp (pi_keys (pe_lockV he)) ?_
  rintro σ H R ⟨w, l, rfl, ok, re, h⟩
  show rd (tx X) W f σ w.H _
  refine ⟨w, l, rfl, ok, re, ?_⟩
  cases e1 : f l w.mu with
  | stk => rw [iKeysD, e1] at h; exact h
  | ex c m => rw [iKeysD, e1] at h; exact h
  | ok d m =>
    rw [iKeysD, e1] at h
    simp only [Rs.bind] at h
    cases d with
    | dct ks ds =>
      intro w1 v x1 ok1 hm r1
      simp only [RelD] at r1
      obtain ⟨A, vs, rfl, hA, hl, nl, rvs⟩ := r1
      rcases hA with hA | ⟨od, hA⟩
      · refine ⟨A, _, rfl, .inl ⟨hA, fun od => ⟨A, od, rfl, .inl ⟨_, upd_same, ?_⟩⟩⟩⟩
        have x2 := lock_ex (od := od) hA nl
        have ok2 := lock_ok (od := od) ok1 hA nl
        exact h (w1.lay A (.frz od (.dK _))) _ (x1.trans x2) ok2 hm (iter_keys_ok upd_same nl hl)
      · exact ⟨A, _, rfl, .inr ⟨⟨od, hA⟩, A, od, rfl, .inl ⟨_, hA, h w1 _ x1 ok1 hm (iter_keys_ok hA nl hl)⟩⟩⟩
    | _ => exact h.elim

/-! ### xs.insert(i, y) -/
def fIns (fo : FE) (fa : FA) : FE := fun r m => (fo r m).bind fun o m => match derefL o m with
  | none => .stk
  | some _ => (fa r m).bind fun ds m => match o, ds with
    | .loc n, [.int i, d] => match m[n]? with
      | some (.lst xs) => if xs.length < 16777216 ∧ 0 ≤ i ∧ i < 4611686018427387904 then .ok .non (m.set n (.lst (xs.take i.toNat ++ [d] ++ xs.drop i.toNat))) else .stk
      | _ => .stk
    | _, _ => .stk
theorem v_ins {apos cpos : Pos} {fo : FE} (ho : PE X o (rd (tx X) W fo)) (ha : PA X (e :: es) (rdA (tx X) W fa))
    (hbase : attributeBase o "insert" X.env (eval o X.env) = eval o X.env := by rfl)
    (hfew : ((backTo cpos (starEach (e :: es) X.env)).all (fun x => !x.1) && (backToKw cpos (keywordEach [] X.env)).all (fun x => x.1.isSome)
      && decide ((e :: es).length + ([] : List Keyword).length + (if ([] : List Keyword).isEmpty then 0 else 1) < 30)) = true := by rfl)
    (hline : (apos.endLine == cpos.line) = true := by rfl) (hs : starEach (e :: es) X.env = (false, eval e X.env) :: starEach es X.env := by rfl) (hplain : (backTo cpos (starEach es X.env)).any (·.1) = false := by rfl) :
    PE X (.Call (.Attribute o "insert" apos) (e :: es) [] cpos) (rd (tx X) W (fIns fo fa)) := by
  refine pe_imp (pe_bm PySem.F.plainAttrs_list PySem.F.slot_list_insert PySem.F.type_list_insert mt_insert ho ha hbase hfew hline hs hplain) ?_
  rintro σ H Q ⟨w, l, rfl, ok, re, h⟩
  refine go_e ok re h fun d w1 v e1 ok1 re1 r1 h1 => ?_
  split at h1
  · exact h1.elim
  · rename_i xs0 hx0
    refine ⟨tyV_lst ok1 r1 hx0, ?_⟩
    refine go_a ok1 re1 h1 fun ds w2 vs e2 ok2 re2 r2 h2 => ?_
    split at h2
    · rename_i n i d'
      split at h2
      · rename_i xs hm
        split at h2
        · rename_i hl
          have r1' := r1.ex ok1 e2.toEx0
          simp only [RelD] at r1'
          obtain ⟨p, rfl, hb⟩ := r1'
          obtain ⟨u1, u2, rfl, q1, q2⟩ := r2.two
          simp only [RelD] at q1; subst q1
          obtain ⟨us, hv, rvs⟩ := ok2.obj _ _ _ hm hb
          obtain ⟨x4, ok4⟩ := put_lst ok2 hb hm (((rvs.take i.toNat).append (.cons q2 .nil)).append (rvs.drop i.toNat))
          exact ⟨p, us, i, u2, rfl, rfl, hv, by rw [sizeLine_eq, rvs.length]; exact hl.1, hl.2.1, by omega, h2 _ _ x4 ok4 rfl (by simp only [RelD])⟩
        · exact h2.elim
      · exact h2.elim
    · exact h2.elim

/-! ### enumerate of a list -/
@[reducible] def enumD : Nat → List D → List D
  | _, [] => []
  | n, d :: ds => .tup [.int (n : Nat), d] :: enumD (n + 1) ds
theorem enumD_get : ∀ {ds : List D} {n i : Nat} {x : D}, (enumD n ds)[i]? = some x → ∃ d, ds[i]? = some d ∧ x = .tup [.int ((n + i : Nat) : Int), d]
  | [], n, i, x, h => by simp [enumD] at h
  | d :: ds, n, 0, x, h => by simp [enumD] at h; exact ⟨d, rfl, h.symm⟩
  | d :: ds, n, i + 1, x, h => by
    simp only [enumD, List.getElem?_cons_succ] at h
    obtain ⟨d', h1, h2⟩ := enumD_get h
    exact ⟨d', by simpa using h1, by rw [h2, show n + 1 + i = n + (i + 1) by omega]⟩
theorem enumD_len : ∀ {ds : List D} {n : Nat}, (enumD n ds).length = ds.length
  | [], _ => rfl
  | d :: ds, n => by simp [enumD, enumD_len]
def iEnumD (f : FE) : FI := fun r m => (f r m).bind fun d m => match d with
  | .lst xs => .ok (enumD 0 xs) m
  | _ => .stk
theorem iter_enum {w0 : Wo} {p : Addr} {vs : List V} {ds : List D} (ok0 : Ok T w0) (h : w0.H p = some (.lst vs)) (nl : ¬ Live w0 p) (r : RelDs T w0 ds vs) : IterOk T (Ite T.K p) w0 (enumD 0 ds) := by
  intro w ex ok
  have hp : SqL T.K w.H p vs := SqL.of (ex.keep p (.lst vs) h nl)
  have r' := r.ex ok0 ex
  refine ⟨fun i x hx => ?_, fun i hi => ⟨vs, hp, by rw [r.length]; rw [enumD_len] at hi; exact hi⟩⟩
  obtain ⟨d, hd, rfl⟩ := enumD_get hx
  obtain ⟨v, hv, rv⟩ := r'.get hd
  refine ⟨⟨vs, v, hp, hv⟩, fun y H' hy => ?_⟩
  obtain ⟨t, x', rfl, ht, rfl, fx⟩ := hy
  have g := fx vs hp
  rw [hv] at g; cases g
  exact pair_ok ok ht (by simp only [RelD, Nat.zero_add]) rv
theorem i_enumD {p tpos : Pos} {elts : List Expr} {kk : Nat} (hm : X.mg "enumerate" = none) (he : PE X a (rd (tx X) W f)) (hg : Gl X "enumerate" := by rfl) (hs : starEach [a] X.env = [(false, eval a X.env)] := by rfl) :
    PI X (.Tuple elts kk tpos) (.Call (.Name "enumerate" p) [a] [] pos) (rdI (tx X) W (iEnumD f)) := by
  refine pi_imp (pi_enum hg hm (a_cons he a_nil (hs := hs)) hs) ?_
  rintro σ H R ⟨w, l, rfl, ok, re, h⟩
  show rdA (tx X) W (aCons f aNil) σ w.H _
  refine ⟨w, l, rfl, ok, re, ?_⟩
  cases e1 : f l w.mu with
  | stk => rw [iEnumD, e1] at h; exact h.elim
  | ex c m => rw [iEnumD, e1] at h; simp only [aCons, e1, Rs.bind]; exact h
  | ok d m =>
    rw [iEnumD, e1] at h
    simp only [Rs.bind] at h
    cases d with
    | lst xs =>
      simp only [aCons, aNil, e1, Rs.bind]
      intro w1 vs x1 ok1 hm1 r1
      replace r1 := RelDs.one (show RelDs (tx X) w1 [.lst xs] vs from r1)
      obtain ⟨v, rfl, q1⟩ := r1
      simp only [RelD] at q1
      obtain ⟨A, us, rfl, hA, nl, rvs⟩ := q1
      exact ⟨A, us, rfl, SqL.of hA, h w1 _ x1 ok1 hm1 (iter_enum ok1 hA nl rvs)⟩
    | _ => exact h.elim
theorem set_mid {α : Type} {r : List α} {i j : Nat} {x y z : α} (h : i ≠ j) : ((r.set i x).set j y).set i z = (r.set j y).set i z := by
  rw [List.set_comm _ _ h, List.set_set]
theorem fn_ruleN {P : Program} {w : World} {base : Heap} {x qual : Str} {st : Stmt} {f : Addr} {fd : FuncData} {N ps : List Str} {body : FS} {n nn : Nat} (F : L2.Fun T.K x qual st f fd) (S : FnScope N ps (defScope st)) (hn : ps.length = n) (hnn : N.length = nn)
    (hb : ∀ (cdv : Value) (A : Around) (outer : List Env) (s : Shared) (H : Hp) (E : XK), Room k (A.deeper (PyProof.Rows.envOfC qual (defScope st) s.heap.objs.size f cdv)) →
      PSs (cxF P w T base N qual (defScope st) f cdv A outer s H E) (defBody st) (rdS T (WF E) body)) :
    FnOk P w T.K T.mg base (L2.CX P w) (k + 1) f fd ps (spF T n (runF nn body)) := by
  subst hn hnn
  exact fn_rule F S hb
end FR
set_option Elab.async false
set_option linter.all false
set_option maxRecDepth 100000
set_option maxHeartbeats 4000000
/-! ## Two texts that agree where a slot holds a value; how a law's run is told by the kernel -/
namespace FR
open PySem PySem.Spec L2
set_option autoImplicit false
variable {i j : Nat} {v : D} {A A' B B' : FS} {f f' : FE} {t : FT} {p : Pt} {fi fi' : FI}

def Keep (i : Nat) (v : D) : Rt → Prop
  | .ok (.nx r) _ => r[i]? = some (some v)
  | .ok (.ct r) _ => r[i]? = some (some v)
  | .ok (.bk r) _ => r[i]? = some (some v)
  | _ => True
def Cg (i : Nat) (v : D) (A B : FS) : Prop := ∀ r m, r[i]? = some (some v) → A r m = B r m ∧ Keep i v (A r m)
def Ce (i : Nat) (v : D) (f g : FE) : Prop := ∀ r m, r[i]? = some (some v) → f r m = g r m
theorem ce_rfl : Ce i v f f := fun _ _ _ => rfl
theorem cg_seq (h1 : Cg i v A A') (h2 : Cg i v B B') : Cg i v (sSeq A B) (sSeq A' B') := by
  intro r m hr
  obtain ⟨e, k⟩ := h1 r m hr
  unfold sSeq
  rw [← e]
  cases hA : A r m with
  | stk => exact ⟨rfl, trivial⟩
  | ex c r' m' => exact ⟨rfl, trivial⟩
  | ok fl m' =>
    rw [hA] at k
    cases fl with
    | nx r' => exact h2 r' m' k
    | rt d => exact ⟨rfl, trivial⟩
    | bk r' => exact ⟨rfl, k⟩
    | ct r' => exact ⟨rfl, k⟩
theorem cg_set (hj : j ≠ i) (hf : Ce i v f f') : Cg i v (sSet j f) (sSet j f') := by
  intro r m hr
  unfold sSet
  rw [← hf r m hr]
  refine ⟨rfl, ?_⟩
  cases f r m with
  | stk => exact trivial
  | ex c m' => exact trivial
  | ok d m' =>
    show (r.set j (some d))[i]? = _
    rw [List.getElem?_set_ne hj]; exact hr
theorem cg_exp (hf : Ce i v f f') : Cg i v (sExp f) (sExp f') := by
  intro r m hr
  unfold sExp
  rw [← hf r m hr]
  refine ⟨rfl, ?_⟩
  cases f r m with
  | stk => exact trivial
  | ex c m' => exact trivial
  | ok d m' => exact hr
theorem cg_ret (hf : Ce i v f f') : Cg i v (sRet f) (sRet f') := by
  intro r m hr
  unfold sRet
  rw [← hf r m hr]
  refine ⟨rfl, ?_⟩
  cases f r m <;> exact trivial
theorem cg_nx : Cg i v sNx sNx := fun r m hr => ⟨rfl, hr⟩
theorem cg_if (h1 : Cg i v A A') (h2 : Cg i v B B') : Cg i v (sIf t A B) (sIf t A' B') := by
  intro r m hr
  unfold sIf
  cases t r m with
  | stk => exact ⟨rfl, trivial⟩
  | ex c m' => exact ⟨rfl, trivial⟩
  | ok z m' =>
    cases z with
    | true => exact h1 r m' hr
    | false => exact h2 r m' hr
theorem cg_putD {fo fi f : FE} : Cg i v (sPutD fo fi f) (sPutD fo fi f) := by
  intro r m hr
  refine ⟨rfl, ?_⟩
  unfold sPutD
  cases f r m with
  | stk => exact trivial
  | ex c m' => exact trivial
  | ok d m1 =>
    show Keep i v ((fo r m1).sq r _)
    cases fo r m1 with
    | stk => exact trivial
    | ex c m' => exact trivial
    | ok o m2 =>
      show Keep i v ((fi r m2).sq r _)
      cases fi r m2 with
      | stk => exact trivial
      | ex c m' => exact trivial
      | ok x m3 =>
        show Keep i v (match gPutD o x d m3 with | some m => Rt.ok (.nx r) m | none => .stk)
        split
        · exact hr
        · exact trivial
theorem setAll_keep : ∀ {is : List Nat} {r : Lc} {ds : List D}, i ∉ is → (setAll r is ds)[i]? = r[i]?
  | [], r, ds, _ => by cases ds <;> rfl
  | j :: is, r, [], _ => rfl
  | j :: is, r, d :: ds, h => by
    show (setAll (r.set j (some d)) is ds)[i]? = _
    rw [setAll_keep (fun q => h (List.mem_cons_of_mem _ q)), List.getElem?_set_ne fun e => h (by rw [e]; exact List.mem_cons_self)]
theorem asg_keep {r r' : Lc} {d : D} (hp : i ∉ p.slots) (h : asg p d r = some r') : r'[i]? = r[i]? := by
  unfold asg at h
  split at h
  · cases h
    rw [List.getElem?_set_ne fun e => hp (by simp [Pt.slots, e])]
  · split at h
    · cases h; exact setAll_keep hp
    · cases h
  · split at h
    · cases h; exact setAll_keep hp
    · cases h
  · cases h
theorem cg_asg (hp : i ∉ p.slots) (hf : Ce i v f f') : Cg i v (sAsg p f) (sAsg p f') := by
  intro r m hr
  unfold sAsg
  rw [← hf r m hr]
  refine ⟨rfl, ?_⟩
  cases f r m with
  | stk => exact trivial
  | ex c m' => exact trivial
  | ok d m' =>
    show Keep i v (match asg p d r with | some r' => Rt.ok (.nx r') m' | none => .stk)
    split
    · rename_i r' h
      show r'[i]? = _
      rw [asg_keep hp h]; exact hr
    · exact trivial
theorem forL_cg (hp : i ∉ p.slots) (hb : Cg i v A A') : ∀ ds, Cg i v (forL p A ds) (forL p A' ds)
  | [] => fun r m hr => ⟨rfl, hr⟩
  | d :: ds => fun r m hr => by
    simp only [forL]
    cases ea : asg p d r with
    | none => exact ⟨rfl, trivial⟩
    | some r1 =>
      have hr1 : r1[i]? = some (some v) := by rw [asg_keep hp ea]; exact hr
      obtain ⟨e, k⟩ := hb r1 m hr1
      simp only
      rw [← e]
      cases hA : A r1 m with
      | stk => exact ⟨rfl, trivial⟩
      | ex c r' m' => exact ⟨rfl, trivial⟩
      | ok fl m' =>
        rw [hA] at k
        cases fl with
        | nx r' => exact forL_cg hp hb ds r' m' k
        | ct r' => exact forL_cg hp hb ds r' m' k
        | rt d => exact ⟨rfl, trivial⟩
        | bk r' => exact ⟨rfl, k⟩
theorem cg_for (hp : i ∉ p.slots) (hi : ∀ r m, r[i]? = some (some v) → fi r m = fi' r m) (hb : Cg i v A A') : Cg i v (sFor p fi A) (sFor p fi' A') := by
  intro r m hr
  unfold sFor
  rw [← hi r m hr]
  cases fi r m with
  | stk => exact ⟨rfl, trivial⟩
  | ex c m' => exact ⟨rfl, trivial⟩
  | ok ds m' => exact forL_cg hp hb ds r m' hr
/-- a statement ahead that leaves the slot alone -/
theorem seq_keep {r : Lc} {m : List O} {w : D} (hi : i ≠ j) (hr : r[j]? = some (some w)) (h : ∀ r m, r[j]? = some (some w) → A r m = B r m) : sSeq (sSet i f) A r m = sSeq (sSet i f) B r m := by
  unfold sSeq sSet
  cases f r m with
  | ok d m' => exact h _ _ (by rw [List.getElem?_set_ne hi]; exact hr)
  | ex c m' => rfl
  | stk => rfl
/-- a slot is set to what is known, then -/
theorem seq_known {r : Lc} {m : List O} {d : D} (hf : f r m = .ok d m) (hl : i < r.length) (h : Cg i d A B) : sSeq (sSet i f) A r m = sSeq (sSet i (fC d)) B r m := by
  unfold sSeq sSet
  rw [hf]
  exact (h _ _ (by rw [List.getElem?_set]; simp [hl])).1
def chk : Rs D → Bool
  | .ok (.bl true) _ => true
  | _ => false
theorem chk_ok {x : Rs D} (h : chk x = true) : ∃ m, x = .ok (.bl true) m := by
  cases x with
  | ok d m =>
    cases d with
    | bl b => cases b with
      | true => exact ⟨m, rfl⟩
      | false => cases h
    | _ => cases h
  | ex c m => cases h
  | stk => cases h
/-- how a def's run ends -/
def fin : Rt → Rs D
  | .ok (.nx _) m => .ok .non m
  | .ok (.rt d) m => .ok d m
  | .ok _ _ => .stk
  | .ex c _ m => .ex c m
  | .stk => .stk
theorem runF_fin {n : Nat} {body : FS} (ds : List D) (m : List O) : runF n body ds m = fin (body (ds.map some ++ List.replicate (n - ds.length) none) m) := by
  unfold runF fin
  cases body (ds.map some ++ List.replicate (n - ds.length) none) m with
  | ok f m => cases f <;> rfl
  | ex c r m => rfl
  | stk => rfl
theorem atN' {α : Type} {xs : List α} {i : Int} (h0 : 0 ≤ i) : atI xs i = xs[i.toNat]? := by
  unfold atI ixN
  rw [if_pos h0]
  by_cases h : i < xs.length
  · rw [if_pos h]; rfl
  · rw [if_neg h, Option.bind_none]
    symm
    rw [List.getElem?_eq_none_iff]
    omega
theorem mod_ce {c k : Int} (hk : 0 < k) : Ce i (.int c) (fBin gMod (fVar i) (fC (.int k))) (fC (.int (c % k))) := by
  intro r m h
  have e : fVar i r m = .ok (.int c) m := by unfold fVar; rw [h]
  show (fVar i r m).bind _ = _
  rw [e]
  show (if decide (0 < k) = true then Rs.ok (D.int (c % k)) m else .stk) = _
  rw [if_pos (decide_eq_true hk)]; try rfl
/-! ### expressions that agree -/
def Ca (i : Nat) (v : D) (f g : FA) : Prop := ∀ r m, r[i]? = some (some v) → f r m = g r m
theorem ca_rfl {fa : FA} : Ca i v fa fa := fun _ _ _ => rfl
theorem bind_congr {α β : Type} {x : Rs α} {k k' : α → List O → Rs β} (h : ∀ a m, k a m = k' a m) : x.bind k = x.bind k' := by
  cases x with
  | ok a m => exact h a m
  | ex c m => rfl
  | stk => rfl
theorem ce_bin {o : D → D → List O → Rs D} {g g' : FE} (h1 : Ce i v f f') (h2 : Ce i v g g') : Ce i v (fBin o f g) (fBin o f' g') := fun r m hr => by
  show (f r m).bind _ = (f' r m).bind _
  rw [h1 r m hr]
  refine bind_congr fun a m1 => ?_
  rw [h2 r m1 hr]
theorem ce_un {o : D → List O → Rs D} (h1 : Ce i v f f') : Ce i v (fUn o f) (fUn o f') := fun r m hr => by
  show (f r m).bind _ = (f' r m).bind _
  rw [h1 r m hr]
theorem ca_cons {fa fa' : FA} (h1 : Ce i v f f') (h2 : Ca i v fa fa') : Ca i v (aCons f fa) (aCons f' fa') := fun r m hr => by
  show (f r m).bind _ = (f' r m).bind _
  rw [h1 r m hr]
  refine bind_congr fun a m1 => ?_
  rw [h2 r m1 hr]
theorem ce_cb {o : List D → List O → Rs D} {fa fa' : FA} (h : Ca i v fa fa') : Ce i v (fCB o fa) (fCB o fa') := fun r m hr => by
  show (fa r m).bind _ = (fa' r m).bind _
  rw [h r m hr]
theorem ce_tup {fa fa' : FA} (h : Ca i v fa fa') : Ce i v (fTup fa) (fTup fa') := fun r m hr => by
  show (fa r m).bind _ = (fa' r m).bind _
  rw [h r m hr]
theorem ce_lst {fa fa' : FA} (h : Ca i v fa fa') : Ce i v (fLst fa) (fLst fa') := fun r m hr => by
  show (fa r m).bind _ = (fa' r m).bind _
  rw [h r m hr]
theorem ce_ins {g g' : FE} {fa fa' : FA} (h1 : Ce i v g g') (h : Ca i v fa fa') : Ce i v (fIns g fa) (fIns g' fa') := fun r m hr => by
  show (g r m).bind _ = (g' r m).bind _
  rw [h1 r m hr]
  refine bind_congr fun a m1 => ?_
  simp only [h r m1 hr]
def Cp (i : Nat) (v : D) (f g : FP) : Prop := ∀ r m, r[i]? = some (some v) → f r m = g r m
theorem cp_rfl {q : FP} : Cp i v q q := fun _ _ _ => rfl
theorem cp_so (h : Ce i v f f') : Cp i v (pSo f) (pSo f') := fun r m hr => by
  show (f r m).bind _ = (f' r m).bind _
  rw [h r m hr]
theorem ci_all (h : Ce i v f f') : ∀ r m, r[i]? = some (some v) → iAll f r m = iAll f' r m := fun r m hr => by
  show (f r m).bind _ = (f' r m).bind _
  rw [h r m hr]
theorem ce_sl {lo lo' hi hi' : FP} (h1 : Ce i v f f') (h2 : Cp i v lo lo') (h3 : Cp i v hi hi') : Ce i v (fSl f lo hi) (fSl f' lo' hi') := fun r m hr => by
  show (f r m).bind _ = (f' r m).bind _
  rw [h1 r m hr]
  refine bind_congr fun a m1 => ?_
  rw [h2 r m1 hr]
  refine bind_congr fun b m2 => ?_
  rw [h3 r m2 hr]
theorem seq_keep2 {r : Lc} {m : List O} {w : D} {n : Nat} (hi : i ≠ j) (hr : r[j]? = some (some w)) (hl : n < r.length) (h : ∀ r m, r[j]? = some (some w) → n < r.length → A r m = B r m) : sSeq (sSet i f) A r m = sSeq (sSet i f) B r m := by
  unfold sSeq sSet
  cases f r m with
  | ok d m' => exact h _ _ (by rw [List.getElem?_set_ne hi]; exact hr) (by simpa using hl)
  | ex c m' => rfl
  | stk => rfl
end FR
set_option Elab.async false
set_option linter.all false
set_option maxRecDepth 100000
set_option maxHeartbeats 4000000
/-! ## long tuples by a product -/
namespace FR
open PySem PySem.Spec L2
set_option autoImplicit false
variable {X : Cx} {T : Tx} {W : WX} {f g h : FE} {fa : FA} {ft gt : FT} {a b c e o tg iter : Expr} {es rest : List Expr} {pos : Pos} {k : Nat}
def rRepLong (K : PySem.W.Frag) : R2 := fun u v H Q => ∃ (A : Addr) (n : Int) (vs : List V), u = .ref A ∧ v = .int n ∧ SqT K H A vs ∧ vs ≠ [] ∧ (2 ≤ n ∧ n ≤ 10000 ∧ vs.length ≤ 100) ∧ ∀ p, H p = none → Q (.ref p) (upd H p (.tup (List.replicate n.toNat vs).flatten))
theorem op_repLong : OpR X (binaryOp .Mult) (rRepLong X.K) := by
  intro pins s sg H u v uu vv Q I ru rv h
  obtain ⟨A, n, vs, rfl, rfl, hT, hne, ⟨n1, n2, n3⟩, q⟩ := h
  cases ru
  obtain ⟨tk, rfl⟩ := rv
  obtain ⟨its, r, ⟨⟨oc, od, odt, osl⟩, ho, hc, nn, hd⟩, hs⟩ := I.tuple hT
  simp only at hc hd
  subst hc hd
  have el : its.length = vs.length := r.length.symm
  have e0 : its.toArray.isEmpty = false := by
    cases its with
    | nil => exact absurd (List.eq_nil_of_length_eq_zero el.symm) hne
    | cons _ _ => rfl
  have es : its.toArray.size = vs.length := by rw [List.size_toArray, el]
  have pr : ((its.toArray.size : Nat) : Int) * n ≤ 1000000 := by
    rw [es]
    have : ((vs.length : Nat) : Int) * n ≤ 100 * n := Int.mul_le_mul_of_nonneg_right (by omega) (by omega)
    omega
  have pn : n.toNat * vs.length ≤ 1000000 := by
    have : n.toNat * vs.length ≤ 10000 * 100 := Nat.mul_le_mul (by omega) n3
    omega
  have fl : (List.replicate n.toNat its).flatten.length ≤ sizeLine := by
    rw [PyProof.Rows.lm_len_rep_flat, el, sizeLine_eq]; omega
  have d0 : (decide (n < -(2 ^ 63)) || decide (n ≥ 2 ^ 63)) = false := by
    rw [decide_eq_false (by omega), decide_eq_false (by omega)]; rfl
  have d1 : (its.toArray.isEmpty || n == 1) = false := by
    rw [e0, Bool.false_or, beq_eq_false_iff_ne]; omega
  have d2 : (decide (n ≤ 0) || its.toArray.isEmpty) = false := by
    rw [e0, Bool.or_false, decide_eq_false (by omega)]
  have d4 : Builtin.Tuple.tupleTooMany (((its.toArray.size : Nat) : Int) * n) = false := by
    unfold Builtin.Tuple.tupleTooMany
    rw [sizeLine_eq, decide_eq_false (by omega)]
  have mul := tuple_mulW A its.toArray nn od osl n tk d0 d1 d2 (by omega) d4 (by rw [size_rep, List.size_toArray]; exact fl)
  refine wpAny_binaryOp_repeat_ref (T := "tuple") (U := "int") (by decide) ⟨_, ho, rfl⟩ (fun s' => typeIs_int s' n tk) noFill_tuple_mul F.fills_int_mul F.slot_int_rmul repeat_tuple F.slot_int_index.lookup ?_
  refine call_meets F.slot_int_rmul (typeIs_int s n tk) F.entry_int_rmul (F.args_int_rmul_2 _ _) (int_rmul_tuple n tk A its.toArray nn od osl) ⟨ho, rfl, ⟨_, ho, rfl⟩, ?_⟩
  refine call_meets F.slot_tuple_mul ⟨_, ho, rfl⟩ F.entry_tuple_mul (F.args_tuple_mul_2 _ _) mul ⟨ho, ?_⟩
  rw [size_rep]
  have Hp' := q _ (I.hok.fresh (Nat.le_refl _))
  have ob : ObjOk X.prog X.w (upd H s.heap.objs.size (.tup (List.replicate n.toNat vs).flatten)) (s.heap.push { cls := .type "tuple", data := .seq (List.replicate n.toNat its).flatten.toArray }) s.heap.objs.size (.tup (List.replicate n.toNat vs).flatten) :=
    ⟨by rw [PyProof.Rows.lm_len_rep_flat, sizeLine_eq]; omega, _, r.rep n.toNat, PyProof.Rows.IsTup.new _ _⟩
  exact ⟨.ref s.heap.objs.size, _, I.laid (t' := s.toks) (o := .tup (List.replicate n.toNat vs).flatten) (fun _ _ z => Heap.get?_push_of_some _ z) (Nat.le_refl _) ob, rfl, Hp'⟩
def gMulL : D → D → List O → Rs D := fun a b m => match a, b with
  | .tup xs, .int i => if xs ≠ [] ∧ 2 ≤ i ∧ i ≤ 10000 ∧ xs.length ≤ 100 then .ok (.tup (List.replicate i.toNat xs).flatten) m else .stk
  | _, _ => .stk
theorem v_mulL (ha : PE X a (rd (tx X) W f)) (hb : PE X b (rd (tx X) W g)) : PE X (.BinOp a .Mult b pos) (rd (tx X) W (fBin gMulL f g)) := by
  refine v_bin op_repLong (fun W w d e v u Q ok r1 r2 h => ?_) ha hb
  unfold gMulL at h
  split at h
  · split at h
    · rename_i xs i q
      simp only [RelD] at r1 r2; subst r2
      obtain ⟨p, vs, rfl, q1, q2⟩ := r1
      exact ⟨p, i, vs, rfl, rfl, q1, fun e => q.1 (q2.emp.mp e), ⟨q.2.1, q.2.2.1, by rw [q2.length]; exact q.2.2.2⟩, new_tup ok (q2.rep _) h⟩
    · exact h.elim
  · exact h.elim
end FR
set_option Elab.async false
set_option linter.all false
set_option maxRecDepth 100000
set_option maxHeartbeats 4000000
/-! ## own ==, isinstance with an own class -/
namespace FR
open PySem PySem.Spec L2
set_option autoImplicit false
variable {X : Cx} {T : Tx} {W : WX} {f g h : FE} {fa : FA} {ft gt : FT} {a b c e o tg iter : Expr} {es rest : List Expr} {pos : Pos} {k : Nat}

theorem env0_here {pins : List (Addr × Obj)} {s : Shared} {σ : St} {H : Hp} (I : Inv X pins σ H s) : Env0 X.prog X.w X.K X.mg X.base X.A X.stack s H := I.env0
def rEqO (T : Tx) (C : Addr) (oo : List D → List O → Rs D) : R2 := fun x y H Q => ∃ p dx fs, x = .ref p ∧ H p = some (.ins C dx fs) ∧ ((∃ q dy gs, y = .ref q ∧ H q = some (.ins C dy gs)) ∨ (∃ q ys, y = .ref q ∧ SqT T.K H q ys)) ∧
  spF T 2 oo [x, y] H (fun v H' => ∃ z : Bool, v = .bl z ∧ Q (.bl z) H') (fun _ _ _ => False)
theorem op_eqO {C fa' : Addr} {fd : FuncData} {ps : List Str} {oo : List D → List O → Rs D} (F : FnOk X.prog X.w X.K X.mg X.base (L2.CX X.prog X.w) k fa' fd ps (spF (tx X) 2 oo)) (hm : Meth X.K C "__eq__" fa') (hb : Binds X.K fd ps []) (hr : Room k X.A)
    (ns : PySem.W.subIn X.K (.type "tuple") (.ref C) = some false) : OpR X (compareOp .Eq) (rEqO (tx X) C oo) := by
  intro pins s σ H x y v u Q I rx ry h
  obtain ⟨p, dx, fs, rfl, hp, hy, hsp⟩ := h
  have hl := F.len _ _ _ _ hsp
  cases rx
  obtain ⟨mA, J, _⟩ := ins_get I.hok hp
  obtain ⟨od, J, _⟩ := J.look
  obtain ⟨m, hF⟩ := I.fr
  have run : ∀ q, y = .ref q → u = .ref q → wpAny (model X.prog X.w) X.A (call (.ref fa') [.ref p, .ref q]) (PySem.W.CmpBack (EP X pins σ Q)) X.xe s := by
    rintro q rfl rfl
    have r2 : Vals [V.ref p, V.ref q] [Value.ref p, Value.ref q] := .cons rfl (.cons rfl .nil)
    refine wpAny_call (codeAny_mono (F.run X.A X.stack s H ⟨[.ref p, .ref q], []⟩ [.ref p, .ref q] [.ref p, .ref q] _ _ hr I.env0 (by
      have := hb s [.ref p, .ref q] I.kIn (by simpa using hl)
      simpa using this) r2 hsp) fun r s' hq => ?_)
    cases r with
    | error e =>
      obtain ⟨a, B, H', cls, d, _, _, _, _, _, _, _, hE⟩ := hq
      exact hE.elim
    | ok fl =>
      cases fl with
      | ret w =>
        obtain ⟨z, H', I', rz, b, rfl, q⟩ := I.after hq
        cases rz
        exact ⟨.bl b, H', I', rfl, q⟩
      | next => exact False.elim hq
      | brk => exact False.elim hq
      | cont => exact False.elim hq
  show wpAny (model X.prog X.w) X.A (richCompare .Eq (.ref p) u) (EP X pins σ Q) X.xe s
  rcases hy with ⟨q, dy, gs, rfl, hq⟩ | ⟨q, ys, rfl, hq⟩
  · cases ry
    obtain ⟨mB, J', _⟩ := ins_get I.hok hq
    obtain ⟨od', J', _⟩ := J'.look
    exact PySem.W.cmp_K (op := .Eq) (tb := .ref C) hr.units0 hF I.ok.mod.kin J J'.type (by simp [PySem.W.notFirst]) hm.at_ hm.fn (run q rfl rfl)
  · cases ry
    have ht : PySem.W.Looks (model X.prog X.w) s.heap (typeOf (.ref q)) (.type "tuple") := by
      obtain ⟨its, rv, ⟨o, h1, h2, _⟩, hz⟩ := I.tuple hq
      exact h2 ▸ (PySem.W.Looks.ld h1).andThen .now
    exact PySem.W.cmp_K (op := .Eq) (tb := .type "tuple") hr.units0 hF I.ok.mod.kin J ht (by simp [PySem.W.notFirst, ns]) hm.at_ hm.fn (run q rfl rfl)
@[reducible] def isTup : D → Bool
  | .tup _ => true
  | _ => false
def gEqO (c : Str) (oo : List D → List O → Rs D) : D → D → List O → Rs D := fun a b m => if (isIns c "__eq__" a m && (isIns c "__eq__" b m || isTup b)) = true then (match oo [a, b] m with
  | .ok (.bl z) m => .ok (.bl z) m
  | _ => .stk) else .stk
theorem cm_eqO {c : Str} {oo : List D → List O → Rs D} (F : MtG X.prog X.w (tx X) X.base c "__eq__" k 1 oo) (hr : Room k X.A) (ns : ∀ C, X.mg c = some (.ref C) → PySem.W.subIn X.K (.type "tuple") (.ref C) = some false) : Cm X .Eq (gEqO c oo) := by
  obtain ⟨C, fa', fd, ps, hF, cg, hmt, hb⟩ := F.ex
  refine ⟨_, op_eqO hF hmt hb hr (ns C cg.g), fun W w d e v u Q ok r1 r2 h => ?_⟩
  unfold gEqO at h
  split at h
  case isFalse => exact h.elim
  rename_i hi
  rw [Bool.and_eq_true, Bool.or_eq_true] at hi
  obtain ⟨p, dx, fs, rfl, hp, _⟩ := isIns_ok cg ok r1 hi.1
  refine ⟨p, dx, fs, rfl, hp, ?_, w, [d, e], rfl, ok, .cons r1 (.cons r2 .nil), rfl, ?_⟩
  · rcases hi.2 with q | q
    · obtain ⟨p2, dy, gs, rfl, hp2, _⟩ := isIns_ok cg ok r2 q
      exact .inl ⟨p2, dy, gs, rfl, hp2⟩
    · cases e with
      | tup xs =>
        simp only [RelD] at r2
        obtain ⟨p2, ys, rfl, h2, _⟩ := r2
        exact .inr ⟨p2, ys, rfl, h2⟩
      | _ => cases q
  · cases eo : oo [d, e] w.mu with
    | stk => rw [eo] at h; exact h
    | ex c mm => rw [eo] at h; exact h.elim
    | ok z mm =>
      rw [eo] at h
      cases z with
      | bl b =>
        intro w2 v2 x2 ok2 hm2 r2'
        simp only [RelD] at r2'; subst r2'
        exact ⟨b, rfl, h w2 (.bl b) x2 ok2 hm2 (by simp only [RelD])⟩
      | _ => exact h.elim

/-! ### isinstance(x, C), C an own class -/
def bIsO (c : Str) : List D → List O → Rs D := fun ds m => match ds with
  | [d, .glo x] => if x = c then (if isIns c "__class__" d m = true then .ok (.bl true) m else if isTup d = true then .ok (.bl false) m else .stk) else .stk
  | _ => .stk
theorem cb_isO {c : Str} {C : Addr} (cg : ClG (tx X) c C) (ic : IcG (tx X) C) (k1 : PySem.W.kitOne X.K (.ref C) (.ref C) = some true) (k2 : PySem.W.kitOne X.K (.type "tuple") (.ref C) = some false) : Cb X (.builtin "isinstance") (bIsO c) := by
  refine ⟨_, call_isi, fun W w ds vs Q ok r h => ?_⟩
  unfold bIsO at h
  split at h
  · rename_i d x
    split at h
    case isFalse => exact h.elim
    rename_i hx
    subst hx
    obtain ⟨v, u, rfl, r1, r2⟩ := r.two
    simp only [RelD] at r2
    obtain ⟨A, rfl, hA⟩ := r2
    have e : A = C := by have q : some (Value.ref A) = some (Value.ref C) := hA.symm.trans cg.g; cases q; rfl
    subst e
    split at h
    · rename_i hi
      obtain ⟨p, dx, fs, rfl, hp, _⟩ := isIns_ok cg ok r1 hi
      exact ⟨.ref p, _, _, _, true, rfl, .own _, .base (.ins hp cg.cl ic.ha ic.hn ic.ht ic.hm), k1, h.now ok (by simp only [RelD])⟩
    · split at h
      · rename_i ht
        have et : ∃ t, tyD d w.mu = some t ∧ t = "tuple" := by
          cases d <;> first | exact ⟨_, rfl, rfl⟩ | cases ht
        obtain ⟨t, et, rfl⟩ := et
        exact ⟨v, _, _, _, false, rfl, .own _, tyD_tyx ok r1 et, k2, h.now ok (by simp only [RelD])⟩
      · exact h.elim
  · exact h.elim
end FR
set_option Elab.async false
set_option linter.all false
set_option maxRecDepth 100000
set_option maxHeartbeats 4000000
/-! ## making and methods by themselves -/
namespace FR
open PySem PySem.Spec L2
set_option autoImplicit false
variable {X : Cx} {T : Tx} {W : WX} {f g h : FE} {fa : FA} {ft gt : FT} {a b c e o tg iter : Expr} {es rest : List Expr} {pos : Pos} {k : Nat}

theorem MtG.iso {P : Program} {w : World} {base : Heap} {c x : Str} {k n : Nat} {o : List D → List O → Rs D} (F : MtG P w T base c x k n o) : MtG P w T base c x k n (FR.iso o) := by
  obtain ⟨C, f, fd, ps, h1, h2⟩ := F.ex
  exact ⟨C, f, fd, ps, h1.imp spF_iso, h2⟩
def fMakeI (c : Str) (o : List D → List O → Rs D) (fa : FA) : FE := fun r m => (fa r m).bind fun ds m => if noLocs ds = true then (match o (.loc 0 :: ds) [.ins c [] []] with
  | .ok .non m' => (match m' with
    | .ins c' ns vs :: _ => if noLocs vs = true then .ok (.ins c' ns vs) m else .stk
    | _ => .stk)
  | .ex c _ => .ex c m
  | _ => .stk) else .stk
theorem v_makeI {x : Str} {p : Pos} {n : Nat} {oo : List D → List O → Rs D} (F : MkG X.prog X.w (tx X) X.base x k n oo) (hr : Room (k + 1) X.A) (tk : Takes X W) (ha : PA X (e :: es) (rdA (tx X) W fa)) (hn : ∀ r m, ∀ ds m', fa r m = .ok ds m' → ds.length = n) (hg : Gl X x := by rfl)
    (hdb : (x == ("__debug__" : Str)) = false := by decide) (he : starEach (e :: es) X.env = (false, eval e X.env) :: starEach es X.env := by rfl) (hpl : (backTo pos (starEach es X.env)).any (·.1) = false := by rfl) :
    PE X (.Call (.Name x p) (e :: es) [] pos) (rd (tx X) W (fMakeI x oo fa)) := by
  obtain ⟨C, f, fd, ps, hF, hm, hk, hb⟩ := F.ex
  refine pe_imp (pe_mkS hk hF hr hg hm hb (E := fun σ => WE W σ) (fun σ => passAt tk σ) ha hdb he hpl) ?_
  rintro σ H Q ⟨w, l, rfl, ok, re, h⟩
  refine ⟨w, l, rfl, ok, re, ?_⟩
  unfold fMakeI at h
  cases e1 : fa l w.mu with
  | stk => rw [e1] at h; exact h
  | ex c mm => rw [e1] at h; exact h
  | ok ds mm =>
    rw [e1] at h
    intro w1 vs x1 ok1 hm1 r1
    subst hm1
    simp only [Rs.bind] at h
    split at h
    case isFalse => exact h.elim
    rename_i hnl
    intro a dx ha hdx hne
    -- the world of the call: nothing but the new object
    have ha0 : w1.inn.H a = none := ha
    have hdx0 : w1.inn.H dx = none := hdx
    have ok0 : Ok (tx X) w1.inn := inn_ok ok1
    have r0 : RelDs (tx X) w1.inn ds vs := RelDs.mv (w := w1) (w' := w1.inn) rfl (fun a h => inn_live.mp h) hnl r1
    have xa : Ex w1.inn (w1.inn.lay dx (.own a)) := lay_ex ok0 hdx0
    have oka : Ok (tx X) (w1.inn.lay dx (.own a)) := lay_ok ok0 hdx0
    have fra : (w1.inn.lay dx (.own a)).H a = none := by
      show upd w1.inn.H dx (.own a) a = none
      rw [upd_ne (Ne.symm hne)]; exact ha0
    have hu : RelOb (tx X) ((w1.inn.lay dx (.own a)).new a (.ins C dx []) (.ins x [] [])) a (.ins x [] []) := ⟨C, dx, [], hm, upd_same, rfl, .nil⟩
    have xb : Ex (w1.inn.lay dx (.own a)) ((w1.inn.lay dx (.own a)).new a (.ins C dx []) (.ins x [] [])) := new_ex oka fra
    have okb : Ok (tx X) ((w1.inn.lay dx (.own a)).new a (.ins C dx []) (.ins x [] [])) := new_ok oka fra hu
    have hbt : ((w1.inn.lay dx (.own a)).new a (.ins C dx []) (.ins x [] [])).bt[0]? = some a := rfl
    refine ⟨_, .loc 0 :: ds, rfl, okb, .cons ?_ (((r0.ex ok0 xa.toEx0)).ex oka xb.toEx0), by simp [hn _ _ _ _ e1], ?_⟩
    · simp only [RelD]; exact ⟨a, rfl, hbt⟩
    · have xab := xa.trans xb
      show Post (tx X) (RelD (tx X)) _ _ (oo (.loc 0 :: ds) [.ins x [] []]) _
      cases eo : oo (.loc 0 :: ds) [.ins x [] []] with
      | stk => rw [eo] at h; exact h
      | ex c m' =>
        rw [eo] at h
        intro w' e' ok' hm'
        exact h (w1.out w') (x1.trans (out_ex (xab.trans e'))) (out_ok ok1 (xab.trans e')) rfl
      | ok d m' =>
        rw [eo] at h
        intro w' v e' ok' hm' rv
        cases d <;> first | exact h.elim | skip
        simp only [RelD] at rv
        refine ⟨rv, ?_⟩
        simp only at h
        cases m' with
        | nil => exact h.elim
        | cons o1 m2 =>
          cases o1 with
          | ins c' ns us =>
            simp only at h
            split at h
            case isFalse => exact h.elim
            rename_i hnu
            have ex := out_ex (xab.trans e')
            have bt0 : w'.bt[0]? = some a := e'.bt hbt
            obtain ⟨C', dx', us', hc', hH, hlen, rus⟩ := ok'.obj 0 (.ins c' ns us) a (by rw [hm']; rfl) bt0
            refine h (w1.out w') (.ref a) (x1.trans ex) (out_ok ok1 (xab.trans e')) rfl ?_
            simp only [RelD]
            refine ⟨a, C', dx', us', rfl, hc', hH, hlen, fun l => not_live ok1 ha (out_live.mp l), RelDs.mv (w := w') (w' := w1.out w') rfl (fun b hb => ?_) hnu rus⟩
            refine .inl ?_
            rw [e'.hidE]
            exact out_live.mp hb
          | _ => exact h.elim
end FR
set_option Elab.async false
set_option linter.all false
set_option maxRecDepth 100000
set_option maxHeartbeats 4000000
/-! ## a comprehension whose list is changed later; min and max of two -/
namespace FR
open PySem PySem.Spec L2
set_option autoImplicit false
variable {X : Cx} {T : Tx} {W : WX} {f g h : FE} {fa : FA} {ft gt : FT} {a b c e o tg iter : Expr} {es rest : List Expr} {pos : Pos} {k : Nat}
def fLcN (vs : List Nat) (p : Pt) (fi : FI) (t : FT) (f : FE) : FE := fun r m => (fi r m).bind fun ds m => if ds.length ≤ 16777215 then (compL p t f (wipeL r vs) ds m).bind fun ys m => .ok (.loc m.length) (m ++ [.lst ys]) else .stk
theorem lcN_sem {vs : List Nat} {p : Pt} {fi : FI} (hp : ∀ i ∈ p.slots, i ∈ vs) : ∀ σ H Q, rd T W (fLcN vs p fi ft f) σ H Q → tLc (rdI T W fi) (gOf T.K p) (rdT T W0 ft) (rd T W0 f) vs σ H Q := by
  rintro σ H Q ⟨w, l, rfl, ok, re, h⟩
  refine ⟨w, l, rfl, ok, re, ?_⟩
  cases e1 : fi l w.mu with
  | stk => rw [fLcN, e1] at h; exact h
  | ex c m => rw [fLcN, e1] at h; exact h
  | ok ds m =>
  rw [fLcN, e1] at h
  simp only [Rs.bind] at h
  split at h
  case isFalse => exact h.elim
  rename_i hlen
  intro w1 J ex1 ok1 hm it A0 hD
  subst hm
  -- the list that is made is hidden
  have hx : Ex0 w1 (w1.hide A0 (.lst [])) := hide_ex ok1 hD
  have hok : Ok T (w1.hide A0 (.lst [])) := hide_ok ok1 hD trivial
  have re1 := re.ex ok ex1.toEx0
  refine ⟨fun i m H => m = ds.length - i ∧ i ≤ ds.length ∧ ∃ (w2 : Wo) (acc : List D) (av : List V), w2.H = H ∧ Ok T w2 ∧ Ex0 w1 w2 ∧ w2.hid = (fun a => a = A0 ∨ w1.hid a) ∧ (∀ a, w1.hid a → w2.H a = w1.H a) ∧
      w2.H A0 = some (.lst av) ∧ RelDs T w2 acc av ∧ acc.length ≤ i ∧
      Post T (RelD T) (wx T W σ) w ((compL p ft f (wipeL l vs) (ds.drop i) w2.mu).bind fun ys m => .ok (.loc m.length) (m ++ [O.lst (acc ++ ys)])) Q,
    ⟨ds.length, by simp, Nat.zero_le _, w1.hide A0 (.lst []), [], [], rfl, hok, hx, rfl, fun a ha => upd_ne (hid_ne ok1 hD ha), upd_same, .nil, Nat.le_refl _, ?_⟩, ?_⟩
  · simp only [List.drop_zero, List.nil_append]; exact h
  rintro i m H ⟨rfl, hi, w2, acc, av, rfl, ok2, x2, hid2, hk2, hD2, ra, hacc, hpost⟩
  obtain ⟨go_, stop_⟩ := it w2 x2 ok2
  have re2 := re1.ex ok1 x2
  by_cases hlt : i < ds.length
  · right
    obtain ⟨d, hd⟩ : ∃ d, ds[i]? = some d := ⟨ds[i], by simp [hlt]⟩
    obtain ⟨hgo, hy⟩ := go_ i d hd
    have hdrop : ds.drop i = d :: ds.drop (i + 1) := by
      rw [List.drop_eq_getElem_cons hlt]
      have : ds[i] = d := by rw [List.getElem?_eq_getElem hlt] at hd; exact Option.some.inj hd
      rw [this]
    refine ⟨hgo, fun H' => ∃ (w3 : Wo) (acc : List FR.D) (av : List V), w3.H = H' ∧ Ok T w3 ∧ Ex0 w1 w3 ∧ w3.hid = (fun a => a = A0 ∨ w1.hid a) ∧ (∀ a, w1.hid a → w3.H a = w1.H a) ∧
      w3.H A0 = some (.lst av) ∧ RelDs T w3 acc av ∧ acc.length ≤ i + 1 ∧
      Post T (RelD T) (wx T W σ) w ((compL p ft f (wipeL l vs) (ds.drop (i + 1)) w3.mu).bind fun ys m => .ok (.loc m.length) (m ++ [O.lst (acc ++ ys)])) Q,
      fun H' q => ⟨ds.length - (i + 1), by omega, rfl, hlt, q⟩, fun x H' hyl => ?_⟩
    obtain ⟨wb, xb, okb, hmu, rfl, rx⟩ := hy x H' hyl
    have x2b : Ex0 w1 wb := x2.trans xb.toEx0
    have hid2b : wb.hid = (fun a => a = A0 ∨ w1.hid a) := xb.hidE.trans hid2
    have hk2b : ∀ a, w1.hid a → wb.H a = w1.H a := fun a ha => (xb.hidK a (by rw [hid2]; exact .inr ha)).trans (hk2 a ha)
    have hD2b : wb.H A0 = some (.lst av) := (xb.hidK A0 (by rw [hid2]; exact .inl rfl)).trans hD2
    have rab : RelDs T wb acc av := ra.ex ok2 xb.toEx0
    have re2b := re2.ex ok2 xb.toEx0
    rw [← hmu] at hpost
    rw [hdrop] at hpost
    simp only [compL] at hpost
    cases ea : asg p d (wipeL l vs) with
    | none => rw [ea] at hpost; exact hpost.elim
    | some r1 =>
    rw [ea] at hpost
    simp only at hpost
    obtain ⟨s', re', hw, hg⟩ := gOf_ok okb (re2b.wipes vs) rx ea
    refine hg _ ⟨by rw [hw vs hp, wipe_wipe], ?_⟩
    refine ⟨wb, r1, rfl, okb, re', ?_⟩
    cases et : ft r1 wb.mu with
    | stk => rw [et] at hpost; exact hpost.elim
    | ex c m3 => rw [et] at hpost; exact hpost.elim
    | ok z m3 =>
    rw [et] at hpost
    intro w3 z' e3 ok3 hm3 hz
    subst hz
    subst hm3
    have x3 : Ex0 w1 w3 := x2b.trans e3.toEx0
    have hid3 : w3.hid = fun a => a = A0 ∨ w1.hid a := e3.hidE.trans hid2b
    have hk3 : ∀ a, w1.hid a → w3.H a = w1.H a := fun a ha => (e3.hidK a (by rw [hid2b]; exact .inr ha)).trans (hk2b a ha)
    have hD3 : w3.H A0 = some (.lst av) := (e3.hidK A0 (by rw [hid2b]; exact .inl rfl)).trans hD2b
    have ra3 := rab.ex okb e3.toEx0
    cases z with
    | false =>
      simp only [Bool.false_eq_true, if_false]
      exact ⟨w3, acc, av, rfl, ok3, x3, hid3, hk3, hD3, ra3, by omega, hpost⟩
    | true =>
      simp only [if_true]
      refine ⟨w3, r1, rfl, ok3, re'.ex okb e3.toEx0, ?_⟩
      simp only at hpost
      cases ef : f r1 w3.mu with
      | stk => rw [ef] at hpost; exact hpost.elim
      | ex c m4 => rw [ef] at hpost; exact hpost.elim
      | ok y m4 =>
      rw [ef] at hpost
      intro w4 v e4 ok4 hm4 rv
      subst hm4
      have hid4 : w4.hid = fun a => a = A0 ∨ w1.hid a := e4.hidE.trans hid3
      have hh4 : w4.hid A0 := by rw [hid4]; exact .inl rfl
      have hk4 : ∀ a, w1.hid a → w4.H a = w1.H a := fun a ha => (e4.hidK a (by rw [hid3]; exact .inr ha)).trans (hk3 a ha)
      have hD4 : w4.H A0 = some (.lst av) := (e4.hidK A0 (by rw [hid3]; exact .inl rfl)).trans hD3
      have ra4 := ra3.ex ok3 e4.toEx0
      refine ⟨av, hD4, by rw [sizeLine_eq, ra4.length]; omega, ?_⟩
      have x5 : Ex0 w4 (w4.lay A0 (.lst (av ++ [v]))) := over_ex hh4
      refine ⟨w4.lay A0 (.lst (av ++ [v])), acc ++ [y], av ++ [v], rfl, over_ok ok4 hh4 trivial, (x3.trans e4.toEx0).trans x5, hid4, fun a ha => ?_, upd_same, (ra4.append (.cons rv .nil)).ex ok4 x5, by simp; omega, ?_⟩
      · exact (upd_ne (hid_ne ok1 hD ha)).trans (hk4 a ha)
      · have hb : ((compL p ft f (wipeL l vs) (ds.drop (i + 1)) w4.mu).bind fun ys m => Rs.ok (y :: ys) m).bind (fun ys m => Rs.ok (FR.D.loc m.length) (m ++ [O.lst (acc ++ ys)])) = (compL p ft f (wipeL l vs) (ds.drop (i + 1)) w4.mu).bind fun ys m => Rs.ok (FR.D.loc m.length) (m ++ [O.lst (acc ++ [y] ++ ys)]) := by
          cases compL p ft f (wipeL l vs) (ds.drop (i + 1)) w4.mu with
          | ok ys m => simp [Rs.bind]
          | ex c m => rfl
          | stk => rfl
        simp only at hpost
        rw [hb] at hpost
        exact hpost
  · left
    have e : i = ds.length := by omega
    subst e
    refine ⟨stop_ _ (Nat.le_refl _), ?_⟩
    rw [List.drop_length] at hpost
    simp only [compL, Rs.bind, List.append_nil] at hpost
    -- hidden no longer: a place of the store from now on
    have nb : A0 ∉ w2.bt := fun hb => ok2.hidN A0 hb (by rw [hid2]; exact .inl rfl)
    have nh1 : ¬ w1.hid A0 := not_hid ok1 hD
    obtain ⟨wf, ewf⟩ : ∃ wf : Wo, wf = ⟨w2.bt ++ [A0], w2.mu ++ [.lst acc], w1.hid, w2.H⟩ := ⟨_, rfl⟩
    have x6 : Ex0 w2 wf := by
      subst ewf
      refine ⟨⟨[A0], rfl⟩, fun _ q => q, fun _ _ q _ => q, fun a _ q => ?_⟩
      rcases q with q | ⟨n, hn, ob, hm, hd⟩
      · exact .inl (by rw [hid2]; exact .inr q)
      · by_cases hl : n < w2.bt.length
        · rw [List.getElem?_append_left hl] at hn
          rw [List.getElem?_append_left (by rw [ok2.len]; exact hl)] at hm
          exact .inr ⟨n, hn, ob, hm, hd⟩
        · rw [List.getElem?_append_right (by omega)] at hn
          cases hq : n - w2.bt.length with
          | zero =>
            rw [hq] at hn
            simp at hn
            exact .inl (by rw [hid2]; exact .inl hn.symm)
          | succ k => rw [hq] at hn; simp at hn
    have ok6 : Ok T wf := by
      have x6' := x6
      subst ewf
      refine ⟨fun a ha => ok2.hidT a (by rw [hid2]; exact .inr ha), fun a ha q => ?_, by simp [ok2.len], ?_, fun a ha => ?_, fun n ob a h1 h2 => ?_⟩
      · rcases List.mem_append.mp ha with z | z
        · exact ok2.hidN a z (by rw [hid2]; exact .inr q)
        · rcases List.mem_singleton.mp z with rfl; exact nh1 q
      · rw [List.nodup_append]
        exact ⟨ok2.nd, by simp, fun a ha b hb => by simp at hb; subst hb; rintro rfl; exact nb ha⟩
      · rcases List.mem_append.mp ha with z | z
        · exact ok2.tr a z
        · rcases List.mem_singleton.mp z with rfl
          rw [hD2]; simp
      · by_cases hl : n < w2.bt.length
        · rw [List.getElem?_append_left hl] at h2
          rw [List.getElem?_append_left (by rw [ok2.len]; exact hl)] at h1
          exact RelOb.ex ok2 x6' (ok2.obj n ob a h1 h2) rfl
        · rw [List.getElem?_append_right (by omega)] at h2
          rw [List.getElem?_append_right (by rw [ok2.len]; omega), ok2.len] at h1
          cases hq : n - w2.bt.length with
          | zero =>
            rw [hq] at h1 h2
            simp at h1 h2
            subst h1 h2
            exact ⟨av, hD2, ra.ex ok2 x6'⟩
          | succ k => rw [hq] at h2; simp at h2
    have ex6 : Ex w1 wf := ⟨x2.trans x6, by subst ewf; rfl, fun a ha => by subst ewf; exact hk2 a ha⟩
    have hH : wf.H = w2.H := by subst ewf; rfl
    have hmu6 : wf.mu = w2.mu ++ [.lst acc] := by subst ewf; rfl
    have := hpost wf (.ref A0) (ex1.trans ex6) ok6 hmu6 (by
      simp only [RelD]
      refine ⟨A0, rfl, ?_⟩
      subst ewf
      show (w2.bt ++ [A0])[w2.mu.length]? = some A0
      rw [ok2.len]; simp)
    rw [hH] at this
    exact this
theorem s_setLcN {i : Nat} {y : Str} {py spos : Pos} {ifs : List Expr} {scope : Scope} {own : List (Str × Nat)} {p : Pt} {fi : FI} (hp : (p.slots.all fun i => (own.map (·.2)).contains i) = true) (hc : X.calm = true) (hN : X.N.Nodup)
    (hsw : swapsWith (.ListComp e [⟨tg, iter, ifs, 0⟩] scope pos) (some (.Name y py)) spos.line X.env = pure true) (hi : PI X tg iter (rdI (tx X) W fi)) (ok : BlkOk X.N X.env.scope scope own)
    (hg : ∀ (s : Shared) (H : Hp) (C : Addr) (cl : List (Str × Addr)) (fp : List Addr), PG (X.blk s H scope (compEnvC scope cl C X.env) fp) tg (gOf X.K p))
    (ht : ∀ (s : Shared) (H : Hp) (C : Addr) (cl : List (Str × Addr)) (fp : List Addr), PTs (X.blk s H scope (compEnvC scope cl C X.env) fp) ifs (rdT (tx X) W0 ft))
    (he : ∀ (s : Shared) (H : Hp) (C : Addr) (cl : List (Str × Addr)) (fp : List Addr), PE (X.blk s H scope (compEnvC scope cl C X.env) fp) e (rd (tx X) W0 f)) (hy : X.N[i]? = some y := by rfl) (hyl : X.env.scope.names.lookup y = some .local := by rfl)
    (hs : ∀ x, foldedSetIterable iter X.env x = pure x := by intro _; rfl) :
    PS X (.Assign [.Name y py] (.ListComp e [⟨tg, iter, ifs, 0⟩] scope pos) spos) (rdS (tx X) W (sSet i (fLcN (own.map (·.2)) p fi ft f))) := by
  refine ps_imp (ps_setLc hc hN hy hyl hsw hi ok hg ht he hs) ?_
  rintro E s H ⟨w, r, rfl, ok, re, h⟩
  exact lcN_sem (fun i hi => by
    have := List.all_eq_true.mp hp i hi
    simpa using this) _ _ _ (go_s ok re h fun d w1 v x ok1 re1 r1 h1 => h1.nxt ok1 (re1.set i r1))
def bMin2 : List D → List O → Rs D := fun ds m => match ds with
  | [.int i, .int j] => .ok (.int (if j < i then j else i)) m
  | _ => .stk
theorem cb_min2 (hc : X.calm = true) : Cb X (.builtin "min") bMin2 := by
  refine ⟨_, call_min2 hc, fun W w ds vs Q ok r h => ?_⟩
  unfold bMin2 at h
  split at h
  · obtain ⟨v, u, rfl, r1, r2⟩ := r.two
    simp only [RelD] at r1 r2; subst r1 r2
    exact ⟨_, _, rfl, h.now ok (by simp only [RelD])⟩
  · exact h.elim
end FR
set_option Elab.async false
set_option linter.all false
set_option maxRecDepth 100000
set_option maxHeartbeats 4000000
/-! ## Slots that nobody reads any more are forgotten -/
namespace FR
open PySem PySem.Spec L2
set_option autoImplicit false
variable {X : Cx} {T : Tx} {W : WX} {A : FS} {st0 : Stmt} {sts : List Stmt}

theorem wipeL_length {r : Lc} : ∀ is : List Nat, (wipeL r is).length = r.length
  | [] => rfl
  | i :: is => by simp [wipeL, wipeL_length is]
theorem wipeL_get {r : Lc} {j : Nat} {d : D} : ∀ is : List Nat, (wipeL r is)[j]? = some (some d) → r[j]? = some (some d)
  | [], h => h
  | i :: is, h => by
    simp only [wipeL] at h
    rw [List.getElem?_set] at h
    split at h
    · split at h <;> cases h
    · exact wipeL_get is h
theorem RelE.forget {w : Wo} {r : Lc} {s : St} (is : List Nat) (h : RelE T w r s) : RelE T w (wipeL r is) s :=
  ⟨(wipeL_length is).trans h.1, fun i d q => h.2 i d (wipeL_get is q)⟩
def sFgtB (is : List Nat) (A : FS) : FS := fun r m => A (wipeL r is) m
def fgtR (is : List Nat) : Rt → Rt
  | .ok (.nx r) m => .ok (.nx (wipeL r is)) m
  | .ok (.ct r) m => .ok (.ct (wipeL r is)) m
  | .ok (.bk r) m => .ok (.bk (wipeL r is)) m
  | x => x
def sFgtE (is : List Nat) (A : FS) : FS := fun r m => fgtR is (A r m)
theorem s_fgtB {is : List Nat} (h : PS X st0 (rdS (tx X) W A)) : PS X st0 (rdS (tx X) W (sFgtB is A)) := by
  refine ps_imp h ?_
  rintro E s H ⟨w, r, rfl, ok, re, q⟩
  exact ⟨w, wipeL r is, rfl, ok, re.forget is, q⟩
theorem ss_fgtE {is : List Nat} (h : PSs X sts (rdS (tx X) W A)) : PSs X sts (rdS (tx X) W (sFgtE is A)) := by
  refine pss_imp h ?_
  rintro E s H ⟨w, r, rfl, ok, re, q⟩
  refine ⟨w, r, rfl, ok, re, ?_⟩
  unfold sFgtE at q
  cases e : A r w.mu with
  | stk => rw [e] at q; exact q
  | ex c r' m' => rw [e] at q; exact q
  | ok fl m' =>
    rw [e] at q
    cases fl with
    | nx r' => exact fun w' s' x ok' hm re' => q w' s' x ok' hm (re'.forget is)
    | rt d => exact q
    | bk r' => exact fun w' s' x ok' hm re' => q w' s' x ok' hm (re'.forget is)
    | ct r' => exact fun w' s' x ok' hm re' => q w' s' x ok' hm (re'.forget is)
end FR
set_option Elab.async false
set_option linter.all false
set_option maxRecDepth 100000
set_option maxHeartbeats 4000000
/-! ## Reading on: what a piece of text by value gives where its slots are known -/
namespace FR
open PySem PySem.Spec L2
set_option autoImplicit false
def bd {α β : Type} (x : Rs α) (k : α → List O → Rs β) : Rs β := x.bind k
def sqd {α : Type} (x : Rs α) (r : Lc) (k : α → List O → Rt) : Rt := x.sq r k
def sqT (x : Rt) (b : FS) : Rt := match x with
  | .ok (.nx r) m => b r m
  | x => x
def ifK (x : Rs Bool) (r : Lc) (a b : FS) : Rt := match x with
  | .ok true m => a r m
  | .ok false m => b r m
  | .ex c m => .ex c r m
  | .stk => .stk
def ifE (x : Rs Bool) (r : Lc) (a b : FE) : Rs D := match x with
  | .ok true m => a r m
  | .ok false m => b r m
  | .ex c m => .ex c m
  | .stk => .stk
def ifT (x : Rs Bool) (r : Lc) (a b : FT) : Rs Bool := match x with
  | .ok true m => a r m
  | .ok false m => b r m
  | .ex c m => .ex c m
  | .stk => .stk
variable {α β : Type} {f g h : FE} {fa fb : FA} {t u : FT} {a b c : FS} {fi : FI} {p : Pt} {r : Lc} {m m' : List O} {i n k : Nat} {d e : D} {ds xs : List D}
theorem bok {a : α} {k : α → List O → Rs β} : bd (Rs.ok a m) k = k a m := rfl
theorem bex {c : Str} {k : α → List O → Rs β} : bd (Rs.ex c m : Rs α) k = .ex c m := rfl
theorem sok {a : α} {k : α → List O → Rt} : sqd (Rs.ok a m) r k = k a m := rfl
theorem sex {c : Str} {k : α → List O → Rt} : sqd (Rs.ex c m : Rs α) r k = .ex c r m := rfl
theorem x_var0 : fVar 0 (some d :: r) m = .ok d m := rfl
theorem x_varS {o : Option D} : fVar (n + 1) (o :: r) m = fVar n r m := rfl
theorem x_c : fC d r m = .ok d m := rfl
theorem x_bin {o : D → D → List O → Rs D} : fBin o f g r m = bd (f r m) fun a m => bd (g r m) fun b m => o a b m := rfl
theorem x_un {o : D → List O → Rs D} : fUn o f r m = bd (f r m) o := rfl
theorem x_cb {o : List D → List O → Rs D} : fCB o fa r m = bd (fa r m) o := rfl
theorem x_nil : aNil r m = .ok [] m := rfl
theorem x_cons : aCons f fa r m = bd (f r m) fun d m => bd (fa r m) fun ds m => .ok (d :: ds) m := rfl
theorem x_star : aStar f fa r m = bd (f r m) fun d m => match derefS d m with
  | some xs => bd (fa r m) fun ds m => .ok (xs ++ ds) m
  | none => .stk := by
  first
  | rfl
theorem x_tup : fTup fa r m = bd (fa r m) fun ds m => if ds.length ≤ 16777216 then .ok (.tup ds) m else .stk := rfl
theorem x_lst : fLst fa r m = bd (fa r m) fun ds m => if ds.length ≤ 16777216 then .ok (.lst ds) m else .stk := rfl
theorem x_new : fNew fa r m = bd (fa r m) fun ds m => if ds.length ≤ 16777216 then .ok (.loc m.length) (m ++ [.lst ds]) else .stk := rfl
theorem x_frz : fFrz f r m = bd (f r m) gFrz := rfl
theorem x_set : sSet i f r m = sqd (f r m) r fun d m => .ok (.nx (r.set i (some d))) m := rfl
theorem x_asg : sAsg p f r m = sqd (f r m) r fun d m => match asg p d r with
  | some r' => .ok (.nx r') m
  | none => .stk := rfl
theorem x_ret : sRet f r m = sqd (f r m) r fun d m => .ok (.rt d) m := rfl
theorem x_exp : sExp f r m = sqd (f r m) r fun _ m => .ok (.nx r) m := rfl
theorem x_if : sIf t a b r m = ifK (t r m) r a b := by
  show _ = _
  simp only [sIf, ifK]
  cases t r m with
  | ok z m' => cases z <;> rfl
  | ex c m' => rfl
  | stk => rfl
theorem x_ifE : fIf t f g r m = ifE (t r m) r f g := by
  show _ = _
  simp only [fIf, ifE]
  cases t r m with
  | ok z m' => cases z <;> rfl
  | ex c m' => rfl
  | stk => rfl
theorem ifK_t : ifK (.ok true m) r a b = a r m := rfl
theorem ifK_f : ifK (.ok false m) r a b = b r m := rfl
theorem ifK_x {c : Str} : ifK (.ex c m) r a b = .ex c r m := rfl
theorem ifK_p {q : Prop} [Decidable q] : ifK (.ok (decide q) m) r a b = if q then a r m else b r m := by by_cases h : q <;> simp [h, ifK]
theorem ifE_t : ifE (.ok true m) r f g = f r m := rfl
theorem ifE_f : ifE (.ok false m) r f g = g r m := rfl
theorem ifE_x {c : Str} : ifE (.ex c m) r f g = .ex c m := rfl
theorem x_nx : sNx r m = .ok (.nx r) m := rfl
theorem x_bk : sBk r m = .ok (.bk r) m := rfl
theorem x_ct : sCt r m = .ok (.ct r) m := rfl
theorem x_retN : sRetN r m = .ok (.rt .non) m := rfl
theorem x_seq : sSeq a b r m = sqT (a r m) b := by unfold sSeq sqT; rfl
theorem sqT_nx : sqT (.ok (.nx r) m) b = b r m := rfl
theorem sqT_rt : sqT (.ok (.rt d) m) b = .ok (.rt d) m := rfl
theorem sqT_bk : sqT (.ok (.bk r) m) b = .ok (.bk r) m := rfl
theorem sqT_ct : sqT (.ok (.ct r) m) b = .ok (.ct r) m := rfl
theorem sqT_ex {c : Str} : sqT (.ex c r m) b = .ex c r m := rfl
theorem x_raise {c : Str} : sRaise c r m = .ex c r m := rfl
theorem fin_nx : fin (.ok (.nx r) m) = .ok .non m := rfl
theorem fin_rt : fin (.ok (.rt d) m) = .ok d m := rfl
theorem fin_ex {c : Str} : fin (.ex c r m) = .ex c m := rfl
theorem x_tru : tTru f r m = bd (f r m) fun d m => match truD d m with
  | some z => .ok z m
  | none => .stk := rfl
theorem x_not : tNot_ t r m = bd (t r m) fun z m => .ok (!z) m := rfl
theorem x_and : tAnd_ t u r m = ifT (t r m) r u (fun _ m => .ok false m) := by
  show _ = _
  simp only [tAnd_, ifT]
  cases t r m with
  | ok z m' => cases z <;> rfl
  | ex c m' => rfl
  | stk => rfl
theorem x_or : tOr_ t u r m = ifT (t r m) r (fun _ m => .ok true m) u := by
  show _ = _
  simp only [tOr_, ifT]
  cases t r m with
  | ok z m' => cases z <;> rfl
  | ex c m' => rfl
  | stk => rfl
theorem ifT_t : ifT (.ok true m) r t u = t r m := rfl
theorem ifT_f : ifT (.ok false m) r t u = u r m := rfl
theorem ifT_x {c : Str} : ifT (.ex c m) r t u = .ex c m := rfl
theorem x_for : sFor p fi a r m = sqd (fi r m) r fun ds m => forL p a ds r m := rfl
theorem x_fgtB {is : List Nat} : sFgtB is a r m = a (wipeL r is) m := rfl
theorem x_fgtE {is : List Nat} : sFgtE is a r m = fgtR is (a r m) := rfl
theorem x_lc {vs : List Nat} : fLc vs p fi t f r m = bd (fi r m) fun ds m => if ds.length ≤ 16777215 then bd (compL p t f (wipeL r vs) ds m) fun ys m => .ok (.lst ys) m else .stk := rfl
def alld : D → List O → Rs (List D) := fun d m => match d with
  | .lst xs => .ok xs m
  | .tup xs => .ok xs m
  | .str x => .ok (chD x) m
  | _ => .stk
theorem x_all : iAll f r m = bd (f r m) alld := rfl
theorem alld_l : alld (.lst xs) m = .ok xs m := rfl
theorem alld_t : alld (.tup xs) m = .ok xs m := rfl
theorem alld_s {x : Str} : alld (.str x) m = .ok (chD x) m := rfl
theorem x_val : tVal f r m = bd (f r m) fun d m => match d with
  | .bl z => .ok z m
  | _ => .stk := by first | rfl | (unfold tVal; rfl)
theorem forL_nil : forL p a [] r m = .ok (.nx r) m := rfl
theorem forL_nm : forL (.nm i) a (d :: ds) r m = (match a (r.set i (some d)) m with
      | .ok (.nx r2) m => forL (.nm i) a ds r2 m
      | .ok (.ct r2) m => forL (.nm i) a ds r2 m
      | .ok (.bk r2) m => .ok (.nx r2) m
      | .ok (.rt d) m => .ok (.rt d) m
      | .ex c r m => .ex c r m
      | .stk => .stk) := rfl
end FR
set_option Elab.async false
set_option linter.all false
set_option maxRecDepth 100000
set_option maxHeartbeats 4000000
/-! ## What the operations give on known values -/
namespace FR
open PySem PySem.Spec L2
set_option autoImplicit false
variable {m : List O} {i j : Int} {a b : D} {xs ys ds : List D} {x y : Str} {n : Nat} {r : Lc} {f g h : FE} {fa : FA}
theorem y_add : gAdd (.int i) (.int j) m = .ok (.int (i + j)) m := rfl
theorem y_sub : FR.gSub (.int i) (.int j) m = .ok (.int (i - j)) m := rfl
theorem y_mod (h : 0 < j) : gMod (.int i) (.int j) m = .ok (.int (i % j)) m := by
  show (if decide (0 < j) = true then Rs.ok (D.int (i % j)) m else .stk) = _
  rw [if_pos (decide_eq_true h)]
theorem y_fdiv (h : 0 < j) (h2 : j < 1073741824) : gFdiv (.int i) (.int j) m = .ok (.int (i / j)) m := by
  show (if decide (0 < j ∧ j < 1073741824) = true then Rs.ok (D.int (i / j)) m else .stk) = _
  rw [if_pos (decide_eq_true ⟨h, h2⟩)]
theorem y_min2 : bMin2 [.int i, .int j] m = .ok (.int (if j < i then j else i)) m := rfl
theorem y_lt : gLt (.int i) (.int j) m = .ok (.bl (decide (i < j))) m := rfl
theorem y_le : gLe (.int i) (.int j) m = .ok (.bl (decide (i ≤ j))) m := rfl
theorem y_gt : gGt (.int i) (.int j) m = .ok (.bl (decide (j < i))) m := rfl
theorem y_ge : gGe (.int i) (.int j) m = .ok (.bl (decide (j ≤ i))) m := rfl
theorem y_neg : gNeg (.int i) m = .ok (.int (-i)) m := rfl
theorem y_not {z : Bool} : gNot (.bl z) m = .ok (.bl (!z)) m := rfl
theorem y_eqI : gEq (.int i) (.int j) m = .ok (.bl (decide (i = j))) m := by
  show (if (SeqAt.shaped (.int i) && SeqAt.shaped (.int j)) = true then Rs.ok (D.bl (PyData.eqv (.int i) (.int j))) m else .stk) = _
  rw [if_pos (by rfl)]
  by_cases e : i = j <;> simp [PyData.eqv, e]
theorem y_neI : gNe (.int i) (.int j) m = .ok (.bl (!decide (i = j))) m := by
  show (if (SeqAt.shaped (.int i) && SeqAt.shaped (.int j)) = true then Rs.ok (D.bl (!PyData.eqv (.int i) (.int j))) m else .stk) = _
  rw [if_pos (by rfl)]
  by_cases e : i = j <;> simp [PyData.eqv, e]
theorem y_isN : gIs a .non m = .ok (.bl (FR.isNon a)) m := rfl
theorem y_isNotN : gIsNot a .non m = .ok (.bl (!FR.isNon a)) m := rfl
theorem y_isTy {s t : String} : gIs (.ty s) (.ty t) m = .ok (.bl (decide (s = t))) m := rfl
theorem y_isNotTy {s t : String} : gIsNot (.ty s) (.ty t) m = .ok (.bl (!decide (s = t))) m := rfl
theorem y_nonN : FR.isNon .non = true := rfl
theorem y_nonI : FR.isNon (.int i) = false := rfl
theorem y_nonS : FR.isNon (.str x) = false := rfl
theorem y_nonB {z : Bool} : FR.isNon (.bl z) = false := rfl
theorem y_nonT : FR.isNon (.tup xs) = false := rfl
theorem y_nonL : FR.isNon (.lst xs) = false := rfl
theorem y_lenT : bLen [.tup xs] m = .ok (.int xs.length) m := rfl
theorem y_lenL : bLen [.lst xs] m = .ok (.int xs.length) m := rfl
theorem y_lenO (h : m[n]? = some (.lst xs)) : bLen [.loc n] m = .ok (.int xs.length) m := by simp only [bLen, derefS, h]
theorem y_ixT : gIx (.tup xs) (.int i) m = (match atI xs i with | some x => .ok x m | none => .stk) := rfl
theorem y_ixL : gIx (.lst xs) (.int i) m = (match atI xs i with | some x => .ok x m | none => .stk) := rfl
theorem y_ixO (h : m[n]? = some (.lst xs)) : gIx (.loc n) (.int i) m = (match atI xs i with | some x => .ok x m | none => .stk) := by
  simp only [gIx, derefS, h]
  all_goals (cases atI xs i <;> rfl)
theorem w_at0 {α : Type} {a : α} {l : List α} : atI (a :: l) 0 = some a := by unfold atI ixN; simp
theorem w_at1 {α : Type} {a b : α} {l : List α} : atI (a :: b :: l) 1 = some b := by
  unfold atI ixN
  rw [if_pos (by decide), if_pos (by simp only [List.length_cons]; omega)]; rfl
theorem w_at2 {α : Type} {a b c : α} {l : List α} : atI (a :: b :: c :: l) 2 = some c := by
  unfold atI ixN
  rw [if_pos (by decide), if_pos (by simp only [List.length_cons]; omega)]; rfl
theorem w_at3 {α : Type} {a b c d : α} {l : List α} : atI (a :: b :: c :: d :: l) 3 = some d := by
  unfold atI ixN
  rw [if_pos (by decide), if_pos (by simp only [List.length_cons]; omega)]; rfl
theorem w_atN {α : Type} {l : List α} {k : Nat} : atI l (k : Int) = l[k]? := by
  rw [atN' (by omega)]; rfl
theorem w_atL {α : Type} {l : List α} : atI l (-1) = l.getLast? := by
  unfold atI ixN
  cases l with
  | nil => rfl
  | cons a l =>
    rw [if_neg (by decide), List.getLast?_eq_getElem?]
    simp only [List.length_cons]
    first
    | (rw [if_pos (by omega)]; simp only [Option.bind_some]; congr 1; omega)
    | (rw [if_neg (by omega)]; simp only [Option.bind_some]; congr 1; omega)
theorem y_ixT0 {a0 : D} : gIx (.tup (a0 :: xs)) (.int 0) m = .ok a0 m := by rw [y_ixT, w_at0]
theorem y_ixT1 {a0 a1 : D} : gIx (.tup (a0 :: a1 :: xs)) (.int 1) m = .ok a1 m := by rw [y_ixT, w_at1]
theorem y_ixT2 {a0 a1 a2 : D} : gIx (.tup (a0 :: a1 :: a2 :: xs)) (.int 2) m = .ok a2 m := by rw [y_ixT, w_at2]
theorem y_ixT3 {a0 a1 a2 a3 : D} : gIx (.tup (a0 :: a1 :: a2 :: a3 :: xs)) (.int 3) m = .ok a3 m := by rw [y_ixT, w_at3]
theorem y_ixL0 {a0 : D} : gIx (.lst (a0 :: xs)) (.int 0) m = .ok a0 m := by rw [y_ixL, w_at0]
theorem y_ixL1 {a0 a1 : D} : gIx (.lst (a0 :: a1 :: xs)) (.int 1) m = .ok a1 m := by rw [y_ixL, w_at1]
theorem y_ixL2 {a0 a1 a2 : D} : gIx (.lst (a0 :: a1 :: a2 :: xs)) (.int 2) m = .ok a2 m := by rw [y_ixL, w_at2]
theorem y_ixL3 {a0 a1 a2 a3 : D} : gIx (.lst (a0 :: a1 :: a2 :: a3 :: xs)) (.int 3) m = .ok a3 m := by rw [y_ixL, w_at3]
theorem y_tyT : bType [.tup xs] m = .ok (.ty "tuple") m := rfl
theorem y_tyL : bType [.lst xs] m = .ok (.ty "list") m := rfl
theorem y_tyI : bType [.int i] m = .ok (.ty "int") m := rfl
theorem y_tyB {z : Bool} : bType [.bl z] m = .ok (.ty "bool") m := rfl
theorem y_tyS : bType [.str x] m = .ok (.ty "str") m := rfl
theorem y_tyN : bType [.non] m = .ok (.ty "NoneType") m := rfl
theorem z_tyT : bTypeA [.tup xs] m = .ok (.ty "tuple") m := rfl
theorem z_tyL : bTypeA [.lst xs] m = .ok (.ty "list") m := rfl
theorem z_tyI : bTypeA [.int i] m = .ok (.ty "int") m := rfl
theorem z_tyB {z : Bool} : bTypeA [.bl z] m = .ok (.ty "bool") m := rfl
theorem z_tyS : bTypeA [.str x] m = .ok (.ty "str") m := rfl
theorem z_tyN : bTypeA [.non] m = .ok (.ty "NoneType") m := rfl
theorem z_tyD {ks : List Str} : bTypeA [.dct ks xs] m = .ok (.ty "dict") m := rfl
theorem y_isi {c t : String} {z : Bool} (h1 : tyD a m = some t) (h2 : kitB t c = some z) : bIsi [a, .ty c] m = .ok (.bl z) m := by
  simp only [bIsi, h1, h2]
theorem y_tupL : bTuple [.lst xs] m = .ok (.tup xs) m := rfl
theorem y_tupT : bTuple [.tup xs] m = .ok (.tup xs) m := rfl
theorem y_tupO (h : m[n]? = some (.lst xs)) : bTuple [.loc n] m = .ok (.tup xs) m := by simp only [bTuple, derefL, h]
theorem y_lstT : bList [.tup xs] m = .ok (.lst xs) m := rfl
theorem y_lstL : bList [.lst xs] m = .ok (.lst xs) m := rfl
theorem y_intB {z : Bool} : bInt [.bl z] m = .ok (.int (if z then 1 else 0)) m := rfl
theorem y_intI : bInt [.int i] m = .ok (.int i) m := rfl
theorem y_frzO (h : m[n]? = some (.lst xs)) : gFrz (.loc n) m = .ok (.lst xs) (m.set n .dead) := by simp only [gFrz, h]
theorem y_frzD {ks : List Str} (h : m[n]? = some (.dct ks xs)) : gFrz (.loc n) m = .ok (.dct ks xs) (m.set n .dead) := by simp only [gFrz, h]
theorem y_chain {o o' : D → D → List O → Rs D} : fChain o o' f g h r m = bd (f r m) fun a m => bd (g r m) fun b m => bd (o a b m) fun z m => match z with
  | .bl true => bd (h r m) fun c m => o' b c m
  | .bl false => .ok (.bl false) m
  | _ => .stk := rfl
theorem y_chainP {q : Prop} [Decidable q] {s t : Rs D} : (match (D.bl (decide q)) with
  | .bl true => s
  | .bl false => t
  | _ => .stk) = if q then s else t := by by_cases h : q <;> simp [h]
theorem x_andE : fAnd f g r m = bd (f r m) fun d m => match d with
  | .bl true => g r m
  | .bl false => .ok (.bl false) m
  | _ => .stk := by first | rfl | (unfold fAnd; rfl)
theorem x_orE : fOr f g r m = bd (f r m) fun d m => match d with
  | .bl true => .ok (.bl true) m
  | .bl false => g r m
  | _ => .stk := by first | rfl | (unfold fOr; rfl)
theorem bl_all {α : Type} (q : α → Bool) : ∀ l : List α, bAll [.lst (l.map fun z => D.bl (q z))] m = .ok (.bl (l.all q)) m := fun l => by
  have e : ∀ l : List α, blsD (l.map fun z => D.bl (q z)) = some (l.map q) := by
    intro l
    induction l with
    | nil => rfl
    | cons a l ih => simp only [List.map_cons, blsD, ih]; rfl
  show (match blsD _ with | some ns => _ | none => _) = _
  rw [e]
  simp [List.all_map]
theorem bl_any {α : Type} (q : α → Bool) : ∀ l : List α, bAny [.lst (l.map fun z => D.bl (q z))] m = .ok (.bl (l.any q)) m := fun l => by
  have e : ∀ l : List α, blsD (l.map fun z => D.bl (q z)) = some (l.map q) := by
    intro l
    induction l with
    | nil => rfl
    | cons a l ih => simp only [List.map_cons, blsD, ih]; rfl
  show (match blsD _ with | some ns => _ | none => _) = _
  rw [e]
  simp [List.any_map]
theorem comp_map {α : Type} {p : Pt} {f : FE} {r : Lc} {m : List O} (enc out : α → D) (R : α → Lc) : ∀ l : List α, (∀ z ∈ l, asg p (enc z) r = some (R z) ∧ f (R z) m = .ok (out z) m) → compL p tTrue f r (l.map enc) m = .ok (l.map out) m
  | [], _ => rfl
  | z :: l, h => by
    obtain ⟨h1, h2⟩ := h z List.mem_cons_self
    have ih := comp_map enc out R l fun y hy => h y (List.mem_cons_of_mem _ hy)
    simp only [List.map_cons, compL, h1, tTrue, h2, ih, Rs.bind]
theorem comp_fil {α : Type} {p : Pt} {t : FT} {f : FE} {r : Lc} {m : List O} (enc out : α → D) (q : α → Bool) (R : α → Lc) : ∀ l : List α, (∀ z ∈ l, asg p (enc z) r = some (R z) ∧ t (R z) m = .ok (q z) m ∧ (q z = true → f (R z) m = .ok (out z) m)) → compL p t f r (l.map enc) m = .ok ((l.filter q).map out) m
  | [], _ => rfl
  | z :: l, h => by
    obtain ⟨h1, h2, h3⟩ := h z List.mem_cons_self
    have ih := comp_fil enc out q R l fun y hy => h y (List.mem_cons_of_mem _ hy)
    cases e : q z with
    | true => simp only [List.map_cons, compL, h1, h2, e, h3 e, ih, Rs.bind, List.filter_cons, if_true]
    | false => simp only [List.map_cons, compL, h1, h2, e, ih, List.filter_cons]; rfl
theorem iso_val {o : List D → List O → Rs D} {ds : List D} {d : D} {m m' : List O} (hn : noLocs ds = true) (h : o ds [] = .ok d m') (hd : noLoc d = true) : iso o ds m = .ok d m := by
  unfold iso
  rw [if_pos hn, h]
  show (if noLoc d = true then _ else _) = _
  rw [if_pos hd]
theorem iso_ex {o : List D → List O → Rs D} {ds : List D} {c : Str} {m m' : List O} (hn : noLocs ds = true) (h : o ds [] = .ex c m') : iso o ds m = .ex c m := by
  unfold iso
  rw [if_pos hn, h]
theorem noLocs_map {α : Type} (enc : α → D) : ∀ l : List α, (∀ z ∈ l, noLoc (enc z) = true) → noLocs (l.map enc) = true
  | [], _ => rfl
  | z :: l, h => by
    simp only [List.map_cons, noLocs, h z List.mem_cons_self, noLocs_map enc l fun y hy => h y (List.mem_cons_of_mem _ hy), Bool.and_self]
end FR
namespace FR
open PySem PySem.Spec L2
set_option autoImplicit false
variable {p : Pt} {body : FS} {r : Lc} {m : List O}
theorem forL_skip {α : Type} {enc : α → D} : ∀ l : List α, (∀ z ∈ l, ∃ r1, asg p (enc z) r = some r1 ∧ body r1 m = .ok (.nx r) m) → forL p body (l.map enc) r m = .ok (.nx r) m
  | [], _ => rfl
  | z :: l, h => by
    obtain ⟨r1, h1, h2⟩ := h z List.mem_cons_self
    simp only [List.map_cons, forL, h1, h2]
    exact forL_skip l fun y hy => h y (List.mem_cons_of_mem _ hy)
def foundR {α : Type} (out : α → D) (r : Lc) (m : List O) : Option α → Rt
  | some z => .ok (.rt (out z)) m
  | none => .ok (.nx r) m
theorem found_s {α : Type} {out : α → D} {z : α} : foundR out r m (some z) = .ok (.rt (out z)) m := rfl
theorem found_n {α : Type} {out : α → D} : foundR out r m none = .ok (.nx r) m := rfl
theorem forL_find {α : Type} {enc out : α → D} (q : α → Bool) : ∀ l : List α, (∀ z ∈ l, ∃ r1, asg p (enc z) r = some r1 ∧ (q z = false → body r1 m = .ok (.nx r) m) ∧ (q z = true → body r1 m = .ok (.rt (out z)) m)) → forL p body (l.map enc) r m = foundR out r m (l.find? q)
  | [], _ => rfl
  | z :: l, h => by
    obtain ⟨r1, h1, h2, h3⟩ := h z List.mem_cons_self
    have ih := forL_find q l fun y hy => h y (List.mem_cons_of_mem _ hy)
    cases e : q z with
    | true => simp only [List.map_cons, forL, h1, h3 e, List.find?_cons, e]; rfl
    | false => simp only [List.map_cons, forL, h1, h2 e, List.find?_cons, e]; exact ih
theorem forL_raise {α : Type} {enc : α → D} {c : Str} : ∀ l : List α, (∀ z ∈ l, ∃ r1, asg p (enc z) r = some r1 ∧ (body r1 m = .ok (.nx r) m ∨ ∃ r', body r1 m = .ex c r' m)) → (∃ z ∈ l, ∀ r1, asg p (enc z) r = some r1 → ∃ r', body r1 m = .ex c r' m) → ∃ r', forL p body (l.map enc) r m = .ex c r' m
  | [], _, ⟨z, hz, _⟩ => by cases hz
  | z :: l, h, ⟨y, hy, hx⟩ => by
    obtain ⟨r1, h1, h2⟩ := h z List.mem_cons_self
    simp only [List.map_cons, forL, h1]
    rcases h2 with h2 | ⟨r', h2⟩
    · simp only [h2]
      refine forL_raise l (fun y hy => h y (List.mem_cons_of_mem _ hy)) ?_
      rcases List.mem_cons.mp hy with e | hy
      · subst e
        obtain ⟨r', h4⟩ := hx r1 h1
        rw [h2] at h4; cases h4
      · exact ⟨y, hy, hx⟩
    · exact ⟨r', by simp only [h2]⟩
/-- a loop whose turns change what is known by a function -/
theorem forL_fold {α σ : Type} {enc : α → D} (f : σ → α → σ) (R : σ → Lc) (M : σ → List O) (I : σ → Prop) : ∀ (l : List α) (s : σ), I s → (∀ s z, z ∈ l → I s → I (f s z) ∧ ∃ r1, asg p (enc z) (R s) = some r1 ∧ body r1 (M s) = .ok (.nx (R (f s z))) (M (f s z))) → I (l.foldl f s) ∧ forL p body (l.map enc) (R s) (M s) = .ok (.nx (R (l.foldl f s))) (M (l.foldl f s))
  | [], s, hi, _ => ⟨hi, rfl⟩
  | z :: l, s, hi, h => by
    obtain ⟨hi1, r1, h1, h2⟩ := h s z List.mem_cons_self hi
    obtain ⟨hi2, e⟩ := forL_fold f R M I l (f s z) hi1 fun s y hy => h s y (List.mem_cons_of_mem _ hy)
    refine ⟨hi2, ?_⟩
    simp only [List.map_cons, forL, h1, h2, List.foldl_cons]
    exact e
theorem forL_cons {d : D} {ds : List D} : forL p body (d :: ds) r m = (match asg p d r with
    | none => .stk
    | some r1 => match body r1 m with
      | .ok (.nx r2) m => forL p body ds r2 m
      | .ok (.ct r2) m => forL p body ds r2 m
      | .ok (.bk r2) m => .ok (.nx r2) m
      | .ok (.rt d) m => .ok (.rt d) m
      | .ex c r m => .ex c r m
      | .stk => .stk) := rfl
def iRg : List D → List O → Rs (List D) := fun ds m => match ds with
  | [.int j] => if -(2 ^ 62) ≤ j ∧ j < 2 ^ 62 then .ok (rangeD 0 j) m else .stk
  | _ => .stk
def iRg2 : List D → List O → Rs (List D) := fun ds m => match ds with
  | [.int i, .int j] => if -(2 ^ 62) ≤ i ∧ i < 2 ^ 62 ∧ -(2 ^ 62) ≤ j ∧ j < 2 ^ 62 then .ok (rangeD i j) m else .stk
  | _ => .stk
theorem x_r1 {fa : FA} : iR1 fa r m = bd (fa r m) iRg := rfl
theorem x_r2 {fa : FA} : iR2 fa r m = bd (fa r m) iRg2 := rfl
theorem rangeD_nat {n : Nat} : rangeD 0 (n : Int) = (List.range n).map fun k => D.int (k : Nat) := by
  unfold rangeD
  rw [show ((n : Int) - 0).toNat = n by omega]
  exact List.map_congr_left fun k _ => by rw [Int.zero_add]
theorem iRg_n {i : Int} {n : Nat} (e : i = (n : Int)) (h : n ≤ 1000000000) : iRg [.int i] m = .ok ((List.range n).map fun k => D.int (k : Nat)) m := by
  have hh : -(2 ^ 62) ≤ i ∧ i < 2 ^ 62 := by omega
  have e2 : rangeD 0 i = (List.range n).map fun k => D.int (k : Nat) := by rw [e]; exact rangeD_nat
  show (if -(2 ^ 62) ≤ i ∧ i < 2 ^ 62 then Rs.ok (rangeD 0 i) m else .stk) = _
  rw [if_pos hh, e2]
theorem iRg2_n {i j : Int} {a b : Nat} (ea : i = (a : Int)) (eb : j = (b : Int)) (h1 : a ≤ 1000000000) (h : b ≤ 1000000000) : iRg2 [.int i, .int j] m = .ok ((List.range' a (b - a)).map fun k => D.int (k : Nat)) m := by
  have hh : -(2 ^ 62) ≤ i ∧ i < 2 ^ 62 ∧ -(2 ^ 62) ≤ j ∧ j < 2 ^ 62 := by omega
  have e2 : rangeD i j = (List.range' a (b - a)).map fun k => D.int (k : Nat) := by
    unfold rangeD
    rw [show (j - i).toNat = b - a by omega, List.range'_eq_map_range, List.map_map]
    refine List.map_congr_left fun k _ => ?_
    show D.int (i + (k : Nat)) = D.int ((a + k : Nat) : Int)
    congr 1; omega
  show (if _ then Rs.ok (rangeD i j) m else .stk) = _
  rw [if_pos hh, e2]
end FR

namespace FR
open PySem PySem.Spec L2
set_option autoImplicit false
variable {r : Lc} {m : List O} {fo : FE} {fa : FA}
def appI (i : Nat) : List D → List O → Rs D := fun ds m => match ds with
  | [d] => match m[i]? with
    | some (.lst xs) => if xs.length < 16777216 then .ok .non (m.set i (.lst (xs ++ [d]))) else .stk
    | _ => .stk
  | _ => .stk
def appO (fa : FA) (r : Lc) : D → List O → Rs D := fun o m => match derefL o m with
  | none => .stk
  | some _ => (fa r m).bind fun ds m => match o, ds with
    | .loc n, [d] => match m[n]? with
      | some (.lst xs) => if xs.length < 16777216 then .ok .non (m.set n (.lst (xs ++ [d]))) else .stk
      | _ => .stk
    | _, _ => .stk
theorem x_app : fApp fo fa r m = bd (fo r m) (appO fa r) := rfl
theorem appO_loc {i : Nat} {xs : List D} (h : m[i]? = some (.lst xs)) : appO fa r (.loc i) m = bd (fa r m) (appI i) := by
  unfold appO
  simp only [derefL, h]
  show (fa r m).bind _ = (fa r m).bind _
  congr 1
  funext ds m'
  match ds with
  | [] => rfl
  | [d] => rfl
  | _ :: _ :: _ => rfl
theorem appI_one {i : Nat} {xs : List D} {d : D} (h : m[i]? = some (.lst xs)) (hl : xs.length < 16777216) : appI i [d] m = .ok .non (m.set i (.lst (xs ++ [d]))) := by
  unfold appI
  simp only [h]
  rw [if_pos hl]
end FR

namespace FR
open PySem PySem.Spec L2
set_option autoImplicit false
variable {r : Lc} {m : List O} {f fo fi : FE} {lo hi : FP} {xs ys : List D} {c : Nat}
def soD : D → List O → Rs (Option Int) := fun d m => match d with
  | .int i => .ok (some i) m
  | _ => .stk
theorem x_sl : fSl f lo hi r m = bd (f r m) fun d m => bd (lo r m) fun l m => bd (hi r m) fun u m => gSl d l u m := rfl
theorem x_pno : pNo r m = .ok none m := rfl
theorem sl_t {l u : Option Int} : gSl (.tup xs) l u m = .ok (.tup (cutD xs l u)) m := rfl
theorem sl_l {l u : Option Int} : gSl (.lst xs) l u m = .ok (.lst (cutD xs l u)) m := rfl
theorem sl_o {l u : Option Int} (h : m[c]? = some (.lst xs)) : gSl (.loc c) l u m = .ok (.lst (cutD xs l u)) m := by simp only [gSl, derefL, h]
theorem x_pso : pSo f r m = bd (f r m) soD := rfl
theorem so_i {i : Int} : soD (.int i) m = .ok (some i) m := rfl
theorem take_min {α : Type} {xs : List α} {n : Nat} : xs.take (min n xs.length) = xs.take n := by
  rcases Nat.le_total n xs.length with h | h
  · rw [Nat.min_eq_left h]
  · rw [Nat.min_eq_right h, List.take_of_length_le h, List.take_of_length_le (Nat.le_refl _)]
theorem drop_min {α : Type} {xs : List α} {n : Nat} : xs.drop (min n xs.length) = xs.drop n := by
  rcases Nat.le_total n xs.length with h | h
  · rw [Nat.min_eq_left h]
  · rw [Nat.min_eq_right h, List.drop_of_length_le h, List.drop_of_length_le (Nat.le_refl _)]
theorem cut_take {α : Type} {xs : List α} {i : Int} {n : Nat} (h : i = (n : Nat)) : cutD xs none (some i) = xs.take n := by
  subst h
  unfold cutD
  rw [HT.sIx_none, HT.sIx_nat, List.drop_zero, Nat.sub_zero, take_min]
theorem cut_drop {α : Type} {xs : List α} {i : Int} {n : Nat} (h : i = (n : Nat)) : cutD xs (some i) none = xs.drop n := by
  subst h
  unfold cutD
  rw [HT.sIx_none, HT.sIx_nat, drop_min]
  exact List.take_of_length_le (by rw [List.length_drop]; omega)
theorem cut_mid {α : Type} {xs : List α} {i j : Int} {a b : Nat} (h : i = (a : Nat)) (h' : j = (b : Nat)) : cutD xs (some i) (some j) = (xs.drop a).take (b - a) := by
  subst h h'
  unfold cutD
  rw [HT.sIx_nat, HT.sIx_nat, drop_min]
  rcases Nat.le_total b xs.length with h | h
  · rw [Nat.min_eq_left h]
    rcases Nat.le_total a xs.length with h2 | h2
    · rw [Nat.min_eq_left h2]
    · rw [Nat.min_eq_right h2, List.drop_of_length_le h2]; simp
  · rw [Nat.min_eq_right h]
    rcases Nat.le_total a xs.length with h2 | h2
    · rw [Nat.min_eq_left h2, List.take_of_length_le (by rw [List.length_drop]; omega), List.take_of_length_le (by rw [List.length_drop]; omega)]
    · rw [Nat.min_eq_right h2, List.drop_of_length_le h2]; simp
theorem putO {i : Int} {n : Nat} {d : D} (h : m[c]? = some (.lst xs)) (hi : i = (n : Nat)) (hn : n < xs.length) : gPut (.loc c) (.int i) d m = some (m.set c (.lst (xs.set n d))) := by
  subst hi
  unfold gPut
  simp only [h]
  have : ixN xs.length (n : Int) = some n := by
    unfold ixN
    rw [if_pos (by omega), if_pos (by omega)]; simp
  rw [this]
def putK (r : Lc) : Option (List O) → Rt
  | some m => .ok (.nx r) m
  | none => .stk
theorem x_put {fo fi f : FE} : sPut fo fi f r m = sqd (f r m) r fun d m => sqd (fo r m) r fun o m => sqd (fi r m) r fun i m => putK r (gPut o i d m) := by
  have e : ∀ (o i d : D) (m : List O), (match gPut o i d m with
  | some m => Rt.ok (.nx r) m
  | none => .stk) = putK r (gPut o i d m) := fun o i d m => by cases gPut o i d m <;> rfl
  show sqd (f r m) r (fun d m => sqd (fo r m) r fun o m => sqd (fi r m) r fun i m => (match gPut o i d m with
  | some m => Rt.ok (.nx r) m
  | none => .stk)) = _
  have h : (fun (i : D) (m : List O) => fun (o d : D) => (match gPut o i d m with
  | some m => Rt.ok (.nx r) m
  | none => .stk)) = fun i m o d => putK r (gPut o i d m) := by
    funext i m o d; exact e o i d m
  have h2 : ∀ (i : D) (m : List O) (o d : D), (match gPut o i d m with
  | some m => Rt.ok (.nx r) m
  | none => .stk) = putK r (gPut o i d m) := fun i m o d => e o i d m
  unfold sqd Rs.sq
  cases f r m with
  | stk => rfl
  | ex c m => rfl
  | ok d m1 =>
    dsimp only
    cases fo r m1 with
    | stk => rfl
    | ex c m => rfl
    | ok o m2 =>
      dsimp only
      cases fi r m2 with
      | stk => rfl
      | ex c m => rfl
      | ok i m3 => exact e o i d m3
theorem putK_s {m' : List O} : putK r (some m') = .ok (.nx r) m' := rfl
theorem y_addLL (h : xs.length + ys.length ≤ 16777216) : gAdd (.lst xs) (.lst ys) m = .ok (.lst (xs ++ ys)) m := by
  show (if xs.length + ys.length ≤ 16777216 then Rs.ok (D.lst (xs ++ ys)) m else .stk) = _
  rw [if_pos h]
theorem y_addOL (hc : m[c]? = some (.lst xs)) (h : xs.length + ys.length ≤ 16777216) : gAdd (.loc c) (.lst ys) m = .ok (.lst (xs ++ ys)) m := by
  simp only [gAdd, derefL, hc]
  rw [if_pos h]
end FR
set_option Elab.async false
set_option linter.all false
set_option maxRecDepth 100000
set_option maxHeartbeats 4000000
namespace PU
open PySem PySem.Spec L2 FR
def c_KINDS : D := (.tup [(.str "int"), (.str "text"), (.str "flag")])
def c_RULES : D := (.tup [(.str "required"), (.str "optional"), (.str "repeated")])
def c_LETTERS : D := (.str "abcdefghijklmnopqrstuvwxyz")
def c_NAME_SIGNS : D := (.str "abcdefghijklmnopqrstuvwxyz0123456789_")
def c_LONGEST_NAME : D := (.int 10)
def c_MOST_DEEP : D := (.int 3)
def c_MOST_LEAVES : D := (.int 12)
def c_WHOLE_RECORD : D := (.tup [(.str ""), (.int 0), (.int 0)])
def c_SIGNS : D := (.str "abcdefghijklmnopqrstuvwxyzABCDEFGHIJKLMNOPQRSTUVWXYZ0123456789 .,;:!?-_@/()")
def c_LONGEST_TEXT : D := (.int 100)
def c_LEAST_INTEGER : D := (.int (-2147483648))
def c_GREATEST_INTEGER : D := (.int 2147483647)
def c_GREATEST_LEVEL : D := (.int 3)
def c_MOST_ENTRIES : D := (.int 1000)
def c_MOST_RECORDS : D := (.int 100)
def c_MOST_OCCURRENCES : D := (.int 100)
def c_GREATEST_NUMBER : D := (.int 4294967295)
def c_MOST_OCTETS : D := (.int 5)
theorem bb_len : bootBuiltins "len" = some (.builtin "len") := by decide +kernel
theorem bb_abs : bootBuiltins "abs" = some (.builtin "abs") := by decide +kernel
theorem bb_sum : bootBuiltins "sum" = some (.builtin "sum") := by decide +kernel
theorem bb_all : bootBuiltins "all" = some (.builtin "all") := by decide +kernel
theorem bb_any : bootBuiltins "any" = some (.builtin "any") := by decide +kernel
theorem bb_isinstance : bootBuiltins "isinstance" = some (.builtin "isinstance") := by decide +kernel
theorem bb_min : bootBuiltins "min" = some (.builtin "min") := by decide +kernel
theorem bb_max : bootBuiltins "max" = some (.builtin "max") := by decide +kernel
theorem bb_int : bootBuiltins "int" = some (.type "int") := by decide +kernel
theorem bb_str : bootBuiltins "str" = some (.type "str") := by decide +kernel
theorem bb_bool : bootBuiltins "bool" = some (.type "bool") := by decide +kernel
theorem bb_tuple : bootBuiltins "tuple" = some (.type "tuple") := by decide +kernel
theorem bb_list : bootBuiltins "list" = some (.type "list") := by decide +kernel
theorem bb_dict : bootBuiltins "dict" = some (.type "dict") := by decide +kernel
theorem bb_type : bootBuiltins "type" = some (.type "type") := by decide +kernel
theorem bb_set : bootBuiltins "set" = some (.type "set") := by decide +kernel
theorem bb_ValueError : bootBuiltins "ValueError" = some (.type "ValueError") := by decide +kernel
def b_leaf_of : FS := (sSeq (sAsg (.tp [2, 3, 4]) (fVar 0))
    (sRet (fTup (aCons (fVar 2) (aCons (fVar 1) (aCons (fVar 3) (aCons (fVar 4) aNil)))))))
def o_leaf_of := runF 5 b_leaf_of
theorem u_leaf_of (x0 x1 : D) (m : List O) : o_leaf_of [x0, x1] m = fin (b_leaf_of [some x0, some x1, none, none, none] m) := runF_fin _ _
def b_is_name : FS := (sSeq (sIf (tOr_ (tVal (fBin gIsNot (fCB bType (aCons (fVar 0) aNil)) (fC (.ty "str")))) (tNot_ (tVal (fChain gLe gLe (fC (.int 1)) (fCB bLen (aCons (fVar 0) aNil)) (fC c_LONGEST_NAME))))) (sRet (fC (.bl false))) sNx)
    (sRet (fAnd (fBin gIn (fBin gIx (fVar 0) (fC (.int 0))) (fC c_LETTERS)) (fCB bAll (aCons (fLc [1] (.nm 1) (iAll (fVar 0)) tTrue (fBin gIn (fVar 1) (fC c_NAME_SIGNS))) aNil)))))
def o_is_name := runF 2 b_is_name
theorem u_is_name (x0 : D) (m : List O) : o_is_name [x0] m = fin (b_is_name [some x0, none] m) := runF_fin _ _
def b_check_field : FS := (sSeq (sIf (tOr_ (tVal (fBin gIsNot (fCB bType (aCons (fVar 0) aNil)) (fC (.ty "tuple")))) (tVal (fBin gNe (fCB bLen (aCons (fVar 0) aNil)) (fC (.int 3))))) (sRaise "BadSchema") sNx)
    (sSeq (sAsg (.tp [1, 2, 3]) (fVar 0))
    (sSeq (sIf (tNot_ (tTru (fCB o_is_name (aCons (fVar 1) aNil)))) (sRaise "BadSchema") sNx)
    (sSeq (sIf (tOr_ (tVal (fBin gIsNot (fCB bType (aCons (fVar 2) aNil)) (fC (.ty "str")))) (tVal (fBin gNotIn (fVar 2) (fC c_RULES)))) (sRaise "BadSchema") sNx)
    (sIf (tAnd_ (tVal (fBin gIsNot (fCB bType (aCons (fVar 3) aNil)) (fC (.ty "tuple")))) (tOr_ (tVal (fBin gIsNot (fCB bType (aCons (fVar 3) aNil)) (fC (.ty "str")))) (tVal (fBin gNotIn (fVar 3) (fC c_KINDS))))) (sRaise "BadSchema") sNx)))))
def o_check_field := runF 4 b_check_field
theorem u_check_field (x0 : D) (m : List O) : o_check_field [x0] m = fin (b_check_field [some x0, none, none, none] m) := runF_fin _ _
def b_check_fields : FS := (sSeq (sIf (tOr_ (tVal (fBin gIsNot (fCB bType (aCons (fVar 0) aNil)) (fC (.ty "tuple")))) (tVal (fBin gEq (fCB bLen (aCons (fVar 0) aNil)) (fC (.int 0))))) (sRaise "BadSchema") sNx)
    (sSeq (sFor (.nm 1) (iAll (fVar 0)) (sExp (fCB o_check_field (aCons (fVar 1) aNil))))
    (sIf (tVal (fBin gNe (fLenSet [1] (.nm 1) (iAll (fVar 0)) tTrue (fBin gIx (fVar 1) (fC (.int 0)))) (fCB bLen (aCons (fVar 0) aNil)))) (sRaise "BadSchema") sNx)))
def o_check_fields := runF 2 b_check_fields
theorem u_check_fields (x0 : D) (m : List O) : o_check_fields [x0] m = fin (b_check_fields [some x0, none] m) := runF_fin _ _
def b_levels_below : FS := (sRet (fTup (aCons (fIf (tVal (fBin gEq (fVar 2) (fC (.str "repeated")))) (fBin gAdd (fVar 0) (fC (.int 1))) (fVar 0)) (aCons (fIf (tVal (fBin gEq (fVar 2) (fC (.str "required")))) (fVar 1) (fBin gAdd (fVar 1) (fC (.int 1)))) aNil))))
def o_levels_below := runF 3 b_levels_below
theorem u_levels_below (x0 x1 x2 : D) (m : List O) : o_levels_below [x0, x1, x2] m = fin (b_levels_below [some x0, some x1, some x2] m) := runF_fin _ _
def b_step_below : FS := (sSeq (sAsg (.tp [3, 4, 5]) (fVar 0))
    (sSeq (sAsg (.tp [6, 7]) (fCB o_levels_below (aCons (fVar 4) (aCons (fVar 5) (aCons (fVar 2) aNil)))))
    (sRet (fTup (aCons (fIf (tTru (fVar 3)) (fJs ((fUn gFmt (fVar 3)) :: ((fC (.str ".")) :: ((fUn gFmt (fVar 1)) :: [])))) (fVar 1)) (aCons (fVar 6) (aCons (fVar 7) aNil)))))))
def o_step_below := runF 8 b_step_below
theorem u_step_below (x0 x1 x2 : D) (m : List O) : o_step_below [x0, x1, x2] m = fin (b_step_below [some x0, some x1, some x2, none, none, none, none, none] m) := runF_fin _ _
def b_ways_within (o_ways_within : List D → List O → Rs D) : FS := (sSeq (sIf (tVal (fBin gGt (fCB bLen (aCons (fVar 1) aNil)) (fC c_MOST_DEEP))) (sRaise "BadSchema") sNx)
    (sSeq (sExp (fCB o_check_fields (aCons (fVar 0) aNil)))
    (sSeq (sSet 2 (fNew aNil))
    (sSeq (sFor (.tp [3, 4, 5]) (iAll (fVar 0)) (sSeq (sSet 6 (fTup (aStar (fVar 1) (aCons (fCB o_step_below (aCons (fBin gIx (fVar 1) (fUn gNeg (fC (.int 1)))) (aCons (fVar 3) (aCons (fVar 4) aNil)))) aNil))))
    (sIf (tVal (fBin gIs (fCB bType (aCons (fVar 5) aNil)) (fC (.ty "tuple")))) (sExp (fExt (fVar 2) (aCons (fCB o_ways_within (aCons (fVar 5) (aCons (fVar 6) aNil))) aNil))) (sExp (fApp (fVar 2) (aCons (fTup (aCons (fVar 6) (aCons (fVar 5) aNil))) aNil))))))
    (sSeq (sIf (tVal (fBin gGt (fCB bLen (aCons (fVar 2) aNil)) (fC c_MOST_LEAVES))) (sRaise "BadSchema") sNx)
    (sRet (fFrz (fVar 2))))))))
def r_ways_within : Nat → List D → List O → Rs D
  | 0 => fun _ _ => .stk
  | n + 1 => runF 7 (b_ways_within (r_ways_within n))
def o_ways_within := r_ways_within 6
theorem u_ways_within (n : Nat) (x0 x1 : D) (m : List O) : r_ways_within (n + 1) [x0, x1] m = fin (b_ways_within (r_ways_within n) [some x0, some x1, none, none, none, none, none] m) := runF_fin _ _
def b_Schema___init__ : FS := (sSeq (sSet 2 (fCB o_ways_within (aCons (fVar 1) (aCons (fTup (aCons (fC c_WHOLE_RECORD) aNil)) aNil))))
    (sSeq (sFldS "Schema" "fields" (fVar 0) (fVar 1))
    (sSeq (sFldS "Schema" "ways" (fVar 0) (fCB bTuple (aCons (fLc [3, 4] (.tp [3, 4]) (iAll (fVar 2)) tTrue (fVar 3)) aNil)))
    (sFldS "Schema" "leaves" (fVar 0) (fCB bTuple (aCons (fLc [3, 4] (.tp [3, 4]) (iAll (fVar 2)) tTrue (fCB o_leaf_of (aCons (fBin gIx (fVar 3) (fUn gNeg (fC (.int 1)))) (aCons (fVar 4) aNil)))) aNil))))))
def o_Schema___init__ := runF 5 b_Schema___init__
theorem u_Schema___init__ (x0 x1 : D) (m : List O) : o_Schema___init__ [x0, x1] m = fin (b_Schema___init__ [some x0, some x1, none, none, none] m) := runF_fin _ _
def o_Schema := o_Schema___init__
def b_Schema___eq__ : FS := (sRet (fAnd (fCB (bIsO "Schema") (aCons (fVar 1) (aCons (fC (.glo "Schema")) aNil))) (fBin gEq (fUn (gFld "Schema" "fields") (fVar 0)) (fUn (gFld "Schema" "fields") (fVar 1)))))
def o_Schema___eq__ := runF 2 b_Schema___eq__
theorem u_Schema___eq__ (x0 x1 : D) (m : List O) : o_Schema___eq__ [x0, x1] m = fin (b_Schema___eq__ [some x0, some x1] m) := runF_fin _ _
def b_Schema___len__ : FS := (sRet (fCB bLen (aCons (fUn (gFld "Schema" "leaves") (fVar 0)) aNil)))
def o_Schema___len__ := runF 1 b_Schema___len__
theorem u_Schema___len__ (x0 : D) (m : List O) : o_Schema___len__ [x0] m = fin (b_Schema___len__ [some x0] m) := runF_fin _ _
def e_Schema_place_of_0 : FE := (fBin gIx (fVar 3) (fC (.int 0)))
def b_Schema_place_of : FS := (sSeq (sSet 2 (fLc [3] (.nm 3) (iAll (fUn (gFld "Schema" "leaves") (fVar 0))) tTrue (e_Schema_place_of_0)))
    (sSeq (sIf (tOr_ (tVal (fBin gIsNot (fCB bTypeA (aCons (fVar 1) aNil)) (fC (.ty "str")))) (tVal (fBin gNotIn (fVar 1) (fVar 2)))) (sRaise "NoSuchPath") sNx)
    (sRet (fIdx (fVar 2) (fVar 1)))))
def o_Schema_place_of := runF 4 b_Schema_place_of
theorem u_Schema_place_of (x0 x1 : D) (m : List O) : o_Schema_place_of [x0, x1] m = fin (b_Schema_place_of [some x0, some x1, none, none] m) := runF_fin _ _
def b_common_group : FS := (sSeq (sSet 3 (fC c_WHOLE_RECORD))
    (sSeq (sFor (.tp [4, 5]) (iZip (aCons (fBin gIx (fUn (gFld "Schema" "ways") (fVar 0)) (fVar 1)) (aCons (fBin gIx (fUn (gFld "Schema" "ways") (fVar 0)) (fVar 2)) aNil))) (sIf (tVal (fBin gEq (fVar 4) (fVar 5))) (sSet 3 (fVar 4)) sNx))
    (sRet (fVar 3))))
def o_common_group := runF 6 b_common_group
theorem u_common_group (x0 x1 x2 : D) (m : List O) : o_common_group [x0, x1, x2] m = fin (b_common_group [some x0, some x1, some x2, none, none, none] m) := runF_fin _ _
def e_start_of_0 : FE := (fBin gIx (fVar 3) (fC (.int 2)))
def t_start_of_0 : FT := (tVal (fBin gEq (fBin gIx (fVar 3) (fC (.int 1))) (fVar 2)))
def b_start_of : FS := (sRet (fCB bMin (aCons (fLc [3] (.nm 3) (iAll (fBin gIx (fUn (gFld "Schema" "ways") (fVar 0)) (fVar 1))) (t_start_of_0) (e_start_of_0)) aNil)))
def o_start_of := runF 4 b_start_of
theorem u_start_of (x0 x1 x2 : D) (m : List O) : o_start_of [x0, x1, x2] m = fin (b_start_of [some x0, some x1, some x2, none] m) := runF_fin _ _
def e_count_leaves_0 (o_count_leaves : List D → List O → Rs D) : FE := (fCB o_count_leaves (aCons (fBin gIx (fVar 1) (fC (.int 2))) aNil))
def b_count_leaves (o_count_leaves : List D → List O → Rs D) : FS := (sSeq (sIf (tVal (fBin gIsNot (fCB bTypeA (aCons (fVar 0) aNil)) (fC (.ty "tuple")))) (sRet (fC (.int 1))) sNx)
    (sRet (fCB bSum (aCons (fLc [1] (.nm 1) (iAll (fVar 0)) tTrue (e_count_leaves_0 o_count_leaves)) aNil))))
def r_count_leaves : Nat → List D → List O → Rs D
  | 0 => fun _ _ => .stk
  | n + 1 => runF 2 (b_count_leaves (r_count_leaves n))
def o_count_leaves := r_count_leaves 6
theorem u_count_leaves (n : Nat) (x0 : D) (m : List O) : r_count_leaves (n + 1) [x0] m = fin (b_count_leaves (r_count_leaves n) [some x0, none] m) := runF_fin _ _
def e_is_value_0 : FE := (fBin gIn (fVar 2) (fC c_SIGNS))
def b_is_value : FS := (sSeq (sIf (tVal (fBin gEq (fVar 1) (fC (.str "int")))) (sRet (fAnd (fBin gIs (fCB bTypeA (aCons (fVar 0) aNil)) (fC (.ty "int"))) (fChain gLe gLe (fC c_LEAST_INTEGER) (fVar 0) (fC c_GREATEST_INTEGER)))) sNx)
    (sSeq (sIf (tVal (fBin gEq (fVar 1) (fC (.str "text")))) (sRet (fAnd (fBin gIs (fCB bTypeA (aCons (fVar 0) aNil)) (fC (.ty "str"))) (fAnd (fBin gLe (fCB bLen (aCons (fVar 0) aNil)) (fC c_LONGEST_TEXT)) (fCB bAll (aCons (fLc [2] (.nm 2) (iAll (fVar 0)) tTrue (e_is_value_0)) aNil))))) sNx)
    (sRet (fAnd (fBin gEq (fVar 1) (fC (.str "flag"))) (fBin gIs (fCB bTypeA (aCons (fVar 0) aNil)) (fC (.ty "bool")))))))
def o_is_value := runF 3 b_is_value
theorem u_is_value (x0 x1 : D) (m : List O) : o_is_value [x0, x1] m = fin (b_is_value [some x0, some x1, none] m) := runF_fin _ _
def b_is_level : FS := (sRet (fAnd (fBin gIs (fCB bTypeA (aCons (fVar 0) aNil)) (fC (.ty "int"))) (fChain gLe gLe (fC (.int 0)) (fVar 0) (fC c_GREATEST_LEVEL))))
def o_is_level := runF 1 b_is_level
theorem u_is_level (x0 : D) (m : List O) : o_is_level [x0] m = fin (b_is_level [some x0] m) := runF_fin _ _
def e_is_entry_0 : FE := (fCB o_is_value (aCons (fVar 3) (aCons (fVar 4) aNil)))
def b_is_entry : FS := (sSeq (sIf (tOr_ (tVal (fBin gIsNot (fCB bTypeA (aCons (fVar 0) aNil)) (fC (.ty "tuple")))) (tVal (fBin gNe (fCB bLen (aCons (fVar 0) aNil)) (fC (.int 3))))) (sRet (fC (.bl false))) sNx)
    (sSeq (sAsg (.tp [1, 2, 3]) (fVar 0))
    (sSeq (sIf (tOr_ (tNot_ (tTru (fCB o_is_level (aCons (fVar 1) aNil)))) (tNot_ (tTru (fCB o_is_level (aCons (fVar 2) aNil))))) (sRet (fC (.bl false))) sNx)
    (sRet (fOr (fBin gIs (fVar 3) (fC .non)) (fCB bAny (aCons (fLc [4] (.nm 4) (iAll (fC c_KINDS)) tTrue (e_is_entry_0)) aNil)))))))
def o_is_entry := runF 5 b_is_entry
theorem u_is_entry (x0 : D) (m : List O) : o_is_entry [x0] m = fin (b_is_entry [some x0, none, none, none, none] m) := runF_fin _ _
def e_is_column_0 : FE := (fCB o_is_entry (aCons (fVar 1) aNil))
def b_is_column : FS := (sSeq (sIf (tOr_ (tVal (fBin gIsNot (fCB bTypeA (aCons (fVar 0) aNil)) (fC (.ty "tuple")))) (tVal (fBin gGt (fCB bLen (aCons (fVar 0) aNil)) (fC c_MOST_ENTRIES)))) (sRet (fC (.bl false))) sNx)
    (sRet (fCB bAll (aCons (fLc [1] (.nm 1) (iAll (fVar 0)) tTrue (e_is_column_0)) aNil))))
def o_is_column := runF 2 b_is_column
theorem u_is_column (x0 : D) (m : List O) : o_is_column [x0] m = fin (b_is_column [some x0, none] m) := runF_fin _ _
def f_check_parts_0 : FS := (sFgtE [2] (sIf (tAnd_ (tVal (fBin gIsNot (fVar 2) (fC .non))) (tNot_ (tTru (fCB o_is_column (aCons (fVar 2) aNil))))) (sRaise "BadParts") sNx))
def b_check_parts : FS := (sSeq (sIf (tOr_ (tVal (fBin gIsNot (fCB bTypeA (aCons (fVar 1) aNil)) (fC (.ty "tuple")))) (tVal (fBin gNe (fCB bLen (aCons (fVar 1) aNil)) (fLenO "Schema" o_Schema___len__ (fVar 0))))) (sRaise "BadParts") sNx)
    (sFgtB [2] (sFor (.nm 2) (iAll (fVar 1)) (f_check_parts_0))))
def o_check_parts := runF 3 b_check_parts
theorem u_check_parts (x0 x1 : D) (m : List O) : o_check_parts [x0, x1] m = fin (b_check_parts [some x0, some x1, none] m) := runF_fin _ _
def b_continues_list : FS := (sSeq (sSet 4 (fCB o_start_of (aCons (fVar 0) (aCons (fVar 1) (aCons (fBin gIx (fBin gIx (fVar 2) (fVar 3)) (fC (.int 0))) aNil)))))
    (sRet (fAnd (fBin gGt (fVar 3) (fC (.int 0))) (fAnd (fBin gGe (fBin gIx (fBin gIx (fVar 2) (fBin gSub (fVar 3) (fC (.int 1)))) (fC (.int 1))) (fVar 4)) (fBin gGe (fBin gIx (fBin gIx (fVar 2) (fVar 3)) (fC (.int 1))) (fVar 4))))))
def o_continues_list := runF 5 b_continues_list
theorem u_continues_list (x0 x1 x2 x3 : D) (m : List O) : o_continues_list [x0, x1, x2, x3] m = fin (b_continues_list [some x0, some x1, some x2, some x3, none] m) := runF_fin _ _
def b_is_admissible : FS := (sSeq (sIf (tOr_ (tNot_ (tVal (fChain gLe gLt (fC (.int 0)) (fVar 3) (fCB bLen (aCons (fVar 2) aNil))))) (tNot_ (tTru (fCB o_is_entry (aCons (fBin gIx (fVar 2) (fVar 3)) aNil))))) (sRet (fC (.bl false))) sNx)
    (sSeq (sAsg (.tp [4, 5, 6, 7]) (fBin gIx (fUn (gFld "Schema" "leaves") (fVar 0)) (fVar 1)))
    (sSeq (sAsg (.tp [8, 9, 10]) (fBin gIx (fVar 2) (fVar 3)))
    (sSeq (sIf (tOr_ (tVal (fBin gGt (fVar 8) (fVar 6))) (tVal (fBin gGt (fVar 9) (fVar 7)))) (sRet (fC (.bl false))) sNx)
    (sSeq (sIf (tAnd_ (tVal (fBin gLt (fVar 9) (fVar 7))) (tVal (fBin gIsNot (fVar 10) (fC .non)))) (sRet (fC (.bl false))) sNx)
    (sSeq (sIf (tAnd_ (tVal (fBin gEq (fVar 9) (fVar 7))) (tNot_ (tTru (fCB o_is_value (aCons (fVar 10) (aCons (fVar 5) aNil)))))) (sRet (fC (.bl false))) sNx)
    (sRet (fOr (fBin gEq (fVar 8) (fC (.int 0))) (fCB o_continues_list (aCons (fVar 0) (aCons (fVar 1) (aCons (fVar 2) (aCons (fVar 3) aNil)))))))))))))
def o_is_admissible := runF 11 b_is_admissible
theorem u_is_admissible (x0 x1 x2 x3 : D) (m : List O) : o_is_admissible [x0, x1, x2, x3] m = fin (b_is_admissible [some x0, some x1, some x2, some x3, none, none, none, none, none, none, none] m) := runF_fin _ _
def f_first_fault_0 : FS := (sFgtE [3] (sIf (tNot_ (tTru (fCB o_is_admissible (aCons (fVar 0) (aCons (fVar 1) (aCons (fVar 2) (aCons (fVar 3) aNil))))))) (sRet (fVar 3)) sNx))
def b_first_fault : FS := (sSeq (sFgtB [3] (sFor (.nm 3) (iR1 (aCons (fCB bLen (aCons (fVar 2) aNil)) aNil)) (f_first_fault_0)))
    (sRet (fC .non)))
def o_first_fault := runF 4 b_first_fault
theorem u_first_fault (x0 x1 x2 : D) (m : List O) : o_first_fault [x0, x1, x2] m = fin (b_first_fault [some x0, some x1, some x2, none] m) := runF_fin _ _
def b_has_sound : FS := (sRet (fAnd (fBin gIsNot (fBin gIx (fVar 1) (fVar 2)) (fC .non)) (fBin gIs (fCB o_first_fault (aCons (fVar 0) (aCons (fVar 2) (aCons (fBin gIx (fVar 1) (fVar 2)) aNil)))) (fC .non))))
def o_has_sound := runF 3 b_has_sound
theorem u_has_sound (x0 x1 x2 : D) (m : List O) : o_has_sound [x0, x1, x2] m = fin (b_has_sound [some x0, some x1, some x2] m) := runF_fin _ _
def e_skeleton_0 : FE := (fTup (aCons (fBin gIx (fVar 3) (fC (.int 0))) (aCons (fCB bMin2 (aCons (fBin gIx (fVar 3) (fC (.int 1))) (aCons (fVar 2) aNil))) aNil)))
def t_skeleton_0 : FT := (tVal (fBin gLe (fBin gIx (fVar 3) (fC (.int 0))) (fVar 1)))
def b_skeleton : FS := (sRet (fCB bTuple (aCons (fLc [3] (.nm 3) (iAll (fVar 0)) (t_skeleton_0) (e_skeleton_0)) aNil)))
def o_skeleton := runF 4 b_skeleton
theorem u_skeleton (x0 x1 x2 : D) (m : List O) : o_skeleton [x0, x1, x2] m = fin (b_skeleton [some x0, some x1, some x2, none] m) := runF_fin _ _
def b_skeletons_of : FS := (sSeq (sAsg (.tp [4, 5, 6]) (fCB o_common_group (aCons (fVar 0) (aCons (fVar 2) (aCons (fVar 3) aNil)))))
    (sRet (fTup (aCons (fCB o_skeleton (aCons (fBin gIx (fVar 1) (fVar 2)) (aCons (fVar 5) (aCons (fVar 6) aNil)))) (aCons (fCB o_skeleton (aCons (fBin gIx (fVar 1) (fVar 3)) (aCons (fVar 5) (aCons (fVar 6) aNil)))) aNil)))))
def o_skeletons_of := runF 7 b_skeletons_of
theorem u_skeletons_of (x0 x1 x2 x3 : D) (m : List O) : o_skeletons_of [x0, x1, x2, x3] m = fin (b_skeletons_of [some x0, some x1, some x2, some x3, none, none, none] m) := runF_fin _ _
def b_columns_fit : FS := (sSeq (sAsg (.tp [4, 5]) (fCB o_skeletons_of (aCons (fVar 0) (aCons (fVar 1) (aCons (fVar 2) (aCons (fVar 3) aNil))))))
    (sRet (fBin gEq (fVar 4) (fVar 5))))
def o_columns_fit := runF 6 b_columns_fit
theorem u_columns_fit (x0 x1 x2 x3 : D) (m : List O) : o_columns_fit [x0, x1, x2, x3] m = fin (b_columns_fit [some x0, some x1, some x2, some x3, none, none] m) := runF_fin _ _
def e_validate_0 : FE := (fVar 3)
def t_validate_0 : FT := (tVal (fBin gIsNot (fBin gIx (fVar 1) (fVar 3)) (fC .non)))
def f_validate_0 : FS := (sFgtE [3, 4] (sSeq (sSet 4 (fCB o_first_fault (aCons (fVar 0) (aCons (fVar 3) (aCons (fBin gIx (fVar 1) (fVar 3)) aNil)))))
    (sIf (tVal (fBin gIsNot (fVar 4) (fC .non))) (sRet (fTup (aCons (fC (.str "entry")) (aCons (fVar 3) (aCons (fVar 4) aNil))))) sNx)))
def f_validate_1 : FS := (sFgtE [6] (sIf (tAnd_ (tVal (fBin gLt (fVar 5) (fVar 6))) (tNot_ (tTru (fCB o_columns_fit (aCons (fVar 0) (aCons (fVar 1) (aCons (fVar 5) (aCons (fVar 6) aNil)))))))) (sRet (fTup (aCons (fC (.str "pair")) (aCons (fVar 5) (aCons (fVar 6) (aCons (fBin gIx (fCB o_common_group (aCons (fVar 0) (aCons (fVar 5) (aCons (fVar 6) aNil)))) (fC (.int 0))) aNil)))))) sNx))
def f_validate_2 : FS := (sFgtE [5, 6] (sFgtB [6] (sFor (.nm 6) (iAll (fVar 2)) (f_validate_1))))
def b_validate : FS := (sSeq (sExp (fCB o_check_parts (aCons (fVar 0) (aCons (fVar 1) aNil))))
    (sSeq (sSet 2 (fLc [3] (.nm 3) (iR1 (aCons (fCB bLen (aCons (fVar 1) aNil)) aNil)) (t_validate_0) (e_validate_0)))
    (sSeq (sFgtB [3, 4] (sFor (.nm 3) (iAll (fVar 2)) (f_validate_0)))
    (sSeq (sFgtB [5, 6] (sFor (.nm 5) (iAll (fVar 2)) (f_validate_2)))
    (sRet (fC .non))))))
def o_validate := runF 7 b_validate
theorem u_validate (x0 x1 : D) (m : List O) : o_validate [x0, x1] m = fin (b_validate [some x0, some x1, none, none, none, none, none] m) := runF_fin _ _
def e_has_just_names_0 : FE := (fBin gIs (fCB bTypeA (aCons (fVar 2) aNil)) (fC (.ty "str")))
def e_has_just_names_1 : FE := (fBin gIx (fVar 3) (fC (.int 0)))
def b_has_just_names : FS := (sSeq (sIf (tNot_ (tTru (fCB bAll (aCons (fLc [2] (.nm 2) (iKeysD (fVar 1)) tTrue (e_has_just_names_0)) aNil)))) (sRet (fC (.bl false))) sNx)
    (sRet (fBin gEq (fCB bListA (aCons (fVar 1) aNil)) (fLc [3] (.nm 3) (iAll (fVar 0)) tTrue (e_has_just_names_1)))))
def o_has_just_names := runF 4 b_has_just_names
theorem u_has_just_names (x0 x1 : D) (m : List O) : o_has_just_names [x0, x1] m = fin (b_has_just_names [some x0, some x1, none, none] m) := runF_fin _ _
def b_occurrences_of : FS := (sSeq (sIf (tVal (fBin gEq (fVar 0) (fC (.str "required")))) (sRet (fLst (aCons (fVar 1) aNil))) sNx)
    (sSeq (sIf (tVal (fBin gEq (fVar 0) (fC (.str "optional")))) (sRet (fIf (tVal (fBin gIs (fVar 1) (fC .non))) (fLst aNil) (fLst (aCons (fVar 1) aNil)))) sNx)
    (sSeq (sIf (tOr_ (tVal (fBin gIsNot (fCB bTypeA (aCons (fVar 1) aNil)) (fC (.ty "list")))) (tVal (fBin gGt (fCB bLen (aCons (fVar 1) aNil)) (fC c_MOST_OCCURRENCES)))) (sRaise "BadRecord") sNx)
    (sRet (fVar 1)))))
def o_occurrences_of := runF 2 b_occurrences_of
theorem u_occurrences_of (x0 x1 : D) (m : List O) : o_occurrences_of [x0, x1] m = fin (b_occurrences_of [some x0, some x1] m) := runF_fin _ _
def f_check_record_0 (o_check_record : List D → List O → Rs D) (o_check_occurrence : List D → List O → Rs D) : FS := (sFgtE [5] (sExp (fCB o_check_occurrence (aCons (fVar 4) (aCons (fVar 5) aNil)))))
def f_check_record_1 (o_check_record : List D → List O → Rs D) (o_check_occurrence : List D → List O → Rs D) : FS := (sFgtE [2, 3, 4, 5] (sFgtB [5] (sFor (.nm 5) (iAll (fCB o_occurrences_of (aCons (fVar 3) (aCons (fBin gIxA (fVar 1) (fVar 2)) aNil)))) (f_check_record_0 o_check_record o_check_occurrence))))
def b_check_record (o_check_record : List D → List O → Rs D) (o_check_occurrence : List D → List O → Rs D) : FS := (sSeq (sIf (tOr_ (tVal (fBin gIsNot (fCB bTypeA (aCons (fVar 1) aNil)) (fC (.ty "dict")))) (tNot_ (tTru (fCB o_has_just_names (aCons (fVar 0) (aCons (fVar 1) aNil)))))) (sRaise "BadRecord") sNx)
    (sFgtB [2, 3, 4, 5] (sFor (.tp [2, 3, 4]) (iAll (fVar 0)) (f_check_record_1 o_check_record o_check_occurrence))))
def b_check_occurrence (o_check_record : List D → List O → Rs D) (o_check_occurrence : List D → List O → Rs D) : FS := (sIf (tVal (fBin gIs (fCB bTypeA (aCons (fVar 0) aNil)) (fC (.ty "tuple")))) (sExp (fCB o_check_record (aCons (fVar 0) (aCons (fVar 1) aNil)))) (sIf (tNot_ (tTru (fCB o_is_value (aCons (fVar 1) (aCons (fVar 0) aNil))))) (sRaise "BadRecord") sNx))
def R_check_record_x_check_occurrence : Nat → (List D → List O → Rs D) × (List D → List O → Rs D)
  | 0 => (fun _ _ => .stk, fun _ _ => .stk)
  | n + 1 => (runF 6 (b_check_record (R_check_record_x_check_occurrence n).1 (R_check_record_x_check_occurrence n).2), runF 2 (b_check_occurrence (R_check_record_x_check_occurrence n).1 (R_check_record_x_check_occurrence n).2))
def o_check_record := (R_check_record_x_check_occurrence 9).1
def o_check_occurrence := (R_check_record_x_check_occurrence 9).2
theorem u_check_record (n : Nat) (x0 x1 : D) (m : List O) : (R_check_record_x_check_occurrence (n + 1)).1 [x0, x1] m = fin ((b_check_record (R_check_record_x_check_occurrence n).1 (R_check_record_x_check_occurrence n).2) [some x0, some x1, none, none, none, none] m) := runF_fin _ _
theorem u_check_occurrence (n : Nat) (x0 x1 : D) (m : List O) : (R_check_record_x_check_occurrence (n + 1)).2 [x0, x1] m = fin ((b_check_occurrence (R_check_record_x_check_occurrence n).1 (R_check_record_x_check_occurrence n).2) [some x0, some x1] m) := runF_fin _ _
def f_check_records_0 : FS := (sFgtE [2] (sExp (fCB o_check_record (aCons (fUn (gFld "Schema" "fields") (fVar 0)) (aCons (fVar 2) aNil)))))
def b_check_records : FS := (sSeq (sIf (tOr_ (tVal (fBin gIsNot (fCB bTypeA (aCons (fVar 1) aNil)) (fC (.ty "list")))) (tVal (fBin gGt (fCB bLen (aCons (fVar 1) aNil)) (fC c_MOST_RECORDS)))) (sRaise "BadRecord") sNx)
    (sFgtB [2] (sFor (.nm 2) (iAll (fVar 1)) (f_check_records_0))))
def o_check_records := runF 3 b_check_records
theorem u_check_records (x0 x1 : D) (m : List O) : o_check_records [x0, x1] m = fin (b_check_records [some x0, some x1, none] m) := runF_fin _ _
def b_add_entry : FS := (sSeq (sIf (tVal (fBin gEq (fCB bLen (aCons (fVar 0) aNil)) (fC c_MOST_ENTRIES))) (sRaise "TooMany") sNx)
    (sExp (fApp (fVar 0) (aCons (fVar 1) aNil))))
def o_add_entry := runF 2 b_add_entry
theorem u_add_entry (x0 x1 : D) (m : List O) : o_add_entry [x0, x1] m = fin (b_add_entry [some x0, some x1] m) := runF_fin _ _
def f_write_record_0 (o_write_record : List D → List O → Rs D) (o_write_occurrence : List D → List O → Rs D) : FS := (sFgtE [13] (sExp (fCB o_add_entry (aCons (fBin gIx (fVar 4) (fVar 13)) (aCons (fTup (aCons (fVar 5) (aCons (fVar 7) (aCons (fC .non) aNil)))) aNil)))))
def f_write_record_1 (o_write_record : List D → List O → Rs D) (o_write_occurrence : List D → List O → Rs D) : FS := (sFgtE [15, 16, 17] (sSeq (sSet 17 (fIf (tVal (fBin gEq (fVar 15) (fC (.int 0)))) (fVar 5) (fBin gIx (fVar 14) (fC (.int 0)))))
    (sExp (fCB o_write_occurrence (aCons (fVar 10) (aCons (fVar 16) (aCons (fTup (aCons (fVar 17) (aStar (fVar 14) aNil))) (aCons (fVar 3) (aCons (fVar 4) aNil)))))))))
def f_write_record_2 (o_write_record : List D → List O → Rs D) (o_write_occurrence : List D → List O → Rs D) : FS := (sFgtE [8, 9, 10, 11, 12, 13, 14, 15, 16, 17] (sSeq (sSet 11 (fBin gAdd (fVar 3) (fCB o_count_leaves (aCons (fVar 10) aNil))))
    (sSeq (sSet 12 (fCB o_occurrences_of (aCons (fVar 9) (aCons (fBin gIxA (fVar 1) (fVar 8)) aNil))))
    (sSeq (sIf (tVal (fBin gEq (fCB bLen (aCons (fVar 12) aNil)) (fC (.int 0)))) (sFgtB [13] (sFor (.nm 13) (iR2 (aCons (fVar 3) (aCons (fVar 11) aNil))) (f_write_record_0 o_write_record o_write_occurrence))) sNx)
    (sSeq (sSet 14 (fCB o_levels_below (aCons (fVar 6) (aCons (fVar 7) (aCons (fVar 9) aNil)))))
    (sSeq (sFgtB [15, 16, 17] (sFor (.tp [15, 16]) (iEnumD (fVar 12)) (f_write_record_1 o_write_record o_write_occurrence)))
    (sSet 3 (fVar 11))))))))
def b_write_record (o_write_record : List D → List O → Rs D) (o_write_occurrence : List D → List O → Rs D) : FS := (sSeq (sAsg (.tp [5, 6, 7]) (fVar 2))
    (sFgtB [8, 9, 10, 11, 12, 13, 14, 15, 16, 17] (sFor (.tp [8, 9, 10]) (iAll (fVar 0)) (f_write_record_2 o_write_record o_write_occurrence))))
def b_write_occurrence (o_write_record : List D → List O → Rs D) (o_write_occurrence : List D → List O → Rs D) : FS := (sIf (tVal (fBin gIs (fCB bTypeA (aCons (fVar 0) aNil)) (fC (.ty "tuple")))) (sExp (fCB o_write_record (aCons (fVar 0) (aCons (fVar 1) (aCons (fVar 2) (aCons (fVar 3) (aCons (fVar 4) aNil))))))) (sExp (fCB o_add_entry (aCons (fBin gIx (fVar 4) (fVar 3)) (aCons (fTup (aCons (fBin gIx (fVar 2) (fC (.int 0))) (aCons (fBin gIx (fVar 2) (fC (.int 2))) (aCons (fVar 1) aNil)))) aNil)))))
def R_write_record_x_write_occurrence : Nat → (List D → List O → Rs D) × (List D → List O → Rs D)
  | 0 => (fun _ _ => .stk, fun _ _ => .stk)
  | n + 1 => (runF 18 (b_write_record (R_write_record_x_write_occurrence n).1 (R_write_record_x_write_occurrence n).2), runF 5 (b_write_occurrence (R_write_record_x_write_occurrence n).1 (R_write_record_x_write_occurrence n).2))
def o_write_record := (R_write_record_x_write_occurrence 9).1
def o_write_occurrence := (R_write_record_x_write_occurrence 9).2
theorem u_write_record (n : Nat) (x0 x1 x2 x3 x4 : D) (m : List O) : (R_write_record_x_write_occurrence (n + 1)).1 [x0, x1, x2, x3, x4] m = fin ((b_write_record (R_write_record_x_write_occurrence n).1 (R_write_record_x_write_occurrence n).2) [some x0, some x1, some x2, some x3, some x4, none, none, none, none, none, none, none, none, none, none, none, none, none] m) := runF_fin _ _
theorem u_write_occurrence (n : Nat) (x0 x1 x2 x3 x4 : D) (m : List O) : (R_write_record_x_write_occurrence (n + 1)).2 [x0, x1, x2, x3, x4] m = fin ((b_write_occurrence (R_write_record_x_write_occurrence n).1 (R_write_record_x_write_occurrence n).2) [some x0, some x1, some x2, some x3, some x4] m) := runF_fin _ _
def e_shred_0 : FE := (fNew aNil)
def f_shred_0 : FS := (sFgtE [4] (sExp (fCB o_write_record (aCons (fUn (gFld "Schema" "fields") (fVar 0)) (aCons (fVar 4) (aCons (fTup (aCons (fC (.int 0)) (aCons (fC (.int 0)) (aCons (fC (.int 0)) aNil)))) (aCons (fC (.int 0)) (aCons (fVar 2) aNil))))))))
def e_shred_1 : FE := (fCB bTuple (aCons (fVar 5) aNil))
def b_shred : FS := (sSeq (sExp (fCB o_check_records (aCons (fVar 0) (aCons (fVar 1) aNil))))
    (sSeq (sSet 2 (fLc [3] (.nm 3) (iAll (fUn (gFld "Schema" "leaves") (fVar 0))) tTrue (e_shred_0)))
    (sSeq (sFgtB [4] (sFor (.nm 4) (iAll (fVar 1)) (f_shred_0)))
    (sRet (fCB bTuple (aCons (fLc [5] (.nm 5) (iAll (fVar 2)) tTrue (e_shred_1)) aNil))))))
def o_shred := runF 6 b_shred
theorem u_shred (x0 x1 : D) (m : List O) : o_shred [x0, x1] m = fin (b_shred [some x0, some x1, none, none, none, none] m) := runF_fin _ _
def e_check_whole_0 : FE := (fBin gIs (fVar 2) (fC .non))
def b_check_whole : FS := (sSeq (sIf (tVal (fBin gIsNot (fCB o_validate (aCons (fVar 0) (aCons (fVar 1) aNil))) (fC .non))) (sRaise "Inconsistent") sNx)
    (sIf (tTru (fCB bAny (aCons (fLc [2] (.nm 2) (iAll (fVar 1)) tTrue (e_check_whole_0)) aNil))) (sRaise "Inconsistent") sNx))
def o_check_whole := runF 3 b_check_whole
theorem u_check_whole (x0 x1 : D) (m : List O) : o_check_whole [x0, x1] m = fin (b_check_whole [some x0, some x1, none] m) := runF_fin _ _
def f_pieces_0 : FS := (sFgtE [3] (sSeq (sIf (tVal (fBin gLe (fBin gIx (fVar 3) (fC (.int 0))) (fVar 1))) (sExp (fApp (fVar 2) (aCons (fNew aNil) aNil))) sNx)
    (sExp (fApp (fBin gIx (fVar 2) (fUn gNeg (fC (.int 1)))) (aCons (fVar 3) aNil)))))
def b_pieces : FS := (sSeq (sSet 2 (fNew aNil))
    (sSeq (sFgtB [3] (sFor (.nm 3) (iAll (fVar 0)) (f_pieces_0)))
    (sRet (fUn gFrz2 (fVar 2)))))
def o_pieces := runF 4 b_pieces
theorem u_pieces (x0 x1 : D) (m : List O) : o_pieces [x0, x1] m = fin (b_pieces [some x0, some x1, none, none] m) := runF_fin _ _
def f_record_from_0 (o_record_from : List D → List O → Rs D) (o_content_from : List D → List O → Rs D) (o_occurrence_from : List D → List O → Rs D) : FS := (sFgtE [5, 6, 7, 8] (sSeq (sSet 8 (fBin gAdd (fVar 4) (fCB o_count_leaves (aCons (fVar 7) aNil))))
    (sSeq (sPutD (fVar 3) (fVar 5) (fCB (iso o_content_from) (aCons (fVar 6) (aCons (fVar 7) (aCons (fSl (fVar 1) (pSo (fVar 4)) (pSo (fVar 8))) (aCons (fVar 2) aNil))))))
    (sSet 4 (fVar 8)))))
def b_record_from (o_record_from : List D → List O → Rs D) (o_content_from : List D → List O → Rs D) (o_occurrence_from : List D → List O → Rs D) : FS := (sSeq (sSet 3 fDnew)
    (sSeq (sSet 4 (fC (.int 0)))
    (sSeq (sFgtB [5, 6, 7, 8] (sFor (.tp [5, 6, 7]) (iAll (fVar 0)) (f_record_from_0 o_record_from o_content_from o_occurrence_from)))
    (sRet (fFrz (fVar 3))))))
def e_content_from_0 (o_record_from : List D → List O → Rs D) (o_content_from : List D → List O → Rs D) (o_occurrence_from : List D → List O → Rs D) : FE := (fCB (iso o_pieces) (aCons (fVar 7) (aCons (fVar 4) aNil)))
def e_content_from_1 (o_record_from : List D → List O → Rs D) (o_content_from : List D → List O → Rs D) (o_occurrence_from : List D → List O → Rs D) : FE := (fCB (iso o_occurrence_from) (aCons (fVar 1) (aCons (fVar 8) (aCons (fTup (aCons (fVar 4) (aCons (fVar 5) aNil))) aNil))))
def b_content_from (o_record_from : List D → List O → Rs D) (o_content_from : List D → List O → Rs D) (o_occurrence_from : List D → List O → Rs D) : FS := (sSeq (sAsg (.tp [4, 5]) (fCB o_levels_below (aCons (fBin gIx (fVar 3) (fC (.int 0))) (aCons (fBin gIx (fVar 3) (fC (.int 1))) (aCons (fVar 0) aNil)))))
    (sSeq (sIf (tVal (fBin gLt (fBin gIx (fBin gIx (fBin gIx (fVar 2) (fC (.int 0))) (fC (.int 0))) (fC (.int 1))) (fVar 5))) (sRet (fIf (tVal (fBin gEq (fVar 0) (fC (.str "optional")))) (fC .non) (fLst aNil))) sNx)
    (sSeq (sIf (tVal (fBin gNe (fVar 0) (fC (.str "repeated")))) (sRet (fCB (iso o_occurrence_from) (aCons (fVar 1) (aCons (fVar 2) (aCons (fTup (aCons (fVar 4) (aCons (fVar 5) aNil))) aNil))))) sNx)
    (sSeq (sSet 6 (fLc [7] (.nm 7) (iAll (fVar 2)) tTrue (e_content_from_0 o_record_from o_content_from o_occurrence_from)))
    (sRet (fLc [8] (.nm 8) (iZip (aStar (fVar 6) aNil)) tTrue (e_content_from_1 o_record_from o_content_from o_occurrence_from)))))))
def b_occurrence_from (o_record_from : List D → List O → Rs D) (o_content_from : List D → List O → Rs D) (o_occurrence_from : List D → List O → Rs D) : FS := (sSeq (sIf (tVal (fBin gIs (fCB bTypeA (aCons (fVar 0) aNil)) (fC (.ty "tuple")))) (sRet (fCB (iso o_record_from) (aCons (fVar 0) (aCons (fVar 1) (aCons (fVar 2) aNil))))) sNx)
    (sRet (fBin gIx (fBin gIx (fBin gIx (fVar 1) (fC (.int 0))) (fC (.int 0))) (fC (.int 2)))))
def R_record_from_x_content_from_x_occurrence_from : Nat → (List D → List O → Rs D) × (List D → List O → Rs D) × (List D → List O → Rs D)
  | 0 => (fun _ _ => .stk, fun _ _ => .stk, fun _ _ => .stk)
  | n + 1 => (runF 9 (b_record_from (R_record_from_x_content_from_x_occurrence_from n).1 (R_record_from_x_content_from_x_occurrence_from n).2.1 (R_record_from_x_content_from_x_occurrence_from n).2.2), runF 9 (b_content_from (R_record_from_x_content_from_x_occurrence_from n).1 (R_record_from_x_content_from_x_occurrence_from n).2.1 (R_record_from_x_content_from_x_occurrence_from n).2.2), runF 3 (b_occurrence_from (R_record_from_x_content_from_x_occurrence_from n).1 (R_record_from_x_content_from_x_occurrence_from n).2.1 (R_record_from_x_content_from_x_occurrence_from n).2.2))
def o_record_from := (R_record_from_x_content_from_x_occurrence_from 12).1
def o_content_from := (R_record_from_x_content_from_x_occurrence_from 12).2.1
def o_occurrence_from := (R_record_from_x_content_from_x_occurrence_from 12).2.2
theorem u_record_from (n : Nat) (x0 x1 x2 : D) (m : List O) : (R_record_from_x_content_from_x_occurrence_from (n + 1)).1 [x0, x1, x2] m = fin ((b_record_from (R_record_from_x_content_from_x_occurrence_from n).1 (R_record_from_x_content_from_x_occurrence_from n).2.1 (R_record_from_x_content_from_x_occurrence_from n).2.2) [some x0, some x1, some x2, none, none, none, none, none, none] m) := runF_fin _ _
theorem u_content_from (n : Nat) (x0 x1 x2 x3 : D) (m : List O) : (R_record_from_x_content_from_x_occurrence_from (n + 1)).2.1 [x0, x1, x2, x3] m = fin ((b_content_from (R_record_from_x_content_from_x_occurrence_from n).1 (R_record_from_x_content_from_x_occurrence_from n).2.1 (R_record_from_x_content_from_x_occurrence_from n).2.2) [some x0, some x1, some x2, some x3, none, none, none, none, none] m) := runF_fin _ _
theorem u_occurrence_from (n : Nat) (x0 x1 x2 : D) (m : List O) : (R_record_from_x_content_from_x_occurrence_from (n + 1)).2.2 [x0, x1, x2] m = fin ((b_occurrence_from (R_record_from_x_content_from_x_occurrence_from n).1 (R_record_from_x_content_from_x_occurrence_from n).2.1 (R_record_from_x_content_from_x_occurrence_from n).2.2) [some x0, some x1, some x2] m) := runF_fin _ _
def e_assemble_0 : FE := (fCB (iso o_pieces) (aCons (fVar 3) (aCons (fC (.int 0)) aNil)))
def e_assemble_1 : FE := (fCB (iso o_record_from) (aCons (fUn (gFld "Schema" "fields") (fVar 0)) (aCons (fVar 4) (aCons (fTup (aCons (fC (.int 0)) (aCons (fC (.int 0)) aNil))) aNil))))
def b_assemble : FS := (sSeq (sExp (fCB o_check_whole (aCons (fVar 0) (aCons (fVar 1) aNil))))
    (sSeq (sSet 2 (fLc [3] (.nm 3) (iAll (fVar 1)) tTrue (e_assemble_0)))
    (sRet (fLc [4] (.nm 4) (iZip (aStar (fVar 2) aNil)) tTrue (e_assemble_1)))))
def o_assemble := runF 5 b_assemble
theorem u_assemble (x0 x1 : D) (m : List O) : o_assemble [x0, x1] m = fin (b_assemble [some x0, some x1, none, none, none] m) := runF_fin _ _
def w_number_written_0 : FS := (sSeq (sExp (fApp (fVar 1) (aCons (fBin gAdd (fBin gMod (fVar 0) (fC (.int 128))) (fC (.int 128))) aNil)))
    (sSet 0 (fBin gFdiv (fVar 0) (fC (.int 128)))))
def b_number_written : FS := (sSeq (sSet 1 (fNew aNil))
    (sSeq (whileL (tVal (fBin gGe (fVar 0) (fC (.int 128)))) (w_number_written_0) 8)
    (sSeq (sExp (fApp (fVar 1) (aCons (fVar 0) aNil)))
    (sRet (fVar 1)))))
def o_number_written := runF 2 b_number_written
theorem u_number_written (x0 : D) (m : List O) : o_number_written [x0] m = fin (b_number_written [some x0, none] m) := runF_fin _ _
def f_levels_written_0 : FS := (sFgtE [2] (sSeq (sIf (tOr_ (tVal (fBin gEq (fCB bLen (aCons (fVar 1) aNil)) (fC (.int 0)))) (tVal (fBin gNe (fBin gIx (fBin gIx (fVar 1) (fUn gNeg (fC (.int 1)))) (fC (.int 0))) (fVar 2)))) (sExp (fApp (fVar 1) (aCons (fNew (aCons (fVar 2) (aCons (fC (.int 0)) aNil))) aNil))) sNx)
    (sAugS (gI (fun _ _ => true) fun i j => .int (i + j)) (fBin gIx (fVar 1) (fUn gNeg (fC (.int 1)))) (fC (.int 1)) (fC (.int 1)))))
def f_levels_written_1 : FS := (sFgtE [2, 4] (sExp (fExt (fVar 3) (aCons (fCB o_number_written (aCons (fBin gAdd (fBin gMul (fC (.int 4)) (fVar 4)) (fVar 2)) aNil)) aNil))))
def b_levels_written : FS := (sSeq (sSet 1 (fNew aNil))
    (sSeq (sFgtB [2] (sFor (.nm 2) (iAll (fVar 0)) (f_levels_written_0)))
    (sSeq (sSet 3 (fNew aNil))
    (sSeq (sFgtB [2, 4] (sFor (.tp [2, 4]) (iAll (fUn gFrz2 (fVar 1))) (f_levels_written_1)))
    (sRet (fFrz (fVar 3)))))))
def o_levels_written := runF 5 b_levels_written
theorem u_levels_written (x0 : D) (m : List O) : o_levels_written [x0] m = fin (b_levels_written [some x0, none, none, none, none] m) := runF_fin _ _
def f_value_written_0 : FS := (sFgtE [3] (sExp (fExt (fVar 2) (aCons (fCB o_number_written (aCons (fSIdx (fC c_SIGNS) (fVar 3)) aNil)) aNil))))
def b_value_written : FS := (sSeq (sIf (tVal (fBin gEq (fVar 0) (fC (.str "int")))) (sRet (fCB o_number_written (aCons (fIf (tVal (fBin gGe (fVar 1) (fC (.int 0)))) (fBin gMul (fC (.int 2)) (fVar 1)) (fBin gSub (fBin gMul (fUn gNeg (fC (.int 2))) (fVar 1)) (fC (.int 1)))) aNil))) sNx)
    (sSeq (sIf (tVal (fBin gEq (fVar 0) (fC (.str "flag")))) (sRet (fLst (aCons (fIf (tTru (fVar 1)) (fC (.int 1)) (fC (.int 0))) aNil))) sNx)
    (sSeq (sSet 2 (fCB o_number_written (aCons (fCB bLen (aCons (fVar 1) aNil)) aNil)))
    (sSeq (sFgtB [3] (sFor (.nm 3) (iAll (fVar 1)) (f_value_written_0)))
    (sRet (fFrz (fVar 2)))))))
def o_value_written := runF 4 b_value_written
theorem u_value_written (x0 x1 : D) (m : List O) : o_value_written [x0, x1] m = fin (b_value_written [some x0, some x1, none, none] m) := runF_fin _ _
def e_block_of_0 : FE := (fBin gIx (fVar 3) (fC (.int 0)))
def e_block_of_1 : FE := (fBin gIx (fVar 3) (fC (.int 1)))
def f_block_of_0 : FS := (sFgtE [3] (sIf (tVal (fBin gIsNot (fBin gIx (fVar 3) (fC (.int 2))) (fC .non))) (sExp (fExt (fVar 2) (aCons (fCB (iso o_value_written) (aCons (fVar 0) (aCons (fBin gIx (fVar 3) (fC (.int 2))) aNil))) aNil))) sNx))
def b_block_of : FS := (sSeq (sSet 2 (fCB o_number_written (aCons (fCB bLen (aCons (fVar 1) aNil)) aNil)))
    (sSeq (sExp (fExt (fVar 2) (aCons (fCB (iso o_levels_written) (aCons (fLc [3] (.nm 3) (iAll (fVar 1)) tTrue (e_block_of_0)) aNil)) aNil)))
    (sSeq (sExp (fExt (fVar 2) (aCons (fCB (iso o_levels_written) (aCons (fLc [3] (.nm 3) (iAll (fVar 1)) tTrue (e_block_of_1)) aNil)) aNil)))
    (sSeq (sFgtB [3] (sFor (.nm 3) (iAll (fVar 1)) (f_block_of_0)))
    (sRet (fFrz (fVar 2)))))))
def o_block_of := runF 4 b_block_of
theorem u_block_of (x0 x1 : D) (m : List O) : o_block_of [x0, x1] m = fin (b_block_of [some x0, some x1, none, none] m) := runF_fin _ _
def f_pack_0 : FS := (sFgtE [2] (sIf (tAnd_ (tVal (fBin gIsNot (fBin gIx (fVar 1) (fVar 2)) (fC .non))) (tVal (fBin gIsNot (fCB o_first_fault (aCons (fVar 0) (aCons (fVar 2) (aCons (fBin gIx (fVar 1) (fVar 2)) aNil)))) (fC .non)))) (sRaise "Unsound") sNx))
def f_pack_1 : FS := (sFgtE [2, 4] (sSeq (sSet 4 (fIf (tVal (fBin gIs (fBin gIx (fVar 1) (fVar 2)) (fC .non))) (fLst aNil) (fCB (iso o_block_of) (aCons (fBin gIx (fBin gIx (fUn (gFld "Schema" "leaves") (fVar 0)) (fVar 2)) (fC (.int 1))) (aCons (fBin gIx (fVar 1) (fVar 2)) aNil)))))
    (sSeq (sExp (fExt (fVar 3) (aCons (fCB o_number_written (aCons (fCB bLen (aCons (fVar 4) aNil)) aNil)) aNil)))
    (sExp (fExt (fVar 3) (aCons (fVar 4) aNil))))))
def b_pack : FS := (sSeq (sExp (fCB o_check_parts (aCons (fVar 0) (aCons (fVar 1) aNil))))
    (sSeq (sFgtB [2] (sFor (.nm 2) (iR1 (aCons (fLenO "Schema" o_Schema___len__ (fVar 0)) aNil)) (f_pack_0)))
    (sSeq (sSet 3 (fNew aNil))
    (sSeq (sFgtB [2, 4] (sFor (.nm 2) (iR1 (aCons (fLenO "Schema" o_Schema___len__ (fVar 0)) aNil)) (f_pack_1)))
    (sRet (fCB bTuple (aCons (fVar 3) aNil)))))))
def o_pack := runF 5 b_pack
theorem u_pack (x0 x1 : D) (m : List O) : o_pack [x0, x1] m = fin (b_pack [some x0, some x1, none, none, none] m) := runF_fin _ _
def e_are_octets_0 : FE := (fAnd (fBin gIs (fCB bTypeA (aCons (fVar 1) aNil)) (fC (.ty "int"))) (fChain gLe gLe (fC (.int 0)) (fVar 1) (fC (.int 255))))
def b_are_octets : FS := (sSeq (sIf (tVal (fBin gIsNot (fCB bTypeA (aCons (fVar 0) aNil)) (fC (.ty "tuple")))) (sRet (fC (.bl false))) sNx)
    (sRet (fCB bAll (aCons (fLc [1] (.nm 1) (iAll (fVar 0)) tTrue (e_are_octets_0)) aNil))))
def o_are_octets := runF 2 b_are_octets
theorem u_are_octets (x0 : D) (m : List O) : o_are_octets [x0] m = fin (b_are_octets [some x0, none] m) := runF_fin _ _
def f_read_number_0 : FS := (sFgtE [4] (sSeq (sSet 1 (fBin gAdd (fVar 1) (fC (.int 1))))
    (sSeq (sIf (tAnd_ (tVal (fBin gEq (fVar 4) (fC (.int 0)))) (tVal (fBin gGt (fVar 3) (fC (.int 1))))) (sRaise "BadOctets") sNx)
    (sSeq (sSet 2 (fBin gAdd (fVar 2) (fBin gMul (fBin gMod (fVar 4) (fC (.int 128))) (fVar 3))))
    (sSeq (sIf (tVal (fBin gGt (fVar 2) (fC c_GREATEST_NUMBER))) (sRaise "BadOctets") sNx)
    (sSeq (sIf (tVal (fBin gLt (fVar 4) (fC (.int 128)))) (sRet (fTup (aCons (fVar 2) (aCons (fVar 1) aNil)))) sNx)
    (sSet 3 (fBin gMul (fVar 3) (fC (.int 128))))))))))
def b_read_number : FS := (sSeq (sSet 2 (fC (.int 0)))
    (sSeq (sSet 3 (fC (.int 1)))
    (sSeq (sFgtB [4] (sFor (.nm 4) (iAll (fSl (fVar 0) (pSo (fVar 1)) (pSo (fBin gAdd (fVar 1) (fC c_MOST_OCTETS))))) (f_read_number_0)))
    (sRaise "BadOctets"))))
def o_read_number := runF 5 b_read_number
theorem u_read_number (x0 x1 : D) (m : List O) : o_read_number [x0, x1] m = fin (b_read_number [some x0, some x1, none, none, none] m) := runF_fin _ _
def w_read_levels_0 : FS := (sFgtE [4] (sSeq (sAsg (.tp [4, 1]) (fCB o_read_number (aCons (fVar 0) (aCons (fVar 1) aNil))))
    (sSeq (sIf (tVal (fBin gGt (fBin gFdiv (fVar 4) (fC (.int 4))) (fBin gSub (fVar 2) (fCB bLen (aCons (fVar 3) aNil))))) (sRaise "BadOctets") sNx)
    (sExp (fExt (fVar 3) (aCons (fBin gMul (fLst (aCons (fBin gMod (fVar 4) (fC (.int 4))) aNil)) (fBin gFdiv (fVar 4) (fC (.int 4)))) aNil))))))
def b_read_levels : FS := (sSeq (sSet 3 (fNew aNil))
    (sSeq (sFgtB [4] (whileL (tVal (fBin gLt (fCB bLen (aCons (fVar 3) aNil)) (fVar 2))) (w_read_levels_0) 1010))
    (sRet (fTup (aCons (fFrz (fVar 3)) (aCons (fVar 1) aNil))))))
def o_read_levels := runF 5 b_read_levels
theorem u_read_levels (x0 x1 x2 : D) (m : List O) : o_read_levels [x0, x1, x2] m = fin (b_read_levels [some x0, some x1, some x2, none, none] m) := runF_fin _ _
def f_read_text_0 : FS := (sFgtE [4, 5] (sSeq (sAsg (.tp [5, 1]) (fCB o_read_number (aCons (fVar 0) (aCons (fVar 1) aNil))))
    (sSeq (sIf (tVal (fBin gGe (fVar 5) (fCB bLen (aCons (fC c_SIGNS) aNil)))) (sRaise "BadOctets") sNx)
    (sExp (fApp (fVar 3) (aCons (fBin gIx (fC c_SIGNS) (fVar 5)) aNil))))))
def b_read_text : FS := (sSeq (sSet 3 (fNew aNil))
    (sSeq (sFgtB [4, 5] (sFor (.nm 4) (iR1 (aCons (fVar 2) aNil)) (f_read_text_0)))
    (sRet (fTup (aCons (fJoin (fC (.str "")) (fVar 3)) (aCons (fVar 1) aNil))))))
def o_read_text := runF 6 b_read_text
theorem u_read_text (x0 x1 x2 : D) (m : List O) : o_read_text [x0, x1, x2] m = fin (b_read_text [some x0, some x1, some x2, none, none, none] m) := runF_fin _ _
def b_read_value : FS := (sSeq (sAsg (.tp [3, 1]) (fCB o_read_number (aCons (fVar 0) (aCons (fVar 1) aNil))))
    (sSeq (sIf (tVal (fBin gEq (fVar 2) (fC (.str "int")))) (sRet (fTup (aCons (fIf (tVal (fBin gEq (fBin gMod (fVar 3) (fC (.int 2))) (fC (.int 0)))) (fBin gFdiv (fVar 3) (fC (.int 2))) (fBin gSub (fUn gNeg (fBin gFdiv (fVar 3) (fC (.int 2)))) (fC (.int 1)))) (aCons (fVar 1) aNil)))) sNx)
    (sSeq (sIf (tVal (fBin gEq (fVar 2) (fC (.str "flag")))) (sRet (fTup (aCons (fBin gEq (fVar 3) (fC (.int 1))) (aCons (fVar 1) aNil)))) sNx)
    (sRet (fCB (iso o_read_text) (aCons (fVar 0) (aCons (fVar 1) (aCons (fVar 3) aNil))))))))
def o_read_value := runF 4 b_read_value
theorem u_read_value (x0 x1 x2 : D) (m : List O) : o_read_value [x0, x1, x2] m = fin (b_read_value [some x0, some x1, some x2, none] m) := runF_fin _ _
def f_read_column_0 : FS := (sFgtE [12, 13, 14] (sSeq (sSet 14 (fC .non))
    (sSeq (sIf (tVal (fBin gEq (fVar 13) (fVar 6))) (sAsg (.tp [14, 8]) (fCB (iso o_read_value) (aCons (fVar 2) (aCons (fVar 8) (aCons (fVar 4) aNil))))) sNx)
    (sExp (fApp (fVar 11) (aCons (fTup (aCons (fVar 12) (aCons (fVar 13) (aCons (fVar 14) aNil)))) aNil))))))
def b_read_column : FS := (sSeq (sAsg (.tp [3, 4, 5, 6]) (fBin gIx (fUn (gFld "Schema" "leaves") (fVar 0)) (fVar 1)))
    (sSeq (sAsg (.tp [7, 8]) (fCB o_read_number (aCons (fVar 2) (aCons (fC (.int 0)) aNil))))
    (sSeq (sIf (tVal (fBin gGt (fVar 7) (fC c_MOST_ENTRIES))) (sRaise "BadOctets") sNx)
    (sSeq (sAsg (.tp [9, 8]) (fCB (iso o_read_levels) (aCons (fVar 2) (aCons (fVar 8) (aCons (fVar 7) aNil)))))
    (sSeq (sAsg (.tp [10, 8]) (fCB (iso o_read_levels) (aCons (fVar 2) (aCons (fVar 8) (aCons (fVar 7) aNil)))))
    (sSeq (sSet 11 (fNew aNil))
    (sSeq (sFgtB [12, 13, 14] (sFor (.tp [12, 13]) (iZip (aCons (fVar 9) (aCons (fVar 10) aNil))) (f_read_column_0)))
    (sRet (fCB bTuple (aCons (fVar 11) aNil))))))))))
def o_read_column := runF 15 b_read_column
theorem u_read_column (x0 x1 x2 : D) (m : List O) : o_read_column [x0, x1, x2] m = fin (b_read_column [some x0, some x1, some x2, none, none, none, none, none, none, none, none, none, none, none, none] m) := runF_fin _ _
def b_column_in : FS := (sSeq (sSet 3 (fBin gIx (fBin gIx (fUn (gFld "Schema" "leaves") (fVar 0)) (fVar 1)) (fC (.int 1))))
    (sSeq (sTry "BadOctets" (sSet 4 (fCB (iso o_read_column) (aCons (fVar 0) (aCons (fVar 1) (aCons (fVar 2) aNil))))) (sRet (fC .non)))
    (sSeq (sIf (tVal (fBin gIsNot (fCB o_first_fault (aCons (fVar 0) (aCons (fVar 1) (aCons (fVar 4) aNil)))) (fC .non))) (sRet (fC .non)) sNx)
    (sRet (fIf (tVal (fBin gEq (fCB bTuple (aCons (fCB (iso o_block_of) (aCons (fVar 3) (aCons (fVar 4) aNil))) aNil)) (fVar 2))) (fVar 4) (fC .non))))))
def o_column_in := runF 5 b_column_in
theorem u_column_in (x0 x1 x2 : D) (m : List O) : o_column_in [x0, x1, x2] m = fin (b_column_in [some x0, some x1, some x2, none, none] m) := runF_fin _ _
def f_unpack_0 : FS := (sFgtE [4, 5] (sSeq (sAsg (.tp [5, 3]) (fCB o_read_number (aCons (fVar 1) (aCons (fVar 3) aNil))))
    (sSeq (sIf (tVal (fBin gGt (fVar 5) (fBin gSub (fCB bLen (aCons (fVar 1) aNil)) (fVar 3)))) (sRaise "BadOctets") sNx)
    (sSeq (sExp (fApp (fVar 2) (aCons (fCB (iso o_column_in) (aCons (fVar 0) (aCons (fVar 4) (aCons (fSl (fVar 1) (pSo (fVar 3)) (pSo (fBin gAdd (fVar 3) (fVar 5)))) aNil)))) aNil)))
    (sSet 3 (fBin gAdd (fVar 3) (fVar 5)))))))
def b_unpack : FS := (sSeq (sIf (tNot_ (tTru (fCB o_are_octets (aCons (fVar 1) aNil)))) (sRaise "BadOctets") sNx)
    (sSeq (sSet 2 (fNew aNil))
    (sSeq (sSet 3 (fC (.int 0)))
    (sSeq (sFgtB [4, 5] (sFor (.nm 4) (iR1 (aCons (fLenO "Schema" o_Schema___len__ (fVar 0)) aNil)) (f_unpack_0)))
    (sSeq (sIf (tVal (fBin gNe (fVar 3) (fCB bLen (aCons (fVar 1) aNil)))) (sRaise "BadOctets") sNx)
    (sRet (fCB bTuple (aCons (fVar 2) aNil))))))))
def o_unpack := runF 6 b_unpack
theorem u_unpack (x0 x1 : D) (m : List O) : o_unpack [x0, x1] m = fin (b_unpack [some x0, some x1, none, none, none, none] m) := runF_fin _ _
def b_is_number_below : FS := (sRet (fAnd (fBin gIs (fCB bTypeA (aCons (fVar 0) aNil)) (fC (.ty "int"))) (fChain gLe gLt (fC (.int 0)) (fVar 0) (fVar 1))))
def o_is_number_below := runF 2 b_is_number_below
theorem u_is_number_below (x0 x1 : D) (m : List O) : o_is_number_below [x0, x1] m = fin (b_is_number_below [some x0, some x1] m) := runF_fin _ _
def b_is_wrong_entry : FS := (sSeq (sIf (tOr_ (tNot_ (tTru (fCB o_is_number_below (aCons (fVar 2) (aCons (fCB bLen (aCons (fVar 1) aNil)) aNil))))) (tVal (fBin gIs (fBin gIx (fVar 1) (fVar 2)) (fC .non)))) (sRet (fC (.bl false))) sNx)
    (sRet (fAnd (fCB o_is_number_below (aCons (fVar 3) (aCons (fCB bLen (aCons (fBin gIx (fVar 1) (fVar 2)) aNil)) aNil))) (fUn gNot (fCB o_is_admissible (aCons (fVar 0) (aCons (fVar 2) (aCons (fBin gIx (fVar 1) (fVar 2)) (aCons (fVar 3) aNil)))))))))
def o_is_wrong_entry := runF 4 b_is_wrong_entry
theorem u_is_wrong_entry (x0 x1 x2 x3 : D) (m : List O) : o_is_wrong_entry [x0, x1, x2, x3] m = fin (b_is_wrong_entry [some x0, some x1, some x2, some x3] m) := runF_fin _ _
def b_differ_at : FS := (sRet (fBin gNe (fSl (fVar 0) (pSo (fVar 2)) (pSo (fBin gAdd (fVar 2) (fC (.int 1))))) (fSl (fVar 1) (pSo (fVar 2)) (pSo (fBin gAdd (fVar 2) (fC (.int 1)))))))
def o_differ_at := runF 3 b_differ_at
theorem u_differ_at (x0 x1 x2 : D) (m : List O) : o_differ_at [x0, x1, x2] m = fin (b_differ_at [some x0, some x1, some x2] m) := runF_fin _ _
def e_fields_with_0 (o_fields_with : List D → List O → Rs D) : FE := (fChain gLe gLt (fVar 2) (fVar 8) (fVar 7))
def f_fields_with_0 (o_fields_with : List D → List O → Rs D) : FS := (sFgtE [4, 5, 6, 7] (sSeq (sSet 7 (fBin gAdd (fVar 2) (fCB o_count_leaves (aCons (fVar 6) aNil))))
    (sSeq (sIf (tTru (fCB bAny (aCons (fLc [8] (.nm 8) (iAll (fVar 1)) tTrue (e_fields_with_0 o_fields_with)) aNil))) (sExp (fApp (fVar 3) (aCons (fTup (aCons (fVar 4) (aCons (fVar 5) (aCons (fIf (tVal (fBin gIs (fCB bTypeA (aCons (fVar 6) aNil)) (fC (.ty "tuple")))) (fCB (iso o_fields_with) (aCons (fVar 6) (aCons (fVar 1) (aCons (fVar 2) aNil)))) (fVar 6)) aNil)))) aNil))) sNx)
    (sSet 2 (fVar 7)))))
def b_fields_with (o_fields_with : List D → List O → Rs D) : FS := (sSeq (sSet 3 (fNew aNil))
    (sSeq (sFgtB [4, 5, 6, 7] (sFor (.tp [4, 5, 6]) (iAll (fVar 0)) (f_fields_with_0 o_fields_with)))
    (sRet (fCB bTuple (aCons (fVar 3) aNil)))))
def r_fields_with : Nat → List D → List O → Rs D
  | 0 => fun _ _ => .stk
  | n + 1 => runF 9 (b_fields_with (r_fields_with n))
def o_fields_with := r_fields_with 6
theorem u_fields_with (n : Nat) (x0 x1 x2 : D) (m : List O) : r_fields_with (n + 1) [x0, x1, x2] m = fin (b_fields_with (r_fields_with n) [some x0, some x1, some x2, none, none, none, none, none, none] m) := runF_fin _ _
def e_picked_0 : FE := (fMeth "Schema" "place_of" o_Schema_place_of (fVar 0) (aCons (fVar 4) aNil))
def e_picked_1 : FE := (fVar 6)
def t_picked_0 : FT := (tVal (fBin gIn (fVar 6) (fVar 3)))
def e_picked_2 : FE := (fBin gIx (fVar 1) (fVar 6))
def b_picked : FS := (sSeq (sExp (fCB o_check_whole (aCons (fVar 0) (aCons (fVar 1) aNil))))
    (sSeq (sSet 3 (fLc [4] (.nm 4) (iAll (fVar 2)) tTrue (e_picked_0)))
    (sSeq (sSet 5 (fLc [6] (.nm 6) (iR1 (aCons (fLenO "Schema" o_Schema___len__ (fVar 0)) aNil)) (t_picked_0) (e_picked_1)))
    (sSeq (sSet 7 (fMakeI "Schema" o_Schema (aCons (fCB (iso o_fields_with) (aCons (fUn (gFld "Schema" "fields") (fVar 0)) (aCons (fVar 5) (aCons (fC (.int 0)) aNil)))) aNil)))
    (sRet (fTup (aCons (fVar 7) (aCons (fCB bTuple (aCons (fLc [6] (.nm 6) (iAll (fVar 5)) tTrue (e_picked_2)) aNil)) aNil))))))))
def o_picked := runF 8 b_picked
theorem u_picked (x0 x1 x2 : D) (m : List O) : o_picked [x0, x1, x2] m = fin (b_picked [some x0, some x1, some x2, none, none, none, none, none] m) := runF_fin _ _
def f_field_at_0 : FS := (sFgtE [4, 5, 6] (sIf (tAnd_ (tVal (fBin gIs (fCB bTypeA (aCons (fVar 1) aNil)) (fC (.ty "str")))) (tVal (fBin gEq (fVar 4) (fVar 1)))) (sRet (fTup (aCons (fVar 2) (aCons (fVar 5) (aCons (fVar 6) aNil))))) sNx))
def f_field_at_1 : FS := (sFgtE [2, 3, 4, 5, 6] (sFgtB [4, 5, 6] (sFor (.tp [4, 5, 6]) (iAll (fSl (fVar 3) (pSo (fC (.int 1))) pNo)) (f_field_at_0))))
def b_field_at : FS := (sSeq (sFgtB [2, 3, 4, 5, 6] (sFor (.tp [2, 3]) (iEnumD (fUn (gFld "Schema" "ways") (fVar 0))) (f_field_at_1)))
    (sRaise "NoSuchPath"))
def o_field_at := runF 7 b_field_at
theorem u_field_at (x0 x1 : D) (m : List O) : o_field_at [x0, x1] m = fin (b_field_at [some x0, some x1, none, none, none, none, none] m) := runF_fin _ _
def e_counts_0 : FE := (fVar 6)
def t_counts_0 : FT := (tAnd_ (tVal (fBin gLe (fBin gIx (fVar 6) (fC (.int 0))) (fVar 4))) (tVal (fBin gGe (fBin gIx (fVar 6) (fC (.int 1))) (fVar 5))))
def e_counts_1 : FE := (fCB bLen (aCons (fLc [6] (.nm 6) (iAll (fVar 7)) (t_counts_0) (e_counts_0)) aNil))
def b_counts : FS := (sSeq (sExp (fCB o_check_whole (aCons (fVar 0) (aCons (fVar 1) aNil))))
    (sSeq (sAsg (.tp [3, 4, 5]) (fCB o_field_at (aCons (fVar 0) (aCons (fVar 2) aNil))))
    (sRet (fLc [7] (.nm 7) (iAll (fCB (iso o_pieces) (aCons (fBin gIx (fVar 1) (fVar 3)) (aCons (fC (.int 0)) aNil)))) tTrue (e_counts_1)))))
def o_counts := runF 8 b_counts
theorem u_counts (x0 x1 x2 : D) (m : List O) : o_counts [x0, x1, x2] m = fin (b_counts [some x0, some x1, some x2, none, none, none, none, none] m) := runF_fin _ _
def e_values_by_record_0 : FE := (fBin gIx (fVar 1) (fC (.int 2)))
def t_values_by_record_0 : FT := (tVal (fBin gIsNot (fBin gIx (fVar 1) (fC (.int 2))) (fC .non)))
def e_values_by_record_1 : FE := (fLc [1] (.nm 1) (iAll (fVar 2)) (t_values_by_record_0) (e_values_by_record_0))
def b_values_by_record : FS := (sRet (fLc [2] (.nm 2) (iAll (fCB (iso o_pieces) (aCons (fVar 0) (aCons (fC (.int 0)) aNil)))) tTrue (e_values_by_record_1)))
def o_values_by_record := runF 3 b_values_by_record
theorem u_values_by_record (x0 : D) (m : List O) : o_values_by_record [x0] m = fin (b_values_by_record [some x0, none, none] m) := runF_fin _ _
def e_totals_0 : FE := (fCB bSum (aCons (fVar 4) aNil))
def b_totals : FS := (sSeq (sExp (fCB o_check_whole (aCons (fVar 0) (aCons (fVar 1) aNil))))
    (sSeq (sSet 3 (fMeth "Schema" "place_of" o_Schema_place_of (fVar 0) (aCons (fVar 2) aNil)))
    (sSeq (sIf (tVal (fBin gNe (fBin gIx (fBin gIx (fUn (gFld "Schema" "leaves") (fVar 0)) (fVar 3)) (fC (.int 1))) (fC (.str "int")))) (sRaise "WrongKind") sNx)
    (sRet (fLc [4] (.nm 4) (iAll (fCB o_values_by_record (aCons (fBin gIx (fVar 1) (fVar 3)) aNil))) tTrue (e_totals_0))))))
def o_totals := runF 5 b_totals
theorem u_totals (x0 x1 x2 : D) (m : List O) : o_totals [x0, x1, x2] m = fin (b_totals [some x0, some x1, some x2, none, none] m) := runF_fin _ _
def e_holding_0 : FE := (fVar 5)
def t_holding_0 : FT := (tVal (fBin gIn (fVar 3) (fVar 6)))
def b_holding : FS := (sSeq (sExp (fCB o_check_whole (aCons (fVar 0) (aCons (fVar 1) aNil))))
    (sSeq (sSet 4 (fMeth "Schema" "place_of" o_Schema_place_of (fVar 0) (aCons (fVar 2) aNil)))
    (sSeq (sIf (tNot_ (tTru (fCB o_is_value (aCons (fVar 3) (aCons (fBin gIx (fBin gIx (fUn (gFld "Schema" "leaves") (fVar 0)) (fVar 4)) (fC (.int 1))) aNil))))) (sRaise "WrongKind") sNx)
    (sRet (fLc [5, 6] (.tp [5, 6]) (iEnumD (fCB o_values_by_record (aCons (fBin gIx (fVar 1) (fVar 4)) aNil))) (t_holding_0) (e_holding_0))))))
def o_holding := runF 7 b_holding
theorem u_holding (x0 x1 x2 x3 : D) (m : List O) : o_holding [x0, x1, x2, x3] m = fin (b_holding [some x0, some x1, some x2, some x3, none, none, none] m) := runF_fin _ _
def b__law_cell : FS := (sSeq (sIf (tVal (fBin gLt (fVar 1) (fCB bLen (aCons (fVar 0) aNil)))) (sRet (fCB bInt (aCons (fBin gIx (fVar 0) (fVar 1)) aNil))) sNx)
    (sRet (fC (.int 0))))
def o__law_cell := runF 2 b__law_cell
theorem u__law_cell (x0 x1 : D) (m : List O) : o__law_cell [x0, x1] m = fin (b__law_cell [some x0, some x1] m) := runF_fin _ _
def b__law_draws : FS := (sSeq (sSet 2 (fCB bAbs (aCons (fCB bInt (aCons (fVar 0) aNil)) aNil)))
    (sSeq (sSet 3 (fBin gGe (fVar 2) (fBin gPow (fC (.int 10)) (fC (.int 18)))))
    (sSeq (sSet 4 (fNew aNil))
    (sSeq (sFor (.nm 5) (iR1 (aCons (fC (.int 60)) aNil)) (sIf (tAnd_ (tVal (fBin gLt (fVar 5) (fVar 1))) (tTru (fVar 3))) (sSeq (sExp (fApp (fVar 4) (aCons (fBin gMod (fVar 2) (fC (.int 60))) aNil)))
    (sSet 2 (fBin gFdiv (fVar 2) (fC (.int 60))))) (sIf (tVal (fBin gLt (fVar 5) (fVar 1))) (sSeq (sSet 6 (fBin gMod (fBin gAdd (fBin gAdd (fBin gMul (fCB bInt (aCons (fVar 2) aNil)) (fC (.int 48271))) (fBin gMul (fVar 5) (fC (.int 69621)))) (fC (.int 11))) (fC (.int 2147483647))))
    (sSeq (sSet 6 (fBin gMod (fBin gAdd (fBin gAdd (fBin gMul (fCB bInt (aCons (fVar 6) aNil)) (fCB bInt (aCons (fVar 6) aNil))) (fBin gMul (fVar 5) (fC (.int 7919)))) (fC (.int 5))) (fC (.int 998244353))))
    (sExp (fApp (fVar 4) (aCons (fBin gMod (fCB bInt (aCons (fVar 6) aNil)) (fC (.int 60))) aNil))))) sNx)))
    (sRet (fFrz (fVar 4)))))))
def o__law_draws := runF 7 b__law_draws
theorem u__law_draws (x0 x1 : D) (m : List O) : o__law_draws [x0, x1] m = fin (b__law_draws [some x0, some x1, none, none, none, none, none] m) := runF_fin _ _
def b__law_stream : FS := (sSeq (sSet 3 (fNew aNil))
    (sSeq (sFor (.nm 4) (iR1 (aCons (fVar 2) aNil)) (sExp (fExt (fVar 3) (aCons (fCB o__law_draws (aCons (fCB o__law_cell (aCons (fVar 0) (aCons (fBin gAdd (fVar 1) (fVar 4)) aNil))) (aCons (fC (.int 12)) aNil))) aNil))))
    (sRet (fLst (aCons (fFrz (fVar 3)) (aCons (fNew (aCons (fC (.int 0)) aNil)) aNil))))))
def o__law_stream := runF 5 b__law_stream
theorem u__law_stream (x0 x1 x2 : D) (m : List O) : o__law_stream [x0, x1, x2] m = fin (b__law_stream [some x0, some x1, some x2, none, none] m) := runF_fin _ _
def b__law_next : FS := (sSeq (sSet 2 (fBin gIx (fVar 0) (fC (.int 0))))
    (sSeq (sSet 3 (fBin gIx (fVar 0) (fC (.int 1))))
    (sSeq (sSet 4 (fBin gMod (fCB bInt (aCons (fBin gIx (fVar 2) (fBin gMod (fCB bInt (aCons (fBin gIx (fVar 3) (fC (.int 0))) aNil)) (fCB bLen (aCons (fVar 2) aNil)))) aNil)) (fVar 1)))
    (sSeq (sPut (fVar 3) (fC (.int 0)) (fBin gAdd (fBin gIx (fVar 3) (fC (.int 0))) (fC (.int 1))))
    (sRet (fVar 4))))))
def o__law_next := runF 5 b__law_next
theorem u__law_next (x0 x1 : D) (m : List O) : o__law_next [x0, x1] m = fin (b__law_next [some x0, some x1, none, none, none] m) := runF_fin _ _
def b__law_is_integer : FS := (sRet (fAnd (fCB bIsi (aCons (fVar 0) (aCons (fC (.ty "int")) aNil))) (fUn gNot (fCB bIsi (aCons (fVar 0) (aCons (fC (.ty "bool")) aNil))))))
def o__law_is_integer := runF 1 b__law_is_integer
theorem u__law_is_integer (x0 : D) (m : List O) : o__law_is_integer [x0] m = fin (b__law_is_integer [some x0] m) := runF_fin _ _
def b__law_same (o__law_same : List D → List O → Rs D) : FS := (sSeq (sIf (tVal (fBin gIs (fVar 1) (fC .non))) (sRet (fBin gIs (fVar 0) (fC .non))) sNx)
    (sSeq (sIf (tTru (fCB bIsi (aCons (fVar 1) (aCons (fC (.ty "bool")) aNil)))) (sRet (fAnd (fCB bIsi (aCons (fVar 0) (aCons (fC (.ty "bool")) aNil))) (fBin gEq (fVar 0) (fVar 1)))) sNx)
    (sSeq (sIf (tTru (fCB bIsi (aCons (fVar 1) (aCons (fC (.ty "int")) aNil)))) (sRet (fAnd (fCB o__law_is_integer (aCons (fVar 0) aNil)) (fBin gEq (fVar 0) (fVar 1)))) sNx)
    (sSeq (sIf (tTru (fCB bIsi (aCons (fVar 1) (aCons (fC (.ty "str")) aNil)))) (sRet (fAnd (fCB bIsi (aCons (fVar 0) (aCons (fC (.ty "str")) aNil))) (fBin gEq (fVar 0) (fVar 1)))) sNx)
    (sSeq (sIf (tTru (fCB bIsi (aCons (fVar 1) (aCons (fC (.ty "dict")) aNil)))) (sSeq (sIf (tOr_ (tNot_ (tTru (fCB bIsi (aCons (fVar 0) (aCons (fC (.ty "dict")) aNil))))) (tVal (fBin gNe (fCB bList (aCons (fVar 0) aNil)) (fCB bList (aCons (fVar 1) aNil))))) (sRet (fC (.bl false))) sNx)
    (sSeq (sFor (.nm 2) (iAll (fVar 1)) (sIf (tNot_ (tTru (fCB o__law_same (aCons (fBin gIx (fVar 0) (fVar 2)) (aCons (fBin gIx (fVar 1) (fVar 2)) aNil))))) (sRet (fC (.bl false))) sNx))
    (sRet (fC (.bl true))))) sNx)
    (sSeq (sIf (tAnd_ (tTru (fCB bIsi (aCons (fVar 1) (aCons (fC (.ty "tuple")) aNil)))) (tNot_ (tTru (fCB bIsi (aCons (fVar 0) (aCons (fC (.ty "tuple")) aNil)))))) (sRet (fC (.bl false))) sNx)
    (sSeq (sIf (tAnd_ (tTru (fCB bIsi (aCons (fVar 1) (aCons (fC (.ty "list")) aNil)))) (tNot_ (tTru (fCB bIsi (aCons (fVar 0) (aCons (fC (.ty "list")) aNil)))))) (sRet (fC (.bl false))) sNx)
    (sSeq (sIf (tVal (fBin gNe (fCB bLen (aCons (fVar 0) aNil)) (fCB bLen (aCons (fVar 1) aNil)))) (sRet (fC (.bl false))) sNx)
    (sSeq (sFor (.nm 3) (iR1 (aCons (fCB bLen (aCons (fVar 1) aNil)) aNil)) (sIf (tNot_ (tTru (fCB o__law_same (aCons (fBin gIx (fVar 0) (fVar 3)) (aCons (fBin gIx (fVar 1) (fVar 3)) aNil))))) (sRet (fC (.bl false))) sNx))
    (sRet (fC (.bl true))))))))))))
def r__law_same : Nat → List D → List O → Rs D
  | 0 => fun _ _ => .stk
  | n + 1 => runF 4 (b__law_same (r__law_same n))
def o__law_same := r__law_same 12
theorem u__law_same (n : Nat) (x0 x1 : D) (m : List O) : r__law_same (n + 1) [x0, x1] m = fin (b__law_same (r__law_same n) [some x0, some x1, none, none] m) := runF_fin _ _
def b__law_fields (o__law_fields : List D → List O → Rs D) : FS := (sSeq (sSet 3 (fLst (aCons (fC (.str "id")) (aCons (fC (.str "name")) (aCons (fC (.str "a_1")) (aCons (fC (.str "tags")) (aCons (fC (.str "x")) (aCons (fC (.str "list2")) aNil))))))))
    (sSeq (sSet 4 (fNew aNil))
    (sSeq (sFor (.nm 5) (iR1 (aCons (fBin gAdd (fVar 2) (fCB o__law_next (aCons (fVar 0) (aCons (fC (.int 3)) aNil)))) aNil)) (sSeq (sSet 6 (fBin gIx (fLst (aCons (fC (.str "required")) (aCons (fC (.str "optional")) (aCons (fC (.str "repeated")) aNil)))) (fCB o__law_next (aCons (fVar 0) (aCons (fC (.int 3)) aNil)))))
    (sSeq (sSet 7 (fBin gIx (fLst (aCons (fC (.str "int")) (aCons (fC (.str "text")) (aCons (fC (.str "flag")) (aCons (fC (.str "int")) aNil))))) (fCB o__law_next (aCons (fVar 0) (aCons (fC (.int 4)) aNil)))))
    (sSeq (sIf (tAnd_ (tVal (fBin gLt (fVar 1) (fC (.int 3)))) (tVal (fBin gEq (fCB o__law_next (aCons (fVar 0) (aCons (fC (.int 3)) aNil))) (fC (.int 0))))) (sSet 7 (fCB o__law_fields (aCons (fVar 0) (aCons (fBin gAdd (fVar 1) (fC (.int 1))) (aCons (fC (.int 1)) aNil))))) sNx)
    (sExp (fApp (fVar 4) (aCons (fTup (aCons (fBin gIx (fVar 3) (fVar 5)) (aCons (fVar 6) (aCons (fVar 7) aNil)))) aNil)))))))
    (sRet (fCB bTuple (aCons (fVar 4) aNil))))))
def r__law_fields : Nat → List D → List O → Rs D
  | 0 => fun _ _ => .stk
  | n + 1 => runF 8 (b__law_fields (r__law_fields n))
def o__law_fields := r__law_fields 6
theorem u__law_fields (n : Nat) (x0 x1 x2 : D) (m : List O) : r__law_fields (n + 1) [x0, x1, x2] m = fin (b__law_fields (r__law_fields n) [some x0, some x1, some x2, none, none, none, none, none] m) := runF_fin _ _
def b__law_leaf_count (o__law_leaf_count : List D → List O → Rs D) : FS := (sSeq (sIf (tTru (fCB bIsi (aCons (fVar 0) (aCons (fC (.ty "str")) aNil)))) (sRet (fC (.int 1))) sNx)
    (sRet (fCB bSum (aCons (fLc [1] (.nm 1) (iAll (fVar 0)) tTrue (fCB o__law_leaf_count (aCons (fBin gIx (fVar 1) (fC (.int 2))) aNil))) aNil))))
def r__law_leaf_count : Nat → List D → List O → Rs D
  | 0 => fun _ _ => .stk
  | n + 1 => runF 2 (b__law_leaf_count (r__law_leaf_count n))
def o__law_leaf_count := r__law_leaf_count 6
theorem u__law_leaf_count (n : Nat) (x0 : D) (m : List O) : r__law_leaf_count (n + 1) [x0] m = fin (b__law_leaf_count (r__law_leaf_count n) [some x0, none] m) := runF_fin _ _
def b__law_schema : FS := (sSeq (sSet 2 (fCB o__law_fields (aCons (fCB o__law_stream (aCons (fVar 0) (aCons (fVar 1) (aCons (fC (.int 4)) aNil)))) (aCons (fC (.int 1)) (aCons (fC (.int 1)) aNil)))))
    (sSeq (sIf (tVal (fBin gGt (fCB bSum (aCons (fLc [3] (.nm 3) (iAll (fVar 2)) tTrue (fCB o__law_leaf_count (aCons (fBin gIx (fVar 3) (fC (.int 2))) aNil))) aNil)) (fC (.int 12)))) (sRet (fSl (fVar 2) pNo (pSo (fC (.int 1))))) sNx)
    (sRet (fVar 2))))
def o__law_schema := runF 4 b__law_schema
theorem u__law_schema (x0 x1 : D) (m : List O) : o__law_schema [x0, x1] m = fin (b__law_schema [some x0, some x1, none, none] m) := runF_fin _ _
def b__law_ways (o__law_ways : List D → List O → Rs D) : FS := (sSeq (sSet 3 (fNew aNil))
    (sSeq (sFor (.tp [4, 5, 6]) (iAll (fVar 0)) (sSeq (sSet 7 (fTup (aCons (fBin gAdd (fBin gIx (fVar 2) (fC (.int 0))) (fCB bInt (aCons (fBin gEq (fVar 5) (fC (.str "repeated"))) aNil))) (aCons (fBin gAdd (fBin gIx (fVar 2) (fC (.int 1))) (fCB bInt (aCons (fBin gNe (fVar 5) (fC (.str "required"))) aNil))) aNil))))
    (sSeq (sSet 8 (fBin gAdd (fVar 1) (fLst (aCons (fTup (aCons (fVar 4) (aCons (fVar 5) (aCons (fBin gIx (fVar 7) (fC (.int 0))) (aCons (fBin gIx (fVar 7) (fC (.int 1))) aNil))))) aNil))))
    (sIf (tTru (fCB bIsi (aCons (fVar 6) (aCons (fC (.ty "str")) aNil)))) (sExp (fApp (fVar 3) (aCons (fTup (aCons (fVar 8) (aCons (fVar 6) aNil))) aNil))) (sExp (fExt (fVar 3) (aCons (fCB o__law_ways (aCons (fVar 6) (aCons (fVar 8) (aCons (fVar 7) aNil)))) aNil)))))))
    (sRet (fFrz (fVar 3)))))
def r__law_ways : Nat → List D → List O → Rs D
  | 0 => fun _ _ => .stk
  | n + 1 => runF 9 (b__law_ways (r__law_ways n))
def o__law_ways := r__law_ways 6
theorem u__law_ways (n : Nat) (x0 x1 x2 : D) (m : List O) : r__law_ways (n + 1) [x0, x1, x2] m = fin (b__law_ways (r__law_ways n) [some x0, some x1, some x2, none, none, none, none, none, none] m) := runF_fin _ _
def b__law_leaves : FS := (sSeq (sSet 1 (fNew aNil))
    (sSeq (sFor (.tp [2, 3]) (iAll (fCB o__law_ways (aCons (fVar 0) (aCons (fLst aNil) (aCons (fTup (aCons (fC (.int 0)) (aCons (fC (.int 0)) aNil))) aNil))))) (sExp (fApp (fVar 1) (aCons (fTup (aCons (fJoin (fC (.str ".")) (fLc [4] (.nm 4) (iAll (fVar 2)) tTrue (fBin gIx (fVar 4) (fC (.int 0))))) (aCons (fVar 3) (aCons (fBin gIx (fBin gIx (fVar 2) (fUn gNeg (fC (.int 1)))) (fC (.int 2))) (aCons (fBin gIx (fBin gIx (fVar 2) (fUn gNeg (fC (.int 1)))) (fC (.int 3))) aNil))))) aNil))))
    (sRet (fFrz (fVar 1)))))
def o__law_leaves := runF 5 b__law_leaves
theorem u__law_leaves (x0 : D) (m : List O) : o__law_leaves [x0] m = fin (b__law_leaves [some x0, none, none, none, none] m) := runF_fin _ _
def ms__law_is_unknown_0 (a : Addr) : FS := (sRet (fAnd (fCB (bIsE a (.glo "KinError")) (aCons (fVar 2) (aCons (fC (.glo "KinError")) aNil))) (fCB (bIsE a (.ty "ValueError")) (aCons (fVar 2) (aCons (fC (.ty "ValueError")) aNil)))))
def M__law_is_unknown_0 : FS := fun r m => gone 2 (noex ((sRet (fAnd (fC (.bl true)) (fC (.bl true)))) (r.set 2 none) m))
theorem hM__law_is_unknown_0 : ∀ a r m, 2 < r.length → gone 2 (noex (ms__law_is_unknown_0 a (r.set 2 (some (.exc a))) m)) = M__law_is_unknown_0 r m ∨ M__law_is_unknown_0 r m = .stk := by
  intro a r m h
  left
  simp [ms__law_is_unknown_0, M__law_is_unknown_0, List.getElem?_set, h, sRet, fCB, fC, fVar, aCons, aNil, bIsE, Rs.bind, Rs.sq, noex, gone, fAnd, fUn]
def b__law_is_unknown : FS := (sSeq (sTry "NoSuchPath" (sExp (fMeth "Schema" "place_of" o_Schema_place_of (fVar 0) (aCons (fVar 1) aNil))) (fun r m => if 2 < r.length then M__law_is_unknown_0 r m else .stk))
    (sRet (fC (.bl false))))
def o__law_is_unknown := runF 3 b__law_is_unknown
theorem u__law_is_unknown (x0 x1 : D) (m : List O) : o__law_is_unknown [x0, x1] m = fin (b__law_is_unknown [some x0, some x1, none] m) := runF_fin _ _
def e__law_text_0 : FE := (fBin gIx (fVar 1) (fCB o__law_next (aCons (fVar 0) (aCons (fC (.int 15)) aNil))))
def b__law_text : FS := (sSeq (sSet 1 (fC (.str "abzAZ09 .-_@/()")))
    (sRet (fJoin (fC (.str "")) (fLc [2] (.nm 2) (iR1 (aCons (fCB o__law_next (aCons (fVar 0) (aCons (fC (.int 5)) aNil))) aNil)) tTrue (e__law_text_0)))))
def o__law_text := runF 3 b__law_text
theorem u__law_text (x0 : D) (m : List O) : o__law_text [x0] m = fin (b__law_text [some x0, none, none] m) := runF_fin _ _
def b__law_leaf_value : FS := (sSeq (sIf (tVal (fBin gEq (fVar 1) (fC (.str "text")))) (sRet (fCB o__law_text (aCons (fVar 0) aNil))) sNx)
    (sSeq (sIf (tVal (fBin gEq (fVar 1) (fC (.str "flag")))) (sRet (fBin gEq (fCB o__law_next (aCons (fVar 0) (aCons (fC (.int 2)) aNil))) (fC (.int 0)))) sNx)
    (sSeq (sSet 2 (fBin gIx (fLst (aCons (fC (.int 0)) (aCons (fC (.int 1)) (aCons (fC (.int 7)) (aCons (fC (.int 127)) (aCons (fC (.int 128)) (aCons (fC (.int 2147483647)) (aCons (fUn gNeg (fC (.int 1))) (aCons (fUn gNeg (fC (.int 2147483648))) (aCons (fUn gNeg (fC (.int 64))) aNil)))))))))) (fCB o__law_next (aCons (fVar 0) (aCons (fC (.int 9)) aNil)))))
    (sRet (fBin gIx (fLst (aCons (fVar 2) (aCons (fCB o__law_next (aCons (fVar 0) (aCons (fC (.int 60)) aNil))) aNil))) (fCB o__law_next (aCons (fVar 0) (aCons (fC (.int 2)) aNil))))))))
def o__law_leaf_value := runF 3 b__law_leaf_value
theorem u__law_leaf_value (x0 x1 : D) (m : List O) : o__law_leaf_value [x0, x1] m = fin (b__law_leaf_value [some x0, some x1, none] m) := runF_fin _ _
def b__law_occurrence (o__law_occurrence : List D → List O → Rs D) (o__law_record : List D → List O → Rs D) : FS := (sSeq (sIf (tTru (fCB bIsi (aCons (fVar 1) (aCons (fC (.ty "str")) aNil)))) (sRet (fCB o__law_leaf_value (aCons (fVar 0) (aCons (fVar 1) aNil)))) sNx)
    (sRet (fCB o__law_record (aCons (fVar 0) (aCons (fVar 1) aNil)))))
def e__law_record_0 (o__law_occurrence : List D → List O → Rs D) (o__law_record : List D → List O → Rs D) : FE := (fCB o__law_occurrence (aCons (fVar 0) (aCons (fVar 5) aNil)))
def f__law_record_0 (o__law_occurrence : List D → List O → Rs D) (o__law_record : List D → List O → Rs D) : FS := (sFgtE [3, 4, 5] (sIf (tVal (fBin gEq (fVar 4) (fC (.str "repeated")))) (sPutD (fVar 2) (fVar 3) (fLc [6] (.nm 6) (iR1 (aCons (fCB o__law_next (aCons (fVar 0) (aCons (fC (.int 4)) aNil))) aNil)) tTrue (e__law_record_0 o__law_occurrence o__law_record))) (sIf (tAnd_ (tVal (fBin gEq (fVar 4) (fC (.str "optional")))) (tVal (fBin gEq (fCB o__law_next (aCons (fVar 0) (aCons (fC (.int 3)) aNil))) (fC (.int 0))))) (sPutD (fVar 2) (fVar 3) (fC .non)) (sPutD (fVar 2) (fVar 3) (fCB o__law_occurrence (aCons (fVar 0) (aCons (fVar 5) aNil)))))))
def b__law_record (o__law_occurrence : List D → List O → Rs D) (o__law_record : List D → List O → Rs D) : FS := (sSeq (sSet 2 fDnew)
    (sSeq (sFgtB [3, 4, 5] (sFor (.tp [3, 4, 5]) (iAll (fVar 1)) (f__law_record_0 o__law_occurrence o__law_record)))
    (sRet (fFrz (fVar 2)))))
def R__law_occurrence_x__law_record : Nat → (List D → List O → Rs D) × (List D → List O → Rs D)
  | 0 => (fun _ _ => .stk, fun _ _ => .stk)
  | n + 1 => (runF 2 (b__law_occurrence (R__law_occurrence_x__law_record n).1 (R__law_occurrence_x__law_record n).2), runF 7 (b__law_record (R__law_occurrence_x__law_record n).1 (R__law_occurrence_x__law_record n).2))
def o__law_occurrence := (R__law_occurrence_x__law_record 9).1
def o__law_record := (R__law_occurrence_x__law_record 9).2
theorem u__law_occurrence (n : Nat) (x0 x1 : D) (m : List O) : (R__law_occurrence_x__law_record (n + 1)).1 [x0, x1] m = fin ((b__law_occurrence (R__law_occurrence_x__law_record n).1 (R__law_occurrence_x__law_record n).2) [some x0, some x1] m) := runF_fin _ _
theorem u__law_record (n : Nat) (x0 x1 : D) (m : List O) : (R__law_occurrence_x__law_record (n + 1)).2 [x0, x1] m = fin ((b__law_record (R__law_occurrence_x__law_record n).1 (R__law_occurrence_x__law_record n).2) [some x0, some x1, none, none, none, none, none] m) := runF_fin _ _
def e__law_records_0 : FE := (fCB o__law_record (aCons (fVar 0) (aCons (fVar 1) aNil)))
def b__law_records : FS := (sRet (fLc [3] (.nm 3) (iR1 (aCons (fCB o__law_next (aCons (fVar 0) (aCons (fBin gAdd (fVar 2) (fC (.int 1))) aNil))) aNil)) tTrue (e__law_records_0)))
def o__law_records := runF 4 b__law_records
theorem u__law_records (x0 x1 x2 : D) (m : List O) : o__law_records [x0, x1, x2] m = fin (b__law_records [some x0, some x1, some x2, none] m) := runF_fin _ _
def f__law_write_0 (o__law_write : List D → List O → Rs D) (o__law_write_record : List D → List O → Rs D) : FS := (sFgtE [10] (sExp (fApp (fBin gIx (fVar 2) (fVar 10)) (aCons (fTup (aCons (fVar 6) (aCons (fVar 8) (aCons (fC .non) aNil)))) aNil))))
def f__law_write_1 (o__law_write : List D → List O → Rs D) (o__law_write_record : List D → List O → Rs D) : FS := (sFgtE [11, 12] (sSeq (sSet 12 (fVar 6))
    (sSeq (sIf (tVal (fBin gGt (fVar 11) (fC (.int 0)))) (sSet 12 (fBin gIx (fVar 9) (fC (.int 0)))) sNx)
    (sIf (tTru (fCB bIsi (aCons (fVar 0) (aCons (fC (.ty "str")) aNil)))) (sExp (fApp (fBin gIx (fVar 2) (fVar 3)) (aCons (fTup (aCons (fVar 12) (aCons (fBin gIx (fVar 9) (fC (.int 1))) (aCons (fBin gIx (fVar 1) (fVar 11)) aNil)))) aNil))) (sExp (fCB o__law_write_record (aCons (fVar 0) (aCons (fBin gIx (fVar 1) (fVar 11)) (aCons (fVar 2) (aCons (fVar 3) (aCons (fTup (aCons (fVar 12) (aCons (fBin gIx (fVar 9) (fC (.int 0))) (aCons (fBin gIx (fVar 9) (fC (.int 1))) aNil)))) aNil)))))))))))
def b__law_write (o__law_write : List D → List O → Rs D) (o__law_write_record : List D → List O → Rs D) : FS := (sSeq (sAsg (.tp [6, 7, 8]) (fVar 4))
    (sSeq (sSet 9 (fTup (aCons (fBin gAdd (fVar 7) (fCB bInt (aCons (fBin gEq (fVar 5) (fC (.str "repeated"))) aNil))) (aCons (fBin gAdd (fVar 8) (fCB bInt (aCons (fBin gNe (fVar 5) (fC (.str "required"))) aNil))) aNil))))
    (sSeq (sIf (tNot_ (tTru (fVar 1))) (sFgtB [10] (sFor (.nm 10) (iR2 (aCons (fVar 3) (aCons (fBin gAdd (fVar 3) (fCB o__law_leaf_count (aCons (fVar 0) aNil))) aNil))) (f__law_write_0 o__law_write o__law_write_record))) sNx)
    (sFgtB [11, 12] (sFor (.nm 11) (iR1 (aCons (fCB bLen (aCons (fVar 1) aNil)) aNil)) (f__law_write_1 o__law_write o__law_write_record))))))
def f__law_write_record_0 (o__law_write : List D → List O → Rs D) (o__law_write_record : List D → List O → Rs D) : FS := (sFgtE [5, 6, 7, 8, 9] (sSeq (sSet 8 (fBin gIxA (fVar 1) (fVar 5)))
    (sSeq (sSet 9 (fLst (aCons (fVar 8) aNil)))
    (sSeq (sIf (tVal (fBin gEq (fVar 6) (fC (.str "repeated")))) (sSet 9 (fVar 8)) (sIf (tVal (fBin gIs (fVar 8) (fC .non))) (sSet 9 (fLst aNil)) sNx))
    (sSeq (sExp (fCB o__law_write (aCons (fVar 7) (aCons (fVar 9) (aCons (fVar 2) (aCons (fVar 3) (aCons (fVar 4) (aCons (fVar 6) aNil))))))))
    (sSet 3 (fBin gAdd (fVar 3) (fCB o__law_leaf_count (aCons (fVar 7) aNil)))))))))
def b__law_write_record (o__law_write : List D → List O → Rs D) (o__law_write_record : List D → List O → Rs D) : FS := (sFgtB [5, 6, 7, 8, 9] (sFor (.tp [5, 6, 7]) (iAll (fVar 0)) (f__law_write_record_0 o__law_write o__law_write_record)))
def R__law_write_x__law_write_record : Nat → (List D → List O → Rs D) × (List D → List O → Rs D)
  | 0 => (fun _ _ => .stk, fun _ _ => .stk)
  | n + 1 => (runF 13 (b__law_write (R__law_write_x__law_write_record n).1 (R__law_write_x__law_write_record n).2), runF 10 (b__law_write_record (R__law_write_x__law_write_record n).1 (R__law_write_x__law_write_record n).2))
def o__law_write := (R__law_write_x__law_write_record 9).1
def o__law_write_record := (R__law_write_x__law_write_record 9).2
theorem u__law_write (n : Nat) (x0 x1 x2 x3 x4 x5 : D) (m : List O) : (R__law_write_x__law_write_record (n + 1)).1 [x0, x1, x2, x3, x4, x5] m = fin ((b__law_write (R__law_write_x__law_write_record n).1 (R__law_write_x__law_write_record n).2) [some x0, some x1, some x2, some x3, some x4, some x5, none, none, none, none, none, none, none] m) := runF_fin _ _
theorem u__law_write_record (n : Nat) (x0 x1 x2 x3 x4 : D) (m : List O) : (R__law_write_x__law_write_record (n + 1)).2 [x0, x1, x2, x3, x4] m = fin ((b__law_write_record (R__law_write_x__law_write_record n).1 (R__law_write_x__law_write_record n).2) [some x0, some x1, some x2, some x3, some x4, none, none, none, none, none] m) := runF_fin _ _
def e__law_columns_0 : FE := (fNew aNil)
def f__law_columns_0 : FS := (sFgtE [4] (sExp (fCB o__law_write_record (aCons (fVar 0) (aCons (fVar 4) (aCons (fVar 2) (aCons (fC (.int 0)) (aCons (fTup (aCons (fC (.int 0)) (aCons (fC (.int 0)) (aCons (fC (.int 0)) aNil)))) aNil))))))))
def e__law_columns_1 : FE := (fCB bTuple (aCons (fVar 5) aNil))
def b__law_columns : FS := (sSeq (sSet 2 (fLc [3] (.nm 3) (iAll (fCB (iso o__law_leaves) (aCons (fVar 0) aNil))) tTrue (e__law_columns_0)))
    (sSeq (sFgtB [4] (sFor (.nm 4) (iAll (fVar 1)) (f__law_columns_0)))
    (sRet (fCB bTuple (aCons (fLc [5] (.nm 5) (iAll (fVar 2)) tTrue (e__law_columns_1)) aNil)))))
def o__law_columns := runF 6 b__law_columns
theorem u__law_columns (x0 x1 : D) (m : List O) : o__law_columns [x0, x1] m = fin (b__law_columns [some x0, some x1, none, none, none, none] m) := runF_fin _ _
def b__law_fits_kind : FS := (sSeq (sIf (tVal (fBin gEq (fVar 1) (fC (.str "int")))) (sRet (fAnd (fCB o__law_is_integer (aCons (fVar 0) aNil)) (fChain gLe gLe (fUn gNeg (fC (.int 2147483648))) (fVar 0) (fC (.int 2147483647))))) sNx)
    (sSeq (sIf (tVal (fBin gEq (fVar 1) (fC (.str "text")))) (sRet (fCB bIsi (aCons (fVar 0) (aCons (fC (.ty "str")) aNil)))) sNx)
    (sRet (fCB bIsi (aCons (fVar 0) (aCons (fC (.ty "bool")) aNil))))))
def o__law_fits_kind := runF 2 b__law_fits_kind
theorem u__law_fits_kind (x0 x1 : D) (m : List O) : o__law_fits_kind [x0, x1] m = fin (b__law_fits_kind [some x0, some x1] m) := runF_fin _ _
def e__law_fault_0 : FE := (fBin gIx (fVar 6) (fC (.int 3)))
def t__law_fault_0 : FT := (tVal (fBin gEq (fBin gIx (fVar 6) (fC (.int 1))) (fC (.str "repeated"))))
def f__law_fault_0 : FS := (sFgtE [7, 8, 9, 10] (sSeq (sAsg (.tp [8, 9, 10]) (fBin gIx (fVar 2) (fVar 7)))
    (sSeq (sIf (tOr_ (tVal (fBin gGt (fVar 8) (fBin gIx (fBin gIx (fVar 3) (fUn gNeg (fC (.int 1)))) (fC (.int 2))))) (tVal (fBin gGt (fVar 9) (fBin gIx (fBin gIx (fVar 3) (fUn gNeg (fC (.int 1)))) (fC (.int 3)))))) (sRet (fVar 7)) sNx)
    (sSeq (sIf (tAnd_ (tVal (fBin gLt (fVar 9) (fBin gIx (fBin gIx (fVar 3) (fUn gNeg (fC (.int 1)))) (fC (.int 3))))) (tVal (fBin gIsNot (fVar 10) (fC .non)))) (sRet (fVar 7)) sNx)
    (sSeq (sIf (tAnd_ (tVal (fBin gEq (fVar 9) (fBin gIx (fBin gIx (fVar 3) (fUn gNeg (fC (.int 1)))) (fC (.int 3))))) (tNot_ (tTru (fCB o__law_fits_kind (aCons (fVar 10) (aCons (fVar 4) aNil)))))) (sRet (fVar 7)) sNx)
    (sIf (tAnd_ (tVal (fBin gGt (fVar 8) (fC (.int 0)))) (tOr_ (tVal (fBin gEq (fVar 7) (fC (.int 0)))) (tOr_ (tVal (fBin gLt (fBin gIx (fBin gIx (fVar 2) (fBin gSub (fVar 7) (fC (.int 1)))) (fC (.int 1))) (fBin gIx (fVar 5) (fVar 8)))) (tVal (fBin gLt (fVar 9) (fBin gIx (fVar 5) (fVar 8))))))) (sRet (fVar 7)) sNx))))))
def b__law_fault : FS := (sSeq (sAsg (.tp [3, 4]) (fBin gIx (fCB (iso o__law_ways) (aCons (fVar 0) (aCons (fLst aNil) (aCons (fTup (aCons (fC (.int 0)) (aCons (fC (.int 0)) aNil))) aNil)))) (fVar 1)))
    (sSeq (sSet 5 (fBin gAdd (fLst (aCons (fC (.int 0)) aNil)) (fLc [6] (.nm 6) (iAll (fVar 3)) (t__law_fault_0) (e__law_fault_0))))
    (sSeq (sFgtB [7, 8, 9, 10] (sFor (.nm 7) (iR1 (aCons (fCB bLen (aCons (fVar 2) aNil)) aNil)) (f__law_fault_0)))
    (sRet (fC .non)))))
def o__law_fault := runF 11 b__law_fault
theorem u__law_fault (x0 x1 x2 : D) (m : List O) : o__law_fault [x0, x1, x2] m = fin (b__law_fault [some x0, some x1, some x2, none, none, none, none, none, none, none, none] m) := runF_fin _ _
def f__law_bones_0 : FS := (sFgtE [4] (sIf (tVal (fBin gLe (fBin gIx (fVar 4) (fC (.int 0))) (fVar 1))) (sExp (fApp (fVar 3) (aCons (fTup (aCons (fBin gIx (fVar 4) (fC (.int 0))) (aCons (fBin gIx (fLst (aCons (fBin gIx (fVar 4) (fC (.int 1))) (aCons (fVar 2) aNil))) (fCB bInt (aCons (fBin gLt (fVar 2) (fBin gIx (fVar 4) (fC (.int 1)))) aNil))) aNil))) aNil))) sNx))
def b__law_bones : FS := (sSeq (sSet 3 (fNew aNil))
    (sSeq (sFgtB [4] (sFor (.nm 4) (iAll (fVar 0)) (f__law_bones_0)))
    (sRet (fCB bTuple (aCons (fVar 3) aNil)))))
def o__law_bones := runF 5 b__law_bones
theorem u__law_bones (x0 x1 x2 : D) (m : List O) : o__law_bones [x0, x1, x2] m = fin (b__law_bones [some x0, some x1, some x2, none, none] m) := runF_fin _ _
def e__law_turned_0 : FE := (fVar 4)
def f__law_turned_0 : FS := (sFgtE [5, 6, 7, 8, 9, 10, 11, 12, 13] (sSeq (sSet 6 (fCB o__law_next (aCons (fVar 0) (aCons (fCB bLen (aCons (fVar 3) aNil)) aNil))))
    (sIf (tTru (fBin gIx (fVar 3) (fVar 6))) (sSeq (sSet 7 (fCB bListN (aCons (fBin gIx (fVar 3) (fVar 6)) aNil)))
    (sSeq (sSet 8 (fBin gMod (fCB o__law_next (aCons (fVar 0) (aCons (fC (.int 60)) aNil))) (fCB bLen (aCons (fVar 7) aNil))))
    (sSeq (sSet 9 (fCB o__law_next (aCons (fVar 0) (aCons (fC (.int 7)) aNil))))
    (sSeq (sAsg (.tp [10, 11, 12]) (fBin gIx (fVar 7) (fVar 8)))
    (sSeq (sIf (tVal (fBin gEq (fVar 9) (fC (.int 0)))) (sSet 7 (fBin gAdd (fSl (fVar 7) pNo (pSo (fVar 8))) (fSl (fVar 7) (pSo (fBin gAdd (fVar 8) (fC (.int 1)))) pNo))) (sIf (tVal (fBin gEq (fVar 9) (fC (.int 1)))) (sSet 7 (fBin gAdd (fBin gAdd (fSl (fVar 7) pNo (pSo (fVar 8))) (fLst (aCons (fBin gIx (fVar 7) (fVar 8)) aNil))) (fSl (fVar 7) (pSo (fVar 8)) pNo))) (sIf (tVal (fBin gEq (fVar 9) (fC (.int 2)))) (sPut (fVar 7) (fVar 8) (fTup (aCons (fCB o__law_next (aCons (fVar 0) (aCons (fC (.int 4)) aNil))) (aCons (fVar 11) (aCons (fVar 12) aNil))))) (sIf (tVal (fBin gEq (fVar 9) (fC (.int 3)))) (sPut (fVar 7) (fVar 8) (fTup (aCons (fVar 10) (aCons (fCB o__law_next (aCons (fVar 0) (aCons (fC (.int 4)) aNil))) (aCons (fVar 12) aNil))))) (sIf (tVal (fBin gEq (fVar 9) (fC (.int 4)))) (sPut (fVar 7) (fVar 8) (fTup (aCons (fVar 10) (aCons (fVar 11) (aCons (fBin gIx (fLst (aCons (fC .non) (aCons (fC (.int 5)) (aCons (fC (.str "x")) (aCons (fC (.bl true)) aNil))))) (fCB o__law_next (aCons (fVar 0) (aCons (fC (.int 4)) aNil)))) aNil))))) (sIf (tVal (fBin gEq (fVar 9) (fC (.int 5)))) (sSeq (sSet 13 (fCB o__law_record (aCons (fVar 0) (aCons (fVar 1) aNil))))
    (sSet 7 (fBin gAdd (fVar 7) (fCB bList (aCons (fBin gIx (fCB (iso o__law_columns) (aCons (fVar 1) (aCons (fLst (aCons (fVar 13) aNil)) aNil))) (fVar 6)) aNil))))) sNx))))))
    (sPut (fVar 3) (fVar 6) (fCB bTuple (aCons (fVar 7) aNil)))))))) sNx)))
def e__law_turned_1 : FE := (fBin gIx (fLst (aCons (fVar 4) (aCons (fC .non) aNil))) (fCB bInt (aCons (fBin gEq (fCB o__law_next (aCons (fVar 0) (aCons (fC (.int 6)) aNil))) (fC (.int 0))) aNil)))
def b__law_turned : FS := (sSeq (sSet 3 (fLcN [4] (.nm 4) (iAll (fVar 2)) tTrue (e__law_turned_0)))
    (sSeq (sFgtB [5, 6, 7, 8, 9, 10, 11, 12, 13] (sFor (.nm 5) (iR1 (aCons (fBin gAdd (fC (.int 1)) (fCB o__law_next (aCons (fVar 0) (aCons (fC (.int 2)) aNil)))) aNil)) (f__law_turned_0)))
    (sRet (fCB bTuple (aCons (fLc [4] (.nm 4) (iAll (fFrz (fVar 3))) tTrue (e__law_turned_1)) aNil)))))
def o__law_turned := runF 14 b__law_turned
theorem u__law_turned (x0 x1 x2 : D) (m : List O) : o__law_turned [x0, x1, x2] m = fin (b__law_turned [some x0, some x1, some x2, none, none, none, none, none, none, none, none, none, none, none] m) := runF_fin _ _
def b__law_own : FS := (sSeq (sIf (tVal (fBin gEq (fVar 4) (fC (.int 0)))) (sRet (fBin gIs (fCB (iso o__law_fault) (aCons (fVar 1) (aCons (fVar 2) (aCons (fSl (fVar 3) pNo (pSo (fC (.int 1)))) aNil)))) (fC .non))) sNx)
    (sSeq (sAsg (.tp [5, 6, 7, 8]) (fBin gIx (fUn (gFld "Schema" "leaves") (fVar 0)) (fVar 2)))
    (sSeq (sSet 9 (fCB bMin2 (aCons (fBin gIx (fBin gIx (fVar 3) (fBin gSub (fVar 4) (fC (.int 1)))) (fC (.int 1))) (aCons (fVar 8) aNil))))
    (sSeq (sSet 10 (fIf (tVal (fBin gEq (fVar 9) (fVar 8))) (fBin gIxA (fDct (("int", (fC (.int 0))) :: (("text", (fC (.str ""))) :: (("flag", (fC (.bl true))) :: [])))) (fVar 6)) (fC .non)))
    (sRet (fBin gIs (fCB (iso o__law_fault) (aCons (fVar 1) (aCons (fVar 2) (aCons (fTup (aCons (fTup (aCons (fC (.int 0)) (aCons (fVar 9) (aCons (fVar 10) aNil)))) (aCons (fBin gIx (fVar 3) (fVar 4)) aNil))) aNil)))) (fC .non)))))))
def o__law_own := runF 11 b__law_own
theorem u__law_own (x0 x1 x2 x3 x4 : D) (m : List O) : o__law_own [x0, x1, x2, x3, x4] m = fin (b__law_own [some x0, some x1, some x2, some x3, some x4, none, none, none, none, none, none] m) := runF_fin _ _
def f__law_packed_number_0 : FS := (sFgtE [3] (sIf (tVal (fBin gGt (fVar 2) (fC (.int 0)))) (sSeq (sPut (fVar 1) (fUn gNeg (fC (.int 1))) (fBin gAdd (fBin gIx (fVar 1) (fUn gNeg (fC (.int 1)))) (fC (.int 128))))
    (sSeq (sExp (fApp (fVar 1) (aCons (fBin gMod (fVar 2) (fC (.int 128))) aNil)))
    (sSet 2 (fBin gFdiv (fVar 2) (fC (.int 128)))))) sNx))
def b__law_packed_number : FS := (sSeq (sSet 1 (fNew (aCons (fBin gMod (fVar 0) (fC (.int 128))) aNil)))
    (sSeq (sSet 2 (fBin gFdiv (fVar 0) (fC (.int 128))))
    (sSeq (sFgtB [3] (sFor (.nm 3) (iR1 (aCons (fC (.int 6)) aNil)) (f__law_packed_number_0)))
    (sRet (fFrz (fVar 1))))))
def o__law_packed_number := runF 4 b__law_packed_number
theorem u__law_packed_number (x0 : D) (m : List O) : o__law_packed_number [x0] m = fin (b__law_packed_number [some x0, none, none, none] m) := runF_fin _ _
def f__law_packed_levels_0 : FS := (sFgtE [3] (sSeq (sSet 2 (fBin gAdd (fVar 2) (fC (.int 1))))
    (sIf (tOr_ (tVal (fBin gEq (fVar 3) (fBin gSub (fCB bLen (aCons (fVar 0) aNil)) (fC (.int 1))))) (tVal (fBin gNe (fBin gIx (fVar 0) (fBin gAdd (fVar 3) (fC (.int 1)))) (fBin gIx (fVar 0) (fVar 3))))) (sSeq (sExp (fExt (fVar 1) (aCons (fCB (iso o__law_packed_number) (aCons (fBin gAdd (fBin gMul (fC (.int 4)) (fVar 2)) (fBin gIx (fVar 0) (fVar 3))) aNil)) aNil)))
    (sSet 2 (fC (.int 0)))) sNx)))
def b__law_packed_levels : FS := (sSeq (sSet 1 (fNew aNil))
    (sSeq (sSet 2 (fC (.int 0)))
    (sSeq (sFgtB [3] (sFor (.nm 3) (iR1 (aCons (fCB bLen (aCons (fVar 0) aNil)) aNil)) (f__law_packed_levels_0)))
    (sRet (fFrz (fVar 1))))))
def o__law_packed_levels := runF 4 b__law_packed_levels
theorem u__law_packed_levels (x0 : D) (m : List O) : o__law_packed_levels [x0] m = fin (b__law_packed_levels [some x0, none, none, none] m) := runF_fin _ _
def f__law_packed_value_0 : FS := (sFgtE [3] (sExp (fExt (fVar 2) (aCons (fCB (iso o__law_packed_number) (aCons (fIdx (fVar 1) (fVar 3)) aNil)) aNil))))
def b__law_packed_value : FS := (sSeq (sIf (tTru (fCB bIsi (aCons (fVar 0) (aCons (fC (.ty "bool")) aNil)))) (sRet (fLst (aCons (fCB bInt (aCons (fVar 0) aNil)) aNil))) sNx)
    (sSeq (sIf (tTru (fCB bIsi (aCons (fVar 0) (aCons (fC (.ty "int")) aNil)))) (sRet (fCB (iso o__law_packed_number) (aCons (fBin gIx (fLst (aCons (fBin gMul (fC (.int 2)) (fVar 0)) (aCons (fBin gSub (fBin gMul (fUn gNeg (fC (.int 2))) (fVar 0)) (fC (.int 1))) aNil))) (fCB bInt (aCons (fBin gLt (fVar 0) (fC (.int 0))) aNil))) aNil))) sNx)
    (sSeq (sSet 1 (fC (.str "abcdefghijklmnopqrstuvwxyzABCDEFGHIJKLMNOPQRSTUVWXYZ0123456789 .,;:!?-_@/()")))
    (sSeq (sSet 2 (fCB (iso o__law_packed_number) (aCons (fCB bLen (aCons (fVar 0) aNil)) aNil)))
    (sSeq (sFgtB [3] (sFor (.nm 3) (iAll (fVar 0)) (f__law_packed_value_0)))
    (sRet (fFrz (fVar 2))))))))
def o__law_packed_value := runF 4 b__law_packed_value
theorem u__law_packed_value (x0 : D) (m : List O) : o__law_packed_value [x0] m = fin (b__law_packed_value [some x0, none, none, none] m) := runF_fin _ _
end PU
set_option Elab.async false
set_option linter.all false
set_option maxRecDepth 100000
set_option maxHeartbeats 4000000
namespace FR
open PySem PySem.Spec L2
theorem atN {α : Type} {xs : List α} {i : Int} (h0 : 0 ≤ i) : atI xs i = xs[i.toNat]? := by
  unfold atI ixN
  rw [if_pos h0]
  by_cases h : i < xs.length
  · rw [if_pos h]; rfl
  · rw [if_neg h, Option.bind_none]
    symm
    rw [List.getElem?_eq_none_iff]
    omega
theorem at0 {α : Type} {x : α} {xs : List α} : atI (x :: xs) 0 = some x := by rw [atN (by decide)]; rfl
theorem at1 {α : Type} {x y : α} {xs : List α} : atI (x :: y :: xs) 1 = some y := by rw [atN (by decide)]; rfl
theorem at2 {α : Type} {x y z : α} {xs : List α} : atI (x :: y :: z :: xs) 2 = some z := by rw [atN (by decide)]; rfl
theorem atLast {α : Type} {x : α} {xs : List α} : atI (xs ++ [x]) (-1) = some x := by
  unfold atI ixN
  rw [if_neg (by decide), if_pos (by simp; omega)]
  have e : ((-1 : Int) + ((xs ++ [x]).length : Int)).toNat = xs.length := by simp; omega
  rw [Option.bind_some, e]
  simp
theorem ix0 {n : Nat} : ixN (n + 1) 0 = some 0 := by simp [ixN]
theorem getL {α : Type} {m : List α} {x : α} : (m ++ [x])[m.length]? = some x := by simp
theorem setL {α : Type} {m : List α} {x y : α} : (m ++ [x]).set m.length y = m ++ [y] := by simp
theorem rangeD_get {n : Int} {i : Nat} {d : D} (h : (rangeD 0 n)[i]? = some d) : d = .int (i : Int) ∧ (i : Int) < n := by
  unfold rangeD at h
  rw [List.getElem?_map] at h
  by_cases hl : i < (n - 0).toNat
  · rw [List.getElem?_range hl] at h
    simp at h
    exact ⟨h.symm, by omega⟩
  · rw [List.getElem?_eq_none (by simpa using hl)] at h
    cases h
theorem rangeD_len {n : Int} : (rangeD 0 n).length = n.toNat := by simp [rangeD]
theorem forL_inv {p : Pt} {body : FS} (I : Nat → Lc → List O → Prop) : ∀ (ds : List D) (k : Nat) (r : Lc) (m : List O), I k r m →
    (∀ (i : Nat) (d : D) (r : Lc) (m : List O), ds[i]? = some d → I (k + i) r m → ∃ r1 r2 m2, asg p d r = some r1 ∧ body r1 m = .ok (.nx r2) m2 ∧ I (k + i + 1) r2 m2) →
    ∃ r' m', forL p body ds r m = .ok (.nx r') m' ∧ I (k + ds.length) r' m'
  | [], k, r, m, h0, hs => ⟨r, m, rfl, h0⟩
  | d :: ds, k, r, m, h0, hs => by
    obtain ⟨r1, r2, m2, e1, e2, h1⟩ := hs 0 d r m rfl h0
    obtain ⟨r', m', e3, h3⟩ := forL_inv I ds (k + 1) r2 m2 h1 fun i d r m hd hI => by
      have := hs (i + 1) d r m (by simpa using hd) (by rw [show k + (i + 1) = k + 1 + i by omega]; exact hI)
      rw [show k + (i + 1) + 1 = k + 1 + i + 1 by omega] at this
      exact this
    refine ⟨r', m', ?_, by rw [List.length_cons, show k + (ds.length + 1) = k + 1 + ds.length by omega]; exact h3⟩
    simp only [forL, e1, e2, e3]
/-- what stood in the store stands there still -/
def Fr (m m' : List O) : Prop := ∀ (i : Nat) (o : O), m[i]? = some o → m'[i]? = some o
theorem Fr.rfl' {m : List O} : Fr m m := fun _ _ h => h
theorem Fr.trans {a b c : List O} (h : Fr a b) (g : Fr b c) : Fr a c := fun i o e => g i o (h i o e)
theorem Fr.app {m x : List O} : Fr m (m ++ x) := fun i o e => by
  have := (List.getElem?_eq_some_iff.mp e).1
  rw [List.getElem?_append_left this]; exact e
theorem Fr.len {m m' : List O} (h : Fr m m') : m.length ≤ m'.length := by
  by_cases e : m.length = 0
  · omega
  · have : m[m.length - 1]? = some (m[m.length - 1]'(by omega)) := List.getElem?_eq_getElem _
    have := (List.getElem?_eq_some_iff.mp (h _ _ this)).1
    omega
theorem Fr.set {m m' : List O} {n : Nat} {o : O} (h : Fr m m') (hn : m.length ≤ n) : Fr m (m'.set n o) := fun i x e => by
  have := (List.getElem?_eq_some_iff.mp e).1
  rw [List.getElem?_set_ne (by omega)]
  exact h i x e
def Digs (ds : List D) : Prop := ∀ d ∈ ds, ∃ i : Int, d = .int i ∧ 0 ≤ i
theorem Digs.app {a b : List D} (h : Digs a) (g : Digs b) : Digs (a ++ b) := fun d hd => by
  rcases List.mem_append.mp hd with z | z
  · exact h d z
  · exact g d z
theorem Digs.one {i : Int} (h : 0 ≤ i) : Digs [.int i] := fun d hd => by
  rcases List.mem_singleton.mp hd with rfl
  exact ⟨i, rfl, h⟩
end FR
namespace PU
open PySem PySem.Spec L2 FR
theorem cell_ok {m : List O} {ns : List Int} {k : Int} (h0 : 0 ≤ k) : ∃ c, o__law_cell [.scr ns, .int k] m = .ok (.int c) m := by
  by_cases h : k < ns.length
  · obtain ⟨c, hc⟩ : ∃ c, atI ns k = some c := by
      rw [atN h0]
      exact ⟨_, List.getElem?_eq_getElem (by omega)⟩
    exact ⟨c, by simp [o__law_cell, runF, b__law_cell, sSeq, sIf, sRet, sNx, tVal, Rs.sq, Rs.bind, fBin, fVar, fC, gIx, gLt, gI, fCB, aCons, aNil, bInt, bLen, h, hc]⟩
  · exact ⟨0, by simp [o__law_cell, runF, b__law_cell, sSeq, sIf, sRet, sNx, tVal, Rs.sq, Rs.bind, fBin, fVar, fC, gIx, gLt, gI, fCB, aCons, aNil, bInt, bLen, h]⟩
theorem seq_nx {a b : FS} {r r' : Lc} {m m' : List O} (h : a r m = .ok (.nx r') m') : sSeq a b r m = b r' m' := by unfold sSeq; rw [h]
theorem if_t {t : FT} {a b : FS} {r : Lc} {m m' : List O} (h : t r m = .ok true m') : sIf t a b r m = a r m' := by unfold sIf; rw [h]; rfl
theorem if_f {t : FT} {a b : FS} {r : Lc} {m m' : List O} (h : t r m = .ok false m') : sIf t a b r m = b r m' := by unfold sIf; rw [h]; rfl
theorem A1 (c n i : Int) (x g q : Option D) (m : List O) : (sSet 6 (fBin gMod (fBin gAdd (fBin gAdd (fBin gMul (fCB bInt (aCons (fVar 2) aNil)) (fC (.int 48271))) (fBin gMul (fVar 5) (fC (.int 69621)))) (fC (.int 11))) (fC (.int 2147483647)))) [some (.int c), some (.int 12), some (.int n), g, q, some (.int i), x] m =
  .ok (.nx [some (.int c), some (.int 12), some (.int n), g, q, some (.int i), some (.int ((n * 48271 + (i : Int) * 69621 + 11) % 2147483647))]) m := by
  simp [sSet, Rs.sq, Rs.bind, fBin, fVar, fC, fCB, bInt, gAdd, gMul, gMod, gI, aCons, aNil]
theorem A2 (c n i y : Int) (g q : Option D) (m : List O) (h1 : -18446744073709551616 < y) (h2 : y < 18446744073709551616) : (sSet 6 (fBin gMod (fBin gAdd (fBin gAdd (fBin gMul (fCB bInt (aCons (fVar 6) aNil)) (fCB bInt (aCons (fVar 6) aNil))) (fBin gMul (fVar 5) (fC (.int 7919)))) (fC (.int 5))) (fC (.int 998244353)))) [some (.int c), some (.int 12), some (.int n), g, q, some (.int i), some (.int y)] m =
  .ok (.nx [some (.int c), some (.int 12), some (.int n), g, q, some (.int i), some (.int ((y * y + (i : Int) * 7919 + 5) % 998244353))]) m := by
  simp [sSet, Rs.sq, Rs.bind, fBin, fVar, fC, fCB, bInt, gAdd, gMul, gMod, gI, aCons, aNil, h1, h2]
theorem draws_ok {m : List O} {c : Int} : ∃ ds, o__law_draws [.int c, .int 12] m = .ok (.lst ds) (m ++ [.dead]) ∧ Digs ds ∧ 0 < ds.length ∧ ds.length ≤ 60 := by
  obtain ⟨n0, hn0, hn⟩ : ∃ n0 : Int, (if c < 0 then -c else c) = n0 ∧ 0 ≤ n0 := ⟨_, rfl, by split <;> omega⟩
  obtain ⟨g, hg⟩ : ∃ g, decide (1000000000000000000 ≤ n0) = g := ⟨_, rfl⟩
  have key := forL_inv (p := .nm 5) (body := (sIf (tAnd_ (tVal (fBin gLt (fVar 5) (fVar 1))) (tTru (fVar 3))) (sSeq (sExp (fApp (fVar 4) (aCons (fBin gMod (fVar 2) (fC (.int 60))) aNil)))
    (sSet 2 (fBin gFdiv (fVar 2) (fC (.int 60))))) (sIf (tVal (fBin gLt (fVar 5) (fVar 1))) (sSeq (sSet 6 (fBin gMod (fBin gAdd (fBin gAdd (fBin gMul (fCB bInt (aCons (fVar 2) aNil)) (fC (.int 48271))) (fBin gMul (fVar 5) (fC (.int 69621)))) (fC (.int 11))) (fC (.int 2147483647))))
    (sSeq (sSet 6 (fBin gMod (fBin gAdd (fBin gAdd (fBin gMul (fCB bInt (aCons (fVar 6) aNil)) (fCB bInt (aCons (fVar 6) aNil))) (fBin gMul (fVar 5) (fC (.int 7919)))) (fC (.int 5))) (fC (.int 998244353))))
    (sExp (fApp (fVar 4) (aCons (fBin gMod (fCB bInt (aCons (fVar 6) aNil)) (fC (.int 60))) aNil))))) sNx)))
    (fun i r mm => ∃ (ds : List D) (n : Int) (k x : Option D), r = [some (.int c), some (.int 12), some (.int n), some (.bl g), some (.loc m.length), k, x] ∧ 0 ≤ n ∧ mm = m ++ [.lst ds] ∧ Digs ds ∧ ds.length ≤ i ∧ (0 < i → 0 < ds.length))
    (rangeD 0 60) 0 [some (.int c), some (.int 12), some (.int n0), some (.bl g), some (.loc m.length), none, none] (m ++ [.lst []]) ⟨[], n0, none, none, rfl, hn, rfl, (fun d hd => by cases hd), Nat.le_refl _, fun h => absurd h (by decide)⟩ ?_
  · obtain ⟨r', m', e, ds, n, k, x, rfl, _, rfl, hd, hl, h0⟩ := key
    rw [rangeD_len] at hl h0
    refine ⟨ds, ?_, hd, h0 (by decide), by simpa using hl⟩
    simp [o__law_draws, runF, b__law_draws, sSeq, sSet, sFor, sRet, Rs.sq, Rs.bind, fBin, fVar, fC, fUn, fFrz, fNew, iR1, gGe, gI, gPow, fCB, aCons, aNil, bInt, bAbs, gFrz, hn0, hg, e]
  · rintro i d r mm hd ⟨ds, n, k, x, rfl, hn1, rfl, hds, hl, h0⟩
    obtain ⟨rfl, hi⟩ := rangeD_get hd
    have hlt : ds.length < 16777216 := by omega
    refine ⟨[some (.int c), some (.int 12), some (.int n), some (.bl g), some (.loc m.length), some (.int i), x], ?_⟩
    simp only [asg, List.set_cons_succ, List.set_cons_zero, true_and]
    by_cases h12 : (i : Int) < 12
    · cases g with
      | true =>
        refine ⟨[some (.int c), some (.int 12), some (.int (n / 60)), some (.bl true), some (.loc m.length), some (.int i), x], m ++ [.lst (ds ++ [.int (n % 60)])], ?_, ?_⟩
        · simp [sSeq, sSet, sExp, sIf, fApp, derefL, tAnd_, tVal, tTru, truD, Rs.sq, Rs.bind, fBin, fVar, fC, gFdiv, gMod, gLt, gI, aCons, aNil, h12, getL, hlt]
        · exact ⟨_, _, _, _, rfl, by omega, rfl, hds.app (.one (by omega)), by simp; omega, fun _ => by simp⟩
      | false =>
        obtain ⟨y, hy, hy1, hy2⟩ : ∃ y, (n * 48271 + (i : Int) * 69621 + 11) % 2147483647 = y ∧ -18446744073709551616 < y ∧ y < 18446744073709551616 := ⟨_, rfl, by omega, by omega⟩
        obtain ⟨z, hz, hz0⟩ : ∃ z, (y * y + (i : Int) * 7919 + 5) % 998244353 = z ∧ 0 ≤ z := ⟨_, rfl, by omega⟩
        refine ⟨[some (.int c), some (.int 12), some (.int n), some (.bl false), some (.loc m.length), some (.int i), some (.int z)], m ++ [.lst (ds ++ [.int (z % 60)])], ?_, ?_⟩
        · refine (if_f (m' := m ++ [.lst ds]) ?_).trans ((if_t (m' := m ++ [.lst ds]) ?_).trans ((seq_nx (A1 _ _ _ _ _ _ _)).trans ((seq_nx (A2 _ _ _ _ _ _ _ (by rw [hy]; exact hy1) (by rw [hy]; exact hy2))).trans ?_)))
          · simp [tAnd_, tVal, tTru, truD, Rs.bind, fBin, fVar, fC, gLt, gI, h12]
          · simp [tVal, Rs.bind, fBin, fVar, fC, gLt, gI, h12]
          · rw [hy, hz]
            generalize hq : m.length = q
            have e1 : (m ++ [O.lst ds])[q]? = some (O.lst ds) := by rw [← hq]; exact getL
            have e2 : ∀ o, (m ++ [O.lst ds]).set q o = m ++ [o] := by rw [← hq]; exact fun o => setL
            simp [sExp, Rs.sq, Rs.bind, fApp, derefL, fBin, fVar, fC, fCB, bInt, gMod, gI, aCons, aNil, e1, e2, hlt]
        · exact ⟨_, _, _, _, rfl, hn1, rfl, hds.app (.one (by omega)), by simp; omega, fun _ => by simp⟩
    · refine ⟨[some (.int c), some (.int 12), some (.int n), some (.bl g), some (.loc m.length), some (.int i), x], m ++ [.lst ds], ?_, ?_⟩
      · simp [sSeq, sSet, sExp, sIf, sNx, fApp, derefL, tAnd_, tVal, tTru, truD, Rs.sq, Rs.bind, fBin, fVar, fC, gFdiv, gMod, gLt, gI, aCons, aNil, h12, getL]
      · exact ⟨_, _, _, _, rfl, hn1, rfl, hds, by omega, fun _ => h0 (by omega)⟩
end PU
set_option Elab.async false
set_option linter.all false
set_option maxRecDepth 100000
set_option maxHeartbeats 4000000
namespace FR
open PySem PySem.Spec L2
theorem lt_of_get {m : List O} {q : Nat} {o : O} (h : m[q]? = some o) : q < m.length := (List.getElem?_eq_some_iff.mp h).1
theorem get_app {m x : List O} {q : Nat} {o : O} (h : m[q]? = some o) : (m ++ x)[q]? = some o := by rw [List.getElem?_append_left (lt_of_get h)]; exact h
theorem get_set {m : List O} {q : Nat} {o u : O} (h : m[q]? = some o) : (m.set q u)[q]? = some u := by rw [List.getElem?_set]; simp [lt_of_get h]
theorem get_set_ne {m : List O} {q p : Nat} {u : O} (h : q ≠ p) : (m.set q u)[p]? = m[p]? := List.getElem?_set_ne h
end FR
namespace PU
open PySem PySem.Spec L2 FR
theorem stream_ok {m : List O} {ns : List Int} {first count : Int} (h0 : 0 ≤ first) (hc : 0 < count) (hc2 : count ≤ 1000) : ∃ ds p m', o__law_stream [.scr ns, .int first, .int count] m = .ok (.lst [.lst ds, .loc p]) m' ∧ Fr m m' ∧ m.length ≤ p ∧ m'[p]? = some (.lst [.int 0]) ∧ Digs ds ∧ 0 < ds.length := by
  have key := forL_inv (p := .nm 4) (body := (sExp (fExt (fVar 3) (aCons (fCB o__law_draws (aCons (fCB o__law_cell (aCons (fVar 0) (aCons (fBin gAdd (fVar 1) (fVar 4)) aNil))) (aCons (fC (.int 12)) aNil))) aNil))))
    (fun i r mm => ∃ (ds : List D) (k : Option D), r = [some (.scr ns), some (.int first), some (.int count), some (.loc m.length), k] ∧ mm[m.length]? = some (.lst ds) ∧ Fr m mm ∧ Digs ds ∧ ds.length ≤ 60 * i ∧ (0 < i → 0 < ds.length))
    (rangeD 0 count) 0 [some (.scr ns), some (.int first), some (.int count), some (.loc m.length), none] (m ++ [.lst []]) ⟨[], none, rfl, getL, Fr.app, (fun d hd => by cases hd), Nat.le_refl _, fun h => absurd h (by decide)⟩ ?_
  · obtain ⟨r', m', e, ds, k, rfl, hq, hf, hd, hl, hz⟩ := key
    rw [rangeD_len] at hl hz
    generalize hqq : m.length = q at hq e
    refine ⟨ds, (m'.set q .dead).length, m'.set q .dead ++ [.lst [.int 0]], ?_, (hf.set (by omega)).trans Fr.app, ?_, getL, hd, hz (by omega)⟩
    · have hcc : (-(2 ^ 62) : Int) ≤ count ∧ count < 2 ^ 62 := by omega
      have e0 : (iR1 (aCons (fVar 2) aNil)) [some (.scr ns), some (.int first), some (.int count), some (.loc q), none] (m ++ [.lst []]) = .ok (rangeD 0 count) (m ++ [.lst []]) := by
        simp [iR1, aCons, aNil, fVar, Rs.bind, hcc]
        omega
      have e1 : (sSet 3 (fNew aNil)) [some (.scr ns), some (.int first), some (.int count), none, none] m = .ok (.nx [some (.scr ns), some (.int first), some (.int count), some (.loc q), none]) (m ++ [.lst []]) := by
        rw [← hqq]; simp [sSet, fNew, aNil, Rs.sq, Rs.bind]
      have e2 : (sFor (.nm 4) (iR1 (aCons (fVar 2) aNil)) (sExp (fExt (fVar 3) (aCons (fCB o__law_draws (aCons (fCB o__law_cell (aCons (fVar 0) (aCons (fBin gAdd (fVar 1) (fVar 4)) aNil))) (aCons (fC (.int 12)) aNil))) aNil)))) [some (.scr ns), some (.int first), some (.int count), some (.loc q), none] (m ++ [.lst []]) = .ok (.nx [some (.scr ns), some (.int first), some (.int count), some (.loc q), k]) m' := by
        simp only [sFor, Rs.sq, e0, e]
      have e3 : b__law_stream [some (.scr ns), some (.int first), some (.int count), none, none] m = .ok (.rt (.lst [.lst ds, .loc (m'.set q .dead).length])) (m'.set q .dead ++ [.lst [.int 0]]) := by
        refine (seq_nx e1).trans ((seq_nx e2).trans ?_)
        simp [sRet, Rs.sq, Rs.bind, fLst, aCons, aNil, fFrz, fUn, gFrz, fVar, fNew, fC, hq]
      show runF 5 b__law_stream [.scr ns, .int first, .int count] m = _
      unfold runF
      rw [show ([D.scr ns, .int first, .int count].map some ++ List.replicate (5 - [D.scr ns, .int first, .int count].length) none) = [some (.scr ns), some (.int first), some (.int count), none, none] from rfl, e3]
    · have := hf.len
      rw [List.length_set]; omega
  · rintro i d r mm hd ⟨ds, k, rfl, hq, hf, hds, hl, hz⟩
    obtain ⟨rfl, hi⟩ := rangeD_get hd
    obtain ⟨c, hcell⟩ := cell_ok (m := mm) (ns := ns) (k := first + (i : Int)) (by omega)
    obtain ⟨ds', hdr, hd', hp', hl'⟩ := draws_ok (m := mm) (c := c)
    refine ⟨[some (.scr ns), some (.int first), some (.int count), some (.loc m.length), some (.int i)], [some (.scr ns), some (.int first), some (.int count), some (.loc m.length), some (.int i)], (mm ++ [O.dead]).set m.length (.lst (ds ++ ds')), ?_, ?_, ?_⟩
    · simp [asg]
    · generalize m.length = q at hq
      have g1 : (mm ++ [O.dead])[q]? = some (.lst ds) := get_app hq
      have hs : ds.length + ds'.length ≤ 16777216 := by omega
      simp [sExp, fExt, Rs.sq, Rs.bind, fVar, fCB, aCons, aNil, fC, fBin, gAdd, derefL, hq, hcell, hdr, g1, hs]
    · exact ⟨_, _, rfl, get_set (get_app hq), (hf.trans Fr.app).set (Nat.le_refl _), hds.app hd', by simp; omega, fun _ => by simp; omega⟩
end PU
set_option Elab.async false
set_option linter.all false
set_option maxRecDepth 100000
set_option maxHeartbeats 4000000
namespace FR
open PySem PySem.Spec L2
/-- .. but at p -/
def FrB (p : Nat) (m m' : List O) : Prop := ∀ (i : Nat) (o : O), i ≠ p → m[i]? = some o → m'[i]? = some o
theorem FrB.rfl' {p : Nat} {m : List O} : FrB p m m := fun _ _ _ h => h
theorem FrB.trans {p : Nat} {a b c : List O} (h : FrB p a b) (g : FrB p b c) : FrB p a c := fun i o n e => g i o n (h i o n e)
theorem Fr.b {p : Nat} {a b : List O} (h : Fr a b) : FrB p a b := fun i o n e => h i o e
theorem FrB.put {p : Nat} {m : List O} {u : O} : FrB p m (m.set p u) := fun i o n e => by rw [get_set_ne (Ne.symm n)]; exact e
def nameD : D → Str
  | .tup (.str n :: _) => n
  | _ => Str.empty
def kindD : D → D
  | .tup [_, _, k] => k
  | d => d
def lvK : Nat → D → Nat
  | _, .str _ => 1
  | n + 1, .tup fs => (fs.map fun f => lvK n (kindD f)).sum
  | _, _ => 0
end FR
namespace PU
open PySem PySem.Spec L2 FR
def RULES3 : List Str := ["required", "optional", "repeated"]
def KINDS3 : List Str := ["int", "text", "flag"]
def nmOk (n : Str) : Prop := (n.length ≤ 10 ∧ n.length ≠ 0 ∧ 46 ∉ n.cps.toList ∧ n.cps.all (· < 0x110000) = true) ∧ ∀ m, o_is_name [.str n] m = .ok (.bl true) m
def FOk (R : D → Prop) (d : D) : Prop := ∃ nm rl kd, d = .tup [.str nm, .str rl, kd] ∧ nmOk nm ∧ rl ∈ RULES3 ∧ R kd
def FsOk (R : D → Prop) (fs : List D) : Prop := fs ≠ [] ∧ fs.length ≤ 4000 ∧ (∀ d ∈ fs, FOk R d) ∧ (fs.map nameD).Nodup
def KOk : Nat → D → Prop
  | _, .str k => k ∈ KINDS3
  | n + 1, .tup fs => FsOk (KOk n) fs
  | _, _ => False
theorem next_any {m : List O} {ds : List D} {p : Nat} {pos many : Int} (h : m[p]? = some (.lst [.int pos])) (hp : 0 ≤ pos) (hl : 0 < ds.length) (hd : Digs ds) (hm : 0 < many) :
    ∃ v : Int, 0 ≤ v ∧ v < many ∧ o__law_next [.lst [.lst ds, .loc p], .int many] m = .ok (.int v) (m.set p (.lst [.int (pos + 1)])) := by
  have hl' : (0 : Int) < ds.length := by omega
  have h0 : 0 ≤ pos % (ds.length : Int) := Int.emod_nonneg _ (by omega)
  have h1 : pos % (ds.length : Int) < ds.length := Int.emod_lt_of_pos _ hl'
  obtain ⟨d, e⟩ : ∃ d, ds[(pos % (ds.length : Int)).toNat]? = some d := ⟨_, List.getElem?_eq_getElem (by omega)⟩
  obtain ⟨i, rfl, hi⟩ := hd d (List.mem_of_getElem? e)
  refine ⟨i % many, Int.emod_nonneg _ (by omega), Int.emod_lt_of_pos _ hm, ?_⟩
  have ha : atI ds (pos % (ds.length : Int)) = some (.int i) := by rw [atN h0]; exact e
  have ha0 : ∀ {α : Type} (x : α) xs, atI (x :: xs) 0 = some x := fun _ _ => at0
  simp [o__law_next, runF, b__law_next, sSeq, sSet, sPut, sRet, Rs.sq, Rs.bind, fBin, fVar, fC, gIx, gMod, gI, gAdd, fCB, aCons, aNil, bInt, bLen, derefS, derefL, gPut, at0, at1, ix0, h, hm, hl, hl', ha]
def NAMES6 : List D := [.str "id", .str "name", .str "a_1", .str "tags", .str "x", .str "list2"]
def N3 : List Str := ["id", "name", "a_1"]
theorem nm_id : nmOk "id" := ⟨⟨by decide, by decide, by decide, by decide +kernel⟩, fun _ => rfl⟩
theorem nm_name : nmOk "name" := ⟨⟨by decide, by decide, by decide, by decide +kernel⟩, fun _ => rfl⟩
theorem nm_a1 : nmOk "a_1" := ⟨⟨by decide, by decide, by decide, by decide +kernel⟩, fun _ => rfl⟩
theorem lv_str {n : Nat} {k : Str} : lvK n (.str k) = 1 := by cases n <;> rfl
theorem kok_str {n : Nat} {k : Str} (h : k ∈ KINDS3) : KOk n (.str k) := by cases n <;> exact h
/-- a drawn tuple of fields -/
structure Drawn (j : Nat) (fs : List D) : Prop where
  ok : FsOk (KOk j) fs
  len : fs.length ≤ 3
  lv : ∀ d ∈ fs, lvK j (kindD d) ≤ 3 ^ j
  nms : ∀ d ∈ fs, nameD d ∈ N3
theorem sum_le {α : Type} (f : α → Nat) (b : Nat) : ∀ l : List α, (∀ x ∈ l, f x ≤ b) → (l.map f).sum ≤ l.length * b
  | [], _ => by simp
  | x :: xs, h => by
    have := sum_le f b xs fun y hy => h y (List.mem_cons_of_mem _ hy)
    have h0 := h x List.mem_cons_self
    rw [List.map_cons, List.sum_cons, List.length_cons, Nat.succ_mul]
    omega
def LoopF (rec : List D → List O → Rs D) : FS := (sSeq (sSet 6 (fBin gIx (fLst (aCons (fC (.str "required")) (aCons (fC (.str "optional")) (aCons (fC (.str "repeated")) aNil)))) (fCB o__law_next (aCons (fVar 0) (aCons (fC (.int 3)) aNil)))))
    (sSeq (sSet 7 (fBin gIx (fLst (aCons (fC (.str "int")) (aCons (fC (.str "text")) (aCons (fC (.str "flag")) (aCons (fC (.str "int")) aNil))))) (fCB o__law_next (aCons (fVar 0) (aCons (fC (.int 4)) aNil)))))
    (sSeq (sIf (tAnd_ (tVal (fBin gLt (fVar 1) (fC (.int 3)))) (tVal (fBin gEq (fCB o__law_next (aCons (fVar 0) (aCons (fC (.int 3)) aNil))) (fC (.int 0))))) (sSet 7 (fCB rec (aCons (fVar 0) (aCons (fBin gAdd (fVar 1) (fC (.int 1))) (aCons (fC (.int 1)) aNil))))) sNx)
    (sExp (fApp (fVar 4) (aCons (fTup (aCons (fBin gIx (fVar 3) (fVar 5)) (aCons (fVar 6) (aCons (fVar 7) aNil)))) aNil))))))
theorem fields_body (rec : List D → List O → Rs D) : b__law_fields rec = (sSeq (sSet 3 (fLst (aCons (fC (.str "id")) (aCons (fC (.str "name")) (aCons (fC (.str "a_1")) (aCons (fC (.str "tags")) (aCons (fC (.str "x")) (aCons (fC (.str "list2")) aNil))))))))
    (sSeq (sSet 4 (fNew aNil))
    (sSeq (sFor (.nm 5) (iR1 (aCons (fBin gAdd (fVar 2) (fCB o__law_next (aCons (fVar 0) (aCons (fC (.int 3)) aNil)))) aNil)) (LoopF rec))
    (sRet (fCB bTuple (aCons (fVar 4) aNil)))))) := rfl
theorem eq_int {a b : Int} {m : List O} : gEq (.int a) (.int b) m = .ok (.bl (decide (a = b))) m := by
  have e : (a == b) = decide (a = b) := by by_cases h : a = b <;> simp [h]
  have s1 : ∀ z : Int, SeqAt.shaped (.int z) = true := fun _ => rfl
  simp only [gEq, gEqW, toPy, s1, Bool.and_self, if_true, PyData.eqv, e]
  rfl
theorem next_x {m : List O} {ds : List D} {p : Nat} {pos many : Int} (h : m[p]? = some (.lst [.int pos])) (hp : 0 ≤ pos) (hl : 0 < ds.length) (hd : Digs ds) (hm : 0 < many) :
    ∃ (v : Int) (m' : List O), 0 ≤ v ∧ v < many ∧ o__law_next [.lst [.lst ds, .loc p], .int many] m = .ok (.int v) m' ∧ m'[p]? = some (.lst [.int (pos + 1)]) ∧ FrB p m m' := by
  obtain ⟨v, a, b, e⟩ := next_any h hp hl hd hm
  exact ⟨v, _, a, b, e, get_set h, FrB.put⟩
theorem get_rule {v : Int} (h0 : 0 ≤ v) (h3 : v < 3) : ∃ rl ∈ RULES3, atI [D.str "required", .str "optional", .str "repeated"] v = some (.str rl) := by
  rw [atN h0]
  have : v = 0 ∨ v = 1 ∨ v = 2 := by omega
  rcases this with rfl | rfl | rfl
  · exact ⟨"required", by decide, rfl⟩
  · exact ⟨"optional", by decide, rfl⟩
  · exact ⟨"repeated", by decide, rfl⟩
theorem get_kind {v : Int} (h0 : 0 ≤ v) (h3 : v < 4) : ∃ rl ∈ KINDS3, atI [D.str "int", .str "text", .str "flag", .str "int"] v = some (.str rl) := by
  rw [atN h0]
  have : v = 0 ∨ v = 1 ∨ v = 2 ∨ v = 3 := by omega
  rcases this with rfl | rfl | rfl | rfl
  · exact ⟨"int", by decide, rfl⟩
  · exact ⟨"text", by decide, rfl⟩
  · exact ⟨"flag", by decide, rfl⟩
  · exact ⟨"int", by decide, rfl⟩
theorem get_name {i : Nat} (h : i < 3) : ∃ nm, nmOk nm ∧ N3[i]? = some nm ∧ atI NAMES6 (i : Int) = some (.str nm) := by
  rw [atN (by omega)]
  have : i = 0 ∨ i = 1 ∨ i = 2 := by omega
  rcases this with rfl | rfl | rfl
  · exact ⟨"id", nm_id, rfl, rfl⟩
  · exact ⟨"name", nm_name, rfl, rfl⟩
  · exact ⟨"a_1", nm_a1, rfl, rfl⟩
def RecOk (rec : List D → List O → Rs D) (j : Nat) : Prop := ∀ (m : List O) (ds : List D) (p : Nat) (pos : Int), m[p]? = some (.lst [.int pos]) → 0 ≤ pos → 0 < ds.length → Digs ds →
  ∃ fs m' pos', rec [.lst [.lst ds, .loc p], .int (3 - (j : Int)), .int 1] m = .ok (.tup fs) m' ∧ m'[p]? = some (.lst [.int pos']) ∧ 0 ≤ pos' ∧ FrB p m m' ∧ Drawn j fs
theorem turn_ok {rec : List D → List O → Rs D} {j : Nat} (hj : j ≤ 2) (hr : ∀ j', j = j' + 1 → RecOk rec j') {m : List O} {ds : List D} {p q : Nat} {pos : Int} {i : Nat} {fs : List D} {x6 x7 : Option D} (hp : m[p]? = some (.lst [.int pos])) (hpos : 0 ≤ pos) (hl : 0 < ds.length) (hd : Digs ds) (hi : i < 3)
    (hq : m[q]? = some (.lst fs)) (hpq : p ≠ q) (hfs : fs.length = i) :
    ∃ nm rl kd m' pos', LoopF rec [some (.lst [.lst ds, .loc p]), some (.int (3 - (j : Int))), some (.int 1), some (.lst NAMES6), some (.loc q), some (.int i), x6, x7] m =
      .ok (.nx [some (.lst [.lst ds, .loc p]), some (.int (3 - (j : Int))), some (.int 1), some (.lst NAMES6), some (.loc q), some (.int i), some (.str rl), some kd]) (m'.set q (.lst (fs ++ [.tup [.str nm, .str rl, kd]]))) ∧
      N3[i]? = some nm ∧ m'[p]? = some (.lst [.int pos']) ∧ 0 ≤ pos' ∧ FrB p m m' ∧ m'[q]? = some (.lst fs) ∧ FOk (KOk j) (.tup [.str nm, .str rl, kd]) ∧ lvK j kd ≤ 3 ^ j := by
  obtain ⟨nm, hnm, hn3, hat⟩ := get_name hi
  obtain ⟨v1, m1, a1, b1, e1, hp1, f1⟩ := next_x (many := 3) hp hpos hl hd (by decide)
  obtain ⟨rl, hrl, hg1⟩ := get_rule a1 b1
  obtain ⟨v2, m2, a2, b2, e2, hp2, f2'⟩ := next_x (many := 4) hp1 (by omega) hl hd (by decide)
  obtain ⟨kn, hkn, hg2⟩ := get_kind a2 b2
  have f2 : FrB p m m2 := f1.trans f2'
  have s1 : (sSet 6 (fBin gIx (fLst (aCons (fC (.str "required")) (aCons (fC (.str "optional")) (aCons (fC (.str "repeated")) aNil)))) (fCB o__law_next (aCons (fVar 0) (aCons (fC (.int 3)) aNil))))) [some (.lst [.lst ds, .loc p]), some (.int (3 - (j : Int))), some (.int 1), some (.lst NAMES6), some (.loc q), some (.int i), x6, x7] m =
      .ok (.nx [some (.lst [.lst ds, .loc p]), some (.int (3 - (j : Int))), some (.int 1), some (.lst NAMES6), some (.loc q), some (.int i), some (.str rl), x7]) m1 := by
    simp [sSet, Rs.sq, Rs.bind, fBin, fLst, aCons, aNil, fC, fCB, fVar, e1, gIx, derefS, hg1]
  have s2 : (sSet 7 (fBin gIx (fLst (aCons (fC (.str "int")) (aCons (fC (.str "text")) (aCons (fC (.str "flag")) (aCons (fC (.str "int")) aNil))))) (fCB o__law_next (aCons (fVar 0) (aCons (fC (.int 4)) aNil))))) [some (.lst [.lst ds, .loc p]), some (.int (3 - (j : Int))), some (.int 1), some (.lst NAMES6), some (.loc q), some (.int i), some (.str rl), x7] m1 =
      .ok (.nx [some (.lst [.lst ds, .loc p]), some (.int (3 - (j : Int))), some (.int 1), some (.lst NAMES6), some (.loc q), some (.int i), some (.str rl), some (.str kn)]) m2 := by
    simp [sSet, Rs.sq, Rs.bind, fBin, fLst, aCons, aNil, fC, fCB, fVar, e2, gIx, derefS, hg2]
  -- the group, or not
  have s3 : ∃ kd m' pos', (sIf (tAnd_ (tVal (fBin gLt (fVar 1) (fC (.int 3)))) (tVal (fBin gEq (fCB o__law_next (aCons (fVar 0) (aCons (fC (.int 3)) aNil))) (fC (.int 0))))) (sSet 7 (fCB rec (aCons (fVar 0) (aCons (fBin gAdd (fVar 1) (fC (.int 1))) (aCons (fC (.int 1)) aNil))))) sNx)
        [some (.lst [.lst ds, .loc p]), some (.int (3 - (j : Int))), some (.int 1), some (.lst NAMES6), some (.loc q), some (.int i), some (.str rl), some (.str kn)] m2 =
      .ok (.nx [some (.lst [.lst ds, .loc p]), some (.int (3 - (j : Int))), some (.int 1), some (.lst NAMES6), some (.loc q), some (.int i), some (.str rl), some kd]) m' ∧ m'[p]? = some (.lst [.int pos']) ∧ 0 ≤ pos' ∧ FrB p m2 m' ∧ KOk j kd ∧ lvK j kd ≤ 3 ^ j := by
    have one : 1 ≤ 3 ^ j := Nat.pos_of_ne_zero (by simp)
    cases j with
    | zero =>
      refine ⟨.str kn, m2, _, ?_, hp2, by omega, FrB.rfl', kok_str hkn, by rw [lv_str]; exact one⟩
      refine (if_f (m' := m2) ?_).trans rfl
      simp [tAnd_, tVal, Rs.bind, fBin, fVar, fC, gLt, gI]
    | succ j =>
      obtain ⟨v3, m3, a3, b3, e3, hp3, f3⟩ := next_x (many := 3) hp2 (by omega) hl hd (by decide)
      have lt3 : (3 : Int) - ((j + 1 : Nat) : Int) < 3 := by omega
      have tst : (tAnd_ (tVal (fBin gLt (fVar 1) (fC (.int 3)))) (tVal (fBin gEq (fCB o__law_next (aCons (fVar 0) (aCons (fC (.int 3)) aNil))) (fC (.int 0)))))
        [some (.lst [.lst ds, .loc p]), some (.int (3 - ((j + 1 : Nat) : Int))), some (.int 1), some (.lst NAMES6), some (.loc q), some (.int i), some (.str rl), some (.str kn)] m2 = .ok (decide (v3 = 0)) m3 := by
        simp only [tAnd_, tVal, Rs.bind, fBin, fVar, fC, fCB, aCons, aNil, List.getElem?_cons_zero, List.getElem?_cons_succ, gLt, gI, e3, eq_int, if_true, lt3, decide_true]
      by_cases h : v3 = 0
      · obtain ⟨fs', m', pos', er, g1, g2, g3, dr⟩ := hr j rfl _ ds p _ hp3 (by omega) hl hd
        refine ⟨.tup fs', m', pos', ?_, g1, g2, f3.trans g3, dr.ok, ?_⟩
        · refine (if_t (tst.trans (by rw [decide_eq_true h]))).trans ?_
          have ej : (3 : Int) - ((j + 1 : Nat) : Int) + 1 = 3 - (j : Int) := by omega
          simp only [sSet, Rs.sq, Rs.bind, fCB, aCons, aNil, fVar, fC, fBin, gAdd, List.getElem?_cons_zero, List.getElem?_cons_succ, ej, er]
          rfl
        · have h3 := sum_le (fun f => lvK j (kindD f)) (3 ^ j) fs' dr.lv
          have h4 : fs'.length * 3 ^ j ≤ 3 * 3 ^ j := Nat.mul_le_mul_right _ dr.len
          show (fs'.map fun f => lvK j (kindD f)).sum ≤ 3 ^ (j + 1)
          rw [Nat.pow_succ]
          omega
      · refine ⟨.str kn, _, _, ?_, hp3, by omega, f3, kok_str hkn, by rw [lv_str]; exact one⟩
        exact (if_f (tst.trans (by rw [decide_eq_false h]))).trans rfl
  obtain ⟨kd, m', pos', e4, g1, g2, g3, g4, g5⟩ := s3
  have hq' : m'[q]? = some (.lst fs) := g3 _ _ (Ne.symm hpq) (f2 _ _ (Ne.symm hpq) hq)
  refine ⟨nm, rl, kd, m', pos', ?_, hn3, g1, g2, f2.trans g3, hq', ⟨nm, rl, kd, rfl, hnm, hrl, g4⟩, g5⟩
  refine (seq_nx s1).trans ((seq_nx s2).trans ((seq_nx e4).trans ?_))
  have hlt : fs.length < 16777216 := by omega
  simp only [sExp, fApp, Rs.sq, Rs.bind, fVar, fTup, fBin, aCons, aNil, List.getElem?_cons_zero, List.getElem?_cons_succ, derefL, hq']
  simp [gIx, derefS, hat, hlt, hq']
end PU
set_option Elab.async false
set_option linter.all false
set_option maxRecDepth 100000
set_option maxHeartbeats 4000000
namespace PU
open PySem PySem.Spec L2 FR
theorem fields_step {rec : List D → List O → Rs D} {j : Nat} (hj : j ≤ 2) (hr : ∀ j', j = j' + 1 → RecOk rec j') : RecOk (runF 8 (b__law_fields rec)) j := by
  intro m ds p pos hp hpos hl hd
  have hpm : p < m.length := lt_of_get hp
  obtain ⟨q, hq⟩ : ∃ q, m.length = q := ⟨_, rfl⟩
  obtain ⟨v, m2, a1, b1, e1, hp2, f1⟩ := next_x (m := m ++ [.lst []]) (many := 3) (get_app hp) hpos hl hd (by decide)
  have fq : FrB p m m2 := (Fr.app.b).trans f1
  have hq2 : m2[q]? = some (.lst []) := f1 _ _ (by omega) (by rw [← hq]; exact getL)
  have key := forL_inv (p := .nm 5) (body := LoopF rec)
    (fun i r mm => ∃ (fs : List D) (pos' : Int) (x5 x6 x7 : Option D), r = [some (.lst [.lst ds, .loc p]), some (.int (3 - (j : Int))), some (.int 1), some (.lst NAMES6), some (.loc q), x5, x6, x7] ∧ mm[p]? = some (.lst [.int pos']) ∧ 0 ≤ pos' ∧ FrB p m mm ∧ mm[q]? = some (.lst fs) ∧ fs.length = i ∧ fs.map nameD = N3.take i ∧ ∀ d ∈ fs, FOk (KOk j) d ∧ lvK j (kindD d) ≤ 3 ^ j)
    (rangeD 0 (1 + v)) 0 [some (.lst [.lst ds, .loc p]), some (.int (3 - (j : Int))), some (.int 1), some (.lst NAMES6), some (.loc q), none, none, none] m2 ⟨[], _, none, none, none, rfl, hp2, by omega, fq, hq2, rfl, rfl, fun d h => by cases h⟩ ?_
  · obtain ⟨r', m', e, fs, pos', x5, x6, x7, rfl, g1, g2, g3, g4, g5, g6, g7⟩ := key
    rw [rangeD_len] at g5 g6
    have hn : 1 ≤ 0 + (1 + v).toNat ∧ 0 + (1 + v).toNat ≤ 3 := by omega
    generalize 0 + (1 + v).toNat = n at g5 g6 hn
    refine ⟨fs, m', pos', ?_, g1, g2, g3, ⟨⟨?_, by omega, fun d h => (g7 d h).1, ?_⟩, by omega, fun d h => (g7 d h).2, fun d h => List.mem_of_mem_take (g6 ▸ List.mem_map_of_mem h)⟩⟩
    · have s1 : (sSet 3 (fLst (aCons (fC (.str "id")) (aCons (fC (.str "name")) (aCons (fC (.str "a_1")) (aCons (fC (.str "tags")) (aCons (fC (.str "x")) (aCons (fC (.str "list2")) aNil)))))))) [some (.lst [.lst ds, .loc p]), some (.int (3 - (j : Int))), some (.int 1), none, none, none, none, none] m =
          .ok (.nx [some (.lst [.lst ds, .loc p]), some (.int (3 - (j : Int))), some (.int 1), some (.lst NAMES6), none, none, none, none]) m := by
        simp [sSet, Rs.sq, Rs.bind, fLst, aCons, aNil, fC, NAMES6]
      have s2 : (sSet 4 (fNew aNil)) [some (.lst [.lst ds, .loc p]), some (.int (3 - (j : Int))), some (.int 1), some (.lst NAMES6), none, none, none, none] m =
          .ok (.nx [some (.lst [.lst ds, .loc p]), some (.int (3 - (j : Int))), some (.int 1), some (.lst NAMES6), some (.loc q), none, none, none]) (m ++ [.lst []]) := by
        rw [← hq]; simp [sSet, fNew, aNil, Rs.sq, Rs.bind]
      have hcc : (-(2 ^ 62) : Int) ≤ 1 + v ∧ 1 + v < 2 ^ 62 := by omega
      have s3 : (sFor (.nm 5) (iR1 (aCons (fBin gAdd (fVar 2) (fCB o__law_next (aCons (fVar 0) (aCons (fC (.int 3)) aNil)))) aNil)) (LoopF rec)) [some (.lst [.lst ds, .loc p]), some (.int (3 - (j : Int))), some (.int 1), some (.lst NAMES6), some (.loc q), none, none, none] (m ++ [.lst []]) =
          .ok (.nx [some (.lst [.lst ds, .loc p]), some (.int (3 - (j : Int))), some (.int 1), some (.lst NAMES6), some (.loc q), x5, x6, x7]) m' := by
        have s0 : (iR1 (aCons (fBin gAdd (fVar 2) (fCB o__law_next (aCons (fVar 0) (aCons (fC (.int 3)) aNil)))) aNil)) [some (.lst [.lst ds, .loc p]), some (.int (3 - (j : Int))), some (.int 1), some (.lst NAMES6), some (.loc q), none, none, none] (m ++ [.lst []]) = .ok (rangeD 0 (1 + v)) m2 := by
          simp only [iR1, aCons, aNil, fBin, fVar, fC, fCB, Rs.bind, List.getElem?_cons_zero, List.getElem?_cons_succ, e1, gAdd, if_pos hcc]
        simp only [sFor, Rs.sq, s0, e]
      have s4 : b__law_fields rec [some (.lst [.lst ds, .loc p]), some (.int (3 - (j : Int))), some (.int 1), none, none, none, none, none] m = .ok (.rt (.tup fs)) m' := by
        rw [fields_body]
        refine (seq_nx s1).trans ((seq_nx s2).trans ((seq_nx s3).trans ?_))
        simp [sRet, Rs.sq, Rs.bind, fCB, aCons, aNil, fVar, bTuple, derefL, g4]
      show runF 8 (b__law_fields rec) [.lst [.lst ds, .loc p], .int (3 - (j : Int)), .int 1] m = _
      unfold runF
      rw [show ([D.lst [.lst ds, .loc p], .int (3 - (j : Int)), .int 1].map some ++ List.replicate (8 - [D.lst [.lst ds, .loc p], .int (3 - (j : Int)), .int 1].length) none) = [some (.lst [.lst ds, .loc p]), some (.int (3 - (j : Int))), some (.int 1), none, none, none, none, none] from rfl, s4]
    · intro h
      rw [h] at g5
      simp at g5
      omega
    · rw [g6]
      have : n = 1 ∨ n = 2 ∨ n = 3 := by omega
      rcases this with rfl | rfl | rfl <;> decide
  · rintro i d r mm hdd ⟨fs, pos', x5, x6, x7, rfl, g1, g2, g3, g4, g5, g6, g7⟩
    obtain ⟨rfl, hi⟩ := rangeD_get hdd
    rw [Nat.zero_add] at g5 g6
    obtain ⟨nm, rl, kd, m', pos'', t1, t2, t3, t4, t5, t6, t7, t8⟩ := turn_ok (rec := rec) (x6 := x6) (x7 := x7) (i := i) hj hr g1 g2 hl hd (by omega) g4 (by omega) g5
    refine ⟨_, _, _, ?_, t1, fs ++ [.tup [.str nm, .str rl, kd]], pos'', _, _, _, rfl, ?_, t4, ?_, get_set t6, by simp [g5], ?_, ?_⟩
    · simp [asg]
    · rw [get_set_ne (by omega)]; exact t3
    · intro k o hk ho
      rw [get_set_ne (by have := lt_of_get ho; omega)]
      exact t5 k o hk (g3 k o hk ho)
    · rw [List.map_append, g6, Nat.zero_add]
      rw [List.take_add_one, t2]
      rfl
    · intro d hdm
      rcases List.mem_append.mp hdm with z | z
      · exact g7 d z
      · rcases List.mem_singleton.mp z with rfl
        exact ⟨t7, t8⟩
theorem fields_ok : ∀ (j n : Nat), j ≤ 2 → j < n → RecOk (r__law_fields n) j
  | 0, n + 1, hj, hn => fields_step hj fun j' h => by omega
  | j + 1, n + 1, hj, hn => fields_step hj fun j' h => by
    have : j' = j := by omega
    subst this
    exact fields_ok j' n (by omega) (by omega)
end PU
set_option Elab.async false
set_option linter.all false
set_option maxRecDepth 100000
set_option maxHeartbeats 4000000
namespace FR
open PySem PySem.Spec L2
theorem compL_map {p : Pt} {t : FT} {f : FE} {r : Lc} {m : List O} (g : D → D) : ∀ ds : List D, (∀ d ∈ ds, ∃ r1, asg p d r = some r1 ∧ t r1 m = .ok true m ∧ f r1 m = .ok (g d) m) → compL p t f r ds m = .ok (ds.map g) m
  | [], _ => rfl
  | d :: ds, h => by
    obtain ⟨r1, e1, e2, e3⟩ := h d List.mem_cons_self
    have ih := compL_map (p := p) (t := t) (f := f) (r := r) (m := m) g ds fun x hx => h x (List.mem_cons_of_mem _ hx)
    simp only [compL, e1, e2, e3, ih, Rs.bind, List.map_cons]
theorem intsD_map {α : Type} (h : α → Int) : ∀ ds : List α, intsD (ds.map fun d => .int (h d)) = some (ds.map h)
  | [] => rfl
  | d :: ds => by simp only [List.map_cons, intsD, intsD_map h ds]; rfl
theorem sum_cast {α : Type} (h : α → Nat) : ∀ ds : List α, (ds.map fun d => (h d : Int)).sum = (((ds.map h).sum : Nat) : Int)
  | [] => rfl
  | d :: ds => by
    have := sum_cast h ds
    simp only [List.map_cons, List.sum_cons, this]
    omega
end FR
namespace PU
open PySem PySem.Spec L2 FR
def RecC (rec : List D → List O → Rs D) (n : Nat) : Prop := ∀ (kd : D) (m : List O), KOk n kd → rec [kd] m = .ok (.int (lvK n kd : Nat)) m
theorem fok_parts {R : D → Prop} {d : D} (h : FOk R d) : ∃ nm rl kd, d = .tup [.str nm, .str rl, kd] ∧ kindD d = kd ∧ nameD d = nm ∧ nmOk nm ∧ rl ∈ RULES3 ∧ R kd := by
  obtain ⟨nm, rl, kd, rfl, a, b, c⟩ := h
  exact ⟨nm, rl, kd, rfl, rfl, rfl, a, b, c⟩
theorem fields_sum {rec : List D → List O → Rs D} {n i : Nat} {r : Lc} {m : List O} {fs : List D} (hr : RecC rec n) (h : FsOk (KOk n) fs) (hi : i < r.length) :
    compL (.nm i) tTrue (fCB rec (aCons (fBin gIx (fVar i) (fC (.int 2))) aNil)) r fs m = .ok (fs.map fun f => .int (lvK n (kindD f) : Nat)) m := by
  refine compL_map (fun f => .int (lvK n (kindD f) : Nat)) fs fun d hd => ⟨r.set i (some d), rfl, rfl, ?_⟩
  obtain ⟨nm, rl, kd, rfl, e, _, _, _, hk⟩ := fok_parts (h.2.2.1 d hd)
  rw [e]
  have hg : (r.set i (some (D.tup [.str nm, .str rl, kd])))[i]? = some (some (D.tup [.str nm, .str rl, kd])) := by rw [List.getElem?_set]; simp [hi]
  simp only [fCB, aCons, aNil, fBin, fVar, fC, Rs.bind, hg, gIx, derefS, at2]
  exact hr kd m hk
theorem kit_ts : kitB "tuple" "str" = some false := by decide +kernel
theorem kit_ss : kitB "str" "str" = some true := by decide +kernel
theorem count_ok : ∀ (f n : Nat), n < f → RecC (r__law_leaf_count f) n
  | f + 1, n, hn => by
    intro kd m hk
    show runF 2 (b__law_leaf_count (r__law_leaf_count f)) [kd] m = _
    cases kd with
    | str k =>
      rw [lv_str]
      simp [runF, b__law_leaf_count, sSeq, sIf, sRet, Rs.sq, Rs.bind, tTru, truD, fCB, aCons, aNil, fC, fVar, bIsi, tyD, kit_ss]
    | tup fs =>
      cases n with
      | zero => exact hk.elim
      | succ n =>
        have hk : FsOk (KOk n) fs := hk
        have ih := count_ok f n (by omega)
        have e1 := fields_sum (i := 1) (r := [some (.tup fs), none]) (m := m) ih hk (by simp)
        have hl : fs.length ≤ 16777215 := by have := hk.2.1; omega
        have e2 : (fLc [1] (.nm 1) (iAll (fVar 0)) tTrue (fCB (r__law_leaf_count f) (aCons (fBin gIx (fVar 1) (fC (.int 2))) aNil))) [some (.tup fs), none] m = .ok (.lst (fs.map fun f => .int (lvK n (kindD f) : Nat))) m := by
          simp only [fLc, iAll, fVar, Rs.bind, List.getElem?_cons_zero, if_pos hl, wipeL, List.set_cons_succ, List.set_cons_zero]
          rw [e1]
        have e3 : (sIf (tTru (fCB bIsi (aCons (fVar 0) (aCons (fC (.ty "str")) aNil)))) (sRet (fC (.int 1))) sNx) [some (.tup fs), none] m = .ok (.nx [some (.tup fs), none]) m := by
          simp [sIf, sNx, Rs.sq, Rs.bind, tTru, truD, fCB, aCons, aNil, fC, fVar, bIsi, tyD, kit_ts]
        have e4 : b__law_leaf_count (r__law_leaf_count f) [some (.tup fs), none] m = .ok (.rt (.int (lvK (n + 1) (.tup fs) : Nat))) m := by
          refine (seq_nx e3).trans ?_
          simp only [sRet, Rs.sq, fCB, aCons, aNil, Rs.bind, e2, bSum, bOvI, derefL, intsD_map, sum_cast]
          rfl
        unfold runF
        rw [show ([D.tup fs].map some ++ List.replicate (2 - [D.tup fs].length) none) = [some (.tup fs), none] from rfl, e4]
    | _ => first | exact hk.elim | (cases n <;> exact hk.elim)
def leaves (n : Nat) (fs : List D) : Nat := (fs.map fun f => lvK n (kindD f)).sum
/-- a schema as the laws draw it -/
structure Schm (fs : List D) : Prop where
  ok : FsOk (KOk 2) fs
  lv : leaves 2 fs ≤ 12
  nms : ∀ d ∈ fs, nameD d ∈ N3
theorem schema_ok {m : List O} {ns : List Int} {first : Int} (h0 : 0 ≤ first) : ∃ fs m', o__law_schema [.scr ns, .int first] m = .ok (.tup fs) m' ∧ Fr m m' ∧ Schm fs := by
  obtain ⟨ds, p, m1, e1, f1, hp, hg, hd, hl⟩ := stream_ok (m := m) (ns := ns) h0 (show (0 : Int) < 4 by decide) (by decide)
  obtain ⟨fs, m2, pos', e2, g1, g2, g3, dr⟩ := fields_ok 2 6 (by decide) (by decide) m1 ds p 0 hg (by decide) hl hd
  have fr : Fr m m2 := fun i o e => g3 i o (by have := lt_of_get e; omega) (f1 i o e)
  have ec : (fLc [3] (.nm 3) (iAll (fVar 2)) tTrue (fCB o__law_leaf_count (aCons (fBin gIx (fVar 3) (fC (.int 2))) aNil))) [some (.scr ns), some (.int first), some (.tup fs), none] m2 = .ok (.lst (fs.map fun f => .int (lvK 2 (kindD f) : Nat))) m2 := by
    have hl : fs.length ≤ 16777215 := by have := dr.len; omega
    simp only [fLc, iAll, fVar, Rs.bind, List.getElem?_cons_zero, List.getElem?_cons_succ, if_pos hl, wipeL, List.set_cons_succ, List.set_cons_zero]
    rw [fields_sum (rec := o__law_leaf_count) (i := 3) (r := [some (.scr ns), some (.int first), some (.tup fs), none]) (m := m2) (count_ok 6 2 (by decide)) dr.ok (by simp)]
  have s1 : (sSet 2 (fCB o__law_fields (aCons (fCB o__law_stream (aCons (fVar 0) (aCons (fVar 1) (aCons (fC (.int 4)) aNil)))) (aCons (fC (.int 1)) (aCons (fC (.int 1)) aNil))))) [some (.scr ns), some (.int first), none, none] m = .ok (.nx [some (.scr ns), some (.int first), some (.tup fs), none]) m2 := by
    have e2' : o__law_fields [D.lst [D.lst ds, D.loc p], D.int 1, D.int 1] m1 = .ok (.tup fs) m2 := e2
    simp only [sSet, Rs.sq, Rs.bind, fCB, aCons, aNil, fVar, fC, List.getElem?_cons_zero, List.getElem?_cons_succ, e1, e2']
    rfl
  have tst : (tVal (fBin gGt (fCB bSum (aCons (fLc [3] (.nm 3) (iAll (fVar 2)) tTrue (fCB o__law_leaf_count (aCons (fBin gIx (fVar 3) (fC (.int 2))) aNil))) aNil)) (fC (.int 12)))) [some (.scr ns), some (.int first), some (.tup fs), none] m2 = .ok (decide (12 < leaves 2 fs)) m2 := by
    simp only [tVal, fBin, fCB, aCons, aNil, Rs.bind, ec, bSum, bOvI, derefL, intsD_map, sum_cast, fC, gGt, gI, if_true]
    show Rs.ok (decide ((12 : Int) < ((leaves 2 fs : Nat) : Int))) m2 = _
    rw [show decide ((12 : Int) < ((leaves 2 fs : Nat) : Int)) = decide (12 < leaves 2 fs) from decide_eq_decide.mpr (by omega)]
  obtain ⟨x, rest, rfl⟩ : ∃ x rest, fs = x :: rest := by
    cases fs with
    | nil => exact absurd rfl dr.ok.1
    | cons x r => exact ⟨x, r, rfl⟩
  by_cases h12 : 12 < leaves 2 (x :: rest)
  · refine ⟨[x], m2, ?_, fr, ⟨⟨by simp, by simp, fun d hd => dr.ok.2.2.1 d (by rcases List.mem_singleton.mp hd with rfl; exact List.mem_cons_self), by simp⟩, ?_, fun d hd => dr.nms d (by rcases List.mem_singleton.mp hd with rfl; exact List.mem_cons_self)⟩⟩
    · have s2 : b__law_schema [some (.scr ns), some (.int first), none, none] m = .ok (.rt (.tup [x])) m2 := by
        refine (seq_nx s1).trans ?_
        unfold sSeq
        rw [if_t (tst.trans (by rw [decide_eq_true h12]))]
        have ecut : cutD (x :: rest) none (some 1) = [x] := by simp [cutD, HT.sIx]
        simp [sRet, Rs.sq, Rs.bind, fSl, fVar, pNo, pSo, fC, gSl, ecut]
      show runF 4 b__law_schema [.scr ns, .int first] m = _
      unfold runF
      rw [show ([D.scr ns, .int first].map some ++ List.replicate (4 - [D.scr ns, .int first].length) none) = [some (.scr ns), some (.int first), none, none] from rfl, s2]
    · have := dr.lv x List.mem_cons_self
      simp [leaves]
      omega
  · refine ⟨x :: rest, m2, ?_, fr, ⟨dr.ok, by omega, dr.nms⟩⟩
    have s2 : b__law_schema [some (.scr ns), some (.int first), none, none] m = .ok (.rt (.tup (x :: rest))) m2 := by
      refine (seq_nx s1).trans ?_
      unfold sSeq
      rw [if_f (tst.trans (by rw [decide_eq_false h12]))]
      simp [sNx, sRet, Rs.sq, fVar]
    show runF 4 b__law_schema [.scr ns, .int first] m = _
    unfold runF
    rw [show ([D.scr ns, .int first].map some ++ List.replicate (4 - [D.scr ns, .int first].length) none) = [some (.scr ns), some (.int first), none, none] from rfl, s2]
end PU
set_option Elab.async false
set_option linter.all false
set_option maxRecDepth 100000
set_option maxHeartbeats 4000000
namespace FR
open PySem PySem.Spec L2
theorem ne_int {a b : Int} {m : List O} : gNe (.int a) (.int b) m = .ok (.bl (!decide (a = b))) m := by
  have e : (a == b) = decide (a = b) := by by_cases h : a = b <;> simp [h]
  have s1 : ∀ z : Int, SeqAt.shaped (.int z) = true := fun _ => rfl
  simp only [gNe, gEqW, toPy, s1, Bool.and_self, if_true, PyData.eqv, e]
theorem int_eq {a b : Int} {m : List O} : gEq (.int a) (.int b) m = .ok (.bl (decide (a = b))) m := by
  have e : (a == b) = decide (a = b) := by by_cases h : a = b <;> simp [h]
  have s1 : ∀ z : Int, SeqAt.shaped (.int z) = true := fun _ => rfl
  simp only [gEq, gEqW, toPy, s1, Bool.and_self, if_true, PyData.eqv, e]
  rfl
theorem setN_nodup : ∀ (xs seen : List Str), xs.Nodup → (∀ x ∈ xs, x ∉ seen) → setN xs seen = seen.length + xs.length
  | [], seen, _, _ => rfl
  | x :: xs, seen, h, h2 => by
    have hx := h2 x List.mem_cons_self
    simp only [setN, if_neg hx]
    rw [setN_nodup xs (x :: seen) (List.nodup_cons.mp h).2 fun y hy => ?_]
    · simp; omega
    · rw [List.mem_cons]
      rintro (rfl | q)
      · exact (List.nodup_cons.mp h).1 hy
      · exact h2 y (List.mem_cons_of_mem _ hy) q
theorem strsD_map : ∀ xs : List Str, strsD (xs.map D.str) = some xs
  | [] => rfl
  | x :: xs => by simp only [List.map_cons, strsD, strsD_map xs]; rfl
end FR
namespace PU
open PySem PySem.Spec L2 FR
theorem check_field_ok {n : Nat} {d : D} {m : List O} (h : FOk (KOk n) d) : o_check_field [d] m = .ok .non m := by
  obtain ⟨nm, rl, kd, rfl, hn, hr, hk⟩ := h
  have hnm := hn.2 m
  have s1 : (sIf (tOr_ (tVal (fBin gIsNot (fCB bType (aCons (fVar 0) aNil)) (fC (.ty "tuple")))) (tVal (fBin gNe (fCB bLen (aCons (fVar 0) aNil)) (fC (.int 3))))) (sRaise "BadSchema") sNx) [some (.tup [.str nm, .str rl, kd]), none, none, none] m = .ok (.nx [some (.tup [.str nm, .str rl, kd]), none, none, none]) m := by
    refine (if_f (m' := m) ?_).trans rfl
    simp only [tOr_, tVal, fBin, fCB, aCons, aNil, fVar, fC, Rs.bind, List.getElem?_cons_zero, bType, tyD, gIsNot, gIsW, bLen, derefS, ne_int, decide_true, Bool.not_true, List.length_cons, List.length_nil]
    rfl
  have s2 : (sAsg (.tp [1, 2, 3]) (fVar 0)) [some (.tup [.str nm, .str rl, kd]), none, none, none] m = .ok (.nx [some (.tup [.str nm, .str rl, kd]), some (.str nm), some (.str rl), some kd]) m := rfl
  have s3 : (sIf (tNot_ (tTru (fCB o_is_name (aCons (fVar 1) aNil)))) (sRaise "BadSchema") sNx) [some (.tup [.str nm, .str rl, kd]), some (.str nm), some (.str rl), some kd] m = .ok (.nx [some (.tup [.str nm, .str rl, kd]), some (.str nm), some (.str rl), some kd]) m := by
    refine (if_f (m' := m) ?_).trans rfl
    simp only [tNot_, tTru, fCB, aCons, aNil, fVar, Rs.bind, List.getElem?_cons_zero, List.getElem?_cons_succ, hnm, truD]
    rfl
  have s4 : (sIf (tOr_ (tVal (fBin gIsNot (fCB bType (aCons (fVar 2) aNil)) (fC (.ty "str")))) (tVal (fBin gNotIn (fVar 2) (fC c_RULES)))) (sRaise "BadSchema") sNx) [some (.tup [.str nm, .str rl, kd]), some (.str nm), some (.str rl), some kd] m = .ok (.nx [some (.tup [.str nm, .str rl, kd]), some (.str nm), some (.str rl), some kd]) m := by
    refine (if_f (m' := m) ?_).trans rfl
    have hr2 : rl = "required" ∨ rl = "optional" ∨ rl = "repeated" := by simpa [RULES3] using hr
    rcases hr2 with rfl | rfl | rfl <;> rfl
  have s5 : (sIf (tAnd_ (tVal (fBin gIsNot (fCB bType (aCons (fVar 3) aNil)) (fC (.ty "tuple")))) (tOr_ (tVal (fBin gIsNot (fCB bType (aCons (fVar 3) aNil)) (fC (.ty "str")))) (tVal (fBin gNotIn (fVar 3) (fC c_KINDS))))) (sRaise "BadSchema") sNx) [some (.tup [.str nm, .str rl, kd]), some (.str nm), some (.str rl), some kd] m = .ok (.nx [some (.tup [.str nm, .str rl, kd]), some (.str nm), some (.str rl), some kd]) m := by
    refine (if_f (m' := m) ?_).trans rfl
    cases kd with
    | str k =>
      have hk2 : k ∈ KINDS3 := by cases n <;> exact hk
      have hk3 : k = "int" ∨ k = "text" ∨ k = "flag" := by simpa [KINDS3] using hk2
      rcases hk3 with rfl | rfl | rfl <;> rfl
    | tup g => rfl
    | _ => first | exact hk.elim | (cases n <;> exact hk.elim)
  have s6 : b_check_field [some (.tup [.str nm, .str rl, kd]), none, none, none] m = .ok (.nx [some (.tup [.str nm, .str rl, kd]), some (.str nm), some (.str rl), some kd]) m :=
    (seq_nx s1).trans ((seq_nx s2).trans ((seq_nx s3).trans ((seq_nx s4).trans s5)))
  show runF 4 b_check_field [.tup [.str nm, .str rl, kd]] m = _
  unfold runF
  rw [show ([D.tup [.str nm, .str rl, kd]].map some ++ List.replicate (4 - [D.tup [.str nm, .str rl, kd]].length) none) = [some (.tup [.str nm, .str rl, kd]), none, none, none] from rfl, s6]
theorem check_fields_ok {n : Nat} {fs : List D} {m : List O} (h : FsOk (KOk n) fs) : o_check_fields [.tup fs] m = .ok .non m := by
  obtain ⟨h0, h1, h2, h3⟩ := h
  have hl : (fs.length : Int) ≠ 0 := by
    intro e
    exact h0 (List.length_eq_zero_iff.mp (by omega))
  have s1 : (sIf (tOr_ (tVal (fBin gIsNot (fCB bType (aCons (fVar 0) aNil)) (fC (.ty "tuple")))) (tVal (fBin gEq (fCB bLen (aCons (fVar 0) aNil)) (fC (.int 0))))) (sRaise "BadSchema") sNx) [some (.tup fs), none] m = .ok (.nx [some (.tup fs), none]) m := by
    refine (if_f (m' := m) ?_).trans rfl
    simp only [tOr_, tVal, fBin, fCB, aCons, aNil, fVar, fC, Rs.bind, List.getElem?_cons_zero, bType, tyD, gIsNot, gIsW, bLen, derefS, int_eq, decide_eq_false hl]
    rfl
  have s2 : ∃ x, (sFor (.nm 1) (iAll (fVar 0)) (sExp (fCB o_check_field (aCons (fVar 1) aNil)))) [some (.tup fs), none] m = .ok (.nx [some (.tup fs), x]) m := by
    obtain ⟨r', m', e, x, rfl, rfl⟩ := forL_inv (p := .nm 1) (body := (sExp (fCB o_check_field (aCons (fVar 1) aNil)))) (fun i r mm => ∃ x, r = [some (.tup fs), x] ∧ mm = m) fs 0 [some (.tup fs), none] m ⟨none, rfl, rfl⟩ fun i d r mm hd ⟨x, hr, hm⟩ => by
      subst hr hm
      refine ⟨[some (.tup fs), some d], [some (.tup fs), some d], mm, by simp [asg], ?_, _, rfl, rfl⟩
      have := check_field_ok (m := mm) (h2 d (List.mem_of_getElem? hd))
      simp only [sExp, Rs.sq, fCB, aCons, aNil, fVar, Rs.bind, List.getElem?_cons_zero, List.getElem?_cons_succ, this]
    exact ⟨x, by simp only [sFor, iAll, fVar, Rs.bind, Rs.sq, List.getElem?_cons_zero, e]⟩
  obtain ⟨x, s2⟩ := s2
  have s3 : (sIf (tVal (fBin gNe (fLenSet [1] (.nm 1) (iAll (fVar 0)) tTrue (fBin gIx (fVar 1) (fC (.int 0)))) (fCB bLen (aCons (fVar 0) aNil)))) (sRaise "BadSchema") sNx) [some (.tup fs), x] m = .ok (.nx [some (.tup fs), x]) m := by
    refine (if_f (m' := m) ?_).trans rfl
    have e1 : compL (.nm 1) tTrue (fBin gIx (fVar 1) (fC (.int 0))) [some (.tup fs), none] fs m = .ok (fs.map fun d => D.str (nameD d)) m := by
      refine compL_map (fun d => .str (nameD d)) fs fun d hd => ⟨[some (.tup fs), some d], rfl, rfl, ?_⟩
      obtain ⟨nm, rl, kd, rfl, _, en, _, _, _⟩ := fok_parts (h2 d hd)
      rw [en]
      simp only [fBin, fVar, fC, Rs.bind, List.getElem?_cons_zero, List.getElem?_cons_succ, gIx, derefS, at0]
    have e2 : strsD (fs.map fun d => D.str (nameD d)) = some (fs.map nameD) := by
      have := strsD_map (fs.map nameD)
      rw [List.map_map] at this
      exact this
    have e3 : setN (fs.map nameD) [] = fs.length := by
      rw [setN_nodup _ _ h3 (by simp)]
      simp
    simp only [tVal, fBin, fLenSet, iAll, fVar, Rs.bind, List.getElem?_cons_zero, if_pos h1, wipeL, List.set_cons_succ, List.set_cons_zero, e1, e2, e3, fCB, aCons, aNil, bLen, derefS, ne_int, decide_true, Bool.not_true]
  have s4 : b_check_fields [some (.tup fs), none] m = .ok (.nx [some (.tup fs), x]) m := (seq_nx s1).trans ((seq_nx s2).trans s3)
  show runF 2 b_check_fields [.tup fs] m = _
  unfold runF
  rw [show ([D.tup fs].map some ++ List.replicate (2 - [D.tup fs].length) none) = [some (.tup fs), none] from rfl, s4]
end PU
set_option Elab.async false
set_option linter.all false
set_option maxRecDepth 100000
set_option maxHeartbeats 4000000
namespace FR
open PySem PySem.Spec L2
def ruleD : D → Str
  | .tup [_, .str r, _] => r
  | _ => Str.empty
/-- a step of a way -/
def Step (b : Nat) (d : D) : Prop := ∃ p r z, d = .tup [.str p, .int r, .int z] ∧ p.length ≤ b
def stepB : D → Str → Str → D
  | .tup [.str p, .int r, .int z], nm, rl => .tup [.str (if p.length = 0 then nm else Str.empty ++ p ++ "." ++ nm), .int (if rl = "repeated" then r + 1 else r), .int (if rl = "required" then z else z + 1)]
  | d, _, _ => d
def waysF : Nat → List D → List D → D → List D
  | 0, fs, ar, st => fs.flatMap fun f => [.tup [.tup (ar ++ [stepB st (nameD f) (ruleD f)]), kindD f]]
  | n + 1, fs, ar, st => fs.flatMap fun f => match kindD f with
    | .tup g => waysF n g (ar ++ [stepB st (nameD f) (ruleD f)]) (stepB st (nameD f) (ruleD f))
    | kd => [.tup [.tup (ar ++ [stepB st (nameD f) (ruleD f)]), kd]]
theorem str_app_len (a b : Str) : (a ++ b).length = a.length + b.length := by
  show (a.cps ++ b.cps).size = _
  rw [Array.size_append]; rfl
theorem str_eq {a b : Str} {m : List O} (s1 : SeqAt.shaped (.str a) = true) (s2 : SeqAt.shaped (.str b) = true) : gEq (.str a) (.str b) m = .ok (.bl (decide (a = b))) m := by
  have e : (a == b) = decide (a = b) := by by_cases h : a = b <;> simp [h]
  simp only [gEq, gEqW, toPy, s1, s2, Bool.and_self, if_true, PyData.eqv, e]
  rfl
theorem Step.mono {a b : Nat} {d : D} (h : Step a d) (l : a ≤ b) : Step b d := by
  obtain ⟨p, r, z, e, q⟩ := h
  exact ⟨p, r, z, e, Nat.le_trans q l⟩
end FR
namespace PU
open PySem PySem.Spec L2 FR
theorem stepB_step {b : Nat} {st : D} {nm rl : Str} (h : Step b st) (hn : nm.length ≤ 10) : Step (b + 11) (stepB st nm rl) := by
  obtain ⟨p, r, z, rfl, hp⟩ := h
  refine ⟨_, _, _, rfl, ?_⟩
  split
  · omega
  · rw [str_app_len, str_app_len, str_app_len, show (Str.empty).length = 0 from rfl, show ((".") : Str).length = 1 from by decide]
    omega
theorem levels_ok {r z : Int} {rl : Str} {m : List O} (hr : rl ∈ RULES3) : o_levels_below [.int r, .int z, .str rl] m = .ok (.tup [.int (if rl = "repeated" then r + 1 else r), .int (if rl = "required" then z else z + 1)]) m := by
  have hr2 : rl = "required" ∨ rl = "optional" ∨ rl = "repeated" := by simpa [RULES3] using hr
  have hs1 : SeqAt.shaped (.str rl) = true := by rcases hr2 with rfl | rfl | rfl <;> decide +kernel
  have hs2 : SeqAt.shaped (.str "repeated") = true := by decide +kernel
  have hs3 : SeqAt.shaped (.str "required") = true := by decide +kernel
  have e2 : (fIf (tVal (fBin gEq (fVar 2) (fC (.str "repeated")))) (fBin gAdd (fVar 0) (fC (.int 1))) (fVar 0)) [some (.int r), some (.int z), some (.str rl)] m = .ok (.int (if rl = "repeated" then r + 1 else r)) m := by
    by_cases h0 : rl = "repeated"
    · simp only [fIf, tVal, fBin, fVar, fC, Rs.bind, List.getElem?_cons_zero, List.getElem?_cons_succ, str_eq hs1 hs2, decide_eq_true h0, if_pos h0, if_true, gAdd]
    · simp only [fIf, tVal, fBin, fVar, fC, Rs.bind, List.getElem?_cons_zero, List.getElem?_cons_succ, str_eq hs1 hs2, decide_eq_false h0, if_neg h0, gAdd]
      rfl
  have e3 : (fIf (tVal (fBin gEq (fVar 2) (fC (.str "required")))) (fVar 1) (fBin gAdd (fVar 1) (fC (.int 1)))) [some (.int r), some (.int z), some (.str rl)] m = .ok (.int (if rl = "required" then z else z + 1)) m := by
    by_cases h0 : rl = "required"
    · simp only [fIf, tVal, fBin, fVar, fC, Rs.bind, List.getElem?_cons_zero, List.getElem?_cons_succ, str_eq hs1 hs3, decide_eq_true h0, if_pos h0, if_true, gAdd]
    · simp only [fIf, tVal, fBin, fVar, fC, Rs.bind, List.getElem?_cons_zero, List.getElem?_cons_succ, str_eq hs1 hs3, decide_eq_false h0, if_neg h0, gAdd]
      rfl
  have s2 : b_levels_below [some (.int r), some (.int z), some (.str rl)] m = .ok (.rt (.tup [.int (if rl = "repeated" then r + 1 else r), .int (if rl = "required" then z else z + 1)])) m := by
    unfold b_levels_below
    simp only [sRet, Rs.sq, fTup, aCons, aNil, Rs.bind, e2, e3]
    rfl
  show runF 3 b_levels_below [.int r, .int z, .str rl] m = _
  unfold runF
  rw [show ([D.int r, .int z, .str rl].map some ++ List.replicate (3 - [D.int r, .int z, .str rl].length) none) = [some (.int r), some (.int z), some (.str rl)] from rfl, s2]
theorem step_ok {b : Nat} {st : D} {nm rl : Str} {m : List O} (h : Step b st) (hb : b ≤ 1000) (hn : nm.length ≤ 10) (hr : rl ∈ RULES3) : o_step_below [st, .str nm, .str rl] m = .ok (stepB st nm rl) m := by
  obtain ⟨p, r, z, rfl, hp⟩ := h
  have s1 : (sAsg (.tp [3, 4, 5]) (fVar 0)) [some (.tup [.str p, .int r, .int z]), some (.str nm), some (.str rl), none, none, none, none, none] m = .ok (.nx [some (.tup [.str p, .int r, .int z]), some (.str nm), some (.str rl), some (.str p), some (.int r), some (.int z), none, none]) m := rfl
  have s1b : (sAsg (.tp [6, 7]) (fCB o_levels_below (aCons (fVar 4) (aCons (fVar 5) (aCons (fVar 2) aNil))))) [some (.tup [.str p, .int r, .int z]), some (.str nm), some (.str rl), some (.str p), some (.int r), some (.int z), none, none] m = .ok (.nx [some (.tup [.str p, .int r, .int z]), some (.str nm), some (.str rl), some (.str p), some (.int r), some (.int z), some (.int (if rl = "repeated" then r + 1 else r)), some (.int (if rl = "required" then z else z + 1))]) m := by
    show (Rs.sq (o_levels_below [.int r, .int z, .str rl] m) _ _) = _
    rw [levels_ok hr]
    rfl
  have l1 : p.length ≤ 16777216 := by omega
  have l2 : nm.length ≤ 16777216 := by omega
  have d1 : ((".") : Str).length = 1 := by decide
  have l3 : (Str.empty ++ p).length ≤ 16777216 := by rw [str_app_len, show (Str.empty).length = 0 from rfl]; omega
  have l4 : (Str.empty ++ p ++ ".").length ≤ 16777216 := by rw [str_app_len, str_app_len, show (Str.empty).length = 0 from rfl, d1]; omega
  have l5 : (Str.empty ++ p ++ "." ++ nm).length ≤ 16777216 := by rw [str_app_len, str_app_len, str_app_len, show (Str.empty).length = 0 from rfl, d1]; omega
  have e1 : ∀ x y, (fIf (tTru (fVar 3)) (fJs ((fUn gFmt (fVar 3)) :: ((fC (.str ".")) :: ((fUn gFmt (fVar 1)) :: [])))) (fVar 1)) [some (.tup [.str p, .int r, .int z]), some (.str nm), some (.str rl), some (.str p), some (.int r), some (.int z), some x, some y] m = .ok (.str (if p.length = 0 then nm else Str.empty ++ p ++ "." ++ nm)) m := by
    intro x y
    by_cases h0 : p.length = 0
    · rw [if_pos h0]
      have hz : ((p.length : Int) != 0) = false := by rw [h0]; rfl
      simp only [fIf, tTru, fVar, Rs.bind, List.getElem?_cons_zero, List.getElem?_cons_succ, truD, if_pos l1, hz]
      rfl
    · rw [if_neg h0]
      have hz : ((p.length : Int) != 0) = true := by simp; omega
      simp only [fIf, tTru, fVar, fC, fUn, gFmt, Rs.bind, List.getElem?_cons_zero, List.getElem?_cons_succ, truD, if_pos l1, hz, if_true, fJs, jsL, if_pos l3, if_pos l4, if_pos l2, if_pos l5]
  have s2 : b_step_below [some (.tup [.str p, .int r, .int z]), some (.str nm), some (.str rl), none, none, none, none, none] m = .ok (.rt (stepB (.tup [.str p, .int r, .int z]) nm rl)) m := by
    refine (seq_nx s1).trans ((seq_nx s1b).trans ?_)
    simp only [sRet, Rs.sq, fTup, aCons, aNil, Rs.bind, e1]
    rfl
  show runF 8 b_step_below [.tup [.str p, .int r, .int z], .str nm, .str rl] m = _
  unfold runF
  rw [show ([D.tup [.str p, .int r, .int z], .str nm, .str rl].map some ++ List.replicate (8 - [D.tup [.str p, .int r, .int z], .str nm, .str rl].length) none) = [some (.tup [.str p, .int r, .int z]), some (.str nm), some (.str rl), none, none, none, none, none] from rfl, s2]
theorem ways_len : ∀ (n : Nat) (fs ar : List D) (st : D), FsOk (KOk n) fs → (waysF n fs ar st).length = leaves n fs := by
  intro n
  induction n with
  | zero =>
    intro fs ar st h
    unfold waysF leaves
    rw [List.length_flatMap]
    congr 1
    refine List.map_congr_left fun f hf => ?_
    obtain ⟨nm, rl, kd, rfl, ek, _, _, _, hk⟩ := fok_parts (h.2.2.1 f hf)
    rw [ek]
    cases kd with
    | str k => rfl
    | _ => first | exact hk.elim
  | succ n ih =>
    intro fs ar st h
    unfold waysF leaves
    rw [List.length_flatMap]
    congr 1
    refine List.map_congr_left fun f hf => ?_
    obtain ⟨nm, rl, kd, rfl, ek, _, _, _, hk⟩ := fok_parts (h.2.2.1 f hf)
    rw [ek]
    cases kd with
    | str k => rfl
    | tup g => exact ih g _ _ hk
    | _ => exact hk.elim
/-- what ways_within gives is a list of (way, kind), the way's last a step -/
def WayOk (w : D) : Prop := ∃ way st kd, w = .tup [.tup (way ++ [st]), kd] ∧ Step 100 st
theorem ways_shape : ∀ (n b : Nat) (fs ar : List D) (st : D), FsOk (KOk n) fs → Step b st → b + 11 * (n + 1) ≤ 100 → ∀ w ∈ waysF n fs ar st, WayOk w := by
  intro n
  induction n with
  | zero =>
    intro b fs ar st h hs hb w hw
    unfold waysF at hw
    obtain ⟨f, hf, hw⟩ := List.mem_flatMap.mp hw
    rcases List.mem_singleton.mp hw with rfl
    obtain ⟨nm, rl, kd, rfl, ek, en, hn, _, hk⟩ := fok_parts (h.2.2.1 f hf)
    have h1 : Step (b + 11) (stepB st (nameD (.tup [.str nm, .str rl, kd])) (ruleD (.tup [.str nm, .str rl, kd]))) := stepB_step hs (by rw [en]; exact hn.1.1)
    exact ⟨_, _, _, rfl, h1.mono (by omega)⟩
  | succ n ih =>
    intro b fs ar st h hs hb w hw
    unfold waysF at hw
    obtain ⟨f, hf, hw⟩ := List.mem_flatMap.mp hw
    obtain ⟨nm, rl, kd, rfl, ek, en, hn, _, hk⟩ := fok_parts (h.2.2.1 f hf)
    have h1 : Step (b + 11) (stepB st (nameD (.tup [.str nm, .str rl, kd])) (ruleD (.tup [.str nm, .str rl, kd]))) := stepB_step hs (by rw [en]; exact hn.1.1)
    rw [ek] at hw
    cases kd with
    | str k =>
      rcases List.mem_singleton.mp hw with rfl
      exact ⟨_, _, _, rfl, h1.mono (by omega)⟩
    | tup g => exact ih (b + 11) g _ _ hk h1 (by omega) w hw
    | _ => exact hk.elim
end PU
set_option Elab.async false
set_option linter.all false
set_option maxRecDepth 100000
set_option maxHeartbeats 4000000
namespace FR
open PySem PySem.Spec L2
def oneF : Nat → List D → D → D → List D
  | 0, ar, st, f => [.tup [.tup (ar ++ [stepB st (nameD f) (ruleD f)]), kindD f]]
  | n + 1, ar, st, f => match kindD f with
    | .tup g => waysF n g (ar ++ [stepB st (nameD f) (ruleD f)]) (stepB st (nameD f) (ruleD f))
    | kd => [.tup [.tup (ar ++ [stepB st (nameD f) (ruleD f)]), kd]]
theorem ways_one {n : Nat} {fs ar : List D} {st : D} : waysF n fs ar st = fs.flatMap (oneF n ar st) := by
  cases n <;> rfl
theorem flat_take {n : Nat} {fs ar : List D} {st f : D} {i : Nat} (h : fs[i]? = some f) : (fs.take (i + 1)).flatMap (oneF n ar st) = (fs.take i).flatMap (oneF n ar st) ++ oneF n ar st f := by
  rw [List.take_add_one, h, List.flatMap_append]
  simp
theorem flat_le {n : Nat} {fs ar : List D} {st : D} {i : Nat} : ((fs.take i).flatMap (oneF n ar st)).length ≤ (waysF n fs ar st).length := by
  rw [ways_one]
  conv => rhs; rw [← List.take_append_drop i fs, List.flatMap_append, List.length_append]
  omega
end FR
namespace PU
open PySem PySem.Spec L2 FR
def RecW (rec : List D → List O → Rs D) (n : Nat) : Prop := ∀ (fs ar0 : List D) (st : D) (m : List O), FsOk (KOk n) fs → Step (11 * (ar0.length + 1)) st → ar0.length + 1 + n ≤ 3 → leaves n fs ≤ 12 →
  ∃ m', rec [.tup fs, .tup (ar0 ++ [st])] m = .ok (.lst (waysF n fs (ar0 ++ [st]) st)) m' ∧ Fr m m'
def LoopW (rec : List D → List O → Rs D) : FS := (sSeq (sSet 6 (fTup (aStar (fVar 1) (aCons (fCB o_step_below (aCons (fBin gIx (fVar 1) (fUn gNeg (fC (.int 1)))) (aCons (fVar 3) (aCons (fVar 4) aNil)))) aNil))))
    (sIf (tVal (fBin gIs (fCB bType (aCons (fVar 5) aNil)) (fC (.ty "tuple")))) (sExp (fExt (fVar 2) (aCons (fCB rec (aCons (fVar 5) (aCons (fVar 6) aNil))) aNil))) (sExp (fApp (fVar 2) (aCons (fTup (aCons (fVar 6) (aCons (fVar 5) aNil))) aNil)))))
theorem ways_body (rec : List D → List O → Rs D) : b_ways_within rec = (sSeq (sIf (tVal (fBin gGt (fCB bLen (aCons (fVar 1) aNil)) (fC c_MOST_DEEP))) (sRaise "BadSchema") sNx)
    (sSeq (sExp (fCB o_check_fields (aCons (fVar 0) aNil)))
    (sSeq (sSet 2 (fNew aNil))
    (sSeq (sFor (.tp [3, 4, 5]) (iAll (fVar 0)) (LoopW rec))
    (sSeq (sIf (tVal (fBin gGt (fCB bLen (aCons (fVar 2) aNil)) (fC c_MOST_LEAVES))) (sRaise "BadSchema") sNx)
    (sRet (fFrz (fVar 2)))))))) := rfl
theorem ways_turn {rec : List D → List O → Rs D} {n : Nat} (hr : ∀ n', n = n' + 1 → RecW rec n') {fs ar0 ws : List D} {st f : D} {mm : List O} {q : Nat} {x6 : Option D} (hs : Step (11 * (ar0.length + 1)) st) (ha : ar0.length + 1 + n ≤ 3) (hf : FOk (KOk n) f)
    (hq : mm[q]? = some (.lst ws)) (hw : ws.length + (oneF n (ar0 ++ [st]) st f).length ≤ 1000) (hw2 : (oneF n (ar0 ++ [st]) st f).length ≤ 12) :
    ∃ nm rl x6' mm', f = .tup [.str nm, .str rl, kindD f] ∧ LoopW rec [some (.tup fs), some (.tup (ar0 ++ [st])), some (.loc q), some (.str nm), some (.str rl), some (kindD f), x6] mm =
      .ok (.nx [some (.tup fs), some (.tup (ar0 ++ [st])), some (.loc q), some (.str nm), some (.str rl), some (kindD f), x6']) (mm'.set q (.lst (ws ++ oneF n (ar0 ++ [st]) st f))) ∧ Fr mm mm' := by
  obtain ⟨nm, rl, kd, rfl, ek, en, hn, hrl, hk⟩ := fok_parts hf
  have er : ruleD (.tup [.str nm, .str rl, kd]) = rl := rfl
  have hstep := step_ok (m := mm) (rl := rl) hs (by omega) hn.1.1 hrl
  have hst := stepB_step (rl := rl) hs hn.1.1
  have hl : (ar0 ++ [st] ++ [stepB st nm rl]).length ≤ 16777216 := by simp; omega
  have s1 : (sSet 6 (fTup (aStar (fVar 1) (aCons (fCB o_step_below (aCons (fBin gIx (fVar 1) (fUn gNeg (fC (.int 1)))) (aCons (fVar 3) (aCons (fVar 4) aNil)))) aNil)))) [some (.tup fs), some (.tup (ar0 ++ [st])), some (.loc q), some (.str nm), some (.str rl), some kd, x6] mm =
      .ok (.nx [some (.tup fs), some (.tup (ar0 ++ [st])), some (.loc q), some (.str nm), some (.str rl), some kd, some (.tup (ar0 ++ [st] ++ [stepB st nm rl]))]) mm := by
    simp only [sSet, Rs.sq, Rs.bind, fTup, aStar, aCons, aNil, fCB, fBin, fUn, fC, fVar, gNeg, List.getElem?_cons_zero, List.getElem?_cons_succ, derefS, gIx, atLast, hstep, if_pos hl]
    rfl
  rw [ek]
  refine ⟨nm, rl, some (.tup (ar0 ++ [st] ++ [stepB st nm rl])), ?_⟩
  cases kd with
  | str k =>
    have e1 : oneF n (ar0 ++ [st]) st (.tup [.str nm, .str rl, .str k]) = [.tup [.tup (ar0 ++ [st] ++ [stepB st nm rl]), .str k]] := by cases n <;> rfl
    refine ⟨mm, rfl, ?_, Fr.rfl'⟩
    rw [e1]
    refine (seq_nx s1).trans ((if_f (m' := mm) ?_).trans ?_)
    · simp only [tVal, fBin, fCB, aCons, aNil, fVar, fC, Rs.bind, List.getElem?_cons_zero, List.getElem?_cons_succ, bType, tyD, gIs, gIsW]
      rfl
    · have hlt : ws.length < 16777216 := by omega
      have hl2 : ∀ a b : D, [a, b].length ≤ 16777216 := fun a b => by simp
      simp only [sExp, fApp, Rs.sq, Rs.bind, fVar, fTup, aCons, aNil, List.getElem?_cons_zero, List.getElem?_cons_succ, derefL, hq, if_pos hlt, if_pos (hl2 _ _)]
  | tup g =>
    cases n with
    | zero => exact hk.elim
    | succ n =>
      have e1 : oneF (n + 1) (ar0 ++ [st]) st (.tup [.str nm, .str rl, .tup g]) = waysF n g (ar0 ++ [st] ++ [stepB st nm rl]) (stepB st nm rl) := rfl
      rw [e1] at hw hw2 ⊢
      have hk : FsOk (KOk n) g := hk
      obtain ⟨m', er, fr⟩ := hr n rfl g (ar0 ++ [st]) (stepB st nm rl) mm hk (by rw [List.length_append, List.length_singleton]; exact hst.mono (by omega)) (by rw [List.length_append, List.length_singleton]; omega) (by rw [← ways_len n g (ar0 ++ [st] ++ [stepB st nm rl]) (stepB st nm rl) hk]; omega)
      refine ⟨m', rfl, ?_, fr⟩
      refine (seq_nx s1).trans ((if_t (m' := mm) ?_).trans ?_)
      · simp only [tVal, fBin, fCB, aCons, aNil, fVar, fC, Rs.bind, List.getElem?_cons_zero, List.getElem?_cons_succ, bType, tyD, gIs, gIsW]
        rfl
      · have hlt : ws.length + (waysF n g (ar0 ++ [st] ++ [stepB st nm rl]) (stepB st nm rl)).length ≤ 16777216 := by omega
        have hq' := fr _ _ hq
        simp only [sExp, fExt, Rs.sq, Rs.bind, fVar, fCB, aCons, aNil, List.getElem?_cons_zero, List.getElem?_cons_succ, derefL, hq, er, hq', if_pos hlt]
  | _ => first | exact hk.elim | (cases n <;> exact hk.elim)
theorem ways_step {rec : List D → List O → Rs D} {n : Nat} (hr : ∀ n', n = n' + 1 → RecW rec n') : RecW (runF 7 (b_ways_within rec)) n := by
  intro fs ar0 st m h hs ha hlv
  obtain ⟨q, hq⟩ : ∃ q, m.length = q := ⟨_, rfl⟩
  have hwl := ways_len n fs (ar0 ++ [st]) st h
  have key := forL_inv (p := .tp [3, 4, 5]) (body := LoopW rec)
    (fun i r mm => ∃ x3 x4 x5 x6 : Option D, r = [some (.tup fs), some (.tup (ar0 ++ [st])), some (.loc q), x3, x4, x5, x6] ∧ mm[q]? = some (.lst ((fs.take i).flatMap (oneF n (ar0 ++ [st]) st))) ∧ Fr m mm)
    fs 0 [some (.tup fs), some (.tup (ar0 ++ [st])), some (.loc q), none, none, none, none] (m ++ [.lst []]) ⟨none, none, none, none, rfl, by rw [← hq]; exact getL, Fr.app⟩ ?_
  · obtain ⟨r', m', e, x3, x4, x5, x6, rfl, g1, g2⟩ := key
    rw [Nat.zero_add, List.take_length, ← ways_one] at g1
    refine ⟨m'.set q .dead, ?_, g2.set (by omega)⟩
    have s1 : (sIf (tVal (fBin gGt (fCB bLen (aCons (fVar 1) aNil)) (fC c_MOST_DEEP))) (sRaise "BadSchema") sNx) [some (.tup fs), some (.tup (ar0 ++ [st])), none, none, none, none, none] m = .ok (.nx [some (.tup fs), some (.tup (ar0 ++ [st])), none, none, none, none, none]) m := by
      refine (if_f (m' := m) ?_).trans rfl
      have hd : decide ((3 : Int) < ((ar0 ++ [st]).length : Int)) = false := decide_eq_false (by simp; omega)
      simp only [tVal, fBin, fCB, aCons, aNil, fVar, fC, Rs.bind, List.getElem?_cons_zero, List.getElem?_cons_succ, bLen, derefS, c_MOST_DEEP, gGt, gI, if_true, hd]
    have s2 : (sExp (fCB o_check_fields (aCons (fVar 0) aNil))) [some (.tup fs), some (.tup (ar0 ++ [st])), none, none, none, none, none] m = .ok (.nx [some (.tup fs), some (.tup (ar0 ++ [st])), none, none, none, none, none]) m := by
      simp only [sExp, Rs.sq, fCB, aCons, aNil, fVar, Rs.bind, List.getElem?_cons_zero, check_fields_ok h]
    have s3 : (sSet 2 (fNew aNil)) [some (.tup fs), some (.tup (ar0 ++ [st])), none, none, none, none, none] m = .ok (.nx [some (.tup fs), some (.tup (ar0 ++ [st])), some (.loc q), none, none, none, none]) (m ++ [.lst []]) := by
      rw [← hq]; simp [sSet, fNew, aNil, Rs.sq, Rs.bind]
    have s4 : (sFor (.tp [3, 4, 5]) (iAll (fVar 0)) (LoopW rec)) [some (.tup fs), some (.tup (ar0 ++ [st])), some (.loc q), none, none, none, none] (m ++ [.lst []]) = .ok (.nx [some (.tup fs), some (.tup (ar0 ++ [st])), some (.loc q), x3, x4, x5, x6]) m' := by
      simp only [sFor, iAll, fVar, Rs.bind, Rs.sq, List.getElem?_cons_zero, e]
    have s5 : (sIf (tVal (fBin gGt (fCB bLen (aCons (fVar 2) aNil)) (fC c_MOST_LEAVES))) (sRaise "BadSchema") sNx) [some (.tup fs), some (.tup (ar0 ++ [st])), some (.loc q), x3, x4, x5, x6] m' = .ok (.nx [some (.tup fs), some (.tup (ar0 ++ [st])), some (.loc q), x3, x4, x5, x6]) m' := by
      refine (if_f (m' := m') ?_).trans rfl
      have hd : decide ((12 : Int) < ((waysF n fs (ar0 ++ [st]) st).length : Int)) = false := decide_eq_false (by omega)
      simp only [tVal, fBin, fCB, aCons, aNil, fVar, fC, Rs.bind, List.getElem?_cons_zero, List.getElem?_cons_succ, bLen, derefS, g1, c_MOST_LEAVES, gGt, gI, if_true, hd]
    have s6 : b_ways_within rec [some (.tup fs), some (.tup (ar0 ++ [st])), none, none, none, none, none] m = .ok (.rt (.lst (waysF n fs (ar0 ++ [st]) st))) (m'.set q .dead) := by
      rw [ways_body]
      refine (seq_nx s1).trans ((seq_nx s2).trans ((seq_nx s3).trans ((seq_nx s4).trans ((seq_nx s5).trans ?_))))
      simp only [sRet, Rs.sq, fFrz, fUn, fVar, Rs.bind, List.getElem?_cons_zero, List.getElem?_cons_succ, gFrz, g1]
    show runF 7 (b_ways_within rec) [.tup fs, .tup (ar0 ++ [st])] m = _
    unfold runF
    rw [show ([D.tup fs, .tup (ar0 ++ [st])].map some ++ List.replicate (7 - [D.tup fs, .tup (ar0 ++ [st])].length) none) = [some (.tup fs), some (.tup (ar0 ++ [st])), none, none, none, none, none] from rfl, s6]
  · rintro i d r mm hd ⟨x3, x4, x5, x6, rfl, g1, g2⟩
    rw [Nat.zero_add] at g1
    have hft := flat_take (n := n) (ar := ar0 ++ [st]) (st := st) hd
    have hle := flat_le (n := n) (fs := fs) (ar := ar0 ++ [st]) (st := st) (i := i + 1)
    rw [hft, List.length_append, hwl] at hle
    obtain ⟨nm, rl, x6', mm', ed, et, fr⟩ := ways_turn (fs := fs) (x6 := x6) hr hs ha (h.2.2.1 d (List.mem_of_getElem? hd)) g1 (by omega) (by omega)
    refine ⟨[some (.tup fs), some (.tup (ar0 ++ [st])), some (.loc q), some (.str nm), some (.str rl), some (kindD d), x6], _, _, ?_, et, _, _, _, _, rfl, ?_, (g2.trans fr).set (by omega)⟩
    · rw [ed]
      simp [asg, setAll, kindD]
    · rw [Nat.zero_add, hft]
      exact get_set (fr _ _ g1)
theorem ways_ok : ∀ (n f : Nat), n < f → RecW (r_ways_within f) n
  | n, 0, h => absurd h (by omega)
  | 0, f + 1, h => ways_step fun n' q => by omega
  | n + 1, f + 1, h => ways_step fun n' q => by
    have : n' = n := by omega
    subst this
    exact ways_ok n' f (by omega)
end PU
set_option Elab.async false
set_option linter.all false
set_option maxRecDepth 100000
set_option maxHeartbeats 4000000
namespace FR
open PySem PySem.Spec L2
def leafOf : D → D → D
  | .tup [a, b, c], kd => .tup [a, kd, b, c]
  | d, _ => d
def wayD : D → D
  | .tup [way, _] => way
  | d => d
def leafD : D → D
  | .tup [.tup way, kd] => leafOf (way.getLastD .non) kd
  | d => d
theorem FrB.fr {q : Nat} {m m' : List O} (h : FrB q m m') {k : Nat} (hk : k ≤ q) {m0 : List O} (hf : Fr m0 m) (hl : m0.length = k) : Fr m0 m' := fun i o e => h i o (by have := lt_of_get e; omega) (hf i o e)
end FR
namespace PU
open PySem PySem.Spec L2 FR
theorem leaf_of_ok {b : Nat} {st kd : D} {m : List O} (h : Step b st) : o_leaf_of [st, kd] m = .ok (leafOf st kd) m := by
  obtain ⟨p, r, z, rfl, _⟩ := h
  have h4 : [D.str p, kd, .int r, .int z].length ≤ 16777216 := by simp
  have e : b_leaf_of [some (.tup [.str p, .int r, .int z]), some kd, none, none, none] m = .ok (.rt (.tup [.str p, kd, .int r, .int z])) m := by
    refine (seq_nx (r' := [some (.tup [.str p, .int r, .int z]), some kd, some (.str p), some (.int r), some (.int z)]) (m' := m) rfl).trans ?_
    simp only [sRet, Rs.sq, fTup, aCons, aNil, fVar, Rs.bind, List.getElem?_cons_zero, List.getElem?_cons_succ, if_pos h4]
  show runF 5 b_leaf_of [.tup [.str p, .int r, .int z], kd] m = _
  unfold runF
  rw [show ([D.tup [.str p, .int r, .int z], kd].map some ++ List.replicate (5 - [D.tup [.str p, .int r, .int z], kd].length) none) = [some (.tup [.str p, .int r, .int z]), some kd, none, none, none] from rfl, e]
  rfl
theorem whole_step : Step (11 * (([] : List D).length + 1)) c_WHOLE_RECORD := ⟨"", 0, 0, rfl, by decide⟩
def waysS (n : Nat) (fs : List D) : List D := waysF n fs [c_WHOLE_RECORD] c_WHOLE_RECORD
theorem init_ok {n : Nat} {fs : List D} {m : List O} {q : Nat} (hn : n ≤ 2) (h : FsOk (KOk n) fs) (hl : leaves n fs ≤ 12) (hq : m[q]? = some (.ins "Schema" [] [])) :
    ∃ m', o_Schema [.loc q, .tup fs] m = .ok .non m' ∧ m'[q]? = some (.ins "Schema" ["fields", "ways", "leaves"] [.tup fs, .tup ((waysS n fs).map wayD), .tup ((waysS n fs).map leafD)]) ∧ FrB q m m' := by
  obtain ⟨m1, e1, f1⟩ := ways_ok n 6 (by omega) fs [] c_WHOLE_RECORD m h whole_step (by simp; omega) hl
  have wl : (waysS n fs).length ≤ 16777215 := by
    have := ways_len n fs [c_WHOLE_RECORD] c_WHOLE_RECORD h
    unfold waysS; omega
  have wok := ways_shape n 11 fs [c_WHOLE_RECORD] c_WHOLE_RECORD h whole_step (by omega)
  have q1 := f1 _ _ hq
  have s1 : (sSet 2 (fCB o_ways_within (aCons (fVar 1) (aCons (fTup (aCons (fC c_WHOLE_RECORD) aNil)) aNil)))) [some (.loc q), some (.tup fs), none, none, none] m = .ok (.nx [some (.loc q), some (.tup fs), some (.lst (waysS n fs)), none, none]) m1 := by
    have h1 : [c_WHOLE_RECORD].length ≤ 16777216 := by simp
    have e1' : o_ways_within [.tup fs, .tup [c_WHOLE_RECORD]] m = .ok (.lst (waysS n fs)) m1 := e1
    simp only [sSet, Rs.sq, fCB, aCons, aNil, fTup, fVar, fC, Rs.bind, List.getElem?_cons_zero, List.getElem?_cons_succ, if_pos h1, e1']
    rfl
  let r3 : Lc := [some (.loc q), some (.tup fs), some (.lst (waysS n fs)), none, none]
  have s2 : (sFldS "Schema" "fields" (fVar 0) (fVar 1)) r3 m1 = .ok (.nx r3) (m1.set q (.ins "Schema" ["fields"] [.tup fs])) := by
    simp only [sFldS, r3, Rs.sq, fVar, List.getElem?_cons_zero, List.getElem?_cons_succ, gPutF, q1]
    rfl
  have q2 := get_set (u := .ins "Schema" ["fields"] [.tup fs]) q1
  generalize hm2 : m1.set q (.ins "Schema" ["fields"] [.tup fs]) = m2 at s2 q2
  have f2 : FrB q m m2 := hm2 ▸ f1.b.trans FrB.put
  have c1 : compL (.tp [3, 4]) tTrue (fVar 3) r3 (waysS n fs) m2 = .ok ((waysS n fs).map wayD) m2 := by
    refine compL_map wayD _ fun w hw => ?_
    obtain ⟨way, st, kd, rfl, _⟩ := wok w hw
    exact ⟨[some (.loc q), some (.tup fs), some (.lst (waysS n fs)), some (.tup (way ++ [st])), some kd], rfl, rfl, rfl⟩
  have s3 : (sFldS "Schema" "ways" (fVar 0) (fCB bTuple (aCons (fLc [3, 4] (.tp [3, 4]) (iAll (fVar 2)) tTrue (fVar 3)) aNil))) r3 m2 = .ok (.nx r3) (m2.set q (.ins "Schema" ["fields", "ways"] [.tup fs, .tup ((waysS n fs).map wayD)])) := by
    have e : (fLc [3, 4] (.tp [3, 4]) (iAll (fVar 2)) tTrue (fVar 3)) r3 m2 = .ok (.lst ((waysS n fs).map wayD)) m2 := by
      simp only [fLc, iAll, fVar, r3, Rs.bind, List.getElem?_cons_zero, List.getElem?_cons_succ, if_pos wl, wipeL, List.set_cons_succ, List.set_cons_zero]
      rw [c1]
    simp only [sFldS, fCB, aCons, aNil, Rs.sq, Rs.bind, e, bTuple, derefL]
    simp only [r3, fVar, List.getElem?_cons_zero, gPutF, q2]
    rfl
  have q3 := get_set (u := .ins "Schema" ["fields", "ways"] [.tup fs, .tup ((waysS n fs).map wayD)]) q2
  generalize hm3 : m2.set q (.ins "Schema" ["fields", "ways"] [.tup fs, .tup ((waysS n fs).map wayD)]) = m3 at s3 q3
  have f3 : FrB q m m3 := hm3 ▸ f2.trans FrB.put
  have c2 : compL (.tp [3, 4]) tTrue (fCB o_leaf_of (aCons (fBin gIx (fVar 3) (fUn gNeg (fC (.int 1)))) (aCons (fVar 4) aNil))) r3 (waysS n fs) m3 = .ok ((waysS n fs).map leafD) m3 := by
    refine compL_map leafD _ fun w hw => ?_
    obtain ⟨way, st, kd, rfl, hst⟩ := wok w hw
    refine ⟨[some (.loc q), some (.tup fs), some (.lst (waysS n fs)), some (.tup (way ++ [st])), some kd], rfl, rfl, ?_⟩
    have hlast : leafD (.tup [.tup (way ++ [st]), kd]) = leafOf st kd := by
      simp [leafD]
    rw [hlast]
    simp only [fCB, aCons, aNil, fBin, fUn, fC, fVar, gNeg, Rs.bind, List.getElem?_cons_zero, List.getElem?_cons_succ, gIx, derefS, atLast]
    exact leaf_of_ok hst
  have s4 : (sFldS "Schema" "leaves" (fVar 0) (fCB bTuple (aCons (fLc [3, 4] (.tp [3, 4]) (iAll (fVar 2)) tTrue (fCB o_leaf_of (aCons (fBin gIx (fVar 3) (fUn gNeg (fC (.int 1)))) (aCons (fVar 4) aNil)))) aNil))) r3 m3 = .ok (.nx r3) (m3.set q (.ins "Schema" ["fields", "ways", "leaves"] [.tup fs, .tup ((waysS n fs).map wayD), .tup ((waysS n fs).map leafD)])) := by
    have e : (fLc [3, 4] (.tp [3, 4]) (iAll (fVar 2)) tTrue (fCB o_leaf_of (aCons (fBin gIx (fVar 3) (fUn gNeg (fC (.int 1)))) (aCons (fVar 4) aNil)))) r3 m3 = .ok (.lst ((waysS n fs).map leafD)) m3 := by
      have i1 : (iAll (fVar 2)) r3 m3 = .ok (waysS n fs) m3 := rfl
      simp only [fLc, i1, Rs.bind, if_pos wl]
      rw [show wipeL r3 [3, 4] = r3 from rfl, c2]
    simp only [sFldS, fCB, aCons, aNil, Rs.sq, Rs.bind] at e ⊢
    rw [e]
    simp only [bTuple, derefL, r3, fVar, List.getElem?_cons_zero, gPutF, q3]
    rfl
  refine ⟨_, ?_, get_set q3, f3.trans FrB.put⟩
  have s5 : b_Schema___init__ [some (.loc q), some (.tup fs), none, none, none] m = .ok (.nx r3) (m3.set q (.ins "Schema" ["fields", "ways", "leaves"] [.tup fs, .tup ((waysS n fs).map wayD), .tup ((waysS n fs).map leafD)])) :=
    (seq_nx s1).trans ((seq_nx s2).trans ((seq_nx s3).trans s4))
  show runF 5 b_Schema___init__ [.loc q, .tup fs] m = _
  unfold runF
  rw [show ([D.loc q, .tup fs].map some ++ List.replicate (5 - [D.loc q, .tup fs].length) none) = [some (.loc q), some (.tup fs), none, none, none] from rfl, s5]
end PU
set_option Elab.async false
set_option linter.all false
set_option maxRecDepth 100000
set_option maxHeartbeats 4000000
namespace FR
open PySem PySem.Spec L2
/-- name, rule, the two levels -/
abbrev S4 := Str × Str × Int × Int
def nxt (rl : Str) (r z : Int) : Int × Int := (if rl = "repeated" then r + 1 else r, if rl = "required" then z else z + 1)
def s4 (f : D) (r z : Int) : S4 := (nameD f, ruleD f, (nxt (ruleD f) r z).1, (nxt (ruleD f) r z).2)
def absW : Nat → List D → Int → Int → List (List S4 × D)
  | 0, fs, r, z => fs.flatMap fun f => [([s4 f r z], kindD f)]
  | n + 1, fs, r, z => fs.flatMap fun f => match kindD f with
    | .tup g => (absW n g (nxt (ruleD f) r z).1 (nxt (ruleD f) r z).2).map fun q => (s4 f r z :: q.1, q.2)
    | kd => [([s4 f r z], kd)]
def joinP (p nm : Str) : Str := if p.length = 0 then nm else Str.empty ++ p ++ "." ++ nm
def stepsF : Str → List S4 → List D
  | _, [] => []
  | p, (nm, _, r, z) :: w => .tup [.str (joinP p nm), .int r, .int z] :: stepsF (joinP p nm) w
theorem stepB_s4 {p : Str} {r z : Int} {f : D} : stepB (.tup [.str p, .int r, .int z]) (nameD f) (ruleD f) = .tup [.str (joinP p (nameD f)), .int (nxt (ruleD f) r z).1, .int (nxt (ruleD f) r z).2] := rfl
theorem waysF_abs : ∀ (n : Nat) (fs ar : List D) (p : Str) (r z : Int), waysF n fs ar (.tup [.str p, .int r, .int z]) = (absW n fs r z).map fun q => .tup [.tup (ar ++ stepsF p q.1), q.2]
  | 0, fs, ar, p, r, z => by
    unfold waysF absW
    rw [List.map_flatMap]
    congr 1
  | n + 1, fs, ar, p, r, z => by
    unfold waysF absW
    rw [List.map_flatMap]
    congr 1
    funext f
    cases hk : kindD f with
    | tup g =>
      simp only [hk]
      rw [stepB_s4, waysF_abs n g, List.map_map]
      congr 1
      funext q
      simp [s4, stepsF]
    | _ => simp only [hk]; rfl
/-- they part at a name -/
def Split (a b : List S4) : Prop := ∃ u s1 t1 s2 t2, a = u ++ s1 :: t1 ∧ b = u ++ s2 :: t2 ∧ s1.1 ≠ s2.1
theorem Split.symm {a b : List S4} (h : Split a b) : Split b a := by
  obtain ⟨u, s1, t1, s2, t2, e1, e2, h⟩ := h
  exact ⟨u, s2, t2, s1, t1, e2, e1, Ne.symm h⟩
theorem Split.cons {a b : List S4} (s : S4) (h : Split a b) : Split (s :: a) (s :: b) := by
  obtain ⟨u, s1, t1, s2, t2, rfl, rfl, h⟩ := h
  exact ⟨s :: u, s1, t1, s2, t2, rfl, rfl, h⟩
end FR
namespace PU
open PySem PySem.Spec L2 FR
theorem abs_head : ∀ (n : Nat) (fs : List D) (r z : Int), ∀ f ∈ fs, ∀ q, q ∈ (match n with
    | 0 => [([s4 f r z], kindD f)]
    | n + 1 => (match kindD f with
      | .tup g => (absW n g (nxt (ruleD f) r z).1 (nxt (ruleD f) r z).2).map fun q => (s4 f r z :: q.1, q.2)
      | kd => [([s4 f r z], kd)]) : List (List S4 × D)) → ∃ t, q.1 = s4 f r z :: t := by
  intro n fs r z f hf q hq
  cases n with
  | zero =>
    rcases List.mem_singleton.mp hq with rfl
    exact ⟨_, rfl⟩
  | succ n =>
    simp only at hq
    cases hk : kindD f with
    | tup g =>
      simp only [hk] at hq
      obtain ⟨x, _, rfl⟩ := List.mem_map.mp hq
      exact ⟨_, rfl⟩
    | _ =>
      simp only [hk] at hq
      rcases List.mem_singleton.mp hq with rfl
      exact ⟨_, rfl⟩
theorem fs_names {R : D → Prop} {fs : List D} (h : FsOk R fs) : fs.Pairwise fun a b => nameD a ≠ nameD b := by
  have := h.2.2.2
  unfold List.Nodup at this
  rw [List.pairwise_map] at this
  exact this
theorem abs_split : ∀ (n : Nat) (fs : List D) (r z : Int), FsOk (KOk n) fs → (absW n fs r z).Pairwise fun a b => Split a.1 b.1
  | 0, fs, r, z, h => by
    unfold absW
    rw [List.pairwise_flatMap]
    refine ⟨fun f _ => List.pairwise_singleton _ _, (fs_names h).imp fun {a b} hab x hx y hy => ?_⟩
    rcases List.mem_singleton.mp hx with rfl
    rcases List.mem_singleton.mp hy with rfl
    exact ⟨[], _, _, _, _, rfl, rfl, hab⟩
  | n + 1, fs, r, z, h => by
    unfold absW
    rw [List.pairwise_flatMap]
    refine ⟨fun f hf => ?_, ?_⟩
    · obtain ⟨nm, rl, kd, rfl, ek, _, _, _, hk⟩ := fok_parts (h.2.2.1 f hf)
      rw [ek]
      cases kd with
      | tup g =>
        rw [List.pairwise_map]
        exact (abs_split n g _ _ hk).imp fun {a b} hab => hab.cons _
      | _ => exact List.pairwise_singleton _ _
    · refine (fs_names h).imp fun {a b} hab x hx y hy => ?_
      obtain ⟨t1, e1⟩ := abs_head (n + 1) [a] r z a List.mem_cons_self x hx
      obtain ⟨t2, e2⟩ := abs_head (n + 1) [b] r z b List.mem_cons_self y hy
      exact ⟨[], _, _, _, _, e1, e2, hab⟩
end PU
set_option Elab.async false
set_option linter.all false
set_option maxRecDepth 100000
set_option maxHeartbeats 4000000
namespace FR
open PySem PySem.Spec L2
def Clean (n : Str) : Prop := n.length ≠ 0 ∧ 46 ∉ n.cps.toList
def tlN : List S4 → List Nat
  | [] => []
  | s :: w => 46 :: (s.1.cps.toList ++ tlN w)
def baseN (p : Str) : List Nat := if p.length = 0 then [] else p.cps.toList ++ [46]
theorem str_toList {a b : Str} : (a ++ b).cps.toList = a.cps.toList ++ b.cps.toList := by
  show (a.cps ++ b.cps).toList = _
  rw [Array.toList_append]
theorem len_toList (a : Str) : a.cps.toList.length = a.length := Array.length_toList
theorem joinP_toList {p nm : Str} : (joinP p nm).cps.toList = baseN p ++ nm.cps.toList := by
  unfold joinP baseN
  split
  · rfl
  · rw [str_toList, str_toList, str_toList]
    rfl
theorem joinP_ne {p nm : Str} (h : nm.length ≠ 0) : (joinP p nm).length ≠ 0 := by
  rw [← len_toList, joinP_toList, List.length_append, len_toList]
  omega
theorem steps_get : ∀ (t : List S4) (p : Str) (s : S4) (k : Nat) (d : D), Clean s.1 → (∀ x ∈ t, Clean x.1) → (stepsF p (s :: t))[k]? = some d → ∃ q r z, d = .tup [.str q, .int r, .int z] ∧ q.cps.toList = baseN p ++ s.1.cps.toList ++ tlN (t.take k) := by
  intro t
  induction t with
  | nil =>
    rintro p ⟨nm, rl, r, z⟩ k d hs ht h
    cases k with
    | zero =>
      simp [stepsF] at h
      subst h
      exact ⟨_, _, _, rfl, by rw [joinP_toList]; simp [tlN]⟩
    | succ k => simp [stepsF] at h
  | cons x t ih =>
    rintro p ⟨nm, rl, r, z⟩ k d hs ht h
    cases k with
    | zero =>
      simp [stepsF] at h
      subst h
      exact ⟨_, _, _, rfl, by rw [joinP_toList]; simp [tlN]⟩
    | succ k =>
      have h' : (stepsF (joinP p nm) (x :: t))[k]? = some d := h
      obtain ⟨q, r', z', e, hq⟩ := ih (joinP p nm) x k d (ht x List.mem_cons_self) (fun y hy => ht y (List.mem_cons_of_mem _ hy)) h'
      refine ⟨q, r', z', e, ?_⟩
      rw [hq, List.take_succ_cons]
      have hb : baseN (joinP p nm) = baseN p ++ nm.cps.toList ++ [46] := by
        unfold baseN
        rw [if_neg (joinP_ne hs.1), joinP_toList]
        rfl
      rw [hb]
      simp [tlN]
theorem cut_eq : ∀ (a b x y : List Nat), 46 ∉ a → 46 ∉ b → (x = [] ∨ ∃ x', x = 46 :: x') → (y = [] ∨ ∃ y', y = 46 :: y') → a ++ x = b ++ y → a = b
  | [], [], _, _, _, _, _, _, _ => rfl
  | [], c :: b, x, y, _, hb, hx, _, e => by
    rcases hx with rfl | ⟨x', rfl⟩
    · simp at e
    · simp at e
      exact absurd (e.1 ▸ List.mem_cons_self) hb
  | c :: a, [], x, y, ha, _, _, hy, e => by
    rcases hy with rfl | ⟨y', rfl⟩
    · simp at e
    · simp at e
      exact absurd (e.1 ▸ List.mem_cons_self) ha
  | c :: a, d :: b, x, y, ha, hb, hx, hy, e => by
    rw [List.cons_append, List.cons_append] at e
    injection e with e1 e2
    rw [e1, cut_eq a b x y (fun h => ha (List.mem_cons_of_mem _ h)) (fun h => hb (List.mem_cons_of_mem _ h)) hx hy e2]
theorem tl_shape (w : List S4) : tlN w = [] ∨ ∃ x, tlN w = 46 :: x := by
  cases w with
  | nil => exact .inl rfl
  | cons s w => exact .inr ⟨_, rfl⟩
theorem str_ext {a b : Str} (h : a.cps.toList = b.cps.toList) : a = b := by
  cases a; cases b
  congr
  exact Array.toList_inj.mp h
/-- where the names part, the paths part -/
theorem steps_ne {p : Str} {s1 s2 : S4} {t1 t2 : List S4} {k : Nat} {d1 d2 : D} (c1 : Clean s1.1) (c2 : Clean s2.1) (ct1 : ∀ x ∈ t1, Clean x.1) (ct2 : ∀ x ∈ t2, Clean x.1) (h : s1.1 ≠ s2.1) (h1 : (stepsF p (s1 :: t1))[k]? = some d1) (h2 : (stepsF p (s2 :: t2))[k]? = some d2) :
    ∃ q1 r1 z1 q2 r2 z2, d1 = .tup [.str q1, .int r1, .int z1] ∧ d2 = .tup [.str q2, .int r2, .int z2] ∧ q1 ≠ q2 := by
  obtain ⟨q1, r1, z1, e1, f1⟩ := steps_get t1 p s1 k d1 c1 ct1 h1
  obtain ⟨q2, r2, z2, e2, f2⟩ := steps_get t2 p s2 k d2 c2 ct2 h2
  refine ⟨q1, r1, z1, q2, r2, z2, e1, e2, fun e => h ?_⟩
  rw [e, f2, List.append_assoc, List.append_assoc] at f1
  have f := List.append_cancel_left f1
  exact (str_ext (cut_eq _ _ _ _ c2.2 c1.2 (tl_shape _) (tl_shape _) f)).symm
theorem steps_app : ∀ (u w : List S4) (p : Str), ∃ p', stepsF p (u ++ w) = stepsF p u ++ stepsF p' w ∧ (stepsF p u).length = u.length
  | [], w, p => ⟨p, rfl, rfl⟩
  | (nm, rl, r, z) :: u, w, p => by
    obtain ⟨p', e, l⟩ := steps_app u w (joinP p nm)
    exact ⟨p', by simp [stepsF, e], by simp [stepsF, l]⟩
end FR
set_option Elab.async false
set_option linter.all false
set_option maxRecDepth 100000
set_option maxHeartbeats 4000000
namespace FR
open PySem PySem.Spec L2
def s4D : S4 → D
  | (a, b, r, z) => .tup [.str a, .str b, .int r, .int z]
def lawD (way : List D) (q : List S4 × D) : D := .tup [.lst (way ++ q.1.map s4D), q.2]
def oneA : Nat → Int → Int → D → List (List S4 × D)
  | 0, r, z, f => [([s4 f r z], kindD f)]
  | n + 1, r, z, f => match kindD f with
    | .tup g => (absW n g (nxt (ruleD f) r z).1 (nxt (ruleD f) r z).2).map fun q => (s4 f r z :: q.1, q.2)
    | kd => [([s4 f r z], kd)]
theorem abs_one {n : Nat} {fs : List D} {r z : Int} : absW n fs r z = fs.flatMap (oneA n r z) := by cases n <;> rfl
theorem flat_takeA {n : Nat} {fs : List D} {r z : Int} {f : D} {i : Nat} (h : fs[i]? = some f) : (fs.take (i + 1)).flatMap (oneA n r z) = (fs.take i).flatMap (oneA n r z) ++ oneA n r z f := by
  rw [List.take_add_one, h, List.flatMap_append]
  simp
theorem flat_leA {n : Nat} {fs : List D} {r z : Int} {i : Nat} : ((fs.take i).flatMap (oneA n r z)).length ≤ (absW n fs r z).length := by
  rw [abs_one]
  conv => rhs; rw [← List.take_append_drop i fs, List.flatMap_append, List.length_append]
  omega
theorem str_ne {a b : Str} {m : List O} (s1 : SeqAt.shaped (.str a) = true) (s2 : SeqAt.shaped (.str b) = true) : gNe (.str a) (.str b) m = .ok (.bl (!decide (a = b))) m := by
  have e : (a == b) = decide (a = b) := by by_cases h : a = b <;> simp [h]
  simp only [gNe, gEqW, toPy, s1, s2, Bool.and_self, if_true, PyData.eqv, e]
end FR
namespace PU
open PySem PySem.Spec L2 FR
theorem abs_len {n : Nat} {fs : List D} {r z : Int} (h : FsOk (KOk n) fs) : (absW n fs r z).length = leaves n fs := by
  rw [← ways_len n fs [.non] (.tup [.str "", .int r, .int z]) h, waysF_abs, List.length_map]
def RecL (rec : List D → List O → Rs D) (n : Nat) : Prop := ∀ (fs way : List D) (r z : Int) (m : List O), FsOk (KOk n) fs → way.length + n ≤ 10 → leaves n fs ≤ 500 →
  ∃ m', rec [.tup fs, .lst way, .tup [.int r, .int z]] m = .ok (.lst ((absW n fs r z).map (lawD way))) m' ∧ Fr m m'
def LoopL (rec : List D → List O → Rs D) : FS := (sSeq (sSet 7 (fTup (aCons (fBin gAdd (fBin gIx (fVar 2) (fC (.int 0))) (fCB bInt (aCons (fBin gEq (fVar 5) (fC (.str "repeated"))) aNil))) (aCons (fBin gAdd (fBin gIx (fVar 2) (fC (.int 1))) (fCB bInt (aCons (fBin gNe (fVar 5) (fC (.str "required"))) aNil))) aNil))))
    (sSeq (sSet 8 (fBin gAdd (fVar 1) (fLst (aCons (fTup (aCons (fVar 4) (aCons (fVar 5) (aCons (fBin gIx (fVar 7) (fC (.int 0))) (aCons (fBin gIx (fVar 7) (fC (.int 1))) aNil))))) aNil))))
    (sIf (tTru (fCB bIsi (aCons (fVar 6) (aCons (fC (.ty "str")) aNil)))) (sExp (fApp (fVar 3) (aCons (fTup (aCons (fVar 8) (aCons (fVar 6) aNil))) aNil))) (sExp (fExt (fVar 3) (aCons (fCB rec (aCons (fVar 6) (aCons (fVar 8) (aCons (fVar 7) aNil)))) aNil))))))
theorem law_ways_body (rec : List D → List O → Rs D) : b__law_ways rec = (sSeq (sSet 3 (fNew aNil))
    (sSeq (sFor (.tp [4, 5, 6]) (iAll (fVar 0)) (LoopL rec))
    (sRet (fFrz (fVar 3))))) := rfl
theorem lways_turn {rec : List D → List O → Rs D} {n : Nat} (hr : ∀ n', n = n' + 1 → RecL rec n') {fs way ws : List D} {r z : Int} {f : D} {mm : List O} {q : Nat} {x7 x8 : Option D} (ha : way.length + n ≤ 10) (hf : FOk (KOk n) f)
    (hq : mm[q]? = some (.lst ws)) (hw : ws.length + (oneA n r z f).length ≤ 1000) (hw2 : (oneA n r z f).length ≤ 500) :
    ∃ nm rl x7' x8' mm', f = .tup [.str nm, .str rl, kindD f] ∧ LoopL rec [some (.tup fs), some (.lst way), some (.tup [.int r, .int z]), some (.loc q), some (.str nm), some (.str rl), some (kindD f), x7, x8] mm =
      .ok (.nx [some (.tup fs), some (.lst way), some (.tup [.int r, .int z]), some (.loc q), some (.str nm), some (.str rl), some (kindD f), x7', x8']) (mm'.set q (.lst (ws ++ (oneA n r z f).map (lawD way)))) ∧ Fr mm mm' := by
  obtain ⟨nm, rl, kd, rfl, ek, en, hn, hrl, hk⟩ := fok_parts hf
  have er : ruleD (.tup [.str nm, .str rl, kd]) = rl := rfl
  have hr2 : rl = "required" ∨ rl = "optional" ∨ rl = "repeated" := by simpa [RULES3] using hrl
  have hs1 : SeqAt.shaped (.str rl) = true := by rcases hr2 with rfl | rfl | rfl <;> decide +kernel
  have hs2 : SeqAt.shaped (.str "repeated") = true := by decide +kernel
  have hs3 : SeqAt.shaped (.str "required") = true := by decide +kernel
  have l2 : ∀ a b : D, [a, b].length ≤ 16777216 := fun a b => by simp
  have l4 : ∀ a b c d : D, [a, b, c, d].length ≤ 16777216 := fun a b c d => by simp
  have l1 : ∀ a : D, [a].length ≤ 16777216 := fun a => by simp
  have n1 : r + (if decide (rl = "repeated") = true then 1 else 0) = (nxt rl r z).1 := by
    unfold nxt
    by_cases h : rl = "repeated" <;> simp [h]
  have n2 : z + (if (!decide (rl = "required")) = true then 1 else 0) = (nxt rl r z).2 := by
    unfold nxt
    by_cases h : rl = "required" <;> simp [h]
  have hcat : way.length + 1 ≤ 16777216 := by omega
  have h11 : (1 : Nat) ≤ 16777216 := by omega
  have s1 : (sSet 7 (fTup (aCons (fBin gAdd (fBin gIx (fVar 2) (fC (.int 0))) (fCB bInt (aCons (fBin gEq (fVar 5) (fC (.str "repeated"))) aNil))) (aCons (fBin gAdd (fBin gIx (fVar 2) (fC (.int 1))) (fCB bInt (aCons (fBin gNe (fVar 5) (fC (.str "required"))) aNil))) aNil)))) [some (.tup fs), some (.lst way), some (.tup [.int r, .int z]), some (.loc q), some (.str nm), some (.str rl), some kd, x7, x8] mm =
      .ok (.nx [some (.tup fs), some (.lst way), some (.tup [.int r, .int z]), some (.loc q), some (.str nm), some (.str rl), some kd, some (.tup [.int (nxt rl r z).1, .int (nxt rl r z).2]), x8]) mm := by
    simp only [sSet, Rs.sq, Rs.bind, fTup, aCons, aNil, fCB, fBin, fC, fVar, List.getElem?_cons_zero, List.getElem?_cons_succ, gIx, derefS, at0, at1, str_eq hs1 hs2, str_ne hs1 hs3, bInt, gAdd, n1, n2, if_pos (l2 _ _)]
    rfl
  have s2 : (sSet 8 (fBin gAdd (fVar 1) (fLst (aCons (fTup (aCons (fVar 4) (aCons (fVar 5) (aCons (fBin gIx (fVar 7) (fC (.int 0))) (aCons (fBin gIx (fVar 7) (fC (.int 1))) aNil))))) aNil)))) [some (.tup fs), some (.lst way), some (.tup [.int r, .int z]), some (.loc q), some (.str nm), some (.str rl), some kd, some (.tup [.int (nxt rl r z).1, .int (nxt rl r z).2]), x8] mm =
      .ok (.nx [some (.tup fs), some (.lst way), some (.tup [.int r, .int z]), some (.loc q), some (.str nm), some (.str rl), some kd, some (.tup [.int (nxt rl r z).1, .int (nxt rl r z).2]), some (.lst (way ++ [.tup [.str nm, .str rl, .int (nxt rl r z).1, .int (nxt rl r z).2]]))]) mm := by
    simp only [sSet, Rs.sq, Rs.bind, fTup, fLst, aCons, aNil, fBin, fC, fVar, List.getElem?_cons_zero, List.getElem?_cons_succ, gIx, derefS, at0, at1, if_pos (l4 _ _ _ _), if_pos (l1 _), gAdd, derefL, List.length_singleton, if_pos hcat, if_pos h11]
    rfl
  have sx : s4D (s4 (.tup [.str nm, .str rl, kd]) r z) = .tup [.str nm, .str rl, .int (nxt rl r z).1, .int (nxt rl r z).2] := rfl
  rw [ek]
  refine ⟨nm, rl, some (.tup [.int (nxt rl r z).1, .int (nxt rl r z).2]), some (.lst (way ++ [.tup [.str nm, .str rl, .int (nxt rl r z).1, .int (nxt rl r z).2]])), ?_⟩
  cases kd with
  | str k =>
    have e1 : (oneA n r z (.tup [.str nm, .str rl, .str k])).map (lawD way) = [.tup [.lst (way ++ [.tup [.str nm, .str rl, .int (nxt rl r z).1, .int (nxt rl r z).2]]), .str k]] := by cases n <;> rfl
    refine ⟨mm, rfl, ?_, Fr.rfl'⟩
    rw [e1]
    refine (seq_nx s1).trans ((seq_nx s2).trans ((if_t (m' := mm) ?_).trans ?_))
    · simp [tTru, fCB, aCons, aNil, fVar, fC, Rs.bind, bIsi, tyD, kit_ss, truD]
    · have hlt : ws.length < 16777216 := by omega
      simp only [sExp, fApp, Rs.sq, Rs.bind, fVar, fTup, aCons, aNil, List.getElem?_cons_zero, List.getElem?_cons_succ, derefL, hq, if_pos hlt, if_pos (l2 _ _)]
  | tup g =>
    cases n with
    | zero => exact hk.elim
    | succ n =>
      have e1 : (oneA (n + 1) r z (.tup [.str nm, .str rl, .tup g])).map (lawD way) = (absW n g (nxt rl r z).1 (nxt rl r z).2).map (lawD (way ++ [.tup [.str nm, .str rl, .int (nxt rl r z).1, .int (nxt rl r z).2]])) := by
        show (List.map _ (absW n g _ _)).map (lawD way) = _
        rw [List.map_map]
        refine List.map_congr_left fun x _ => ?_
        simp [lawD, sx]
      have hlen : (oneA (n + 1) r z (.tup [.str nm, .str rl, .tup g])).length = (absW n g (nxt rl r z).1 (nxt rl r z).2).length := by
        show (List.map _ (absW n g _ _)).length = _
        rw [List.length_map]
        rfl
      rw [hlen] at hw hw2
      rw [e1]
      have hk : FsOk (KOk n) g := hk
      obtain ⟨m', er, fr⟩ := hr n rfl g (way ++ [.tup [.str nm, .str rl, .int (nxt rl r z).1, .int (nxt rl r z).2]]) (nxt rl r z).1 (nxt rl r z).2 mm hk (by rw [List.length_append, List.length_singleton]; omega) (by rw [← abs_len (r := (nxt rl r z).1) (z := (nxt rl r z).2) hk]; exact hw2)
      refine ⟨m', rfl, ?_, fr⟩
      refine (seq_nx s1).trans ((seq_nx s2).trans ((if_f (m' := mm) ?_).trans ?_))
      · simp [tTru, fCB, aCons, aNil, fVar, fC, Rs.bind, bIsi, tyD, kit_ts, truD]
      · have hlt : ws.length + ((absW n g (nxt rl r z).1 (nxt rl r z).2).map (lawD (way ++ [.tup [.str nm, .str rl, .int (nxt rl r z).1, .int (nxt rl r z).2]]))).length ≤ 16777216 := by rw [List.length_map]; omega
        have hq' := fr _ _ hq
        simp only [sExp, fExt, Rs.sq, Rs.bind, fVar, fCB, aCons, aNil, List.getElem?_cons_zero, List.getElem?_cons_succ, derefL, hq, er, hq', if_pos hlt]
  | _ => first | exact hk.elim | (cases n <;> exact hk.elim)
theorem lways_step {rec : List D → List O → Rs D} {n : Nat} (hr : ∀ n', n = n' + 1 → RecL rec n') : RecL (runF 9 (b__law_ways rec)) n := by
  intro fs way r z m h ha hlv
  obtain ⟨q, hq⟩ : ∃ q, m.length = q := ⟨_, rfl⟩
  have hwl := abs_len (r := r) (z := z) h
  have key := forL_inv (p := .tp [4, 5, 6]) (body := LoopL rec)
    (fun i rr mm => ∃ x4 x5 x6 x7 x8 : Option D, rr = [some (.tup fs), some (.lst way), some (.tup [.int r, .int z]), some (.loc q), x4, x5, x6, x7, x8] ∧ mm[q]? = some (.lst (((fs.take i).flatMap (oneA n r z)).map (lawD way))) ∧ Fr m mm)
    fs 0 [some (.tup fs), some (.lst way), some (.tup [.int r, .int z]), some (.loc q), none, none, none, none, none] (m ++ [.lst []]) ⟨none, none, none, none, none, rfl, by rw [← hq]; exact getL, Fr.app⟩ ?_
  · obtain ⟨r', m', e, x4, x5, x6, x7, x8, rfl, g1, g2⟩ := key
    rw [Nat.zero_add, List.take_length, ← abs_one] at g1
    refine ⟨m'.set q .dead, ?_, g2.set (by omega)⟩
    have s3 : (sSet 3 (fNew aNil)) [some (.tup fs), some (.lst way), some (.tup [.int r, .int z]), none, none, none, none, none, none] m = .ok (.nx [some (.tup fs), some (.lst way), some (.tup [.int r, .int z]), some (.loc q), none, none, none, none, none]) (m ++ [.lst []]) := by
      rw [← hq]; simp [sSet, fNew, aNil, Rs.sq, Rs.bind]
    have s4 : (sFor (.tp [4, 5, 6]) (iAll (fVar 0)) (LoopL rec)) [some (.tup fs), some (.lst way), some (.tup [.int r, .int z]), some (.loc q), none, none, none, none, none] (m ++ [.lst []]) = .ok (.nx [some (.tup fs), some (.lst way), some (.tup [.int r, .int z]), some (.loc q), x4, x5, x6, x7, x8]) m' := by
      simp only [sFor, iAll, fVar, Rs.bind, Rs.sq, List.getElem?_cons_zero, e]
    have s6 : b__law_ways rec [some (.tup fs), some (.lst way), some (.tup [.int r, .int z]), none, none, none, none, none, none] m = .ok (.rt (.lst ((absW n fs r z).map (lawD way)))) (m'.set q .dead) := by
      rw [law_ways_body]
      refine (seq_nx s3).trans ((seq_nx s4).trans ?_)
      simp only [sRet, Rs.sq, fFrz, fUn, fVar, Rs.bind, List.getElem?_cons_zero, List.getElem?_cons_succ, gFrz, g1]
    show runF 9 (b__law_ways rec) [.tup fs, .lst way, .tup [.int r, .int z]] m = _
    unfold runF
    rw [show ([D.tup fs, .lst way, .tup [.int r, .int z]].map some ++ List.replicate (9 - [D.tup fs, .lst way, .tup [.int r, .int z]].length) none) = [some (.tup fs), some (.lst way), some (.tup [.int r, .int z]), none, none, none, none, none, none] from rfl, s6]
  · rintro i d rr mm hd ⟨x4, x5, x6, x7, x8, rfl, g1, g2⟩
    rw [Nat.zero_add] at g1
    have hft := flat_takeA (n := n) (r := r) (z := z) hd
    have hle := flat_leA (n := n) (fs := fs) (r := r) (z := z) (i := i + 1)
    rw [hft, List.length_append, hwl] at hle
    obtain ⟨nm, rl, x7', x8', mm', ed, et, fr⟩ := lways_turn (fs := fs) (x7 := x7) (x8 := x8) (r := r) (z := z) hr ha (h.2.2.1 d (List.mem_of_getElem? hd)) g1 (by rw [List.length_map]; omega) (by omega)
    refine ⟨[some (.tup fs), some (.lst way), some (.tup [.int r, .int z]), some (.loc q), some (.str nm), some (.str rl), some (kindD d), x7, x8], _, _, ?_, et, _, _, _, _, _, rfl, ?_, (g2.trans fr).set (by omega)⟩
    · rw [ed]
      simp [asg, setAll, kindD]
    · rw [Nat.zero_add, hft, List.map_append]
      exact get_set (fr _ _ g1)
theorem lways_ok : ∀ (n f : Nat), n < f → RecL (r__law_ways f) n
  | n, 0, h => absurd h (by omega)
  | 0, f + 1, h => lways_step fun n' q => by omega
  | n + 1, f + 1, h => lways_step fun n' q => by
    have : n' = n := by omega
    subst this
    exact lways_ok n' f (by omega)
end PU
set_option Elab.async false
set_option linter.all false
set_option maxRecDepth 100000
set_option maxHeartbeats 4000000
namespace FR
open PySem PySem.Spec L2
def SOk (x : Str) : Prop := x.cps.all (· < 0x110000) = true
theorem shaped_str {x : Str} (h : SOk x) : SeqAt.shaped (.str x) = true := by
  unfold SOk at h
  simp only [SeqAt.shaped, PyData.canLay0, PyData.depth]
  rw [Bool.and_eq_true]
  exact ⟨h, rfl⟩
theorem shaped3 {x : Str} {r z : Int} (h : SOk x) : SeqAt.shaped (.tuple [.str x, .int r, .int z]) = true := by
  have h2 := PySem.SeqAt.canLay_of_shaped (shaped_str h)
  simp only [SeqAt.shaped, PyData.canLay0, PyData.canLayAll0, PyData.depth, PyData.depthAll] at h2 ⊢
  rw [h2]; rfl
theorem shaped4 {x y : Str} {r z : Int} (h : SOk x) (h' : SOk y) : SeqAt.shaped (.tuple [.str x, .str y, .int r, .int z]) = true := by
  have h2 := PySem.SeqAt.canLay_of_shaped (shaped_str h)
  have h3 := PySem.SeqAt.canLay_of_shaped (shaped_str h')
  simp only [SeqAt.shaped, PyData.canLay0, PyData.canLayAll0, PyData.depth, PyData.depthAll] at h2 h3 ⊢
  rw [h2, h3]; rfl
theorem eq_step {q1 q2 : Str} {r1 r2 z1 z2 : Int} {m : List O} (h1 : SOk q1) (h2 : SOk q2) : gEq (.tup [.str q1, .int r1, .int z1]) (.tup [.str q2, .int r2, .int z2]) m = .ok (.bl (decide (q1 = q2) && (decide (r1 = r2) && decide (z1 = z2)))) m := by
  have b1 : ∀ a b : Str, (a == b) = decide (a = b) := fun a b => by by_cases h : a = b <;> simp [h]
  have b2 : ∀ a b : Int, (a == b) = decide (a = b) := fun a b => by by_cases h : a = b <;> simp [h]
  have t1 : toPy (.tup [.str q1, .int r1, .int z1]) = some (.tuple [.str q1, .int r1, .int z1]) := rfl
  have t2 : toPy (.tup [.str q2, .int r2, .int z2]) = some (.tuple [.str q2, .int r2, .int z2]) := rfl
  simp only [gEq, gEqW, t1, t2, shaped3 h1, shaped3 h2, Bool.and_self, if_true]
  simp [PyData.eqv, PyData.eqvAll, b1, b2]
theorem eq_s4 {a1 a2 b1 b2 : Str} {r1 r2 z1 z2 : Int} {m : List O} (h1 : SOk a1) (h2 : SOk a2) (h3 : SOk b1) (h4 : SOk b2) : gEq (.tup [.str a1, .str b1, .int r1, .int z1]) (.tup [.str a2, .str b2, .int r2, .int z2]) m = .ok (.bl (decide (a1 = a2) && (decide (b1 = b2) && (decide (r1 = r2) && decide (z1 = z2))))) m := by
  have e1 : ∀ a b : Str, (a == b) = decide (a = b) := fun a b => by by_cases h : a = b <;> simp [h]
  have e2 : ∀ a b : Int, (a == b) = decide (a = b) := fun a b => by by_cases h : a = b <;> simp [h]
  have t1 : toPy (.tup [.str a1, .str b1, .int r1, .int z1]) = some (.tuple [.str a1, .str b1, .int r1, .int z1]) := rfl
  have t2 : toPy (.tup [.str a2, .str b2, .int r2, .int z2]) = some (.tuple [.str a2, .str b2, .int r2, .int z2]) := rfl
  simp only [gEq, gEqW, t1, t2, shaped4 h1 h3, shaped4 h2 h4, Bool.and_self, if_true]
  simp [PyData.eqv, PyData.eqvAll, e1, e2]
end FR
set_option Elab.async false
set_option linter.all false
set_option maxRecDepth 100000
set_option maxHeartbeats 4000000
namespace PU
open PySem PySem.Spec L2 FR
theorem kb_ib : kitB "int" "bool" = some false := by decide +kernel
theorem kb_ii : kitB "int" "int" = some true := by decide +kernel
theorem kb_sb : kitB "str" "bool" = some false := by decide +kernel
theorem kb_si : kitB "str" "int" = some false := by decide +kernel
theorem kb_ss : kitB "str" "str" = some true := by decide +kernel
theorem kb_tb : kitB "tuple" "bool" = some false := by decide +kernel
theorem kb_ti : kitB "tuple" "int" = some false := by decide +kernel
theorem kb_ts : kitB "tuple" "str" = some false := by decide +kernel
theorem kb_td : kitB "tuple" "dict" = some false := by decide +kernel
theorem kb_tt : kitB "tuple" "tuple" = some true := by decide +kernel
theorem kb_tl : kitB "tuple" "list" = some false := by decide +kernel
theorem is_integer_int {a : Int} {m : List O} : o__law_is_integer [.int a] m = .ok (.bl true) m := by
  simp [o__law_is_integer, runF, b__law_is_integer, sRet, Rs.sq, Rs.bind, fAnd, fUn, gNot, fCB, aCons, aNil, fVar, fC, bIsi, tyD, kb_ib, kb_ii]
theorem runF_rt {n : Nat} {body : FS} {ds : List D} {m m' : List O} {d : D} (h : body (ds.map some ++ List.replicate (n - ds.length) none) m = .ok (.rt d) m') : runF n body ds m = .ok d m' := by
  unfold runF
  rw [h]
theorem seq_rt {a b : FS} {r : Lc} {m m' : List O} {d : D} (h : a r m = .ok (.rt d) m') : sSeq a b r m = .ok (.rt d) m' := by unfold sSeq; rw [h]
theorem skip {t : FT} {a rest : FS} {r : Lc} {m : List O} (h : t r m = .ok false m) : sSeq (sIf t a sNx) rest r m = rest r m := seq_nx ((if_f h).trans rfl)
theorem same_int {f : Nat} {a : Int} {m : List O} : r__law_same (f + 1) [.int a, .int a] m = .ok (.bl true) m := by
  show runF 4 (b__law_same (r__law_same f)) [.int a, .int a] m = _
  refine runF_rt (n := 4) (ds := [.int a, .int a]) (m' := m) ?_
  show b__law_same (r__law_same f) [some (.int a), some (.int a), none, none] m = _
  unfold b__law_same
  refine (seq_nx (r' := [some (.int a), some (.int a), none, none]) (m' := m) ((if_f (m' := m) ?_).trans rfl)).trans ((seq_nx (r' := [some (.int a), some (.int a), none, none]) (m' := m) ((if_f (m' := m) ?_).trans rfl)).trans (seq_rt ((if_t (m' := m) ?_).trans ?_)))
  · simp [tVal, fBin, fVar, fC, Rs.bind, gIs, gIsW, FR.isNon]
  · simp [tTru, truD, fCB, aCons, aNil, fVar, fC, Rs.bind, bIsi, tyD, kb_ib]
  · simp [tTru, truD, fCB, aCons, aNil, fVar, fC, Rs.bind, bIsi, tyD, kb_ii]
  · simp only [sRet, Rs.sq, fAnd, fCB, aCons, aNil, fBin, fVar, Rs.bind, List.getElem?_cons_zero, List.getElem?_cons_succ, is_integer_int, int_eq, decide_true]
theorem same_str {f : Nat} {a : Str} {m : List O} (h : SOk a) : r__law_same (f + 1) [.str a, .str a] m = .ok (.bl true) m := by
  show runF 4 (b__law_same (r__law_same f)) [.str a, .str a] m = _
  refine runF_rt (n := 4) (ds := [.str a, .str a]) (m' := m) ?_
  show b__law_same (r__law_same f) [some (.str a), some (.str a), none, none] m = _
  unfold b__law_same
  refine (seq_nx (r' := [some (.str a), some (.str a), none, none]) (m' := m) ((if_f (m' := m) ?_).trans rfl)).trans ((seq_nx (r' := [some (.str a), some (.str a), none, none]) (m' := m) ((if_f (m' := m) ?_).trans rfl)).trans ((seq_nx (r' := [some (.str a), some (.str a), none, none]) (m' := m) ((if_f (m' := m) ?_).trans rfl)).trans (seq_rt ((if_t (m' := m) ?_).trans ?_))))
  · simp [tVal, fBin, fVar, fC, Rs.bind, gIs, gIsW, FR.isNon]
  · simp [tTru, truD, fCB, aCons, aNil, fVar, fC, Rs.bind, bIsi, tyD, kb_sb]
  · simp [tTru, truD, fCB, aCons, aNil, fVar, fC, Rs.bind, bIsi, tyD, kb_si]
  · simp [tTru, truD, fCB, aCons, aNil, fVar, fC, Rs.bind, bIsi, tyD, kb_ss]
  · have hb : (fCB bIsi (aCons (fVar 0) (aCons (fC (.ty "str")) aNil))) [some (.str a), some (.str a), none, none] m = .ok (.bl true) m := by
      simp [fCB, aCons, aNil, fVar, fC, Rs.bind, bIsi, tyD, kb_ss]
    simp only [sRet, Rs.sq, fAnd, hb, fBin, fVar, Rs.bind, List.getElem?_cons_zero, List.getElem?_cons_succ, str_eq (shaped_str h) (shaped_str h), decide_true]
theorem same_tup {f : Nat} {q : Str} {r z : Int} {m : List O} (h : SOk q) : r__law_same (f + 2) [.tup [.str q, .int r, .int z], .tup [.str q, .int r, .int z]] m = .ok (.bl true) m := by
  generalize hT : (D.tup [.str q, .int r, .int z]) = T
  show runF 4 (b__law_same (r__law_same (f + 1))) [T, T] m = _
  refine runF_rt (n := 4) (ds := [T, T]) (m' := m) ?_
  show b__law_same (r__law_same (f + 1)) [some T, some T, none, none] m = _
  unfold b__law_same
  have lp : ∃ y, (sFor (.nm 3) (iR1 (aCons (fCB bLen (aCons (fVar 1) aNil)) aNil)) (sIf (tNot_ (tTru (fCB (r__law_same (f + 1)) (aCons (fBin gIx (fVar 0) (fVar 3)) (aCons (fBin gIx (fVar 1) (fVar 3)) aNil))))) (sRet (fC (.bl false))) sNx)) [some T, some T, none, none] m = .ok (.nx [some T, some T, none, y]) m := by
    obtain ⟨r', m', e, y, rfl, rfl⟩ := forL_inv (p := .nm 3) (body := (sIf (tNot_ (tTru (fCB (r__law_same (f + 1)) (aCons (fBin gIx (fVar 0) (fVar 3)) (aCons (fBin gIx (fVar 1) (fVar 3)) aNil))))) (sRet (fC (.bl false))) sNx)) (fun i rr mm => ∃ y, rr = [some T, some T, none, y] ∧ mm = m) (rangeD 0 3) 0 [some T, some T, none, none] m ⟨none, rfl, rfl⟩ fun i d rr mm hd ⟨y, hrr, hm⟩ => by
      subst hrr hm
      obtain ⟨rfl, hi⟩ := rangeD_get hd
      refine ⟨[some T, some T, none, some (.int i)], [some T, some T, none, some (.int i)], mm, rfl, ?_, _, rfl, rfl⟩
      refine (if_f (m' := mm) ?_).trans rfl
      have : i = 0 ∨ i = 1 ∨ i = 2 := by omega
      rcases this with rfl | rfl | rfl
      · have a1 : (aCons (fBin gIx (fVar 0) (fVar 3)) (aCons (fBin gIx (fVar 1) (fVar 3)) aNil)) [some T, some T, none, some (.int ((0 : Nat) : Int))] mm = .ok [.str q, .str q] mm := by subst hT; rfl
        simp only [tNot_, tTru, fCB, Rs.bind, a1, same_str h, truD, Bool.not_true]
      · have a1 : (aCons (fBin gIx (fVar 0) (fVar 3)) (aCons (fBin gIx (fVar 1) (fVar 3)) aNil)) [some T, some T, none, some (.int ((1 : Nat) : Int))] mm = .ok [.int r, .int r] mm := by subst hT; rfl
        simp only [tNot_, tTru, fCB, Rs.bind, a1, same_int, truD, Bool.not_true]
      · have a1 : (aCons (fBin gIx (fVar 0) (fVar 3)) (aCons (fBin gIx (fVar 1) (fVar 3)) aNil)) [some T, some T, none, some (.int ((2 : Nat) : Int))] mm = .ok [.int z, .int z] mm := by subst hT; rfl
        simp only [tNot_, tTru, fCB, Rs.bind, a1, same_int, truD, Bool.not_true]
    refine ⟨y, ?_⟩
    have i1 : (iR1 (aCons (fCB bLen (aCons (fVar 1) aNil)) aNil)) [some T, some T, none, none] m' = .ok (rangeD 0 3) m' := by
      subst hT
      simp [iR1, fCB, aCons, aNil, fVar, Rs.bind, bLen, derefS]
    simp only [sFor, Rs.sq, i1, e]
  obtain ⟨y, lp⟩ := lp
  refine (skip ?_).trans ?_
  · subst hT; simp [tVal, fBin, fVar, fC, Rs.bind, gIs, gIsW, FR.isNon]
  refine (skip ?_).trans ?_
  · subst hT; simp [tTru, truD, fCB, aCons, aNil, fVar, fC, Rs.bind, bIsi, tyD, kb_tb]
  refine (skip ?_).trans ?_
  · subst hT; simp [tTru, truD, fCB, aCons, aNil, fVar, fC, Rs.bind, bIsi, tyD, kb_ti]
  refine (skip ?_).trans ?_
  · subst hT; simp [tTru, truD, fCB, aCons, aNil, fVar, fC, Rs.bind, bIsi, tyD, kb_ts]
  refine (skip ?_).trans ?_
  · subst hT; simp [tTru, truD, fCB, aCons, aNil, fVar, fC, Rs.bind, bIsi, tyD, kb_td]
  refine (skip ?_).trans ?_
  · subst hT; simp [tAnd_, tNot_, tTru, truD, fCB, aCons, aNil, fVar, fC, Rs.bind, bIsi, tyD, kb_tt]
  refine (skip ?_).trans ?_
  · subst hT; simp [tAnd_, tNot_, tTru, truD, fCB, aCons, aNil, fVar, fC, Rs.bind, bIsi, tyD, kb_tl]
  refine (skip ?_).trans ?_
  · subst hT; simp only [tVal, fBin, fCB, aCons, aNil, fVar, Rs.bind, List.getElem?_cons_zero, List.getElem?_cons_succ, bLen, derefS, ne_int, decide_true, Bool.not_true]
  exact (seq_nx lp).trans rfl
end PU
set_option Elab.async false
set_option linter.all false
set_option maxRecDepth 100000
set_option maxHeartbeats 4000000
namespace FR
open PySem PySem.Spec L2
theorem sok_list {x : Str} : SOk x ↔ ∀ c ∈ x.cps.toList, c < 0x110000 := by
  unfold SOk
  rw [← Array.all_toList, List.all_eq_true]
  exact ⟨fun h c hc => of_decide_eq_true (h c hc), fun h c hc => decide_eq_true (h c hc)⟩
theorem sok_join {p nm : Str} (h : SOk p) (h2 : SOk nm) : SOk (joinP p nm) := by
  rw [sok_list] at h h2 ⊢
  rw [joinP_toList]
  intro c hc
  rcases List.mem_append.mp hc with z | z
  · unfold baseN at z
    split at z
    · cases z
    · rcases List.mem_append.mp z with y | y
      · exact h c y
      · rcases List.mem_singleton.mp y with rfl
        decide
  · exact h2 c z
def StepOk (d : D) : Prop := ∃ q r z, d = .tup [.str q, .int r, .int z] ∧ SOk q
theorem steps_ok : ∀ (w : List S4) (p : Str), SOk p → (∀ s ∈ w, SOk s.1) → ∀ d ∈ stepsF p w, StepOk d
  | [], p, _, _, d, hd => by cases hd
  | (nm, rl, r, z) :: w, p, hp, hw, d, hd => by
    have hj := sok_join hp (hw _ List.mem_cons_self)
    rcases List.mem_cons.mp hd with rfl | hd
    · exact ⟨_, _, _, rfl, hj⟩
    · exact steps_ok w _ hj (fun s hs => hw s (List.mem_cons_of_mem _ hs)) d hd
theorem steps_rz : ∀ (w : List S4) (p : Str) (k : Nat) (x : S4), w[k]? = some x → ∃ q, (stepsF p w)[k]? = some (.tup [.str q, .int x.2.2.1, .int x.2.2.2])
  | [], _, _, _, h => by simp at h
  | (nm, rl, r, z) :: w, p, 0, x, h => by
    simp at h
    subst h
    exact ⟨_, rfl⟩
  | (nm, rl, r, z) :: w, p, k + 1, x, h => steps_rz w _ k x (by simpa using h)
theorem join_toList : ∀ (s : Str) (l : List Str), (Str.join "." (s :: l)).cps.toList = s.cps.toList ++ (l.map fun x => (46 :: x.cps.toList : List Nat)).flatten
  | s, [] => by simp [Str.join]
  | s, x :: l => by
    show (s ++ "." ++ Str.join "." (x :: l)).cps.toList = _
    rw [str_toList, str_toList, join_toList x l]
    simp
    rfl
theorem tl_flat : ∀ w : List S4, tlN w = ((w.map (·.1)).map fun x => (46 :: x.cps.toList : List Nat)).flatten
  | [] => rfl
  | s :: w => by simp [tlN, tl_flat w]
/-- the step behind u, as the library has it, is what the law makes of u -/
theorem steps_at {s x : S4} {t w : List S4} (hs : Clean s.1) (ht : ∀ y ∈ t ++ w, Clean y.1) (hx : (s :: t)[t.length]? = some x) :
    (stepsF "" ((s :: t) ++ w))[t.length]? = some (.tup [.str (Str.join "." ((s :: t).map (·.1))), .int x.2.2.1, .int x.2.2.2]) := by
  have hx' : ((s :: t) ++ w)[t.length]? = some x := by
    rw [List.getElem?_append_left (by simp)]
    exact hx
  obtain ⟨q, hq⟩ := steps_rz ((s :: t) ++ w) "" t.length x hx'
  obtain ⟨q', r', z', e, hl⟩ := steps_get (t ++ w) "" s t.length _ hs ht hq
  injection e with e
  have eq : q = q' := by
    injection e with e1 e2
    injection e1
  rw [hq]
  have : q = Str.join "." ((s :: t).map (·.1)) := by
    refine str_ext ?_
    rw [eq, hl, List.map_cons, join_toList, List.take_left' rfl, tl_flat]
    rfl
  rw [this]
end FR
namespace PU
open PySem PySem.Spec L2 FR

end PU
set_option Elab.async false
set_option linter.all false
set_option maxRecDepth 100000
set_option maxHeartbeats 4000000
namespace FR
open PySem PySem.Spec L2

end FR
namespace PU
open PySem PySem.Spec L2 FR
def NOk (s : S4) : Prop := SOk s.1 ∧ SOk s.2.1 ∧ s.1.length ≤ 10
theorem jeq (y : Str) (ps : List Str) : Txt.join y ps = Str.join y ps := by first | exact PySem.Txt.join_eq y ps | exact HandST.join_eq y ps | exact glued_eq_join y ps | exact PySem.StrLaws.glued_eq_join y ps | exact Builtin.Str.glued_eq_join y ps
def sharedR (u : List S4) : D := match u.getLast? with
  | none => c_WHOLE_RECORD
  | some x => .tup [.str (Str.join "." (u.map (·.1))), .int x.2.2.1, .int x.2.2.2]
theorem s4_name {s : S4} {m : List O} : gIx (s4D s) (.int 0) m = .ok (.str s.1) m := by
  obtain ⟨n, l, r, z⟩ := s
  simp [s4D, gIx, derefS, at0]
theorem s4_r {s : S4} {m : List O} : gIx (s4D s) (.int 2) m = .ok (.int s.2.2.1) m := by
  obtain ⟨n, l, r, z⟩ := s
  simp [s4D, gIx, derefS, atN]
theorem s4_z {s : S4} {m : List O} : gIx (s4D s) (.int 3) m = .ok (.int s.2.2.2) m := by
  obtain ⟨n, l, r, z⟩ := s
  simp [s4D, gIx, derefS, atN]
theorem sum_len : ∀ u : List S4, (∀ s ∈ u, s.1.length ≤ 10) → ((u.map (·.1)).map (·.length)).sum ≤ 10 * u.length
  | [], _ => by simp
  | s :: u, h => by
    have h1 := h s List.mem_cons_self
    have h2 := sum_len u fun x hx => h x (List.mem_cons_of_mem _ hx)
    simp only [List.map_cons, List.sum_cons, List.length_cons]
    omega
end PU
set_option Elab.async false
set_option linter.all false
set_option maxRecDepth 100000
set_option maxHeartbeats 4000000
namespace FR
open PySem PySem.Spec L2
def pathOf (p : Str) (u : List S4) : Str := u.foldl (fun p s => joinP p s.1) p
theorem steps_app2 : ∀ (u w : List S4) (p : Str), stepsF p (u ++ w) = stepsF p u ++ stepsF (pathOf p u) w ∧ (stepsF p u).length = u.length
  | [], w, p => ⟨rfl, rfl⟩
  | (nm, rl, r, z) :: u, w, p => by
    obtain ⟨e, l⟩ := steps_app2 u w (joinP p nm)
    exact ⟨by simp [stepsF, e, pathOf], by simp [stepsF, l]⟩
theorem sok_empty : SOk "" := by unfold SOk; decide +kernel
end FR
namespace PU
open PySem PySem.Spec L2 FR
theorem rule_sok {rl : Str} (h : rl ∈ RULES3) : SOk rl := by
  have h2 : rl = "required" ∨ rl = "optional" ∨ rl = "repeated" := by simpa [RULES3] using h
  rcases h2 with rfl | rfl | rfl <;> (unfold SOk; decide +kernel)
theorem fok_s4 {R : D → Prop} {f : D} {r z : Int} (h : FOk R f) : NOk (s4 f r z) ∧ Clean (s4 f r z).1 := by
  obtain ⟨nm, rl, kd, rfl, ek, en, hn, hr, hk⟩ := fok_parts h
  exact ⟨⟨hn.1.2.2.2, rule_sok hr, hn.1.1⟩, hn.1.2.1, hn.1.2.2.1⟩
theorem abs_names : ∀ (n : Nat) (fs : List D) (r z : Int), FsOk (KOk n) fs → ∀ q ∈ absW n fs r z, q.1 ≠ [] ∧ q.1.length ≤ n + 1 ∧ ∀ s ∈ q.1, NOk s ∧ Clean s.1
  | 0, fs, r, z, h, q, hq => by
    unfold absW at hq
    obtain ⟨f, hf, hq⟩ := List.mem_flatMap.mp hq
    rcases List.mem_singleton.mp hq with rfl
    refine ⟨by simp, by simp, fun s hs => ?_⟩
    rcases List.mem_singleton.mp hs with rfl
    exact fok_s4 (h.2.2.1 f hf)
  | n + 1, fs, r, z, h, q, hq => by
    unfold absW at hq
    obtain ⟨f, hf, hq⟩ := List.mem_flatMap.mp hq
    have hs4 := fok_s4 (r := r) (z := z) (h.2.2.1 f hf)
    obtain ⟨nm, rl, kd, rfl, ek, _, _, _, hk⟩ := fok_parts (h.2.2.1 f hf)
    rw [ek] at hq
    cases kd with
    | tup g =>
      obtain ⟨x, hx, rfl⟩ := List.mem_map.mp hq
      obtain ⟨_, a2, a3⟩ := abs_names n g _ _ hk x hx
      refine ⟨by simp, by simp; omega, fun s hs => ?_⟩
      rcases List.mem_cons.mp hs with rfl | hs
      · exact hs4
      · exact a3 s hs
    | str k =>
      rcases List.mem_singleton.mp hq with rfl
      refine ⟨by simp, by simp, fun s hs => ?_⟩
      rcases List.mem_singleton.mp hs with rfl
      exact hs4
    | _ => exact hk.elim
theorem shared_at {u w : List S4} (hu : ∀ s ∈ u ++ w, Clean s.1) : (c_WHOLE_RECORD :: stepsF "" (u ++ w))[u.length]? = some (sharedR u) := by
  cases u with
  | nil => rfl
  | cons s t =>
    obtain ⟨x, hx⟩ : ∃ x, (s :: t)[t.length]? = some x := ⟨_, List.getElem?_eq_getElem (by simp)⟩
    have := steps_at (s := s) (x := x) (t := t) (w := w) (hu s (by simp)) (fun y hy => hu y (by simp at hy ⊢; exact .inr hy)) hx
    have hl : (s :: t).getLast? = some x := by rw [List.getLast?_eq_getElem?]; exact hx
    unfold sharedR
    rw [hl]
    exact this
end PU
set_option Elab.async false
set_option linter.all false
set_option maxRecDepth 100000
set_option maxHeartbeats 4000000
namespace FR
open PySem PySem.Spec L2
/-- plain data of texts, ints, bools, tuples, so deep at most -/
def PL : Nat → D → Prop
  | _, .str x => SOk x
  | _, .int _ => True
  | _, .bl _ => True
  | n + 1, .tup xs => xs.length ≤ 1000000 ∧ ∀ d ∈ xs, PL n d
  | _, _ => False
theorem noLocs_all : ∀ {ds : List D}, (∀ d ∈ ds, noLoc d = true) → noLocs ds = true
  | [], _ => rfl
  | d :: ds, h => by
    simp only [noLocs, Bool.and_eq_true]
    exact ⟨h d List.mem_cons_self, noLocs_all fun x hx => h x (List.mem_cons_of_mem _ hx)⟩
theorem pl_noLoc : ∀ (n : Nat) (d : D), PL n d → noLoc d = true
  | 0, d, h => by cases d <;> first | rfl | exact h.elim
  | n + 1, d, h => by
    cases d with
    | tup xs =>
      simp only [noLoc]
      exact noLocs_all fun x hx => pl_noLoc n x (h.2 x hx)
    | _ => first | rfl | exact h.elim
theorem pl_pys {n : Nat} (ih : ∀ d, PL n d → ∃ p, toPy d = some p ∧ p.canLay0 = true ∧ p.depth ≤ n + 1) : ∀ (xs : List D), (∀ d ∈ xs, PL n d) → ∃ ps, toPys xs = some ps ∧ PyData.canLayAll0 ps = true ∧ PyData.depthAll ps ≤ n + 1
  | [], _ => ⟨[], rfl, rfl, by simp [PyData.depthAll]⟩
  | x :: xs, h => by
    obtain ⟨p, e1, c1, d1⟩ := ih x (h x List.mem_cons_self)
    obtain ⟨ps, e2, c2, d2⟩ := pl_pys ih xs fun y hy => h y (List.mem_cons_of_mem _ hy)
    refine ⟨p :: ps, ?_, ?_, ?_⟩
    · simp only [toPys, e1, e2]
    · simp only [PyData.canLayAll0, c1, c2]; rfl
    · simp only [PyData.depthAll]; omega
theorem pl_py : ∀ (n : Nat) (d : D), PL n d → ∃ p, toPy d = some p ∧ p.canLay0 = true ∧ p.depth ≤ n + 1
  | 0, d, h => by
    cases d with
    | str x => exact ⟨_, rfl, PySem.SeqAt.canLay_of_shaped (shaped_str h), by simp [PyData.depth]⟩
    | int i => exact ⟨_, rfl, rfl, by simp [PyData.depth]⟩
    | bl b => exact ⟨_, rfl, rfl, by simp [PyData.depth]⟩
    | _ => exact h.elim
  | n + 1, d, h => by
    cases d with
    | str x => exact ⟨_, rfl, PySem.SeqAt.canLay_of_shaped (shaped_str h), by simp [PyData.depth]⟩
    | int i => exact ⟨_, rfl, rfl, by simp [PyData.depth]⟩
    | bl b => exact ⟨_, rfl, rfl, by simp [PyData.depth]⟩
    | tup xs =>
      obtain ⟨ps, e, c, dd⟩ := pl_pys (pl_py n) xs h.2
      refine ⟨.tuple ps, ?_, ?_, ?_⟩
      · simp only [toPy, e]; rfl
      · simp only [PyData.canLay0, c]
      · simp only [PyData.depth]; omega
    | _ => exact h.elim
theorem pl_shaped {n : Nat} {d : D} (hn : n ≤ 60) (h : PL n d) : ∃ p, toPy d = some p ∧ SeqAt.shaped p = true ∧ PyData.eqv p p = true := by
  obtain ⟨p, e, c, dd⟩ := pl_py n d h
  refine ⟨p, e, ?_, PySem.SeqAt.eqv_refl_plain p (PySem.PyData.plain_of_canLay0 p c)⟩
  unfold SeqAt.shaped
  rw [c, decide_eq_true (by omega)]
  rfl
theorem eq_refl {n : Nat} {d : D} {m : List O} (hn : n ≤ 60) (h : PL n d) : gEq d d m = .ok (.bl true) m := by
  obtain ⟨p, e, s, r⟩ := pl_shaped hn h
  simp only [gEq, gEqW, e, s, Bool.and_self, if_true, r]
  rfl
theorem eq_some {n k : Nat} {d d' : D} (hn : n ≤ 60) (hk : k ≤ 60) (h : PL n d) (h' : PL k d') : ∃ b, ∀ m, gEq d d' m = .ok (.bl b) m := by
  obtain ⟨p, e, s, _⟩ := pl_shaped hn h
  obtain ⟨p', e', s', _⟩ := pl_shaped hk h'
  refine ⟨PyData.eqv p p', fun m => ?_⟩
  simp only [gEq, gEqW, e, e', s, s', Bool.and_self, if_true]
  rfl
end FR
namespace PU
open PySem PySem.Spec L2 FR
theorem same_bl {f : Nat} {z : Bool} {m : List O} : r__law_same (f + 1) [.bl z, .bl z] m = .ok (.bl true) m := by
  show runF 4 (b__law_same (r__law_same f)) [.bl z, .bl z] m = _
  refine runF_rt (n := 4) (ds := [.bl z, .bl z]) (m' := m) ?_
  show b__law_same (r__law_same f) [some (.bl z), some (.bl z), none, none] m = _
  unfold b__law_same
  cases z <;> rfl
theorem ir1_ok {N : Int} {f : FE} {r : Lc} {m : List O} (h0 : 0 ≤ N) (h1 : N ≤ 1000000) (hf : f r m = .ok (.int N) m) : iR1 (aCons f aNil) r m = .ok (rangeD 0 N) m := by
  have hb : -(2 ^ 62) ≤ N ∧ N < 2 ^ 62 := by omega
  have e1 : (aCons f aNil) r m = .ok [.int N] m := by simp only [aCons, aNil, hf, Rs.bind]
  show ((aCons f aNil r m).bind _) = _
  rw [e1]
  show (if -(2 ^ 62) ≤ N ∧ N < 2 ^ 62 then Rs.ok (rangeD 0 N) m else .stk) = _
  rw [if_pos hb]
theorem same_tupG {f : Nat} {xs : List D} {m : List O} (hl : xs.length ≤ 1000000) (h : ∀ d ∈ xs, ∀ m, r__law_same f [d, d] m = .ok (.bl true) m) : r__law_same (f + 1) [.tup xs, .tup xs] m = .ok (.bl true) m := by
  obtain ⟨N, hN⟩ : ∃ N : Int, N = (xs.length : Int) := ⟨_, rfl⟩
  generalize hT : (D.tup xs) = T
  show runF 4 (b__law_same (r__law_same f)) [T, T] m = _
  refine runF_rt (n := 4) (ds := [T, T]) (m' := m) ?_
  show b__law_same (r__law_same f) [some T, some T, none, none] m = _
  unfold b__law_same
  have lp : ∃ y, (sFor (.nm 3) (iR1 (aCons (fCB bLen (aCons (fVar 1) aNil)) aNil)) (sIf (tNot_ (tTru (fCB (r__law_same f) (aCons (fBin gIx (fVar 0) (fVar 3)) (aCons (fBin gIx (fVar 1) (fVar 3)) aNil))))) (sRet (fC (.bl false))) sNx)) [some T, some T, none, none] m = .ok (.nx [some T, some T, none, y]) m := by
    obtain ⟨r', m', e, y, rfl, rfl⟩ := forL_inv (p := .nm 3) (body := (sIf (tNot_ (tTru (fCB (r__law_same f) (aCons (fBin gIx (fVar 0) (fVar 3)) (aCons (fBin gIx (fVar 1) (fVar 3)) aNil))))) (sRet (fC (.bl false))) sNx)) (fun i rr mm => ∃ y, rr = [some T, some T, none, y] ∧ mm = m) (rangeD 0 N) 0 [some T, some T, none, none] m ⟨none, rfl, rfl⟩ fun i d rr mm hd ⟨y, hrr, hm⟩ => by
      subst hrr hm
      obtain ⟨rfl, hi⟩ := rangeD_get hd
      have hil : i < xs.length := by
        clear hl
        rw [hN] at hi
        exact Int.ofNat_lt.mp hi
      refine ⟨[some T, some T, none, some (.int i)], [some T, some T, none, some (.int i)], mm, rfl, ?_, _, rfl, rfl⟩
      refine (if_f (m' := mm) ?_).trans rfl
      have g : gIx T (.int (i : Int)) mm = .ok xs[i] mm := by
        subst hT
        have : atI xs (i : Int) = some xs[i] := by rw [atN (Int.natCast_nonneg i), Int.toNat_natCast, List.getElem?_eq_getElem hil]
        simp only [gIx, derefS, this]
      have a1 : (aCons (fBin gIx (fVar 0) (fVar 3)) (aCons (fBin gIx (fVar 1) (fVar 3)) aNil)) [some T, some T, none, some (.int (i : Int))] mm = .ok [xs[i], xs[i]] mm := by
        simp only [aCons, aNil, fBin, fVar, Rs.bind, List.getElem?_cons_zero, List.getElem?_cons_succ, g]
      simp only [tNot_, tTru, fCB, Rs.bind, a1, h xs[i] (List.getElem_mem hil), truD, Bool.not_true]
    refine ⟨y, ?_⟩
    have i1 : (iR1 (aCons (fCB bLen (aCons (fVar 1) aNil)) aNil)) [some T, some T, none, none] m' = .ok (rangeD 0 N) m' := by
      refine ir1_ok (by omega) (by omega) ?_
      subst hT
      rw [hN]
      rfl
    show Rs.sq _ _ _ = _
    rw [i1]
    exact e
  obtain ⟨y, lp⟩ := lp
  refine (skip ?_).trans ?_
  · subst hT; simp [tVal, fBin, fVar, fC, Rs.bind, gIs, gIsW, FR.isNon]
  refine (skip ?_).trans ?_
  · subst hT; simp [tTru, truD, fCB, aCons, aNil, fVar, fC, Rs.bind, bIsi, tyD, kb_tb]
  refine (skip ?_).trans ?_
  · subst hT; simp [tTru, truD, fCB, aCons, aNil, fVar, fC, Rs.bind, bIsi, tyD, kb_ti]
  refine (skip ?_).trans ?_
  · subst hT; simp [tTru, truD, fCB, aCons, aNil, fVar, fC, Rs.bind, bIsi, tyD, kb_ts]
  refine (skip ?_).trans ?_
  · subst hT; simp [tTru, truD, fCB, aCons, aNil, fVar, fC, Rs.bind, bIsi, tyD, kb_td]
  refine (skip ?_).trans ?_
  · subst hT; simp [tAnd_, tNot_, tTru, truD, fCB, aCons, aNil, fVar, fC, Rs.bind, bIsi, tyD, kb_tt]
  refine (skip ?_).trans ?_
  · subst hT; simp [tAnd_, tNot_, tTru, truD, fCB, aCons, aNil, fVar, fC, Rs.bind, bIsi, tyD, kb_tl]
  refine (skip ?_).trans ?_
  · subst hT; simp only [tVal, fBin, fCB, aCons, aNil, fVar, Rs.bind, List.getElem?_cons_zero, List.getElem?_cons_succ, bLen, derefS, ne_int, decide_true, Bool.not_true]
  exact (seq_nx lp).trans rfl
theorem pl_same : ∀ (n f : Nat) (d : D), n < f → PL n d → ∀ m, r__law_same f [d, d] m = .ok (.bl true) m
  | n, 0, d, hf, h, m => by omega
  | 0, f + 1, d, hf, h, m => by
    cases d with
    | str x => exact same_str h
    | int i => exact same_int
    | bl b => exact same_bl
    | _ => exact h.elim
  | n + 1, f + 1, d, hf, h, m => by
    cases d with
    | str x => exact same_str h
    | int i => exact same_int
    | bl b => exact same_bl
    | tup xs => exact same_tupG h.1 fun x hx m => pl_same n f x (by omega) (h.2 x hx) m
    | _ => exact h.elim
theorem same_iso {n : Nat} {d : D} {m : List O} (hn : n < 4) (h : PL n d) : iso o__law_same [d, d] m = .ok (.bl true) m := by
  unfold iso
  have hl := pl_noLoc n d h
  rw [if_pos (by simp only [noLocs, hl]; rfl), show o__law_same [d, d] [] = .ok (.bl true) [] from pl_same n 12 d (by omega) h []]
  rfl
end PU
set_option Elab.async false
set_option linter.all false
set_option maxRecDepth 100000
set_option maxHeartbeats 4000000
namespace FR
open PySem PySem.Spec L2
/-- the levels along a way -/
def WayLv : Int → Int → List S4 → Prop
  | _, _, [] => True
  | r, z, s :: w => s.2.2.1 = (nxt s.2.1 r z).1 ∧ s.2.2.2 = (nxt s.2.1 r z).2 ∧ WayLv s.2.2.1 s.2.2.2 w
theorem nxt_ge {rl : Str} {r z : Int} : r ≤ (nxt rl r z).1 ∧ z ≤ (nxt rl r z).2 := by
  unfold nxt
  constructor <;> (simp only []; split <;> omega)
theorem way_ge : ∀ {w : List S4} {r z : Int}, WayLv r z w → ∀ s ∈ w, r ≤ s.2.2.1 ∧ z ≤ s.2.2.2
  | [], _, _, _, s, h => by simp at h
  | x :: w, r, z, h, s, hs => by
    obtain ⟨h1, h2, h3⟩ := h
    have g := nxt_ge (rl := x.2.1) (r := r) (z := z)
    rw [← h1, ← h2] at g
    rcases List.mem_cons.mp hs with q | q
    · subst q; exact g
    · have i := way_ge h3 s q
      exact ⟨Int.le_trans g.1 i.1, Int.le_trans g.2 i.2⟩
/-- the definition levels of the repeated fields on a way -/
def startsW (w : List S4) : List Int := (w.filter fun s => decide (s.2.1 = ("repeated" : Str))).map (·.2.2.2)
/-- those of the steps with this repetition level -/
def atW (k : Int) (w : List S4) : List Int := (w.filter fun s => decide (s.2.2.1 = k)).map (·.2.2.2)
theorem start_is : ∀ {w : List S4} {r z k : Int}, WayLv r z w → r < k → ∀ {x : Int} {xs : List Int}, atW k w = x :: xs → (∀ y ∈ xs, x ≤ y) ∧ (startsW w)[(k - r - 1).toNat]? = some x
  | [], r, z, k, _, _, x, xs, e => by simp [atW] at e
  | s :: w, r, z, k, h, hk, x, xs, e => by
    obtain ⟨h1, h2, h3⟩ := h
    by_cases hr : s.2.1 = ("repeated" : Str)
    · have e1 : s.2.2.1 = r + 1 := by rw [h1]; unfold nxt; simp [hr]
      have es : startsW (s :: w) = s.2.2.2 :: startsW w := by unfold startsW; simp [hr]
      by_cases hq : k = r + 1
      · have ea : atW k (s :: w) = s.2.2.2 :: atW k w := by unfold atW; simp [e1, hq]
        rw [ea] at e
        injection e with e2 e3
        subst e2
        refine ⟨fun y hy => ?_, ?_⟩
        · rw [← e3] at hy
          unfold atW at hy
          obtain ⟨t, ht, rfl⟩ := List.mem_map.mp hy
          exact (way_ge h3 t (List.mem_filter.mp ht).1).2
        · rw [es, show (k - r - 1).toNat = 0 by omega]
          rfl
      · have ea : atW k (s :: w) = atW k w := by
          unfold atW
          rw [List.filter_cons_of_neg (by simp [e1]; omega)]
        rw [ea] at e
        rw [e1] at h3
        obtain ⟨i1, i2⟩ := start_is h3 (by omega) e
        refine ⟨i1, ?_⟩
        rw [es, show (k - r - 1).toNat = (k - (r + 1) - 1).toNat + 1 by omega, List.getElem?_cons_succ]
        exact i2
    · have e1 : s.2.2.1 = r := by rw [h1]; unfold nxt; simp [hr]
      have es : startsW (s :: w) = startsW w := by unfold startsW; simp [hr]
      have ea : atW k (s :: w) = atW k w := by
        unfold atW
        rw [List.filter_cons_of_neg (by simp [e1]; omega)]
      rw [ea] at e
      rw [e1] at h3
      rw [es]
      exact start_is h3 hk e
/-- up to the last step's repetition level, each one stands on the way -/
theorem at_some : ∀ {w : List S4} {r z k : Int} {l : S4}, WayLv r z w → w.getLast? = some l → r < k → k ≤ l.2.2.1 → atW k w ≠ []
  | [], _, _, _, _, _, h, _, _ => by simp at h
  | s :: w, r, z, k, l, h, hl, h1, h2 => by
    obtain ⟨a1, a2, a3⟩ := h
    by_cases hq : s.2.2.1 = k
    · unfold atW
      simp [hq]
    · have hr : s.2.2.1 < k := by
        have : s.2.2.1 ≤ r + 1 := by rw [a1]; unfold nxt; simp only []; split <;> omega
        omega
      cases w with
      | nil =>
        simp at hl
        subst hl
        omega
      | cons t w =>
        have i := at_some a3 (by rw [List.getLast?_cons_cons] at hl; exact hl) hr h2
        unfold atW at i ⊢
        rw [List.filter_cons_of_neg (by simp [hq])]
        exact i
end FR
namespace PU
open PySem PySem.Spec L2 FR
theorem abs_way : ∀ (n : Nat) (fs : List D) (r z : Int), FsOk (KOk n) fs → ∀ q ∈ absW n fs r z, WayLv r z q.1
  | 0, fs, r, z, h, q, hq => by
    unfold absW at hq
    obtain ⟨f, hf, hq⟩ := List.mem_flatMap.mp hq
    rcases List.mem_singleton.mp hq with rfl
    exact ⟨rfl, rfl, trivial⟩
  | n + 1, fs, r, z, h, q, hq => by
    unfold absW at hq
    obtain ⟨f, hf, hq⟩ := List.mem_flatMap.mp hq
    obtain ⟨nm, rl, kd, rfl, ek, en, _, _, hk⟩ := fok_parts (h.2.2.1 f hf)
    rw [ek] at hq
    cases kd with
    | tup g =>
      obtain ⟨x, hx, rfl⟩ := List.mem_map.mp hq
      exact ⟨rfl, rfl, abs_way n g _ _ hk x hx⟩
    | str k =>
      rcases List.mem_singleton.mp hq with rfl
      exact ⟨rfl, rfl, trivial⟩
    | _ => exact hk.elim
end PU
set_option Elab.async false
set_option linter.all false
set_option maxRecDepth 100000
set_option maxHeartbeats 4000000
namespace FR
open PySem PySem.Spec L2
theorem minI_first {x : Int} {xs : List Int} (h : ∀ y ∈ xs, x ≤ y) : minI x xs = x := by
  obtain ⟨h1, h2, h3⟩ := minI_le xs x
  rcases h3 with e | e
  · exact e
  · have := h _ e
    omega
theorem intsD_ints : ∀ xs : List Int, intsD (xs.map D.int) = some xs
  | [] => rfl
  | x :: xs => by simp only [List.map_cons, intsD, intsD_ints xs, Option.map_some]
def lvF (k : Int) : D → Option D
  | .tup [_, .int r, .int z] => if r = k then some (.int z) else none
  | _ => none
theorem steps_lv (k : Int) : ∀ (w : List S4) (p : Str), (stepsF p w).filterMap (lvF k) = (atW k w).map D.int
  | [], p => rfl
  | (nm, rl, r, z) :: w, p => by
    have ih := steps_lv k w (joinP p nm)
    by_cases h : r = k
    · have e : atW k ((nm, rl, r, z) :: w) = z :: atW k w := by unfold atW; simp [h]
      rw [e]
      show List.filterMap (lvF k) (.tup [.str (joinP p nm), .int r, .int z] :: stepsF (joinP p nm) w) = _
      rw [List.filterMap_cons, show lvF k (.tup [.str (joinP p nm), .int r, .int z]) = some (.int z) from if_pos h, ih]
      rfl
    · have e : atW k ((nm, rl, r, z) :: w) = atW k w := by unfold atW; simp [h]
      rw [e]
      show List.filterMap (lvF k) (.tup [.str (joinP p nm), .int r, .int z] :: stepsF (joinP p nm) w) = _
      rw [List.filterMap_cons, show lvF k (.tup [.str (joinP p nm), .int r, .int z]) = none from if_neg h, ih]
theorem steps_shape : ∀ (w : List S4) (p : Str), ∀ d ∈ stepsF p w, ∃ a r z, d = .tup [.str a, .int r, .int z]
  | [], p, d, h => by simp [stepsF] at h
  | (nm, rl, r, z) :: w, p, d, h => by
    rcases List.mem_cons.mp h with q | q
    · exact ⟨_, _, _, q⟩
    · exact steps_shape w _ d q
end FR
namespace PU
open PySem PySem.Spec L2 FR
/-- what the law tells of a leaf -/
def leafA (q : List S4 × D) : D := match q.1.getLast? with
  | some x => .tup [.str (Str.join "." (q.1.map (·.1))), q.2, .int x.2.2.1, .int x.2.2.2]
  | none => .non
/-- the schema that is made of drawn fields -/
def SCV (fs : List D) : D := .ins "Schema" ["fields", "ways", "leaves"] [.tup fs, .tup ((waysS 2 fs).map wayD), .tup ((absW 2 fs 0 0).map leafA)]
theorem ways_at {P : List D} {i : Nat} {w : List S4} {k : D} (h : (absW 2 P 0 0)[i]? = some (w, k)) : ((waysS 2 P).map wayD)[i]? = some (.tup (c_WHOLE_RECORD :: stepsF "" w)) := by
  have e : waysS 2 P = (absW 2 P 0 0).map fun q => .tup [.tup ([c_WHOLE_RECORD] ++ stepsF "" q.1), q.2] := waysF_abs 2 P [c_WHOLE_RECORD] "" 0 0
  rw [e, List.map_map, List.getElem?_map, h]
  rfl
end PU
set_option Elab.async false
set_option linter.all false
set_option maxRecDepth 100000
set_option maxHeartbeats 4000000
namespace FR
open PySem PySem.Spec L2
/-- names as numbers, each behind a dot -/
def jn (l : List Str) : List Nat := (l.map fun x => (46 :: x.cps.toList : List Nat)).flatten
theorem jn_cons {s : Str} {l : List Str} : jn (s :: l) = 46 :: (s.cps.toList ++ jn l) := by simp [jn]
theorem jn_app {a b : List Str} : jn (a ++ b) = jn a ++ jn b := by simp [jn]
theorem jn_shape (l : List Str) : jn l = [] ∨ ∃ x, jn l = 46 :: x := by
  cases l with
  | nil => exact .inl rfl
  | cons s l => exact .inr ⟨_, jn_cons⟩
theorem jn_inj : ∀ {a b : List Str}, (∀ x ∈ a, Clean x) → (∀ x ∈ b, Clean x) → jn a = jn b → a = b
  | [], [], _, _, _ => rfl
  | [], y :: b, _, _, h => by rw [jn_cons] at h; cases h
  | x :: a, [], _, _, h => by rw [jn_cons] at h; cases h
  | x :: a, y :: b, ha, hb, h => by
    rw [jn_cons, jn_cons] at h
    injection h with _ h
    have e := cut_eq _ _ _ _ (ha x List.mem_cons_self).2 (hb y List.mem_cons_self).2 (jn_shape a) (jn_shape b) h
    rw [e] at h
    rw [str_ext e, jn_inj (fun z hz => ha z (List.mem_cons_of_mem _ hz)) (fun z hz => hb z (List.mem_cons_of_mem _ hz)) (List.append_cancel_left h)]
theorem join_jn {l : List Str} (h : l ≠ []) : 46 :: (Str.join "." l).cps.toList = jn l := by
  cases l with
  | nil => exact absurd rfl h
  | cons s l => rw [join_toList, jn_cons]; rfl
theorem join_inj {a b : List Str} (na : a ≠ []) (nb : b ≠ []) (ha : ∀ x ∈ a, Clean x) (hb : ∀ x ∈ b, Clean x) (h : Str.join "." a = Str.join "." b) : a = b :=
  jn_inj ha hb (by rw [← join_jn na, ← join_jn nb, h])
theorem split_names {a b : List S4} (h : Split a b) : a.map (·.1) ≠ b.map (·.1) := by
  obtain ⟨u, s1, t1, s2, t2, rfl, rfl, hne⟩ := h
  intro e
  rw [List.map_append, List.map_append] at e
  have := List.append_cancel_left e
  simp only [List.map_cons] at this
  injection this with e1 _
  exact hne e1
end FR
namespace PU
open PySem PySem.Spec L2 FR
/-- the path of a leaf -/
def pathA (q : List S4 × D) : Str := Str.join "." (q.1.map (·.1))
theorem names_ok {n : Nat} {fs : List D} {r z : Int} (h : FsOk (KOk n) fs) {q : List S4 × D} (hq : q ∈ absW n fs r z) : q.1.map (·.1) ≠ [] ∧ ∀ x ∈ q.1.map (·.1), Clean x := by
  obtain ⟨b1, b2, b3⟩ := abs_names n fs r z h q hq
  refine ⟨by simpa using b1, fun x hx => ?_⟩
  obtain ⟨s, hs, rfl⟩ := List.mem_map.mp hx
  exact (b3 s hs).2
theorem paths_ne {n : Nat} {fs : List D} (h : FsOk (KOk n) fs) : ((absW n fs 0 0).map pathA).Pairwise (· ≠ ·) := by
  rw [List.pairwise_map]
  refine (abs_split n fs 0 0 h).imp_of_mem fun {a b} ha hb hs e => ?_
  obtain ⟨a1, a2⟩ := names_ok h ha
  obtain ⟨b1, b2⟩ := names_ok h hb
  exact split_names hs (join_inj a1 b1 a2 b2 e)
theorem leaf_eq {n : Nat} {fs : List D} (h : FsOk (KOk n) fs) : (waysS n fs).map leafD = (absW n fs 0 0).map leafA := by
  have e : waysS n fs = (absW n fs 0 0).map fun q => .tup [.tup ([c_WHOLE_RECORD] ++ stepsF "" q.1), q.2] := waysF_abs n fs [c_WHOLE_RECORD] "" 0 0
  rw [e, List.map_map]
  refine List.map_congr_left fun q hq => ?_
  obtain ⟨w, kd⟩ := q
  obtain ⟨b1, b2, b3⟩ := abs_names n fs 0 0 h _ hq
  have hs := shared_at (u := w) (w := []) (fun s hs => by rw [List.append_nil] at hs; exact (b3 s hs).2)
  rw [List.append_nil] at hs
  have hl : (stepsF "" w).length = w.length := by have := (steps_app2 w [] "").2; exact this
  have hlast : (c_WHOLE_RECORD :: stepsF "" w).getLastD .non = sharedR w := by
    rw [List.getLastD_eq_getLast?, List.getLast?_eq_getElem?]
    rw [show (c_WHOLE_RECORD :: stepsF "" w).length - 1 = w.length by simp [hl], hs]
    rfl
  show leafOf ((c_WHOLE_RECORD :: stepsF "" w).getLastD .non) kd = leafA (w, kd)
  rw [hlast]
  unfold sharedR leafA
  cases hw : w.getLast? with
  | none => exact absurd (List.getLast?_eq_none_iff.mp hw) b1
  | some x => rfl
/-- the names on the ways are among those drawn -/
theorem one_name : ∀ (n : Nat) (fs : List D) (r z : Int), FsOk (KOk n) fs → ∀ q ∈ absW n fs r z, ∀ g, q.1.map (·.1) = [g] → ∃ f ∈ fs, nameD f = g ∧ ∃ k, kindD f = .str k := by
  intro n fs r z h q hq g hg
  cases n with
  | zero =>
    unfold absW at hq
    obtain ⟨f, hf, hq⟩ := List.mem_flatMap.mp hq
    rcases List.mem_singleton.mp hq with rfl
    obtain ⟨nm, rl, kd, rfl, ek, en, _, _, hk⟩ := fok_parts (h.2.2.1 f hf)
    refine ⟨_, hf, ?_, ?_⟩
    · simpa [s4] using hg
    · rw [ek]
      cases kd with
      | str k => exact ⟨k, rfl⟩
      | _ => exact hk.elim
  | succ n =>
    unfold absW at hq
    obtain ⟨f, hf, hq⟩ := List.mem_flatMap.mp hq
    obtain ⟨nm, rl, kd, rfl, ek, en, _, _, hk⟩ := fok_parts (h.2.2.1 f hf)
    rw [ek] at hq
    cases kd with
    | tup gs =>
      obtain ⟨x, hx, rfl⟩ := List.mem_map.mp hq
      obtain ⟨a1, _, _⟩ := abs_names n gs _ _ hk x hx
      simp at hg
      exact absurd hg.2 a1
    | str k =>
      rcases List.mem_singleton.mp hq with rfl
      exact ⟨_, hf, by simpa [s4] using hg, k, ek⟩
    | _ => exact hk.elim
end PU
set_option Elab.async false
set_option linter.all false
set_option maxRecDepth 100000
set_option maxHeartbeats 4000000
namespace FR
open PySem PySem.Spec L2
theorem sok_jn : ∀ {l : List Str}, (∀ x ∈ l, SOk x) → SOk (Str.join "." l)
  | [], _ => by unfold SOk; decide +kernel
  | s :: l, h => by
    rw [sok_list, join_toList]
    intro c hc
    rcases List.mem_append.mp hc with q | q
    · exact sok_list.mp (h s List.mem_cons_self) c q
    · rw [List.mem_flatten] at q
      obtain ⟨x, hx, hcx⟩ := q
      obtain ⟨y, hy, rfl⟩ := List.mem_map.mp hx
      rcases List.mem_cons.mp hcx with z | z
      · subst z; decide
      · exact sok_list.mp (h y (List.mem_cons_of_mem _ hy)) c z
theorem steps_nl : ∀ (w : List S4) (p : Str), noLocs (stepsF p w) = true
  | [], _ => rfl
  | (nm, rl, r, z) :: w, p => by
    simp only [stepsF, noLocs, noLoc, steps_nl w, Bool.and_self]
end FR
namespace PU
open PySem PySem.Spec L2 FR
theorem kind_sok {k : Str} (h : k ∈ KINDS3) : SOk k := by
  have h2 : k = "int" ∨ k = "text" ∨ k = "flag" := by simpa [KINDS3] using h
  rcases h2 with rfl | rfl | rfl <;> (unfold SOk; decide +kernel)
theorem pl_str {n : Nat} {x : Str} (h : SOk x) : PL n (.str x) := by cases n <;> exact h
theorem pl_int {n : Nat} {i : Int} : PL n (.int i) := by cases n <;> trivial
theorem fs_pl : ∀ (n : Nat) (fs : List D), FsOk (KOk n) fs → PL (2 * n + 2) (.tup fs) := by
  intro n
  induction n with
  | zero =>
    intro fs h
    refine ⟨by have := h.2.1; omega, fun d hd => ?_⟩
    obtain ⟨nm, rl, kd, rfl, ek, en, hn, hr, hk⟩ := fok_parts (h.2.2.1 d hd)
    refine ⟨by simp, fun x hx => ?_⟩
    simp only [List.mem_cons, List.not_mem_nil, or_false] at hx
    rcases hx with rfl | rfl | rfl
    · exact pl_str hn.1.2.2.2
    · exact pl_str (rule_sok hr)
    · cases x with
      | str k => exact pl_str (kind_sok hk)
      | _ => exact hk.elim
  | succ n ih =>
    intro fs h
    refine ⟨by have := h.2.1; omega, fun d hd => ?_⟩
    obtain ⟨nm, rl, kd, rfl, ek, en, hn, hr, hk⟩ := fok_parts (h.2.2.1 d hd)
    refine ⟨by simp, fun x hx => ?_⟩
    simp only [List.mem_cons, List.not_mem_nil, or_false] at hx
    rcases hx with rfl | rfl | rfl
    · exact pl_str hn.1.2.2.2
    · exact pl_str (rule_sok hr)
    · cases x with
      | str k => exact pl_str (kind_sok hk)
      | tup g => exact ih g hk
      | _ => exact hk.elim
theorem kind_str : ∀ (n : Nat) (fs : List D) (r z : Int), FsOk (KOk n) fs → ∀ q ∈ absW n fs r z, ∃ k ∈ KINDS3, q.2 = .str k := by
  intro n
  induction n with
  | zero =>
    intro fs r z h q hq
    unfold absW at hq
    obtain ⟨f, hf, hq⟩ := List.mem_flatMap.mp hq
    rcases List.mem_singleton.mp hq with rfl
    obtain ⟨nm, rl, kd, rfl, ek, _, _, _, hk⟩ := fok_parts (h.2.2.1 f hf)
    cases kd with
    | str k => exact ⟨k, hk, rfl⟩
    | _ => exact hk.elim
  | succ n ih =>
    intro fs r z h q hq
    unfold absW at hq
    obtain ⟨f, hf, hq⟩ := List.mem_flatMap.mp hq
    obtain ⟨nm, rl, kd, rfl, ek, _, _, _, hk⟩ := fok_parts (h.2.2.1 f hf)
    rw [ek] at hq
    cases kd with
    | tup g =>
      obtain ⟨x, hx, rfl⟩ := List.mem_map.mp hq
      exact ih g _ _ hk x hx
    | str k =>
      rcases List.mem_singleton.mp hq with rfl
      exact ⟨k, hk, rfl⟩
    | _ => exact hk.elim
theorem path_sok {fs : List D} (h : FsOk (KOk 2) fs) {q : List S4 × D} (hq : q ∈ absW 2 fs 0 0) : SOk (pathA q) :=
  sok_jn fun x hx => by
    obtain ⟨s, hs, rfl⟩ := List.mem_map.mp hx
    exact ((abs_names 2 fs 0 0 h q hq).2.2 s hs).1.1
theorem leafA_tup {q : List S4 × D} (h : q.1 ≠ []) : ∃ a b, leafA q = .tup [.str (pathA q), q.2, .int a, .int b] := by
  unfold leafA
  cases hw : q.1.getLast? with
  | none => exact absurd (List.getLast?_eq_none_iff.mp hw) h
  | some x => exact ⟨_, _, rfl⟩
theorem abs_le {fs : List D} (h : FsOk (KOk 2) fs) (hl : leaves 2 fs ≤ 12) : (absW 2 fs 0 0).length ≤ 12 := by rw [abs_len h]; exact hl
theorem leaf_pl {fs : List D} (h : FsOk (KOk 2) fs) {q : List S4 × D} (hq : q ∈ absW 2 fs 0 0) : PL 1 (leafA q) := by
  obtain ⟨a, b, e⟩ := leafA_tup (abs_names 2 fs 0 0 h q hq).1
  obtain ⟨k, hk, e2⟩ := kind_str 2 fs 0 0 h q hq
  rw [e, e2]
  refine ⟨by simp, fun x hx => ?_⟩
  simp only [List.mem_cons, List.not_mem_nil, or_false] at hx
  rcases hx with rfl | rfl | rfl | rfl
  · exact pl_str (path_sok h hq)
  · exact pl_str (kind_sok hk)
  · exact pl_int
  · exact pl_int
theorem lv_pl {fs : List D} (h : FsOk (KOk 2) fs) (hl : leaves 2 fs ≤ 12) : PL 2 (.tup ((absW 2 fs 0 0).map leafA)) := by
  refine ⟨by rw [List.length_map]; have := abs_le h hl; omega, fun d hd => ?_⟩
  obtain ⟨q, hq, rfl⟩ := List.mem_map.mp hd
  exact leaf_pl h hq
theorem scv_nl {fs : List D} (h : FsOk (KOk 2) fs) (hl : leaves 2 fs ≤ 12) : noLocs [.tup fs, .tup ((waysS 2 fs).map wayD), .tup ((absW 2 fs 0 0).map leafA)] = true := by
  have h1 := pl_noLoc 6 (.tup fs) (fs_pl 2 fs h)
  have h3 := pl_noLoc 2 _ (lv_pl h hl)
  have h2 : noLocs ((waysS 2 fs).map wayD) = true := noLocs_all fun d hd => by
    have e : waysS 2 fs = (absW 2 fs 0 0).map fun q => .tup [.tup ([c_WHOLE_RECORD] ++ stepsF "" q.1), q.2] := waysF_abs 2 fs [c_WHOLE_RECORD] "" 0 0
    rw [e, List.map_map] at hd
    obtain ⟨q, hq, rfl⟩ := List.mem_map.mp hd
    show noLocs (c_WHOLE_RECORD :: stepsF "" q.1) = true
    simp only [noLocs, steps_nl]
    rfl
  have h1' : noLocs fs = true := h1
  have h3' : noLocs ((absW 2 fs 0 0).map leafA) = true := h3
  simp only [noLocs, h1', h3', noLoc, h2, Bool.and_self]
theorem sc_nl {fs : List D} (h : FsOk (KOk 2) fs) (hl : leaves 2 fs ≤ 12) : noLoc (SCV fs) = true := scv_nl h hl
theorem make_ok {fs : List D} (h : FsOk (KOk 2) fs) (hl : leaves 2 fs ≤ 12) {fa : FA} {r : Lc} {m : List O} (ha : fa r m = .ok [.tup fs] m) : fMakeI "Schema" o_Schema fa r m = .ok (SCV fs) m := by
  obtain ⟨m', e1, e2, _⟩ := init_ok (n := 2) (fs := fs) (m := [.ins "Schema" [] []]) (q := 0) (by decide) h hl rfl
  have hn : noLocs [.tup fs] = true := by
    have := pl_noLoc 6 (.tup fs) (fs_pl 2 fs h)
    simp only [noLocs, this, Bool.and_self]
  cases m' with
  | nil => cases e2
  | cons o1 m2 =>
    have e3 : o1 = .ins "Schema" ["fields", "ways", "leaves"] [.tup fs, .tup ((waysS 2 fs).map wayD), .tup ((absW 2 fs 0 0).map leafA)] := by
      rw [← leaf_eq h]
      exact Option.some.inj e2
    subst e3
    unfold fMakeI
    rw [ha]
    show (if noLocs [.tup fs] = true then _ else _) = _
    rw [if_pos hn, e1]
    show (if noLocs [.tup fs, .tup ((waysS 2 fs).map wayD), .tup ((absW 2 fs 0 0).map leafA)] = true then _ else _) = _
    rw [if_pos (scv_nl h hl)]
    rfl
theorem lv_pos : ∀ (n : Nat) (kd : D), KOk n kd → 1 ≤ lvK n kd := by
  intro n
  induction n with
  | zero =>
    intro kd h
    cases kd with
    | str k => rw [lv_str]; exact Nat.le_refl _
    | _ => exact h.elim
  | succ n ih =>
    intro kd h
    cases kd with
    | str k => rw [lv_str]; exact Nat.le_refl _
    | tup g =>
      have hg : FsOk (KOk n) g := h
      cases g with
      | nil => exact absurd rfl hg.1
      | cons y ys =>
        have hy := hg.2.2.1 y List.mem_cons_self
        obtain ⟨nm, rl, kd, rfl, ek, _, _, _, hk⟩ := fok_parts hy
        have := ih kd hk
        show 1 ≤ ((D.tup [.str nm, .str rl, kd] :: ys).map fun f => lvK n (kindD f)).sum
        rw [List.map_cons, List.sum_cons, ek]
        omega
    | _ => exact h.elim
end PU
local macro_rules | `(tactic| simp_arith [$ts,*]) => `(tactic| simp -implicitDefEqProofs only [FR.bok, FR.bex, FR.sok, FR.sex, FR.x_var0, FR.x_varS, FR.x_c, FR.x_bin, FR.x_un, FR.x_cb, FR.x_nil, FR.x_cons, FR.x_tup, FR.x_lst, FR.x_new, FR.x_frz, FR.x_set, FR.x_asg, FR.x_ret, FR.x_exp, FR.x_if, FR.x_ifE, FR.ifK_t, FR.ifK_f, FR.ifK_x, FR.ifE_t, FR.ifE_f, FR.ifE_x, FR.x_nx, FR.x_bk, FR.x_ct, FR.x_retN, FR.x_seq, FR.sqT_nx, FR.sqT_rt, FR.sqT_bk, FR.sqT_ct, FR.sqT_ex, FR.x_raise, FR.fin_nx, FR.fin_rt, FR.fin_ex, FR.x_tru, FR.x_not, FR.x_and, FR.x_or, FR.ifT_t, FR.ifT_f, FR.ifT_x, FR.x_for, FR.x_fgtB, FR.x_fgtE, FR.x_lc, FR.x_all, FR.x_val, FR.forL_nil, FR.y_chain, FR.x_andE, FR.x_orE, FR.asg, FR.setAll, FR.wipeL, FR.fgtR, FR.truD, FR.derefL, FR.derefS, List.set_cons_zero, List.set_cons_succ, List.getElem?_cons_zero, List.getElem?_cons_succ, List.length_cons, List.length_nil, FR.y_add, FR.y_sub, FR.y_lt, FR.y_le, FR.y_gt, FR.y_ge, FR.y_neg, FR.y_not, FR.y_eqI, FR.y_neI, FR.y_isN, FR.y_isNotN, FR.y_isTy, FR.y_isNotTy, FR.y_nonN, FR.y_nonI, FR.y_nonS, FR.y_nonB, FR.y_nonT, FR.y_nonL, FR.y_lenT, FR.y_lenL, FR.y_ixT0, FR.y_ixT1, FR.y_ixT2, FR.y_ixT3, FR.y_ixL0, FR.y_ixL1, FR.y_ixL2, FR.y_ixL3, FR.w_at0, FR.w_at1, FR.w_at2, FR.w_at3, FR.w_atN, FR.w_atL, FR.y_tyT, FR.y_tyL, FR.y_tyI, FR.y_tyB, FR.y_tyS, FR.y_tyN, FR.z_tyT, FR.z_tyL, FR.z_tyI, FR.z_tyB, FR.z_tyS, FR.z_tyN, FR.z_tyD, FR.y_tupL, FR.y_tupT, FR.y_lstT, FR.y_lstL, FR.y_intB, FR.y_intI, decide_true, decide_false, Bool.not_true, Bool.not_false, if_true, if_false, Bool.false_eq_true, reduceIte, reduceCtorEq, Nat.reduceAdd, Nat.reduceLeDiff, String.reduceEq, Int.cast_ofNat_Int, Int.natCast_add, Int.cast_ofNat_Int, FR.y_mod, FR.y_fdiv, FR.y_min2, FR.x_r1, FR.x_r2, FR.found_s, FR.found_n, FR.x_app, FR.alld_l, FR.alld_t, FR.alld_s, FR.x_sl, FR.x_pno, FR.x_pso, FR.so_i, FR.sl_t, FR.sl_l, FR.x_put, FR.putK_s, $ts,*])
local macro_rules | `(tactic| simp_arith []) => `(tactic| simp -implicitDefEqProofs only [FR.bok, FR.bex, FR.sok, FR.sex, FR.x_var0, FR.x_varS, FR.x_c, FR.x_bin, FR.x_un, FR.x_cb, FR.x_nil, FR.x_cons, FR.x_tup, FR.x_lst, FR.x_new, FR.x_frz, FR.x_set, FR.x_asg, FR.x_ret, FR.x_exp, FR.x_if, FR.x_ifE, FR.ifK_t, FR.ifK_f, FR.ifK_x, FR.ifE_t, FR.ifE_f, FR.ifE_x, FR.x_nx, FR.x_bk, FR.x_ct, FR.x_retN, FR.x_seq, FR.sqT_nx, FR.sqT_rt, FR.sqT_bk, FR.sqT_ct, FR.sqT_ex, FR.x_raise, FR.fin_nx, FR.fin_rt, FR.fin_ex, FR.x_tru, FR.x_not, FR.x_and, FR.x_or, FR.ifT_t, FR.ifT_f, FR.ifT_x, FR.x_for, FR.x_fgtB, FR.x_fgtE, FR.x_lc, FR.x_all, FR.x_val, FR.forL_nil, FR.y_chain, FR.x_andE, FR.x_orE, FR.asg, FR.setAll, FR.wipeL, FR.fgtR, FR.truD, FR.derefL, FR.derefS, List.set_cons_zero, List.set_cons_succ, List.getElem?_cons_zero, List.getElem?_cons_succ, List.length_cons, List.length_nil, FR.y_add, FR.y_sub, FR.y_lt, FR.y_le, FR.y_gt, FR.y_ge, FR.y_neg, FR.y_not, FR.y_eqI, FR.y_neI, FR.y_isN, FR.y_isNotN, FR.y_isTy, FR.y_isNotTy, FR.y_nonN, FR.y_nonI, FR.y_nonS, FR.y_nonB, FR.y_nonT, FR.y_nonL, FR.y_lenT, FR.y_lenL, FR.y_ixT0, FR.y_ixT1, FR.y_ixT2, FR.y_ixT3, FR.y_ixL0, FR.y_ixL1, FR.y_ixL2, FR.y_ixL3, FR.w_at0, FR.w_at1, FR.w_at2, FR.w_at3, FR.w_atN, FR.w_atL, FR.y_tyT, FR.y_tyL, FR.y_tyI, FR.y_tyB, FR.y_tyS, FR.y_tyN, FR.z_tyT, FR.z_tyL, FR.z_tyI, FR.z_tyB, FR.z_tyS, FR.z_tyN, FR.z_tyD, FR.y_tupL, FR.y_tupT, FR.y_lstT, FR.y_lstL, FR.y_intB, FR.y_intI, decide_true, decide_false, Bool.not_true, Bool.not_false, if_true, if_false, Bool.false_eq_true, reduceIte, reduceCtorEq, Nat.reduceAdd, Nat.reduceLeDiff, String.reduceEq, Int.cast_ofNat_Int, Int.natCast_add, Int.cast_ofNat_Int, FR.y_mod, FR.y_fdiv, FR.y_min2, FR.x_r1, FR.x_r2, FR.found_s, FR.found_n, FR.x_app, FR.alld_l, FR.alld_t, FR.alld_s, FR.x_sl, FR.x_pno, FR.x_pso, FR.so_i, FR.sl_t, FR.sl_l, FR.x_put, FR.putK_s])

set_option Elab.async false
set_option linter.all false
set_option maxRecDepth 100000
set_option maxHeartbeats 4000000
namespace FR
open PySem PySem.Spec L2
set_option autoImplicit false
/-! ### typed data -/
inductive Ru where | req | opt | rep
  deriving DecidableEq
inductive Kd where | int | text | flag
  deriving DecidableEq
inductive Vl where | int (i : Int) | str (x : Str) | bl (b : Bool)
  deriving DecidableEq
structure En where
  r : Nat
  d : Nat
  v : Option Vl
  deriving DecidableEq
abbrev Col := List En
def ruS : Ru → Str | .req => "required" | .opt => "optional" | .rep => "repeated"
def kdS : Kd → Str | .int => "int" | .text => "text" | .flag => "flag"
def encV : Vl → D | .int i => .int i | .str x => .str x | .bl b => .bl b
def encO : Option Vl → D | none => .non | some v => encV v
def encE (e : En) : D := .tup [.int e.r, .int e.d, encO e.v]
def encC (c : Col) : D := .tup (c.map encE)
def encP : Option Col → D | none => .non | some c => encC c
def encPs (ps : List (Option Col)) : D := .tup (ps.map encP)
def SG : Str := "abcdefghijklmnopqrstuvwxyzABCDEFGHIJKLMNOPQRSTUVWXYZ0123456789 .,;:!?-_@/()"
def TOk (x : Str) : Prop := x.length ≤ 100 ∧ ∀ c ∈ x.cps.toList, c ∈ SG.cps.toList
def VOk : Vl → Prop
  | .int i => -2147483648 ≤ i ∧ i ≤ 2147483647
  | .str x => TOk x
  | .bl _ => True
def fitK : Vl → Kd → Bool
  | .int _, .int => true
  | .str _, .text => true
  | .bl _, .flag => true
  | _, _ => false
structure EnOk (e : En) : Prop where
  r : e.r ≤ 3
  d : e.d ≤ 3
  v : ∀ x, e.v = some x → VOk x
structure ColOk (c : Col) : Prop where
  len : c.length ≤ 1000
  all : ∀ e ∈ c, EnOk e
def PtOk (p : Option Col) : Prop := ∀ c, p = some c → ColOk c
theorem str_ne2 {a b : Str} {m : List O} (s1 : SeqAt.shaped (.str a) = true) (s2 : SeqAt.shaped (.str b) = true) : gNe (.str a) (.str b) m = .ok (.bl (!decide (a = b))) m := by
  show (if (SeqAt.shaped (.str a) && SeqAt.shaped (.str b)) = true then Rs.ok (D.bl (!PyData.eqv (.str a) (.str b))) m else .stk) = _
  rw [s1, s2]
  by_cases h : a = b <;> simp [PyData.eqv, h]
theorem eqS {a b : Str} {z : Bool} {m : List O} (s1 : SeqAt.shaped (.str a) = true) (s2 : SeqAt.shaped (.str b) = true) (h : decide (a = b) = z) : gEq (.str a) (.str b) m = .ok (.bl z) m := by rw [FR.str_eq s1 s2, h]
theorem neS {a b : Str} {z : Bool} {m : List O} (s1 : SeqAt.shaped (.str a) = true) (s2 : SeqAt.shaped (.str b) = true) (h : (!decide (a = b)) = z) : gNe (.str a) (.str b) m = .ok (.bl z) m := by rw [str_ne2 s1 s2, h]
theorem y_kI {k : Kd} {m : List O} : gEq (.str (kdS k)) (.str "int") m = .ok (.bl (decide (k = .int))) m := by cases k <;> first | exact eqS (by decide +kernel) (by decide +kernel) (by decide +kernel) | exact neS (by decide +kernel) (by decide +kernel) (by decide +kernel)
theorem y_kT {k : Kd} {m : List O} : gEq (.str (kdS k)) (.str "text") m = .ok (.bl (decide (k = .text))) m := by cases k <;> first | exact eqS (by decide +kernel) (by decide +kernel) (by decide +kernel) | exact neS (by decide +kernel) (by decide +kernel) (by decide +kernel)
theorem y_kF {k : Kd} {m : List O} : gEq (.str (kdS k)) (.str "flag") m = .ok (.bl (decide (k = .flag))) m := by cases k <;> first | exact eqS (by decide +kernel) (by decide +kernel) (by decide +kernel) | exact neS (by decide +kernel) (by decide +kernel) (by decide +kernel)
theorem y_rP {r : Ru} {m : List O} : gEq (.str (ruS r)) (.str "repeated") m = .ok (.bl (decide (r = .rep))) m := by cases r <;> first | exact eqS (by decide +kernel) (by decide +kernel) (by decide +kernel) | exact neS (by decide +kernel) (by decide +kernel) (by decide +kernel)
theorem y_rQ {r : Ru} {m : List O} : gEq (.str (ruS r)) (.str "required") m = .ok (.bl (decide (r = .req))) m := by cases r <;> first | exact eqS (by decide +kernel) (by decide +kernel) (by decide +kernel) | exact neS (by decide +kernel) (by decide +kernel) (by decide +kernel)
theorem y_rO {r : Ru} {m : List O} : gEq (.str (ruS r)) (.str "optional") m = .ok (.bl (decide (r = .opt))) m := by cases r <;> first | exact eqS (by decide +kernel) (by decide +kernel) (by decide +kernel) | exact neS (by decide +kernel) (by decide +kernel) (by decide +kernel)
theorem y_nP {r : Ru} {m : List O} : gNe (.str (ruS r)) (.str "repeated") m = .ok (.bl (!decide (r = .rep))) m := by cases r <;> first | exact eqS (by decide +kernel) (by decide +kernel) (by decide +kernel) | exact neS (by decide +kernel) (by decide +kernel) (by decide +kernel)
theorem y_nQ {r : Ru} {m : List O} : gNe (.str (ruS r)) (.str "required") m = .ok (.bl (!decide (r = .req))) m := by cases r <;> first | exact eqS (by decide +kernel) (by decide +kernel) (by decide +kernel) | exact neS (by decide +kernel) (by decide +kernel) (by decide +kernel)
theorem encV_nl (v : Vl) : noLoc (encV v) = true := by cases v <;> rfl
theorem encO_nl (v : Option Vl) : noLoc (encO v) = true := by cases v with
  | none => rfl
  | some v => exact encV_nl v
theorem encE_nl (e : En) : noLoc (encE e) = true := by simp [encE, noLoc, noLocs, encO_nl]
theorem encC_nl (c : Col) : noLoc (encC c) = true := noLocs_map encE c fun e _ => encE_nl e
theorem encP_nl (p : Option Col) : noLoc (encP p) = true := by cases p with
  | none => rfl
  | some c => exact encC_nl c
theorem encPs_nl (ps : List (Option Col)) : noLoc (encPs ps) = true := noLocs_map encP ps fun p _ => encP_nl p
theorem isNon_V (v : Vl) : FR.isNon (encV v) = false := by cases v <;> rfl
theorem isNon_O (v : Option Vl) : FR.isNon (encO v) = v.isNone := by cases v with
  | none => rfl
  | some v => exact isNon_V v
theorem isNon_P (p : Option Col) : FR.isNon (encP p) = p.isNone := by cases p <;> rfl

end FR
set_option Elab.async false
set_option linter.all false
set_option maxRecDepth 100000
set_option maxHeartbeats 4000000
namespace PU
open PySem PySem.Spec L2 FR
set_option autoImplicit false
theorem sign_in {c : Nat} {m : List O} (h : c ∈ SG.cps.toList) : gIn (.str ⟨#[c]⟩) c_SIGNS m = .ok (.bl true) m := by
  show (if (#[c] : Array Nat).size = 1 then Rs.ok (D.bl (decide (c ∈ SG.cps.toList))) m else .stk) = _
  rw [if_pos (by rfl), decide_eq_true h]
theorem all_tt {α : Type} {l : List α} {m : List O} : bAll [.lst (l.map fun _ => D.bl true)] m = .ok (.bl true) m := by
  rw [bl_all (fun _ => true)]; simp
theorem level_t {n : Nat} {m : List O} (h3 : n ≤ 3) : o_is_level [.int n] m = .ok (.bl true) m := by
  rw [u_is_level]
  unfold b_is_level c_GREATEST_LEVEL
  have h0 : (0 : Int) ≤ n := by omega
  have h1 : (n : Int) ≤ 3 := by omega
  simp_arith [h0, h1]
theorem text_len {x : Str} {m : List O} (h : TOk x) : bLen [.str x] m = .ok (.int x.length) m := by
  show (if x.length ≤ 16777216 then _ else _) = _
  rw [if_pos (by have := h.1; omega)]
theorem value_t {v : Vl} {k : Kd} {m : List O} (hv : VOk v) : o_is_value [encV v, .str (kdS k)] m = .ok (.bl (fitK v k)) m := by
  rw [u_is_value]
  unfold b_is_value c_LEAST_INTEGER c_GREATEST_INTEGER c_LONGEST_TEXT
  cases v with
  | int i => cases k <;> simp [VOk] at hv <;> simp_arith [encV, fitK, y_kI, y_kT, y_kF, hv.1, hv.2, decide_eq_true_eq]
  | bl b => cases k <;> simp_arith [encV, fitK, y_kI, y_kT, y_kF]
  | str x =>
    have hl := hv.1
    have hl' : (x.length : Int) ≤ 100 := by omega
    have hc : compL (.nm 2) tTrue e_is_value_0 [some (D.str x), some (D.str (kdS .text)), none] (chD x) m = .ok ((x.cps.toList).map fun _ => D.bl true) m := by
      refine comp_map (fun c => D.str ⟨#[c]⟩) (fun _ => D.bl true) (fun c => [some (D.str x), some (D.str (kdS .text)), some (D.str ⟨#[c]⟩)]) _ fun c hc => ⟨rfl, ?_⟩
      unfold e_is_value_0
      simp_arith [sign_in (hv.2 c hc)]
    have hch : (chD x).length ≤ 16777215 := by
      have e : x.length = x.cps.toList.length := by simp [Str.length]
      simp only [chD, List.length_map]; omega
    cases k
    · simp_arith [encV, fitK, y_kI, y_kT, y_kF]
    · simp_arith [encV, fitK, y_kI, y_kT, y_kF, text_len hv, hl', hc, hch, all_tt]
    · simp_arith [encV, fitK, y_kI, y_kT, y_kF]
theorem entry_t {e : En} {m : List O} (h : EnOk e) : o_is_entry [encE e] m = .ok (.bl true) m := by
  rw [u_is_entry]
  unfold b_is_entry encE c_KINDS
  have l1 := level_t (m := m) h.r
  have l2 := level_t (m := m) h.d
  obtain ⟨r, d, v⟩ := e
  cases v with
  | none => simp_arith [encO, l1, l2]
  | some v =>
    have hv := h.v v rfl
    have hc : compL (.nm 4) tTrue e_is_entry_0 [some (D.tup [.int r, .int d, encV v]), some (.int r), some (.int d), some (encV v), none] [.str "int", .str "text", .str "flag"] m = .ok (([Kd.int, .text, .flag]).map fun k => D.bl (fitK v k)) m := by
      refine comp_map (fun k => D.str (kdS k)) (fun k => D.bl (fitK v k)) (fun k => [some (D.tup [.int r, .int d, encV v]), some (.int r), some (.int d), some (encV v), some (.str (kdS k))]) [.int, .text, .flag] fun k hk => ⟨rfl, ?_⟩
      unfold e_is_entry_0
      simp_arith [value_t hv]
    have ha : ([Kd.int, .text, .flag]).any (fitK v) = true := by cases v <;> rfl
    simp_arith [encO, l1, l2, isNon_V, hc, bl_any, ha]
theorem column_t {c : Col} {m : List O} (h : ColOk c) : o_is_column [encC c] m = .ok (.bl true) m := by
  rw [u_is_column]
  unfold b_is_column encC c_MOST_ENTRIES
  have hl := h.len
  have h1 : ¬ ((1000 : Int) < c.length) := by omega
  have h2 : c.length ≤ 16777215 := by omega
  have hc : compL (.nm 1) tTrue e_is_column_0 [some (D.tup (c.map encE)), none] (c.map encE) m = .ok (c.map fun _ => D.bl true) m := by
    refine comp_map encE (fun _ => D.bl true) (fun e => [some (D.tup (c.map encE)), some (encE e)]) c fun e he => ⟨rfl, ?_⟩
    unfold e_is_column_0
    simp_arith [entry_t (h.all e he)]
  simp_arith [List.length_map, h1, h2, hc, all_tt]

end PU
set_option Elab.async false
set_option linter.all false
set_option maxRecDepth 100000
set_option maxHeartbeats 4000000
namespace FR
open PySem PySem.Spec L2
set_option autoImplicit false
/-! ### typed schemas -/
mutual
inductive Tr where
  | lf (k : Kd) | gp (fs : Fs)
inductive Fs where
  | nil | cons (nm : Str) (ru : Ru) (t : Tr) (fs : Fs)
end
mutual
def encT : Tr → D
  | .lf k => .str (kdS k)
  | .gp fs => .tup (encF fs)
def encF : Fs → List D
  | .nil => []
  | .cons nm ru t fs => .tup [.str nm, .str (ruS ru), encT t] :: encF fs
end
mutual
def hT : Tr → Nat
  | .lf _ => 0
  | .gp fs => hF fs + 1
def hF : Fs → Nat
  | .nil => 0
  | .cons _ _ t fs => max (hT t) (hF fs)
end
def Fs.len : Fs → Nat
  | .nil => 0
  | .cons _ _ _ fs => fs.len + 1
mutual
def nT : Tr → Nat
  | .lf _ => 1
  | .gp fs => nF fs
def nF : Fs → Nat
  | .nil => 0
  | .cons _ _ t fs => nT t + nF fs
end
def kU (ru : Ru) (k : Nat) : Nat := if ru = .rep then k + 1 else k
def dU (ru : Ru) (d : Nat) : Nat := if ru = .req then d else d + 1
structure Stp where
  nm : Str
  ru : Ru
  k : Nat
  d : Nat
  deriving DecidableEq
abbrev Wy := List Stp × Kd
mutual
def wsT (st : Stp) : Tr → List Wy
  | .lf K => [([st], K)]
  | .gp g => (wsF g st.k st.d).map fun q => (st :: q.1, q.2)
def wsF : Fs → Nat → Nat → List Wy
  | .nil, _, _ => []
  | .cons nm ru t fs, k, d => wsT ⟨nm, ru, kU ru k, dU ru d⟩ t ++ wsF fs k d
end
def rawS (s : Stp) : S4 := (s.nm, ruS s.ru, s.k, s.d)
def rawW (q : Wy) : List S4 × D := (q.1.map rawS, .str (kdS q.2))
theorem ruS_rep {r : Ru} : (ruS r = ("repeated" : Str)) ↔ r = .rep := by cases r <;> decide
theorem ruS_req {r : Ru} : (ruS r = ("required" : Str)) ↔ r = .req := by cases r <;> decide
theorem nxt_t {r : Ru} {k d : Nat} : nxt (ruS r) (k : Nat) (d : Nat) = (((kU r k : Nat) : Int), ((dU r d : Nat) : Int)) := by
  cases r <;> unfold nxt kU dU <;> simp (config := {decide := true}) [ruS]
theorem abs_cons0 {f : D} {fs : List D} {r z : Int} : absW 0 (f :: fs) r z = ([([s4 f r z], kindD f)] : List (List S4 × D)) ++ absW 0 fs r z := rfl
theorem abs_consS {n : Nat} {f : D} {fs : List D} {r z : Int} : absW (n + 1) (f :: fs) r z = (match kindD f with
    | .tup g => (absW n g (nxt (ruleD f) r z).1 (nxt (ruleD f) r z).2).map fun (q : List S4 × D) => (s4 f r z :: q.1, q.2)
    | kd => ([([s4 f r z], kd)] : List (List S4 × D))) ++ absW (n + 1) fs r z := by
  show List.flatMap _ (f :: fs) = _
  rw [List.flatMap_cons]
  rfl
mutual
theorem abs_T : ∀ (n : Nat) (t : Tr) (st : Stp), hT t ≤ n → (match n, encT t with
    | n + 1, .tup g => (absW n g st.k st.d).map fun q => (rawS st :: q.1, q.2)
    | _, kd => [([rawS st], kd)]) = (wsT st t).map rawW
  | n, .lf K, st, _ => by
    unfold encT wsT
    cases n <;> rfl
  | 0, .gp g, st, h => by simp [hT] at h
  | n + 1, .gp g, st, h => by
    unfold encT wsT
    simp only [hT] at h
    simp only [abs_F n g st.k st.d (by omega), List.map_map]
    rfl
theorem abs_F : ∀ (n : Nat) (fs : Fs) (k d : Nat), hF fs ≤ n → absW n (encF fs) k d = (wsF fs k d).map rawW
  | n, .nil, k, d, _ => by cases n <;> rfl
  | n, .cons nm ru t fs, k, d, h => by
    simp only [hF] at h
    have h1 := abs_T n t ⟨nm, ru, kU ru k, dU ru d⟩ (by omega)
    have h2 := abs_F n fs k d (by omega)
    unfold encF wsF
    rw [List.map_append, ← h1, ← h2]
    have e0 : s4 (.tup [.str nm, .str (ruS ru), encT t]) k d = rawS ⟨nm, ru, kU ru k, dU ru d⟩ := by
      unfold s4 nameD ruleD rawS
      simp only [nxt_t]
    cases n with
    | zero =>
      rw [abs_cons0, e0]
      cases t <;> rfl
    | succ n =>
      rw [abs_consS, e0]
      congr 1
      show (match encT t with
        | .tup g => (absW n g (nxt (ruS ru) k d).1 (nxt (ruS ru) k d).2).map fun (q : List S4 × D) => (rawS ⟨nm, ru, kU ru k, dU ru d⟩ :: q.1, q.2)
        | kd => [([rawS ⟨nm, ru, kU ru k, dU ru d⟩], kd)]) = _
      rw [nxt_t]
      cases t <;> rfl
end
end FR
namespace PU
open PySem PySem.Spec L2 FR
theorem kinds_t {k : Str} (h : k ∈ KINDS3) : ∃ K, k = kdS K := by
  simp only [KINDS3, List.mem_cons, List.not_mem_nil, or_false] at h
  rcases h with rfl | rfl | rfl
  · exact ⟨.int, rfl⟩
  · exact ⟨.text, rfl⟩
  · exact ⟨.flag, rfl⟩
theorem rules_t {k : Str} (h : k ∈ RULES3) : ∃ K, k = ruS K := by
  simp only [RULES3, List.mem_cons, List.not_mem_nil, or_false] at h
  rcases h with rfl | rfl | rfl
  · exact ⟨.req, rfl⟩
  · exact ⟨.opt, rfl⟩
  · exact ⟨.rep, rfl⟩

/-- what is drawn is a typed schema -/
theorem typ_F : ∀ (n : Nat) (fs : List D), (∀ d ∈ fs, FOk (KOk n) d) → ∃ F, fs = encF F ∧ hF F ≤ n := by
  intro n
  induction n with
  | zero =>
    intro fs
    induction fs with
    | nil => exact fun _ => ⟨.nil, rfl, by simp [hF]⟩
    | cons f fs ih =>
      intro h
      obtain ⟨F, e, hh⟩ := ih fun d hd => h d (List.mem_cons_of_mem _ hd)
      obtain ⟨nm, rl, kd, rfl, _, hr, hk⟩ := h f List.mem_cons_self
      obtain ⟨ru, rfl⟩ := rules_t hr
      cases kd with
      | str k =>
        obtain ⟨K, rfl⟩ := kinds_t hk
        exact ⟨.cons nm ru (.lf K) F, by rw [e]; rfl, by simp [hF, hT]; exact Nat.le_zero.mp hh⟩
      | _ => exact hk.elim
  | succ n ihn =>
    intro fs
    induction fs with
    | nil => exact fun _ => ⟨.nil, rfl, by simp [hF]⟩
    | cons f fs ih =>
      intro h
      obtain ⟨F, e, hh⟩ := ih fun d hd => h d (List.mem_cons_of_mem _ hd)
      obtain ⟨nm, rl, kd, rfl, _, hr, hk⟩ := h f List.mem_cons_self
      obtain ⟨ru, rfl⟩ := rules_t hr
      cases kd with
      | str k =>
        obtain ⟨K, rfl⟩ := kinds_t hk
        exact ⟨.cons nm ru (.lf K) F, by rw [e]; rfl, by simp [hF, hT]; exact hh⟩
      | tup g =>
        obtain ⟨G, eg, hg⟩ := ihn g hk.2.2.1
        exact ⟨.cons nm ru (.gp G) F, by rw [e, eg]; rfl, by simp only [hF, hT]; omega⟩
      | _ => exact hk.elim

end PU
set_option Elab.async false
set_option linter.all false
set_option maxRecDepth 100000
set_option maxHeartbeats 4000000
namespace FR
open PySem PySem.Spec L2
set_option autoImplicit false
/-! ### the schema's object, ways and leaves -/
def lk (w : List Stp) : Nat := (w.getLast?.map Stp.k).getD 0
def ld (w : List Stp) : Nat := (w.getLast?.map Stp.d).getD 0
def stsW (w : List Stp) : List Nat := (w.filter fun s => decide (s.ru = .rep)).map Stp.d
def wayLv : Nat → Nat → List Stp → Prop
  | _, _, [] => True
  | k, d, s :: w => s.k = kU s.ru k ∧ s.d = dU s.ru d ∧ wayLv s.k s.d w
theorem kU_ge {ru : Ru} {k : Nat} : k ≤ kU ru k := by unfold kU; split <;> omega
theorem dU_ge {ru : Ru} {d : Nat} : d ≤ dU ru d := by unfold dU; split <;> omega
mutual
theorem wsT_lv : ∀ (t : Tr) (st : Stp), ∀ q ∈ wsT st t, ∃ w, q.1 = st :: w ∧ wayLv st.k st.d w
  | .lf K, st => fun q hq => by
    simp only [wsT, List.mem_singleton] at hq
    subst hq
    exact ⟨[], rfl, trivial⟩
  | .gp g, st => fun q hq => by
    simp only [wsT, List.mem_map] at hq
    obtain ⟨x, hx, rfl⟩ := hq
    exact ⟨x.1, rfl, (wsF_lv g st.k st.d x hx).1⟩
theorem wsF_lv : ∀ (fs : Fs) (k d : Nat), ∀ q ∈ wsF fs k d, wayLv k d q.1 ∧ q.1 ≠ []
  | .nil, k, d => fun q hq => by simp [wsF] at hq
  | .cons nm ru t fs, k, d => fun q hq => by
    simp only [wsF, List.mem_append] at hq
    rcases hq with hq | hq
    · obtain ⟨w, e, h⟩ := wsT_lv t _ q hq
      rw [e]
      exact ⟨⟨rfl, rfl, h⟩, by simp⟩
    · exact wsF_lv fs k d q hq
end
theorem wayLv_ge : ∀ {w : List Stp} {k d : Nat}, wayLv k d w → ∀ s ∈ w, k ≤ s.k ∧ d ≤ s.d
  | [], _, _, _, s, hs => by cases hs
  | x :: w, k, d, h, s, hs => by
    obtain ⟨h1, h2, h3⟩ := h
    have e1 : k ≤ x.k := h1 ▸ kU_ge
    have e2 : d ≤ x.d := h2 ▸ dU_ge
    rcases List.mem_cons.mp hs with rfl | hs
    · exact ⟨e1, e2⟩
    · have := wayLv_ge h3 s hs
      omega
/-- the steps with a repetition level: the first is the start -/
theorem way_start : ∀ {w : List Stp} {k d j : Nat}, wayLv k d w → k < j → j ≤ lk w → ∃ x xs, (w.filter fun s => decide (s.k = j)).map Stp.d = x :: xs ∧ (∀ y ∈ xs, x ≤ y) ∧ (stsW w)[j - k - 1]? = some x
  | [], k, d, j, _, h1, h2 => by simp [lk] at h2; omega
  | s :: w, k, d, j, h, h1, h2 => by
    obtain ⟨e1, e2, h3⟩ := h
    by_cases hr : s.ru = .rep
    · have ek : s.k = k + 1 := by rw [e1]; simp [kU, hr]
      by_cases hj : j = k + 1
      · refine ⟨s.d, ((w.filter fun s => decide (s.k = j)).map Stp.d), ?_, ?_, ?_⟩
        · simp [List.filter_cons, ek, hj]
        · intro y hy
          obtain ⟨z, hz, rfl⟩ := List.mem_map.mp hy
          exact (wayLv_ge h3 z (List.mem_filter.mp hz).1).2
        · rw [show j - k - 1 = 0 by omega]
          simp [stsW, List.filter_cons, hr]
      · have hl : j ≤ lk w := by
          cases w with
          | nil => simp [lk, ek] at h2; omega
          | cons a w => simpa [lk] using h2
        obtain ⟨x, xs, a, b, c⟩ := way_start h3 (by omega) hl
        refine ⟨x, xs, ?_, b, ?_⟩
        · rw [List.filter_cons, if_neg (by simp; omega)]; exact a
        · rw [show j - k - 1 = (j - s.k - 1) + 1 by omega]
          simp only [stsW, List.filter_cons, hr, decide_true, if_true, List.map_cons, List.getElem?_cons_succ]
          exact c
    · have ek : s.k = k := by rw [e1]; simp [kU, hr]
      have hl : j ≤ lk w := by
        cases w with
        | nil => simp [lk, ek] at h2; omega
        | cons a w => simpa [lk] using h2
      obtain ⟨x, xs, a, b, c⟩ := way_start h3 (by omega) hl
      refine ⟨x, xs, ?_, b, ?_⟩
      · rw [List.filter_cons, if_neg (by simp; omega)]; exact a
      · rw [show j - k - 1 = j - s.k - 1 by omega]
        simp only [stsW, List.filter_cons, hr, decide_false]
        exact c
def pathW (w : List Stp) : Str := Str.join "." (w.map Stp.nm)
def lfD (q : Wy) : D := .tup [.str (pathW q.1), .str (kdS q.2), .int (lk q.1), .int (ld q.1)]
def tsF : Str → List Stp → List (Str × Nat × Nat)
  | _, [] => []
  | p, s :: w => (joinP p s.nm, s.k, s.d) :: tsF (joinP p s.nm) w
def stD (t : Str × Nat × Nat) : D := .tup [.str t.1, .int t.2.1, .int t.2.2]
def tst (w : List Stp) : List (Str × Nat × Nat) := ("", 0, 0) :: tsF "" w
def wyD (q : Wy) : D := .tup ((tst q.1).map stD)
def wys (F : Fs) : List Wy := wsF F 0 0
end FR
namespace PU
open PySem PySem.Spec L2 FR
structure Sch (F : Fs) : Prop where
  ok : FsOk (KOk 2) (encF F)
  le : leaves 2 (encF F) ≤ 12
  h : hF F ≤ 2
def SC (F : Fs) : D := SCV (encF F)
theorem abs_wys {F : Fs} (h : Sch F) : absW 2 (encF F) 0 0 = (wys F).map rawW := abs_F 2 F 0 0 h.h
theorem steps_t : ∀ (w : List Stp) (p : Str), stepsF p (w.map rawS) = (tsF p w).map stD
  | [], _ => rfl
  | s :: w, p => by
    simp only [List.map_cons, tsF]
    rw [← steps_t w]
    rfl
theorem leafA_t {q : Wy} (h : q.1 ≠ []) : leafA (rawW q) = lfD q := by
  obtain ⟨w, K⟩ := q
  unfold leafA rawW lfD lk ld pathW
  simp only [List.getLast?_map]
  cases e : w.getLast? with
  | none => exact absurd (List.getLast?_eq_none_iff.mp e) h
  | some s =>
    simp only [Option.map_some, Option.getD_some, List.map_map]
    rfl
theorem wayD_t {F : Fs} (h : Sch F) : (waysS 2 (encF F)).map wayD = (wys F).map wyD := by
  have e : waysS 2 (encF F) = (absW 2 (encF F) 0 0).map fun q => .tup [.tup ([c_WHOLE_RECORD] ++ stepsF "" q.1), q.2] := waysF_abs 2 _ [c_WHOLE_RECORD] "" 0 0
  rw [e, abs_wys h, List.map_map, List.map_map]
  refine List.map_congr_left fun q _ => ?_
  show D.tup (c_WHOLE_RECORD :: stepsF "" (q.1.map rawS)) = _
  rw [steps_t]
  rfl
theorem leaves_t {F : Fs} (h : Sch F) : (absW 2 (encF F) 0 0).map leafA = (wys F).map lfD := by
  rw [abs_wys h, List.map_map]
  exact List.map_congr_left fun q hq => leafA_t (wsF_lv F 0 0 q hq).2
theorem sc_t {F : Fs} (h : Sch F) : SC F = .ins "Schema" ["fields", "ways", "leaves"] [.tup (encF F), .tup ((wys F).map wyD), .tup ((wys F).map lfD)] := by
  unfold SC SCV
  rw [wayD_t h, leaves_t h]
theorem wys_le {F : Fs} (h : Sch F) : (wys F).length ≤ 12 := by
  have := abs_le h.ok h.le
  rw [abs_wys h, List.length_map] at this
  exact this
theorem sc_nlt {F : Fs} (h : Sch F) : noLoc (SC F) = true := sc_nl h.ok h.le
theorem fld_fields {F : Fs} (h : Sch F) {m : List O} : gFld "Schema" "fields" (SC F) m = .ok (.tup (encF F)) m := by rw [sc_t h]; rfl
theorem fld_ways {F : Fs} (h : Sch F) {m : List O} : gFld "Schema" "ways" (SC F) m = .ok (.tup ((wys F).map wyD)) m := by rw [sc_t h]; rfl
theorem fld_leaves {F : Fs} (h : Sch F) {m : List O} : gFld "Schema" "leaves" (SC F) m = .ok (.tup ((wys F).map lfD)) m := by rw [sc_t h]; rfl
theorem slen_t {F : Fs} (h : Sch F) {m : List O} : o_Schema___len__ [SC F] m = .ok (.int ((wys F).length : Nat)) m := by
  rw [u_Schema___len__]
  unfold b_Schema___len__
  simp_arith [fld_leaves h, List.length_map]
theorem lenO_g {f : FE} {r : Lc} {m : List O} {d : D} {N : Int} (hf : f r m = .ok d m) (hi : isIns "Schema" "__len__" d m = true) (hs : o_Schema___len__ [d] m = .ok (.int N) m) (h0 : 0 ≤ N) (h1 : N ≤ 1000) : fLenO "Schema" o_Schema___len__ f r m = .ok (.int N) m := by
  unfold fLenO
  rw [hf]
  show (if isIns "Schema" "__len__" d m = true then (match o_Schema___len__ [d] m with
  | .ok (D.int n) m => if 0 ≤ n ∧ n < 4611686018427387904 then Rs.ok (D.int n) m else .stk
  | _ => .stk) else .stk) = _
  rw [if_pos hi, hs]
  show (if 0 ≤ N ∧ N < 4611686018427387904 then Rs.ok (D.int N) m else .stk) = _
  rw [if_pos (by omega)]
theorem lenO_t {F : Fs} (h : Sch F) {f : FE} {r : Lc} {m : List O} (hf : f r m = .ok (SC F) m) : fLenO "Schema" o_Schema___len__ f r m = .ok (.int ((wys F).length : Nat)) m := by
  have hl := wys_le h
  have hs := slen_t h (m := m)
  obtain ⟨N, hN⟩ : ∃ N : Int, N = (((wys F).length : Nat) : Int) := ⟨_, rfl⟩
  rw [← hN] at hs ⊢
  exact lenO_g hf (by rw [sc_t h]; rfl) hs (by omega) (by omega)
theorem check_parts_t {F : Fs} (h : Sch F) {ps : List (Option Col)} (hl : ps.length = (wys F).length) (hp : ∀ p ∈ ps, PtOk p) {m : List O} : o_check_parts [SC F, encPs ps] m = .ok .non m := by
  rw [u_check_parts]
  unfold b_check_parts encPs
  have hL := lenO_t h (f := fVar 0) (r := [some (SC F), some (.tup (ps.map encP)), none]) (m := m) rfl
  have hf : forL (.nm 2) f_check_parts_0 (ps.map encP) [some (SC F), some (.tup (ps.map encP)), none] m = .ok (.nx [some (SC F), some (.tup (ps.map encP)), none]) m := by
    refine forL_skip ps fun p hpp => ⟨_, rfl, ?_⟩
    have hk := hp p hpp
    unfold f_check_parts_0
    cases p with
    | none => simp_arith [encP]
    | some c => simp_arith [encP, encC, isNon_P, column_t (hk c rfl), show FR.isNon (encC c) = false from rfl, show o_is_column [D.tup (c.map encE)] m = _ from column_t (hk c rfl)]
  simp_arith [hL, List.length_map, hl, hf]

end PU
set_option Elab.async false
set_option linter.all false
set_option maxRecDepth 100000
set_option maxHeartbeats 4000000
namespace PU
open PySem PySem.Spec L2 FR
set_option autoImplicit false
/-- the leaf with a number -/
structure Lf (F : Fs) (i : Nat) (w : List Stp) (K : Kd) : Prop where
  at_ : (wys F)[i]? = some (w, K)
theorem Lf.lv {F : Fs} {i : Nat} {w : List Stp} {K : Kd} (L : Lf F i w K) : wayLv 0 0 w := (wsF_lv F 0 0 _ (List.mem_of_getElem? L.at_)).1
theorem Lf.ne {F : Fs} {i : Nat} {w : List Stp} {K : Kd} (L : Lf F i w K) : w ≠ [] := (wsF_lv F 0 0 _ (List.mem_of_getElem? L.at_)).2
theorem ix_map {α : Type} {enc : α → D} {l : List α} {i : Nat} {x : α} {m : List O} (h : l[i]? = some x) : gIx (.tup (l.map enc)) (.int i) m = .ok (enc x) m := by
  rw [y_ixT, w_atN, List.getElem?_map, h]; rfl
theorem tsF_k (j : Nat) : ∀ (w : List Stp) (p : Str), ((tsF p w).filter fun t => decide (t.2.1 = j)).map (fun t => t.2.2) = (w.filter fun s => decide (s.k = j)).map Stp.d
  | [], _ => rfl
  | s :: w, p => by
    have ih := tsF_k j w (joinP p s.nm)
    by_cases h : s.k = j
    · simp only [tsF, List.filter_cons, h, decide_true, if_true, List.map_cons, ih]
    · simp only [tsF, List.filter_cons, h, decide_false, ih]; exact ih
theorem tsF_len : ∀ (w : List Stp) (p : Str), (tsF p w).length = w.length
  | [], _ => rfl
  | s :: w, p => by simp [tsF, tsF_len w]
theorem minI_f {x : Int} : ∀ {xs : List Int}, (∀ y ∈ xs, x ≤ y) → minI x xs = x
  | [], _ => rfl
  | y :: ys, h => by
    unfold minI
    rw [if_neg (by have := h y List.mem_cons_self; omega)]
    exact minI_f fun z hz => h z (List.mem_cons_of_mem _ hz)
theorem intsD_i : ∀ l : List Int, intsD (l.map D.int) = some l
  | [] => rfl
  | i :: l => by simp only [List.map_cons, intsD, intsD_i l]; rfl
theorem bMin_i {x : Int} {xs : List Int} {m : List O} (h : ∀ y ∈ xs, x ≤ y) : bMin [.lst ((x :: xs).map D.int)] m = .ok (.int x) m := by
  show (match intsD ((x :: xs).map D.int) with | some ns => (match (match ns with | [] => none | n :: ns => some (D.int (minI n ns)) : Option D) with | some z => Rs.ok z m | none => .stk) | none => .stk) = _
  rw [intsD_i]
  show Rs.ok (D.int (minI x xs)) m = _
  rw [minI_f h]
theorem wy_len {F : Fs} (h : Sch F) {i : Nat} {w : List Stp} {K : Kd} (L : Lf F i w K) : w.length ≤ 3 := by
  have := (abs_names 2 _ 0 0 h.ok (rawW (w, K)) (by rw [abs_wys h]; exact List.mem_map_of_mem (List.mem_of_getElem? L.at_))).2.1
  simpa [rawW] using this
theorem start_t {F : Fs} (h : Sch F) {i : Nat} {w : List Stp} {K : Kd} (L : Lf F i w K) {j : Nat} (h1 : 0 < j) (h2 : j ≤ lk w) {m : List O} : ∃ x, (stsW w)[j - 1]? = some x ∧ o_start_of [SC F, .int i, .int j] m = .ok (.int x) m := by
  obtain ⟨x, xs, a, b, c⟩ := way_start L.lv h1 h2
  refine ⟨x, c, ?_⟩
  have hl := wy_len h L
  have hl2 : (tst w).length ≤ 16777215 := by simp [tst, tsF_len]; omega
  have ea : ((tst w).filter fun t => decide (t.2.1 = j)).map (fun t => t.2.2) = x :: xs := by
    rw [← a, ← tsF_k j w ""]
    unfold tst
    rw [List.filter_cons, if_neg (by simp; omega)]
  rw [u_start_of]
  unfold b_start_of
  have ew : gIx (.tup ((wys F).map wyD)) (.int i) m = .ok (.tup ((tst w).map stD)) m := ix_map L.at_
  have hc : compL (.nm 3) t_start_of_0 e_start_of_0 [some (SC F), some (.int i), some (.int j), none] ((tst w).map stD) m = .ok (((tst w).filter fun t => decide (t.2.1 = j)).map fun t => D.int (t.2.2 : Nat)) m := by
    refine comp_fil stD (fun t => D.int (t.2.2 : Nat)) (fun t => decide (t.2.1 = j)) (fun t => [some (SC F), some (.int i), some (.int j), some (stD t)]) _ fun t ht => ⟨rfl, ?_, fun _ => ?_⟩
    · unfold t_start_of_0 stD
      simp_arith [Int.ofNat_inj]
    · unfold e_start_of_0 stD
      simp_arith []
  have em : (((tst w).filter fun t => decide (t.2.1 = j)).map fun t => D.int (t.2.2 : Nat)) = ((x : Int) :: xs.map (fun (y : Nat) => (y : Int))).map D.int := by
    have : ((((tst w).filter fun t => decide (t.2.1 = j)).map (fun t => t.2.2)).map fun (y : Nat) => D.int (y : Int)) = (x :: xs).map fun (y : Nat) => D.int (y : Int) := by rw [ea]
    rw [List.map_map] at this
    rw [List.map_cons, List.map_map]
    exact this
  rw [em] at hc
  have hm := bMin_i (x := (x : Int)) (xs := xs.map fun (y : Nat) => (y : Int)) (m := m) fun y hy => by
    obtain ⟨z, hz, rfl⟩ := List.mem_map.mp hy
    have := b z hz
    omega
  simp_arith [fld_ways h, ew, List.length_map, hl2, hc, hm]
/-- is an entry admissible -/
def prvD (c : Col) (i : Nat) : Option Nat := if i = 0 then none else (c[i - 1]?).map En.d
def cont (w : List Stp) (r d : Nat) (p : Option Nat) : Bool := match (stsW w)[r - 1]?, p with
  | some x, some q => decide (x ≤ q) && decide (x ≤ d)
  | _, _ => false
def fitO : Option Vl → Kd → Bool
  | none, _ => false
  | some v, K => fitK v K
def admE (w : List Stp) (K : Kd) (e : En) (p : Option Nat) : Bool :=
  decide (e.r ≤ lk w) && decide (e.d ≤ ld w) && (if e.d < ld w then e.v.isNone else fitO e.v K) && (decide (e.r = 0) || cont w e.r e.d p)
def adm (w : List Stp) (K : Kd) (c : Col) (i : Nat) : Bool := match c[i]? with
  | none => false
  | some e => admE w K e (prvD c i)
theorem value_n {k : Kd} {m : List O} : o_is_value [.non, .str (kdS k)] m = .ok (.bl false) m := by
  rw [u_is_value]
  unfold b_is_value
  cases k <;> simp_arith [y_kI, y_kT, y_kF]
theorem value_o {v : Option Vl} {k : Kd} {m : List O} (hv : ∀ x, v = some x → VOk x) : o_is_value [encO v, .str (kdS k)] m = .ok (.bl (fitO v k)) m := by
  cases v with
  | none => exact value_n
  | some v => exact value_t (hv v rfl)
theorem cont_t {F : Fs} (h : Sch F) {i : Nat} {w : List Stp} {K : Kd} (L : Lf F i w K) {c : Col} {k : Nat} {kk : Int} (hkk : kk = (k : Nat)) {e : En} (hk : c[k]? = some e) (h1 : 0 < e.r) (h2 : e.r ≤ lk w) {m : List O} :
    o_continues_list [SC F, .int i, encC c, .int kk] m = .ok (.bl (cont w e.r e.d (prvD c k))) m := by
  obtain ⟨x, hx, es⟩ := start_t h L h1 h2 (m := m)
  rw [u_continues_list]
  unfold b_continues_list encC
  have ei : gIx (.tup (c.map encE)) (.int kk) m = .ok (encE e) m := by rw [hkk]; exact ix_map hk
  have ee : encE e = .tup [.int e.r, .int e.d, encO e.v] := rfl
  rw [ee] at ei
  unfold cont prvD
  rw [hx]
  cases k with
  | zero =>
    have h0 : ¬ (0 < kk) := by omega
    simp_arith [ei, es, h0]
  | succ k =>
    obtain ⟨p, hp⟩ : ∃ p, c[k]? = some p := ⟨_, List.getElem?_eq_getElem (by have := (List.getElem?_eq_some_iff.mp hk).1; omega)⟩
    have ep : gIx (.tup (c.map encE)) (.int (kk - 1)) m = .ok (encE p) m := by
      rw [show kk - 1 = (k : Nat) by omega]
      exact ix_map hp
    have ee : encE p = .tup [.int p.r, .int p.d, encO p.v] := rfl
    rw [ee] at ep
    have h0 : (0 : Int) < kk := by omega
    rw [if_neg (by omega), Nat.add_sub_cancel, hp]
    by_cases hq : x ≤ p.d
    · have : ((x : Int) ≤ (p.d : Int)) := by omega
      simp_arith [ei, ep, es, h0, hq, Option.map_some, this, Int.ofNat_le, Bool.true_and]
    · have : ¬ ((x : Int) ≤ (p.d : Int)) := by omega
      simp_arith [ei, ep, es, h0, hq, Option.map_some, this, Bool.false_and]

end PU
set_option Elab.async false
set_option linter.all false
set_option maxRecDepth 100000
set_option maxHeartbeats 4000000
namespace PU
open PySem PySem.Spec L2 FR
set_option autoImplicit false
theorem adm_t {F : Fs} (h : Sch F) {i : Nat} {w : List Stp} {K : Kd} (L : Lf F i w K) {c : Col} (hc : ColOk c) {k : Nat} {kk : Int} (hkk : kk = (k : Nat)) (hk : k < c.length) {m : List O} :
    o_is_admissible [SC F, .int i, encC c, .int kk] m = .ok (.bl (adm w K c k)) m := by
  obtain ⟨e, he⟩ : ∃ e, c[k]? = some e := ⟨_, List.getElem?_eq_getElem hk⟩
  have hen := hc.all e (List.mem_of_getElem? he)
  rw [u_is_admissible]
  unfold b_is_admissible adm
  rw [he]
  have ei : gIx (encC c) (.int kk) m = .ok (encE e) m := by rw [hkk]; exact ix_map he
  have el : gIx (.tup ((wys F).map lfD)) (.int i) m = .ok (lfD (w, K)) m := ix_map L.at_
  have hl : bLen [encC c] m = .ok (.int (c.length : Nat)) m := by unfold encC; rw [y_lenT, List.length_map]
  obtain ⟨N, hN⟩ : ∃ N : Int, N = (c.length : Nat) := ⟨_, rfl⟩
  rw [← hN] at hl
  have h0 : 0 ≤ kk := by omega
  have h1 : kk < N := by omega
  have hent := entry_t (m := m) hen
  have ee : encE e = .tup [.int e.r, .int e.d, encO e.v] := rfl
  have e2 : lfD (w, K) = .tup [.str (pathW w), .str (kdS K), .int (lk w), .int (ld w)] := rfl
  rw [ee] at ei hent
  rw [e2] at el
  have hv := value_o (m := m) (k := K) hen.v
  unfold admE
  by_cases a1 : e.r ≤ lk w
  rotate_left
  · have b1 : ((lk w : Int) < (e.r : Int)) := by omega
    simp_arith [hl, h0, h1, ei, hent, fld_leaves h, el, b1, a1, Bool.false_and]
  have b1 : ¬ ((lk w : Int) < (e.r : Int)) := by omega
  by_cases a2 : e.d ≤ ld w
  rotate_left
  · have b2 : ((ld w : Int) < (e.d : Int)) := by omega
    simp_arith [hl, h0, h1, ei, hent, fld_leaves h, el, b1, b2, a1, a2, Bool.false_and, Bool.and_false]
  have b2 : ¬ ((ld w : Int) < (e.d : Int)) := by omega
  by_cases a4 : e.d < ld w
  · have b4 : ((e.d : Int) < (ld w : Int)) := by omega
    have b5 : ¬ ((e.d : Int) = (ld w : Int)) := by omega
    cases hv0 : e.v with
    | none =>
      rw [hv0] at ei hent
      simp only [encO] at ei hent
      by_cases a3 : e.r = 0
      · have b3 : (e.r : Int) = 0 := by omega
        simp_arith [hl, h0, h1, ei, hent, fld_leaves h, el, b1, b2, a1, a2, b4, b5, a4, encO, hv0, Option.isNone_none, Option.isNone_some, eq_true b3, eq_true a3, Bool.and_self, Bool.true_or, Nat.zero_le]
      · have b3 : ¬ ((e.r : Int) = 0) := by omega
        simp_arith [hl, h0, h1, ei, hent, fld_leaves h, el, b1, b2, a1, a2, b4, b5, a4, encO, hv0, Option.isNone_none, Option.isNone_some, b3, a3, Bool.and_self, Bool.false_or, Bool.true_and, cont_t h L hkk he (by omega) a1]
    | some v =>
      rw [hv0] at ei hent
      simp only [encO] at ei hent
      simp_arith [hl, h0, h1, ei, hent, fld_leaves h, el, b1, b2, a1, a2, b4, b5, a4, encO, hv0, Option.isNone_none, Option.isNone_some, isNon_V, Bool.and_false, Bool.false_and]
  · have b4 : ¬ ((e.d : Int) < (ld w : Int)) := by omega
    have b5 : ((e.d : Int) = (ld w : Int)) := by omega
    cases hf : fitO e.v K with
    | false =>
      rw [hf] at hv
      simp_arith [hl, h0, h1, ei, hent, fld_leaves h, el, b1, b2, a1, a2, b4, eq_true b5, a4, hv, hf, Bool.and_false, Bool.false_and, Int.lt_irrefl]
    | true =>
      rw [hf] at hv
      by_cases a3 : e.r = 0
      · have b3 : (e.r : Int) = 0 := by omega
        simp_arith [hl, h0, h1, ei, hent, fld_leaves h, el, b1, b2, a1, a2, b4, eq_true b5, a4, hv, hf, eq_true b3, eq_true a3, Bool.and_self, Bool.true_or, Nat.zero_le, Int.lt_irrefl]
      · have b3 : ¬ ((e.r : Int) = 0) := by omega
        have hcc := cont_t h L hkk he (by omega) a1 (m := m)
        simp_arith [hl, h0, h1, ei, hent, fld_leaves h, el, b1, b2, a1, a2, b4, eq_true b5, a4, hv, hf, b3, a3, Bool.and_self, Bool.false_or, Bool.true_and, hcc, Int.lt_irrefl]
/-- the first entry that is not admissible -/
def ffC (w : List Stp) (K : Kd) (c : Col) : Option Nat := (List.range c.length).find? fun k => !adm w K c k
def encN : Option Nat → D
  | none => .non
  | some k => .int k
theorem first_t {F : Fs} (h : Sch F) {i : Nat} {w : List Stp} {K : Kd} (L : Lf F i w K) {c : Col} (hc : ColOk c) {m : List O} :
    o_first_fault [SC F, .int i, encC c] m = .ok (encN (ffC w K c)) m := by
  rw [u_first_fault]
  unfold b_first_fault
  have hl : bLen [encC c] m = .ok (.int (c.length : Nat)) m := by unfold encC; rw [y_lenT, List.length_map]
  have hr : iRg [.int (c.length : Nat)] m = .ok ((List.range c.length).map fun k => D.int (k : Nat)) m := iRg_n rfl (by have := hc.len; omega)
  have hf : forL (.nm 3) f_first_fault_0 ((List.range c.length).map fun k => D.int (k : Nat)) [some (SC F), some (.int i), some (encC c), none] m = foundR (fun (z : Nat) => D.int (z : Nat)) [some (SC F), some (.int i), some (encC c), none] m (ffC w K c) := by
    refine forL_find (enc := fun (k : Nat) => D.int (k : Nat)) (out := fun (z : Nat) => D.int (z : Nat)) (fun k => !adm w K c k) _ fun k hk => ⟨_, rfl, ?_, ?_⟩
    · intro hq
      have ha := adm_t h L hc rfl (List.mem_range.mp hk) (m := m)
      have : adm w K c k = true := by simpa using hq
      rw [this] at ha
      unfold f_first_fault_0
      simp_arith [ha]
    · intro hq
      have ha := adm_t h L hc rfl (List.mem_range.mp hk) (m := m)
      have : adm w K c k = false := by simpa using hq
      rw [this] at ha
      unfold f_first_fault_0
      simp_arith [ha]
  cases hff : ffC w K c with
  | none =>
    rw [hff] at hf
    simp_arith [hl, hr, hf, encN]
  | some z =>
    rw [hff] at hf
    simp_arith [hl, hr, hf, encN]
/-- the skeleton -/
def skl (k d : Nat) (c : Col) : List (Nat × Nat) := (c.filter fun e => decide (e.r ≤ k)).map fun e => (e.r, min e.d d)
def encB (p : Nat × Nat) : D := .tup [.int p.1, .int p.2]
def encS (s : List (Nat × Nat)) : D := .tup (s.map encB)
theorem skel_t {c : Col} (hc : c.length ≤ 1000) {k d : Nat} {m : List O} : o_skeleton [encC c, .int k, .int d] m = .ok (encS (skl k d c)) m := by
  rw [u_skeleton]
  unfold b_skeleton encC
  have hl : c.length ≤ 16777215 := by omega
  have hcm : compL (.nm 3) t_skeleton_0 e_skeleton_0 [some (.tup (c.map encE)), some (.int k), some (.int d), none] (c.map encE) m = .ok ((c.filter fun e => decide (e.r ≤ k)).map fun e => encB (e.r, min e.d d)) m := by
    refine comp_fil encE _ (fun e => decide (e.r ≤ k)) (fun e => [some (.tup (c.map encE)), some (.int k), some (.int d), some (encE e)]) _ fun e _ => ⟨rfl, ?_, fun _ => ?_⟩
    · unfold t_skeleton_0 encE
      simp_arith [Int.ofNat_le]
    · unfold e_skeleton_0 encE encB
      have : (if (d : Int) < (e.d : Int) then (d : Int) else (e.d : Int)) = ((min e.d d : Nat) : Int) := by split <;> omega
      simp_arith [this]
  have e : (((c.filter fun e => decide (e.r ≤ k)).map fun e => encB (e.r, min e.d d))) = (skl k d c).map encB := by unfold skl; rw [List.map_map]; rfl
  rw [e] at hcm
  simp_arith [List.length_map, hl, hcm, encS]

end PU
set_option Elab.async false
set_option linter.all false
set_option maxRecDepth 100000
set_option maxHeartbeats 4000000
namespace FR
open PySem PySem.Spec L2
set_option autoImplicit false
/-! ### records, what is written of them -/
inductive Oc where
  | v (x : Vl) | r (cs : List (List Oc))
def encCt (ru : Ru) (f : Oc → D) (os : List Oc) : D := match ru with
  | .rep => .lst (os.map f)
  | _ => match os with
    | o :: _ => f o
    | [] => .non
def nms : Fs → List Str
  | .nil => []
  | .cons nm _ _ fs => nm :: nms fs
mutual
def encOc : Tr → Oc → D
  | .lf _, .v x => encV x
  | .lf _, .r _ => .non
  | .gp fs, .r cs => .dct (nms fs) (encCs fs cs)
  | .gp _, .v _ => .non
def encCs : Fs → List (List Oc) → List D
  | .nil, _ => []
  | .cons _ ru t fs, os :: cs => encCt ru (encOc t) os :: encCs fs cs
  | .cons _ _ _ _, [] => []
end
def cntOk (b : Nat) (ru : Ru) (n : Nat) : Prop := match ru with
  | .req => n = 1
  | .opt => n ≤ 1
  | .rep => n ≤ b
mutual
def wfO (b : Nat) : Tr → Oc → Prop
  | .lf K, .v x => VOk x ∧ fitK x K = true
  | .lf _, .r _ => False
  | .gp fs, .r cs => wfC b fs cs
  | .gp _, .v _ => False
def wfC (b : Nat) : Fs → List (List Oc) → Prop
  | .nil, cs => cs = []
  | .cons _ ru t fs, os :: cs => (∀ o ∈ os, wfO b t o) ∧ cntOk b ru os.length ∧ wfC b fs cs
  | .cons _ _ _ _, [] => False
end
def zapp (a b : List Col) : List Col := List.zipWith (· ++ ·) a b
/-- occurrences, the first with s, the others with k -/
def wS (f : Oc → Nat → List Col) (n : Nat) (s k d : Nat) : List Oc → List Col
  | [] => List.replicate n [⟨s, d, none⟩]
  | o :: os => os.foldl (fun acc o => zapp acc (f o k)) (f o s)
mutual
def wT : Tr → Oc → Nat → Nat → Nat → List Col
  | .lf _, .v x, s, _, d => [[⟨s, d, some x⟩]]
  | .lf _, .r _, _, _, _ => [[]]
  | .gp fs, .r cs, s, k, d => wF fs cs s k d
  | .gp fs, .v _, _, _, _ => List.replicate (nF fs) []
def wF : Fs → List (List Oc) → Nat → Nat → Nat → List Col
  | .nil, _, _, _, _ => []
  | .cons _ ru t fs, os :: cs, s, k, d => wS (fun o s => wT t o s (kU ru k) (dU ru d)) (nT t) s (kU ru k) d os ++ wF fs cs s k d
  | .cons _ _ t fs, [], _, _, _ => List.replicate (nT t + nF fs) []
end
def wRecs (fs : Fs) (rs : List (List (List Oc))) : List Col := rs.foldl (fun acc cs => zapp acc (wF fs cs 0 0 0)) (List.replicate (nF fs) [])
theorem zapp_len {a b : List Col} : (zapp a b).length = min a.length b.length := by simp [zapp]
theorem foldl_len {f : Oc → List Col} {n : Nat} (h : ∀ o, (f o).length = n) : ∀ (os : List Oc) (a : List Col), a.length = n → (os.foldl (fun acc o => zapp acc (f o)) a).length = n
  | [], a, e => e
  | o :: os, a, e => foldl_len h os _ (by rw [zapp_len, e, h]; omega)
mutual
theorem wT_len : ∀ (t : Tr) (o : Oc) (s k d : Nat), (wT t o s k d).length = nT t
  | .lf _, .v _, _, _, _ => rfl
  | .lf _, .r _, _, _, _ => rfl
  | .gp fs, .r cs, s, k, d => wF_len fs cs s k d
  | .gp fs, .v _, _, _, _ => by simp [wT, nT]
theorem wF_len : ∀ (fs : Fs) (cs : List (List Oc)) (s k d : Nat), (wF fs cs s k d).length = nF fs
  | .nil, _, _, _, _ => rfl
  | .cons _ ru t fs, [], _, _, _ => by simp [wF, nF]
  | .cons _ ru t fs, os :: cs, s, k, d => by
    rw [wF, nF, List.length_append, wF_len fs cs]
    congr 1
    cases os with
    | nil => simp [wS]
    | cons o os => exact foldl_len (fun o => wT_len t o _ _ _) os _ (wT_len t o _ _ _)
end
theorem wRecs_len {fs : Fs} (rs : List (List (List Oc))) : (wRecs fs rs).length = nF fs := by
  have : ∀ (rs : List (List (List Oc))) (a : List Col), a.length = nF fs → (rs.foldl (fun acc cs => zapp acc (wF fs cs 0 0 0)) a).length = nF fs := by
    intro rs
    induction rs with
    | nil => exact fun a e => e
    | cons c rs ih => exact fun a e => ih _ (by rw [zapp_len, e, wF_len]; omega)
  exact this rs _ (by simp)
theorem zapp_app {a1 a2 b1 b2 : List Col} (h : a1.length = b1.length) : zapp (a1 ++ a2) (b1 ++ b2) = zapp a1 b1 ++ zapp a2 b2 := by
  unfold zapp
  exact List.zipWith_append h
theorem zapp_assoc : ∀ (a b c : List Col), zapp (zapp a b) c = zapp a (zapp b c)
  | [], _, _ => rfl
  | _ :: _, [], _ => rfl
  | _ :: _, _ :: _, [] => rfl
  | x :: a, y :: b, z :: c => by
    show ((x ++ y) ++ z) :: zapp (zapp a b) c = (x ++ (y ++ z)) :: zapp a (zapp b c)
    rw [List.append_assoc, zapp_assoc a b c]
theorem zapp_nil : ∀ (a : List Col) (n : Nat), a.length = n → zapp (List.replicate n []) a = a
  | [], n, h => by cases n <;> rfl
  | x :: a, 0, h => by simp at h
  | x :: a, n + 1, h => by
    show ([] ++ x) :: zapp (List.replicate n []) a = _
    rw [zapp_nil a n (by simpa using h)]; rfl
mutual
theorem wsT_len : ∀ (t : Tr) (st : Stp), (wsT st t).length = nT t
  | .lf _, _ => rfl
  | .gp g, st => by simp [wsT, nT, wsF_len g]
theorem wsF_len : ∀ (fs : Fs) (k d : Nat), (wsF fs k d).length = nF fs
  | .nil, _, _ => rfl
  | .cons _ _ t fs, k, d => by simp [wsF, nF, wsT_len t, wsF_len fs]
end
mutual
theorem encOc_nl : ∀ (t : Tr) (o : Oc), noLoc (encOc t o) = true
  | .lf _, .v x => by simp [encOc, encV_nl]
  | .lf _, .r _ => rfl
  | .gp fs, .r cs => encCs_nl fs cs
  | .gp _, .v _ => rfl
theorem encCs_nl : ∀ (fs : Fs) (cs : List (List Oc)), noLocs (encCs fs cs) = true
  | .nil, cs => by cases cs <;> rfl
  | .cons _ _ _ _, [] => rfl
  | .cons _ ru t fs, os :: cs => by
    simp only [encCs, noLocs, encCs_nl fs cs, Bool.and_true]
    have h1 := fun o => encOc_nl t o
    unfold encCt
    cases ru with
    | rep => exact noLocs_map _ os fun o _ => h1 o
    | req => cases os with
      | nil => rfl
      | cons o os => exact h1 o
    | opt => cases os with
      | nil => rfl
      | cons o os => exact h1 o
end
mutual
theorem encT_nl : ∀ t : Tr, noLoc (encT t) = true
  | .lf _ => rfl
  | .gp fs => encF_nl fs
theorem encF_nl : ∀ fs : Fs, noLocs (encF fs) = true
  | .nil => rfl
  | .cons _ _ t fs => by simp [encF, noLocs, noLoc, encT_nl t, encF_nl fs]
end

end FR
set_option Elab.async false
set_option linter.all false
set_option maxRecDepth 100000
set_option maxHeartbeats 4000000
namespace FR
open PySem PySem.Spec L2
set_option autoImplicit false
/-! ### the store of columns -/
def M (cols : List Col) : List O := cols.map fun c => O.lst (c.map encE)
def CL (n : Nat) : D := .lst ((List.range n).map fun i => D.loc i)
theorem M_get {pre post : List Col} {c : Col} : (M (pre ++ c :: post))[pre.length]? = some (.lst (c.map encE)) := by
  unfold M
  rw [List.getElem?_map, List.getElem?_append_right (Nat.le_refl _)]
  simp
theorem set_at {α : Type} {x y : α} {b : List α} : ∀ a : List α, (a ++ x :: b).set a.length y = a ++ y :: b
  | [] => rfl
  | z :: a => by simp only [List.cons_append, List.length_cons, List.set_cons_succ, set_at a]
theorem M_set {pre post : List Col} {c : Col} {e : En} : (M (pre ++ c :: post)).set pre.length (.lst (c.map encE ++ [encE e])) = M (pre ++ (c ++ [e]) :: post) := by
  unfold M
  rw [List.map_append, List.map_append, List.map_cons, List.map_cons]
  have := set_at (x := O.lst (c.map encE)) (y := O.lst (c.map encE ++ [encE e])) (b := post.map fun c => O.lst (c.map encE)) (pre.map fun c => O.lst (c.map encE))
  rw [List.length_map] at this
  rw [this, List.map_append]
  rfl
theorem CL_ix {n i : Nat} (h : i < n) {m : List O} : gIx (CL n) (.int (i : Nat)) m = .ok (.loc i) m := by
  unfold CL
  rw [y_ixL, w_atN, List.getElem?_map, List.getElem?_range h]; rfl
theorem M_len {cols : List Col} : (M cols).length = cols.length := by simp [M]
theorem zapp_one : ∀ (mid : List Col) (e : En), zapp mid (List.replicate mid.length [e]) = mid.map fun c => c ++ [e]
  | [], _ => rfl
  | c :: mid, e => by
    show (c ++ [e]) :: zapp mid (List.replicate mid.length [e]) = _
    rw [zapp_one mid e]; rfl
/-! sizes -/
mutual
def szT : Tr → Oc → Nat
  | .lf _, _ => 1
  | .gp fs, .r cs => szF fs cs
  | .gp _, .v _ => 0
def szF : Fs → List (List Oc) → Nat
  | .nil, _ => 0
  | .cons _ _ t fs, os :: cs => (os.map (szT t)).sum + 1 + szF fs cs
  | .cons _ _ _ _, [] => 0
end
theorem mem_zapp {a b : List Col} {c : Col} (h : c ∈ zapp a b) : ∃ x ∈ a, ∃ y ∈ b, c = x ++ y := by
  unfold zapp at h
  obtain ⟨i, hi⟩ := List.mem_iff_getElem?.mp h
  rw [List.getElem?_zipWith] at hi
  cases ha : a[i]? with
  | none => rw [ha] at hi; cases hi
  | some x =>
    cases hb : b[i]? with
    | none => rw [ha, hb] at hi; cases hi
    | some y =>
      rw [ha, hb] at hi
      cases hi
      exact ⟨x, List.mem_of_getElem? ha, y, List.mem_of_getElem? hb, rfl⟩
theorem fold_sz {f : Oc → List Col} {g : Oc → Nat} (h : ∀ o, ∀ c ∈ f o, c.length ≤ g o) : ∀ (os : List Oc) (a : List Col) (B : Nat), (∀ c ∈ a, c.length ≤ B) → ∀ c ∈ os.foldl (fun acc o => zapp acc (f o)) a, c.length ≤ B + (os.map g).sum
  | [], a, B, ha => fun c hc => by simpa using ha c hc
  | o :: os, a, B, ha => fun c hc => by
    have := fold_sz h os (zapp a (f o)) (B + g o) (fun c hc => by
      obtain ⟨x, hx, y, hy, rfl⟩ := mem_zapp hc
      have := ha x hx
      have := h o y hy
      rw [List.length_append]; omega) c hc
    rw [List.map_cons, List.sum_cons]; omega
mutual
theorem wT_sz : ∀ (t : Tr) (o : Oc) (s k d : Nat), ∀ c ∈ wT t o s k d, c.length ≤ szT t o
  | .lf _, .v _, _, _, _, c, h => by simp [wT] at h; subst h; simp [szT]
  | .lf _, .r _, _, _, _, c, h => by simp [wT] at h; subst h; simp
  | .gp fs, .r cs, s, k, d, c, h => by
    have := wF_sz fs cs s k d c h
    simpa [szT] using this
  | .gp fs, .v _, _, _, _, c, h => by
    simp [wT] at h; simp [h.2]
theorem wF_sz : ∀ (fs : Fs) (cs : List (List Oc)) (s k d : Nat), ∀ c ∈ wF fs cs s k d, c.length ≤ szF fs cs
  | .nil, _, _, _, _, c, h => by simp [wF] at h
  | .cons _ ru t fs, [], _, _, _, c, h => by simp [wF] at h; simp [h.2]
  | .cons _ ru t fs, os :: cs, s, k, d, c, h => by
    rw [wF, List.mem_append] at h
    rw [szF]
    rcases h with h | h
    · cases os with
      | nil =>
        simp [wS] at h
        simp [h.2]
      | cons o os =>
        have := fold_sz (g := szT t) (fun o c hc => wT_sz t o _ _ _ c hc) os _ (szT t o) (fun c hc => wT_sz t o _ _ _ c hc) c h
        rw [List.map_cons, List.sum_cons]; omega
    · have := wF_sz fs cs s k d c h
      omega
end
/-! names -/
def Lk : Fs → List (List Oc) → List Str → List D → Prop
  | .nil, _, _, _ => True
  | .cons nm ru t fs, os :: cs, ks, vs => lookD ks vs nm = some (encCt ru (encOc t) os) ∧ Lk fs cs ks vs
  | .cons _ _ _ _, [], _, _ => False
theorem Lk_more {k : Str} {v : D} {ks : List Str} {vs : List D} : ∀ {fs : Fs} {cs : List (List Oc)}, k ∉ nms fs → Lk fs cs ks vs → Lk fs cs (k :: ks) (v :: vs)
  | .nil, _, _, _ => trivial
  | .cons nm ru t fs, os :: cs, hk, h => by
    simp only [nms, List.mem_cons, not_or] at hk
    refine ⟨?_, Lk_more hk.2 h.2⟩
    show (if nm = k then _ else _) = _
    rw [if_neg (Ne.symm hk.1)]
    exact h.1
  | .cons _ _ _ _, [], _, h => h.elim
theorem Lk_of {b : Nat} : ∀ {fs : Fs} {cs : List (List Oc)}, (nms fs).Nodup → wfC b fs cs → Lk fs cs (nms fs) (encCs fs cs)
  | .nil, _, _, _ => trivial
  | .cons nm ru t fs, os :: cs, hn, h => by
    simp only [nms, List.nodup_cons] at hn
    refine ⟨?_, Lk_more hn.1 (Lk_of hn.2 h.2.2)⟩
    show (if nm = nm then _ else _) = _
    rw [if_pos rfl]
  | .cons _ _ _ _, [], _, h => h.elim
theorem nms_enc : ∀ fs : Fs, (encF fs).map nameD = nms fs
  | .nil => rfl
  | .cons nm ru t fs => by simp only [encF, List.map_cons, nms, nms_enc fs]; rfl
theorem encF_len : ∀ fs : Fs, (encF fs).length = fs.len
  | .nil => rfl
  | .cons nm ru t fs => by simp only [encF, List.length_cons, Fs.len, encF_len fs]
end FR
namespace PU
open PySem PySem.Spec L2 FR
mutual
theorem lv_T : ∀ (n : Nat) (t : Tr), KOk n (encT t) → lvK n (encT t) = nT t
  | n, .lf K, _ => by cases n <;> rfl
  | 0, .gp g, h => h.elim
  | n + 1, .gp g, h => lv_F n g h.2.2.1
theorem lv_F : ∀ (n : Nat) (fs : Fs), (∀ d ∈ encF fs, FOk (KOk n) d) → ((encF fs).map fun f => lvK n (kindD f)).sum = nF fs
  | n, .nil, _ => rfl
  | n, .cons nm ru t fs, h => by
    simp only [encF, List.map_cons, List.sum_cons, nF]
    rw [lv_F n fs fun d hd => h d (List.mem_cons_of_mem _ hd)]
    congr 1
    obtain ⟨_, _, kd, e, _, _, hk⟩ := h _ List.mem_cons_self
    have : kd = encT t := by injection e with e; injection e with _ e; injection e with _ e; injection e with e _; exact e.symm
    rw [this] at hk
    exact lv_T n t hk
end
theorem leaf_count_t {n : Nat} (hn : n < 6) {t : Tr} (h : KOk n (encT t)) {m : List O} : o__law_leaf_count [encT t] m = .ok (.int (nT t : Nat)) m := by
  rw [← lv_T n t h]
  exact count_ok 6 n hn _ m h
theorem head_t {n : Nat} {nm : Str} {ru : Ru} {t : Tr} {fs : Fs} (h : ∀ d ∈ encF (.cons nm ru t fs), FOk (KOk n) d) : KOk n (encT t) ∧ ∀ d ∈ encF fs, FOk (KOk n) d := by
  refine ⟨?_, fun d hd => h d (List.mem_cons_of_mem _ hd)⟩
  obtain ⟨_, _, kd, e, _, _, hk⟩ := h _ List.mem_cons_self
  have : kd = encT t := by injection e with e; injection e with _ e; injection e with _ e; injection e with e _; exact e.symm
  rw [this] at hk
  exact hk

end PU
set_option Elab.async false
set_option linter.all false
set_option maxRecDepth 100000
set_option maxHeartbeats 4000000
namespace PU
open PySem PySem.Spec L2 FR
set_option autoImplicit false
abbrev RW (f : Nat) := R__law_write_x__law_write_record f
theorem write_none {f : Nat} {e : En} {N : Int} {x0 x1 x3 x4 x5 x7 x9 : Option D} : ∀ (mid pre post : List Col) (n : Nat), n = (pre ++ mid ++ post).length → (∀ c ∈ mid, c.length < 16777216) → (e.v = none) →
    forL (.nm 10) (f__law_write_0 (RW f).1 (RW f).2) ((List.range' pre.length mid.length).map fun k => D.int (k : Nat)) [x0, x1, some (CL n), x3, x4, x5, some (.int e.r), x7, some (.int e.d), x9, none, none, none] (M (pre ++ mid ++ post)) =
      .ok (.nx [x0, x1, some (CL n), x3, x4, x5, some (.int e.r), x7, some (.int e.d), x9, none, none, none]) (M (pre ++ (mid.map fun c => c ++ [e]) ++ post))
  | [], pre, post, n, _, _, _ => rfl
  | c :: mid, pre, post, n, hn, hs, hv => by
    have ih := write_none (f := f) (e := e) (N := N) (x0 := x0) (x1 := x1) (x3 := x3) (x4 := x4) (x5 := x5) (x7 := x7) (x9 := x9) mid (pre ++ [c ++ [e]]) post n (by rw [hn]; simp) (fun c hc => hs c (List.mem_cons_of_mem _ hc)) hv
    rw [List.length_cons, List.range'_succ, List.map_cons, forL_cons]
    have hc := hs c List.mem_cons_self
    have hL : pre.length < n := by rw [hn]; simp
    have g1 := CL_ix hL (m := M (pre ++ c :: mid ++ post))
    have g2 : (M (pre ++ c :: mid ++ post))[pre.length]? = some (.lst (c.map encE)) := by rw [List.append_assoc]; exact M_get
    have g3 : (M (pre ++ c :: mid ++ post)).set pre.length (.lst (c.map encE ++ [encE e])) = M (pre ++ [c ++ [e]] ++ mid ++ post) := by
      rw [List.append_assoc]
      refine (M_set (pre := pre) (post := mid ++ post)).trans ?_
      simp
    have g4 : (c.map encE).length < 16777216 := by rw [List.length_map]; exact hc
    have g5 := appI_one (d := encE e) g2 g4
    rw [g3] at g5
    have ee : encE e = .tup [.int e.r, .int e.d, .non] := by unfold encE; rw [hv]; rfl
    rw [ee] at g5
    have e1 : f__law_write_0 (RW f).1 (RW f).2 [x0, x1, some (CL n), x3, x4, x5, some (.int e.r), x7, some (.int e.d), x9, some (.int (pre.length : Nat)), none, none] (M (pre ++ c :: mid ++ post)) = .ok (.nx [x0, x1, some (CL n), x3, x4, x5, some (.int e.r), x7, some (.int e.d), x9, none, none, none]) (M (pre ++ [c ++ [e]] ++ mid ++ post)) := by
      unfold f__law_write_0
      simp_arith [g1, appO_loc g2, g5]
    simp_arith [e1]
    rw [List.length_append] at ih
    rw [show pre ++ List.map (fun c => c ++ [e]) (c :: mid) ++ post = pre ++ [c ++ [e]] ++ List.map (fun c => c ++ [e]) mid ++ post by simp]
    exact ih
def isLf : Tr → Bool
  | .lf _ => true
  | .gp _ => false
theorem isi_T {t : Tr} {m : List O} : bIsi [encT t, .ty "str"] m = .ok (.bl (isLf t)) m := by
  cases t with
  | lf K => exact y_isi (t := "str") rfl kb_ss
  | gp g => exact y_isi (t := "tuple") rfl kb_ts
def WSpec (b : Nat) (o : List D → List O → Rs D) (t : Tr) : Prop := ∀ (ru : Ru) (os : List Oc) (s k d : Nat) (pre mid post : List Col) (N : Nat), mid.length = nT t → (∀ x ∈ os, wfO b t x) → os.length ≤ 1000 → (∀ c ∈ mid, c.length + (os.map (szT t)).sum + 1 ≤ 16777215) → N = (pre ++ mid ++ post).length → N ≤ 1000 →
  o [encT t, .lst (os.map (encOc t)), CL N, .int (pre.length : Nat), .tup [.int s, .int k, .int d], .str (ruS ru)] (M (pre ++ mid ++ post)) = .ok .non (M (pre ++ zapp mid (wS (fun o s => wT t o s (kU ru k) (dU ru d)) (nT t) s (kU ru k) d os) ++ post))
def RSpec (b : Nat) (o : List D → List O → Rs D) (fs : Fs) : Prop := ∀ (cs : List (List Oc)) (s k d : Nat) (pre mid post : List Col) (N : Nat), mid.length = nF fs → wfC b fs cs → (∀ c ∈ mid, c.length + szF fs cs ≤ 16777215) → N = (pre ++ mid ++ post).length → N ≤ 1000 →
  o [.tup (encF fs), .dct (nms fs) (encCs fs cs), CL N, .int (pre.length : Nat), .tup [.int s, .int k, .int d]] (M (pre ++ mid ++ post)) = .ok .non (M (pre ++ zapp mid (wF fs cs s k d) ++ post))
def WTail (f : Nat) : FS := (sIf (tTru (fCB bIsi (aCons (fVar 0) (aCons (fC (.ty "str")) aNil)))) (sExp (fApp (fBin gIx (fVar 2) (fVar 3)) (aCons (fTup (aCons (fVar 12) (aCons (fBin gIx (fVar 9) (fC (.int 1))) (aCons (fBin gIx (fVar 1) (fVar 11)) aNil)))) aNil))) (sExp (fCB (RW f).2 (aCons (fVar 0) (aCons (fBin gIx (fVar 1) (fVar 11)) (aCons (fVar 2) (aCons (fVar 3) (aCons (fTup (aCons (fVar 12) (aCons (fBin gIx (fVar 9) (fC (.int 0))) (aCons (fBin gIx (fVar 9) (fC (.int 1))) aNil)))) aNil))))))))
theorem write_turn {f b : Nat} {t : Tr} (hr : ∀ g, t = .gp g → RSpec b (RW f).2 g) {os : List Oc} {o : Oc} {s k' d' j : Nat} {x4 x5 x7 x8 : Option D} (hj : os[j]? = some o) (hw : wfO b t o) {pre mid post : List Col} {N : Nat} (hm : mid.length = nT t) (hs : ∀ c ∈ mid, c.length + szT t o ≤ 16777215) (hN : N = (pre ++ mid ++ post).length) (hN2 : N ≤ 1000) :
    f__law_write_1 (RW f).1 (RW f).2 [some (encT t), some (.lst (os.map (encOc t))), some (CL N), some (.int (pre.length : Nat)), x4, x5, some (.int s), x7, x8, some (.tup [.int k', .int d']), none, some (.int (j : Nat)), none] (M (pre ++ mid ++ post)) =
      .ok (.nx [some (encT t), some (.lst (os.map (encOc t))), some (CL N), some (.int (pre.length : Nat)), x4, x5, some (.int s), x7, x8, some (.tup [.int k', .int d']), none, none, none]) (M (pre ++ zapp mid (wT t o (if j = 0 then s else k') k' d') ++ post)) := by
  obtain ⟨S, hS⟩ : ∃ S, S = (if j = 0 then s else k') := ⟨_, rfl⟩
  rw [← hS]
  have hS2 : (if (0 : Int) < (j : Nat) then (k' : Int) else (s : Int)) = (S : Int) := by
    rw [hS]; by_cases h : j = 0
    · subst h; simp
    · rw [if_pos (by omega), if_neg h]
  have ei : ∀ m, gIx (.lst (os.map (encOc t))) (.int (j : Nat)) m = .ok (encOc t o) m := fun m => by
    rw [y_ixL, w_atN, List.getElem?_map, hj]; rfl
  obtain ⟨J, hJ⟩ : ∃ J : Int, J = (j : Nat) := ⟨_, rfl⟩
  rw [← hJ] at hS2 ei ⊢
  have key : ∀ (r : Lc) (m : List O) (S' : Int), S' = S → r = [some (encT t), some (.lst (os.map (encOc t))), some (CL N), some (.int (pre.length : Nat)), x4, x5, some (.int s), x7, x8, some (.tup [.int k', .int d']), none, some (.int J), some (.int S')] → m = M (pre ++ mid ++ post) →
      WTail f r m = .ok (.nx r) (M (pre ++ zapp mid (wT t o S k' d') ++ post)) := by
    rintro r m S' rfl rfl rfl
    unfold WTail
    cases t with
    | lf K =>
      cases o with
      | r cs => exact hw.elim
      | v x =>
        obtain ⟨c, rfl⟩ : ∃ c, mid = [c] := by
          match mid, hm with
          | [c], _ => exact ⟨c, rfl⟩
        have hL : pre.length < N := by rw [hN]; simp
        have g1 := CL_ix hL (m := M (pre ++ [c] ++ post))
        have g2 : (M (pre ++ [c] ++ post))[pre.length]? = some (.lst (c.map encE)) := by rw [List.append_assoc]; exact M_get
        have g3 : (M (pre ++ [c] ++ post)).set pre.length (.lst (c.map encE ++ [encE ⟨S, d', some x⟩])) = M (pre ++ [c ++ [⟨S, d', some x⟩]] ++ post) := by
          rw [List.append_assoc]
          refine (M_set (pre := pre) (post := post)).trans ?_
          simp
        have g4 : (c.map encE).length < 16777216 := by rw [List.length_map]; have := hs c (by simp); omega
        have g5 := appI_one (d := encE ⟨S, d', some x⟩) g2 g4
        rw [g3] at g5
        have ee : encE ⟨S, d', some x⟩ = .tup [.int S, .int d', encOc (.lf K) (.v x)] := rfl
        rw [ee] at g5
        simp_arith [isi_T, isLf, g1, appO_loc g2, ei, g5]
        rfl
    | gp g =>
      cases o with
      | v x => exact hw.elim
      | r cs =>
        have h5 := hr g rfl cs S k' d' pre mid post N hm hw hs hN hN2
        have h6 : encT (.gp g) = .tup (encF g) := rfl
        have h7 : encOc (.gp g) (.r cs) = .dct (nms g) (encCs g cs) := rfl
        simp_arith [isi_T, isLf, ei]
        rw [h6, h7, h5]
        simp_arith []
        rfl
  show sFgtE [11, 12] (sSeq (sSet 12 (fVar 6)) (sSeq (sIf (tVal (fBin gGt (fVar 11) (fC (.int 0)))) (sSet 12 (fBin gIx (fVar 9) (fC (.int 0)))) sNx) (WTail f))) _ _ = _
  by_cases h0 : (0 : Int) < J
  · rw [if_pos h0] at hS2
    have e := key _ _ _ hS2 rfl rfl
    simp_arith [h0, e]
  · rw [if_neg h0] at hS2
    have e := key _ _ _ hS2 rfl rfl
    simp_arith [h0, e]
theorem write_loop {f b : Nat} {t : Tr} (hr : ∀ g, t = .gp g → RSpec b (RW f).2 g) {os : List Oc} {s k' d' : Nat} {x4 x5 x7 x8 : Option D} {pre post : List Col} {N : Nat} : ∀ (rest done : List Oc) (mid : List Col), os = done ++ rest → done ≠ [] → (∀ o ∈ rest, wfO b t o) → mid.length = nT t → (∀ c ∈ mid, c.length + (rest.map (szT t)).sum ≤ 16777215) → N = (pre ++ mid ++ post).length → N ≤ 1000 →
    forL (.nm 11) (f__law_write_1 (RW f).1 (RW f).2) ((List.range' done.length rest.length).map fun k => D.int (k : Nat)) [some (encT t), some (.lst (os.map (encOc t))), some (CL N), some (.int (pre.length : Nat)), x4, x5, some (.int s), x7, x8, some (.tup [.int k', .int d']), none, none, none] (M (pre ++ mid ++ post)) =
      .ok (.nx [some (encT t), some (.lst (os.map (encOc t))), some (CL N), some (.int (pre.length : Nat)), x4, x5, some (.int s), x7, x8, some (.tup [.int k', .int d']), none, none, none]) (M (pre ++ rest.foldl (fun acc o => zapp acc (wT t o k' k' d')) mid ++ post))
  | [], done, mid, _, _, _, _, _, _, _ => rfl
  | o :: rest, done, mid, ho, hd, hw, hm, hs, hN, hN2 => by
    have hz : (zapp mid (wT t o k' k' d')).length = nT t := by rw [zapp_len, hm, wT_len]; omega
    have ih := write_loop hr (os := os) (s := s) (k' := k') (d' := d') (x4 := x4) (x5 := x5) (x7 := x7) (x8 := x8) (pre := pre) (post := post) (N := N) rest (done ++ [o]) (zapp mid (wT t o k' k' d')) (by rw [ho]; simp) (by simp) (fun x hx => hw x (List.mem_cons_of_mem _ hx)) hz (fun c hc => by
      obtain ⟨x, hx, y, hy, rfl⟩ := mem_zapp hc
      have h1 := hs x hx
      have h2 := wT_sz t o _ _ _ y hy
      rw [List.map_cons, List.sum_cons] at h1
      rw [List.length_append]; omega) (by rw [hN]; simp [hm, hz]) hN2
    have hj : os[done.length]? = some o := by rw [ho, List.getElem?_append_right (Nat.le_refl _)]; simp
    have hd0 : done.length ≠ 0 := fun e => hd (List.length_eq_zero_iff.mp e)
    have e1 := write_turn hr (s := s) (k' := k') (d' := d') (x4 := x4) (x5 := x5) (x7 := x7) (x8 := x8) hj (hw o List.mem_cons_self) (pre := pre) (mid := mid) (post := post) hm (fun c hc => by
      have h1 := hs c hc
      rw [List.map_cons, List.sum_cons] at h1
      omega) hN hN2
    rw [if_neg hd0] at e1
    rw [List.length_cons, List.range'_succ, List.map_cons, forL_cons]
    rw [List.length_append] at ih
    simp_arith [e1]
    rw [List.foldl_cons]
    exact ih
theorem write_step {f n b : Nat} {t : Tr} (hn : n < 6) (hk : KOk n (encT t)) (hr : ∀ g, t = .gp g → RSpec b (RW f).2 g) : WSpec b (RW (f + 1)).1 t := by
  intro ru os s k d pre mid post N hm hw hol hs hN hN2
  show (R__law_write_x__law_write_record (f + 1)).1 _ _ = _
  rw [u__law_write]
  unfold b__law_write
  have hsum : N = pre.length + mid.length + post.length := by rw [hN]; simp; omega
  have hnT : nT t ≤ 1000000 := by omega
  have hpl : pre.length ≤ 1000000 := by omega
  obtain ⟨K', hK'⟩ : ∃ K', K' = kU ru k := ⟨_, rfl⟩
  obtain ⟨D', hD'⟩ : ∃ D', D' = dU ru d := ⟨_, rfl⟩
  have eK : (k : Int) + (if decide (ru = .rep) = true then 1 else 0) = (K' : Int) := by rw [hK']; unfold kU; by_cases h : ru = .rep <;> simp [h]
  have eD : (d : Int) + (if (!decide (ru = .req)) = true then 1 else 0) = (D' : Int) := by rw [hD']; unfold dU; by_cases h : ru = .req <;> simp [h]
  have hc := fun m => leaf_count_t hn hk (m := m)
  rw [← hK', ← hD']
  cases os with
  | nil =>
    have hN' : N = (pre ++ mid ++ post).length := hN
    have e1 := write_none (f := f) (e := ⟨s, d, none⟩) (N := 0) (x0 := some (encT t)) (x1 := some (.lst [])) (x3 := some (.int (pre.length : Nat))) (x4 := some (.tup [.int s, .int k, .int d])) (x5 := some (.str (ruS ru))) (x7 := some (.int k)) (x9 := some (.tup [.int K', .int D'])) mid pre post N hN (fun c hc => by have := hs c hc; omega) rfl
    have hr2 : ∀ m, iRg2 [.int (pre.length : Nat), .int ((pre.length : Int) + (nT t : Nat))] m = .ok ((List.range' pre.length mid.length).map fun k => D.int (k : Nat)) m := fun m => by
      have := iRg2_n (m := m) (i := (pre.length : Nat)) (j := (pre.length : Int) + (nT t : Nat)) (a := pre.length) (b := pre.length + nT t) rfl (by omega) (by omega) (by omega)
      rw [Nat.add_sub_cancel_left, ← hm] at this
      rw [← hm]; exact this
    have hr0 : ∀ m, iRg [.int 0] m = .ok [] m := fun m => iRg_n (n := 0) rfl (by omega)
    have ez : zapp mid (wS (fun o s => wT t o s K' D') (nT t) s K' d []) = mid.map fun c => c ++ [⟨s, d, none⟩] := by
      unfold wS
      rw [← hm, zapp_one]
    rw [ez]
    simp only [List.map_nil]
    simp_arith [y_rP, y_nQ, eK, eD, List.isEmpty_nil, hc, hr2, e1, hr0, List.length_nil, Int.natCast_zero]
  | cons o os =>
    have hne : ((o :: os).map (encOc t)).isEmpty = false := by simp
    have hl : bLen [.lst ((o :: os).map (encOc t))] (M (pre ++ mid ++ post)) = .ok (.int ((os.length + 1 : Nat) : Int)) (M (pre ++ mid ++ post)) := by rw [y_lenL, List.length_map]; rfl
    have hr1 : ∀ m, iRg [.int ((os.length + 1 : Nat) : Int)] m = .ok (D.int (0 : Nat) :: (List.range' 1 os.length).map fun k => D.int (k : Nat)) m := fun m => by
      have := iRg_n (m := m) (i := ((os.length + 1 : Nat) : Int)) (n := os.length + 1) rfl (by simp at hol; omega)
      rw [this, List.range_eq_range', List.range'_succ]
      rfl
    obtain ⟨X, hX⟩ : ∃ X : Int, X = ((os.length + 1 : Nat) : Int) := ⟨_, rfl⟩
    rw [← hX] at hl hr1
    have hz : (zapp mid (wT t o s K' D')).length = nT t := by rw [zapp_len, hm, wT_len]; omega
    have e1 := write_turn hr (os := o :: os) (j := 0) (s := s) (k' := K') (d' := D') (x4 := some (.tup [.int s, .int k, .int d])) (x5 := some (.str (ruS ru))) (x7 := some (.int k)) (x8 := some (.int d)) rfl (hw o List.mem_cons_self) (pre := pre) (mid := mid) (post := post) hm (fun c hc => by
      have h1 := hs c hc
      rw [List.map_cons, List.sum_cons] at h1
      omega) hN hN2
    rw [if_pos rfl] at e1
    simp only [Int.cast_ofNat_Int] at e1 hr1
    have e2 := write_loop hr (os := o :: os) (s := s) (k' := K') (d' := D') (x4 := some (.tup [.int s, .int k, .int d])) (x5 := some (.str (ruS ru))) (x7 := some (.int k)) (x8 := some (.int d)) (pre := pre) (post := post) (N := N) os [o] (zapp mid (wT t o s K' D')) rfl (by simp) (fun x hx => hw x (List.mem_cons_of_mem _ hx)) hz (fun c hc => by
      obtain ⟨x, hx, y, hy, rfl⟩ := mem_zapp hc
      have h1 := hs x hx
      have h2 := wT_sz t o _ _ _ y hy
      rw [List.map_cons, List.sum_cons] at h1
      rw [List.length_append]; omega) (by rw [hN]; simp [hm, hz]) hN2
    have ez : zapp mid (wS (fun o s => wT t o s K' D') (nT t) s K' d (o :: os)) = os.foldl (fun acc o => zapp acc (wT t o K' K' D')) (zapp mid (wT t o s K' D')) := by
      show zapp mid (os.foldl (fun acc o => zapp acc (wT t o K' K' D')) (wT t o s K' D')) = _
      generalize wT t o s K' D' = a
      clear e1 e2 hz hl hs hw hol hne hX hr1
      induction os generalizing a with
      | nil => rfl
      | cons p os ih => simp only [List.foldl_cons]; rw [ih, zapp_assoc]
    rw [ez]
    have e2' : forL (.nm 11) (f__law_write_1 (RW f).1 (RW f).2) ((List.range' 1 os.length).map fun k => D.int (k : Nat)) _ _ = _ := e2
    simp_arith [y_rP, y_nQ, eK, eD, hne, hl, hr1, forL_cons, e1, e2']

end PU
set_option Elab.async false
set_option linter.all false
set_option maxRecDepth 100000
set_option maxHeartbeats 4000000
namespace PU
open PySem PySem.Spec L2 FR
theorem leaves_ok {n : Nat} {fs : List D} (m : List O) (hn : n ≤ 4) (h : FsOk (KOk n) fs) (hl : leaves n fs ≤ 500) : ∃ m', o__law_leaves [.tup fs] m = .ok (.lst ((absW n fs 0 0).map leafA)) m' := by
  obtain ⟨m1, e1, f1⟩ := lways_ok n 6 (by omega) fs [] 0 0 (m ++ [.lst []]) h (by simp; omega) hl
  have e1 : o__law_ways [.tup fs, .lst [], .tup [.int 0, .int 0]] (m ++ [.lst []]) = .ok (.lst ((absW n fs 0 0).map (lawD []))) m1 := e1
  have hq1 : m1[m.length]? = some (.lst []) := f1 _ _ getL
  have hlen := abs_len (r := 0) (z := 0) h
  obtain ⟨r', m', e, x2, x3, x4, acc, rfl, hq, hacc, hf⟩ := forL_inv (p := .tp [2, 3]) (body := (sExp (fApp (fVar 1) (aCons (fTup (aCons (fJoin (fC (.str ".")) (fLc [4] (.nm 4) (iAll (fVar 2)) tTrue (fBin gIx (fVar 4) (fC (.int 0))))) (aCons (fVar 3) (aCons (fBin gIx (fBin gIx (fVar 2) (fUn gNeg (fC (.int 1)))) (fC (.int 2))) (aCons (fBin gIx (fBin gIx (fVar 2) (fUn gNeg (fC (.int 1)))) (fC (.int 3))) aNil))))) aNil))))
    (fun k rr mm => ∃ x2 x3 x4 acc, rr = [some (.tup fs), some (.loc m.length), x2, x3, x4] ∧ mm[m.length]? = some (.lst acc) ∧ acc = ((absW n fs 0 0).take k).map leafA ∧ Fr m mm) ((absW n fs 0 0).map (lawD [])) 0 [some (.tup fs), some (.loc m.length), none, none, none] m1 ⟨none, none, none, [], rfl, hq1, rfl, Fr.app.trans f1⟩ fun k d rr mm hd ⟨x2, x3, x4, acc, hrr, hq, hacc, hf⟩ => by
      subst hrr
      rw [Nat.zero_add] at hacc
      have hkl := (List.getElem?_eq_some_iff.mp hd).1
      rw [List.length_map, hlen] at hkl
      rw [List.getElem?_map] at hd
      obtain ⟨qq, hgq, rfl⟩ := Option.map_eq_some_iff.mp hd
      have hqq := List.mem_of_getElem? hgq
      have htk : (absW n fs 0 0).take (k + 1) = (absW n fs 0 0).take k ++ [qq] := by rw [List.take_add_one, hgq]; rfl
      have hacl : acc.length ≤ 500 := by rw [hacc, List.length_map, List.length_take, hlen]; omega
      obtain ⟨w, kd⟩ := qq
      obtain ⟨b1, b2, b3⟩ := abs_names n fs 0 0 h _ hqq
      obtain ⟨w', x, rfl⟩ : ∃ w' x, w = w' ++ [x] := by
        rcases List.eq_nil_or_concat w with hh | ⟨w', x, hh⟩
        · exact absurd hh b1
        · exact ⟨w', x, by rw [hh]; simp⟩
      let R4 : Lc := [some (.tup fs), some (.loc m.length), some (.lst ((w' ++ [x]).map s4D)), some kd, x4]
      have hll : ((w' ++ [x]).map s4D).length ≤ 16777215 := by rw [List.length_map]; simp only at b2; omega
      have ce : ∀ r : Lc, r.length = 5 → compL (.nm 4) tTrue (fBin gIx (fVar 4) (fC (.int 0))) r ((w' ++ [x]).map s4D) mm = .ok (((w' ++ [x]).map (·.1)).map D.str) mm := fun r hr => by
        have := compL_map (p := .nm 4) (t := tTrue) (f := (fBin gIx (fVar 4) (fC (.int 0)))) (r := r) (m := mm) (fun d => .str (nameD d)) ((w' ++ [x]).map s4D) fun d hd => by
          obtain ⟨s, hs, rfl⟩ := List.mem_map.mp hd
          refine ⟨r.set 4 (some (s4D s)), rfl, rfl, ?_⟩
          have hg : (r.set 4 (some (s4D s)))[4]? = some (some (s4D s)) := by rw [List.getElem?_set]; simp [hr]
          simp only [fBin, fVar, fC, Rs.bind, hg]
          exact s4_name
        rw [this, List.map_map, List.map_map]
        rfl
      have hj : (((w' ++ [x]).map (·.1)).map (·.length)).sum + ((w' ++ [x]).map (·.1)).length * ((".") : Str).length ≤ 16777216 := by
        have := sum_len (w' ++ [x]) fun s hs => (b3 s hs).1.2.2
        rw [List.length_map, show ((".") : Str).length = 1 from by decide]
        simp only at b2
        omega
      have c3 : (fJoin (fC (.str ".")) (fLc [4] (.nm 4) (iAll (fVar 2)) tTrue (fBin gIx (fVar 4) (fC (.int 0))))) R4 mm = .ok (.str (Str.join "." ((w' ++ [x]).map (·.1)))) mm := by
        have i2 : (iAll (fVar 2)) R4 mm = .ok ((w' ++ [x]).map s4D) mm := rfl
        simp only [fJoin, fC, Rs.bind, fLc, i2, if_pos hll]
        rw [show (compL (.nm 4) tTrue (fBin gIx (fVar 4) (fC (D.int 0))) (wipeL R4 [4]) ((w' ++ [x]).map s4D) mm) = .ok (((w' ++ [x]).map (·.1)).map D.str) mm from ce _ (by simp [R4])]
        simp only [derefS, strsD_map, if_pos hj, jeq]
      have el : atI ((w' ++ [x]).map s4D) (-1) = some (s4D x) := by rw [List.map_append]; exact atLast
      have c4 : (fBin gIx (fVar 2) (fUn gNeg (fC (.int 1)))) R4 mm = .ok (s4D x) mm := by
        have v : (fVar 2) R4 mm = .ok (.lst ((w' ++ [x]).map s4D)) mm := rfl
        simp only [fBin, fUn, fC, gNeg, Rs.bind, v, gIx, derefS, el]
      have c5 : (fBin gIx (fBin gIx (fVar 2) (fUn gNeg (fC (.int 1)))) (fC (.int 2))) R4 mm = .ok (.int x.2.2.1) mm := by
        rw [show (fBin gIx (fBin gIx (fVar 2) (fUn gNeg (fC (.int 1)))) (fC (.int 2))) R4 mm = ((fBin gIx (fVar 2) (fUn gNeg (fC (.int 1)))) R4 mm).bind (fun a m => gIx a (.int 2) m) from rfl, c4]
        exact s4_r
      have c6 : (fBin gIx (fBin gIx (fVar 2) (fUn gNeg (fC (.int 1)))) (fC (.int 3))) R4 mm = .ok (.int x.2.2.2) mm := by
        rw [show (fBin gIx (fBin gIx (fVar 2) (fUn gNeg (fC (.int 1)))) (fC (.int 3))) R4 mm = ((fBin gIx (fVar 2) (fUn gNeg (fC (.int 1)))) R4 mm).bind (fun a m => gIx a (.int 3) m) from rfl, c4]
        exact s4_z
      have l4 : ∀ a b c d : D, [a, b, c, d].length ≤ 16777216 := fun a b c d => by simp
      have v1 : (fVar 1) R4 mm = .ok (.loc m.length) mm := rfl
      have v3 : (fVar 3) R4 mm = .ok kd mm := rfl
      have hlt : acc.length < 16777216 := by omega
      have hlf : leafA (w' ++ [x], kd) = .tup [.str (Str.join "." ((w' ++ [x]).map (·.1))), kd, .int x.2.2.1, .int x.2.2.2] := by unfold leafA; simp
      refine ⟨R4, R4, mm.set m.length (.lst (acc ++ [.tup [.str (Str.join "." ((w' ++ [x]).map (·.1))), kd, .int x.2.2.1, .int x.2.2.2]])), rfl, ?_, _, _, _, _, rfl, get_set hq, by rw [show 0 + k + 1 = k + 1 by omega, htk, List.map_append, hacc]; simp [hlf], hf.set (Nat.le_refl _)⟩
      simp only [sExp, fApp, Rs.sq, Rs.bind, v1, derefL, hq, aCons, aNil, fTup, c3, v3, c5, c6, if_pos (l4 _ _ _ _), if_pos hlt]
  rw [Nat.zero_add, List.length_map, List.take_length] at hacc
  refine ⟨m'.set m.length .dead, ?_⟩
  rw [← hacc]
  have e4 : b__law_leaves [some (.tup fs), none, none, none, none] m = .ok (.rt (.lst acc)) (m'.set m.length .dead) := by
    refine (seq_nx (r' := [some (.tup fs), some (.loc m.length), none, none, none]) (m' := m ++ [.lst []]) ?_).trans ((seq_nx (r' := [some (.tup fs), some (.loc m.length), x2, x3, x4]) (m' := m') ?_).trans ?_)
    · simp [sSet, fNew, aNil, Rs.sq, Rs.bind]
    · have i1 : (iAll (fCB o__law_ways (aCons (fVar 0) (aCons (fLst aNil) (aCons (fTup (aCons (fC (.int 0)) (aCons (fC (.int 0)) aNil))) aNil))))) [some (.tup fs), some (.loc m.length), none, none, none] (m ++ [.lst []]) = .ok ((absW n fs 0 0).map (lawD [])) m1 := by
        have a1 : (aCons (fVar 0) (aCons (fLst aNil) (aCons (fTup (aCons (fC (.int 0)) (aCons (fC (.int 0)) aNil))) aNil))) [some (.tup fs), some (.loc m.length), none, none, none] (m ++ [.lst []]) = .ok [.tup fs, .lst [], .tup [.int 0, .int 0]] (m ++ [.lst []]) := rfl
        simp only [iAll, fCB, Rs.bind, a1, e1]
      simp only [sFor, Rs.sq, i1, e]
    · simp only [sRet, Rs.sq, fFrz, fUn, fVar, Rs.bind, List.getElem?_cons_zero, List.getElem?_cons_succ, gFrz, hq]
  exact runF_rt (n := 5) (ds := [.tup fs]) e4
end PU
set_option Elab.async false
set_option linter.all false
set_option maxRecDepth 100000
set_option maxHeartbeats 4000000
namespace PU
open PySem PySem.Spec L2 FR
set_option autoImplicit false
theorem rec_loop {f n b : Nat} (hn : n < 6) (hb : b ≤ 1000) (hW : ∀ t, KOk n (encT t) → WSpec b (RW f).1 t) {F0 : D} {ks : List Str} {vs : List D} {s k d : Nat} {post0 : List Col} {N : Nat} (hN2 : N ≤ 1000) : ∀ (fs : Fs) (cs : List (List Oc)) (pre mid : List Col), (∀ d ∈ encF fs, FOk (KOk n) d) → Lk fs cs ks vs → wfC b fs cs → mid.length = nF fs → (∀ c ∈ mid, c.length + szF fs cs ≤ 16777215) → N = (pre ++ mid ++ post0).length →
    ∃ q : D, forL (.tp [5, 6, 7]) (f__law_write_record_0 (RW f).1 (RW f).2) (encF fs) [some F0, some (.dct ks vs), some (CL N), some (.int (pre.length : Nat)), some (.tup [.int s, .int k, .int d]), none, none, none, none, none] (M (pre ++ mid ++ post0)) =
      .ok (.nx [some F0, some (.dct ks vs), some (CL N), some q, some (.tup [.int s, .int k, .int d]), none, none, none, none, none]) (M (pre ++ zapp mid (wF fs cs s k d) ++ post0))
  | .nil, cs, pre, mid, _, _, _, hm, _, _ => by
    refine ⟨.int (pre.length : Nat), ?_⟩
    have : mid = [] := List.length_eq_zero_iff.mp hm
    subst this
    rfl
  | .cons nm ru t fs, [], pre, mid, _, h, _, _, _, _ => h.elim
  | .cons nm ru t fs, os :: cs, pre, mid, hf, hl, hw, hm, hs, hN => by
    obtain ⟨hk, hf'⟩ := head_t hf
    obtain ⟨hl1, hl2⟩ := hl
    obtain ⟨hw1, hw2, hw3⟩ := hw
    simp only [nF] at hm
    simp only [szF] at hs
    obtain ⟨m1, m2, rfl, h1, h2⟩ : ∃ m1 m2, mid = m1 ++ m2 ∧ m1.length = nT t ∧ m2.length = nF fs := ⟨mid.take (nT t), mid.drop (nT t), by simp, by simp; omega, by simp; omega⟩
    have hol : os.length ≤ 1000 := by
      cases ru <;> simp [cntOk] at hw2 <;> omega
    have hwr := hW t hk ru os s k d pre m1 (m2 ++ post0) N h1 hw1 hol (fun c hc => by have := hs c (List.mem_append_left _ hc); omega) (by rw [hN]; simp) hN2
    have hzl : (zapp m1 (wS (fun o s => wT t o s (kU ru k) (dU ru d)) (nT t) s (kU ru k) d os)).length = nT t := by
      rw [zapp_len, h1]
      have : (wS (fun o s => wT t o s (kU ru k) (dU ru d)) (nT t) s (kU ru k) d os).length = nT t := by
        cases os with
        | nil => simp [wS]
        | cons o os => exact foldl_len (fun o => wT_len t o _ _ _) os _ (wT_len t o _ _ _)
      omega
    obtain ⟨Z, hZ⟩ : ∃ Z, Z = zapp m1 (wS (fun o s => wT t o s (kU ru k) (dU ru d)) (nT t) s (kU ru k) d os) := ⟨_, rfl⟩
    rw [← hZ] at hwr hzl
    obtain ⟨q, ih⟩ := rec_loop hn hb hW (F0 := F0) (ks := ks) (vs := vs) (s := s) (k := k) (d := d) (post0 := post0) hN2 fs cs (pre ++ Z) m2 hf' hl2 hw3 h2 (fun c hc => by have := hs c (List.mem_append_right _ hc); omega) (by rw [hN]; simp [h1, hzl])
    refine ⟨q, ?_⟩
    have e0 : pre ++ (m1 ++ m2) ++ post0 = pre ++ m1 ++ (m2 ++ post0) := by simp
    have e9 : pre ++ Z ++ (m2 ++ post0) = pre ++ Z ++ m2 ++ post0 := by simp
    have e8 : pre ++ zapp (m1 ++ m2) (wF (.cons nm ru t fs) (os :: cs) s k d) ++ post0 = pre ++ Z ++ zapp m2 (wF fs cs s k d) ++ post0 := by
      rw [wF, zapp_app (by
        rw [h1]
        cases os with
        | nil => simp [wS]
        | cons o os => exact (foldl_len (fun o => wT_len t o _ _ _) os _ (wT_len t o _ _ _)).symm), ← hZ]
      simp
    rw [e8, e0]
    rw [e9] at hwr
    have hc := leaf_count_t hn hk (m := M (pre ++ Z ++ m2 ++ post0))
    have hlen : (pre ++ Z).length = pre.length + nT t := by rw [List.length_append, hzl]
    rw [hlen] at ih
    have hg : ∀ m, gIxA (.dct ks vs) (.str nm) m = .ok (encCt ru (encOc t) os) m := fun m => by
      show (match lookD ks vs nm with | some v => Rs.ok v m | none => .stk) = _
      rw [hl1]
    have hnn : ∀ o ∈ os, FR.isNon (encOc t o) = false := fun o ho => by
      have := hw1 o ho
      cases t with
      | lf K => cases o with
        | v x => exact isNon_V x
        | r _ => exact this.elim
      | gp g => cases o with
        | v x => exact this.elim
        | r cs => rfl
    have hbody : f__law_write_record_0 (RW f).1 (RW f).2 [some F0, some (.dct ks vs), some (CL N), some (.int (pre.length : Nat)), some (.tup [.int s, .int k, .int d]), some (.str nm), some (.str (ruS ru)), some (encT t), none, none] (M (pre ++ m1 ++ (m2 ++ post0))) =
        .ok (.nx [some F0, some (.dct ks vs), some (CL N), some (.int ((pre.length + nT t : Nat) : Int)), some (.tup [.int s, .int k, .int d]), none, none, none, none, none]) (M (pre ++ Z ++ m2 ++ post0)) := by
      unfold f__law_write_record_0
      cases ru with
      | rep =>
        have e3 : encCt .rep (encOc t) os = .lst (os.map (encOc t)) := rfl
        rw [e3] at hg
        simp_arith [hg, y_rP, hwr, hc]
      | req =>
        match os, hw2 with
        | [o], _ =>
          have e3 : encCt .req (encOc t) [o] = encOc t o := rfl
          rw [e3] at hg
          have := hnn o (by simp)
          simp only [List.map_cons, List.map_nil] at hwr
          simp_arith [hg, y_rP, this, hwr, hc]
      | opt =>
        match os, hw2 with
        | [], _ =>
          have e3 : encCt .opt (encOc t) [] = .non := rfl
          rw [e3] at hg
          simp only [List.map_nil] at hwr
          simp_arith [hg, y_rP, hwr, hc]
        | [o], _ =>
          have e3 : encCt .opt (encOc t) [o] = encOc t o := rfl
          rw [e3] at hg
          have := hnn o (by simp)
          simp only [List.map_cons, List.map_nil] at hwr
          simp_arith [hg, y_rP, this, hwr, hc]
    show forL _ _ (.tup [.str nm, .str (ruS ru), encT t] :: encF fs) _ _ = _
    rw [forL_cons]
    simp_arith [hbody]
    exact ih
theorem rec_step {f n b : Nat} (hn : n < 6) (hb : b ≤ 1000) (hW : ∀ t, KOk n (encT t) → WSpec b (RW f).1 t) {fs : Fs} (hf : FsOk (KOk n) (encF fs)) : RSpec b (RW (f + 1)).2 fs := by
  intro cs s k d pre mid post N hm hw hs hN hN2
  have hnd : (nms fs).Nodup := by rw [← nms_enc]; exact hf.2.2.2
  obtain ⟨q, e⟩ := rec_loop hn hb hW (F0 := .tup (encF fs)) (s := s) (k := k) (d := d) (post0 := post) hN2 fs cs pre mid hf.2.2.1 (Lk_of hnd hw) hw hm hs hN
  show (R__law_write_x__law_write_record (f + 1)).2 _ _ = _
  rw [u__law_write_record]
  unfold b__law_write_record
  simp_arith [e]
theorem rw_ok {b : Nat} (hb : b ≤ 1000) : ∀ (n f : Nat), n < 6 → (∀ t, KOk n (encT t) → 2 * n + 1 ≤ f → WSpec b (RW f).1 t) ∧ (∀ fs, FsOk (KOk n) (encF fs) → 2 * n + 2 ≤ f → RSpec b (RW f).2 fs) := by
  intro n
  induction n with
  | zero =>
    intro f hn
    have hw : ∀ f t, KOk 0 (encT t) → 1 ≤ f → WSpec b (RW f).1 t := fun f t hk hf => by
      obtain ⟨f, rfl⟩ : ∃ g, f = g + 1 := ⟨f - 1, by omega⟩
      exact write_step hn hk fun g e => by subst e; exact hk.elim
    refine ⟨fun t hk hf => hw f t hk (by omega), fun fs hk hf => ?_⟩
    obtain ⟨f, rfl⟩ : ∃ g, f = g + 1 := ⟨f - 1, by omega⟩
    exact rec_step hn hb (fun t ht => hw f t ht (by omega)) hk
  | succ n ih =>
    intro f hn
    have hw : ∀ f t, KOk (n + 1) (encT t) → 2 * (n + 1) + 1 ≤ f → WSpec b (RW f).1 t := fun f t hk hf => by
      obtain ⟨f, rfl⟩ : ∃ g, f = g + 1 := ⟨f - 1, by omega⟩
      exact write_step hn hk fun g e => by subst e; exact (ih f (by omega)).2 g hk (by omega)
    refine ⟨fun t hk hf => hw f t hk (by omega), fun fs hk hf => ?_⟩
    obtain ⟨f, rfl⟩ : ∃ g, f = g + 1 := ⟨f - 1, by omega⟩
    exact rec_step hn hb (fun t ht => hw f t ht (by omega)) hk

/-- what the law's own leaves are -/
theorem lleaves_t {F : Fs} (h : Sch F) : ∃ ls : List D, (∀ m, iso o__law_leaves [.tup (encF F)] m = .ok (.lst ls) m) ∧ ls.length = nF F := by
  obtain ⟨m', e⟩ := leaves_ok (n := 2) [] (by omega) h.ok (by have := h.le; omega)
  have e3 : (absW 2 (encF F) 0 0).length = nF F := by rw [abs_wys h, List.length_map]; exact wsF_len F 0 0
  exact ⟨_, fun m => iso_val (by simp [noLocs, noLoc, encF_nl]) e (show noLocs _ = true from pl_noLoc 2 (.tup _) (lv_pl h.ok h.le)), by rw [List.length_map, e3]⟩
/-- the law's own ways -/
def s4Dt (s : Stp) : D := .tup [.str s.nm, .str (ruS s.ru), .int s.k, .int s.d]
def lwD (q : Wy) : D := .tup [.lst (q.1.map s4Dt), .str (kdS q.2)]
theorem lways_t {F : Fs} (h : Sch F) {m : List O} : iso o__law_ways [.tup (encF F), .lst [], .tup [.int 0, .int 0]] m = .ok (.lst ((wys F).map lwD)) m := by
  obtain ⟨m1, e1, _⟩ := lways_ok 2 6 (by omega) (encF F) [] 0 0 [] h.ok (by simp) (by have := h.le; omega)
  have e : (absW 2 (encF F) 0 0).map (lawD []) = (wys F).map lwD := by
    rw [abs_wys h, List.map_map]
    refine List.map_congr_left fun q _ => ?_
    show D.tup [.lst ([] ++ (q.1.map rawS).map s4D), .str (kdS q.2)] = _
    rw [List.nil_append, List.map_map]
    rfl
  have e1' : o__law_ways [.tup (encF F), .lst [], .tup [.int 0, .int 0]] [] = .ok (.lst ((absW 2 (encF F) 0 0).map (lawD []))) m1 := e1
  rw [e] at e1'
  refine iso_val (by simp [noLocs, noLoc, encF_nl]) e1' (noLocs_map lwD _ fun q _ => ?_)
  simp only [lwD, noLoc, noLocs, Bool.and_true]
  exact noLocs_map s4Dt _ fun s _ => rfl
theorem lcols_t {b : Nat} (hb : b ≤ 1000) {F : Fs} (h : Sch F) {rs : List (List (List Oc))} (hw : ∀ cs ∈ rs, wfC b F cs) (hs : (rs.map (szF F)).sum ≤ 16777215) (hl : rs.length ≤ 1000) : ∃ m', o__law_columns [.tup (encF F), .lst (rs.map fun cs => .dct (nms F) (encCs F cs))] [] = .ok (.tup ((wRecs F rs).map encC)) m' := by
  obtain ⟨ls, e1, e2⟩ := lleaves_t h
  have hn : nF F ≤ 12 := by
    have := wys_le h
    rw [show (wys F).length = nF F from wsF_len F 0 0] at this; exact this
  rw [u__law_columns]
  unfold b__law_columns
  have hc1 : ∀ (l : List D) (m0 : List O) (r : Lc), r.length = 6 → compL (.nm 3) tTrue e__law_columns_0 r l m0 = .ok ((List.range' m0.length l.length).map fun i => D.loc i) (m0 ++ List.replicate l.length (.lst [])) := by
    intro l
    induction l with
    | nil => intro m0 r _; simp [compL]
    | cons a l ih =>
      intro m0 r hr
      have := ih (m0 ++ [.lst []]) r hr
      have ef : e__law_columns_0 (r.set 3 (some a)) m0 = .ok (.loc m0.length) (m0 ++ [.lst []]) := rfl
      simp only [compL, asg, tTrue, ef, this, Rs.bind, List.length_append, List.length_cons, List.length_nil, Nat.zero_add, List.range'_succ, List.map_cons]
      rw [List.append_assoc]; rfl
  have hM : ∀ n : Nat, List.replicate n (O.lst []) = M (List.replicate n []) := fun n => by simp [M]
  have hC : ∀ n : Nat, D.lst ((List.range' 0 n).map fun i => D.loc i) = CL n := fun n => by rw [CL, List.range_eq_range']
  have hc2 := hc1 ls [] [some (.tup (encF F)), some (.lst (rs.map fun cs => .dct (nms F) (encCs F cs))), none, none, none, none] rfl
  rw [e2, List.nil_append, hM] at hc2
  have hf : ∀ (rs0 : List (List (List Oc))) (mid : List Col) (x1 : Option D), (∀ cs ∈ rs0, wfC b F cs) → mid.length = nF F → (∀ c ∈ mid, c.length + (rs0.map (szF F)).sum ≤ 16777215) → forL (.nm 4) f__law_columns_0 (rs0.map fun cs => .dct (nms F) (encCs F cs)) [some (.tup (encF F)), x1, some (CL (nF F)), none, none, none] (M mid) = .ok (.nx [some (.tup (encF F)), x1, some (CL (nF F)), none, none, none]) (M (rs0.foldl (fun acc cs => zapp acc (wF F cs 0 0 0)) mid)) := by
    intro rs0
    induction rs0 with
    | nil => intros; rfl
    | cons cs rs0 ih =>
      intro mid x1 hw0 hm0 hs0
      simp only [List.map_cons, List.sum_cons] at hs0
      have hR := (rw_ok (b := b) hb 2 9 (by omega)).2 F h.ok (by omega)
      have e3 := hR cs 0 0 0 [] mid [] (nF F) hm0 (hw0 cs List.mem_cons_self) (fun c hc => by have := hs0 c hc; omega) (by simp [hm0]) (by omega)
      simp only [List.nil_append, List.append_nil, List.length_nil, Int.cast_ofNat_Int] at e3
      have e4 : o__law_write_record [.tup (encF F), .dct (nms F) (encCs F cs), CL (nF F), .int 0, .tup [.int 0, .int 0, .int 0]] (M mid) = .ok .non (M (zapp mid (wF F cs 0 0 0))) := e3
      have ih2 := ih (zapp mid (wF F cs 0 0 0)) x1 (fun c hc => hw0 c (List.mem_cons_of_mem _ hc)) (by rw [zapp_len, hm0, wF_len]; omega) (fun c hc => by
        obtain ⟨x, hx, y, hy, rfl⟩ := mem_zapp hc
        have h1 := hs0 x hx
        have h2 := wF_sz F cs _ _ _ y hy
        rw [List.length_append]; omega)
      rw [List.map_cons, forL_cons]
      have eb : f__law_columns_0 [some (.tup (encF F)), x1, some (CL (nF F)), none, some (.dct (nms F) (encCs F cs)), none] (M mid) = .ok (.nx [some (.tup (encF F)), x1, some (CL (nF F)), none, none, none]) (M (zapp mid (wF F cs 0 0 0))) := by
        unfold f__law_columns_0
        simp_arith [e4]
      simp_arith [eb]
      exact ih2
  have hf2 := hf rs (List.replicate (nF F) []) (some (.lst (rs.map fun cs => .dct (nms F) (encCs F cs)))) hw (by simp) (fun c hc => by simp at hc; simp [hc.2]; exact hs)
  have hlw := wRecs_len (fs := F) rs
  have ec : compL (.nm 5) tTrue e__law_columns_1 [some (.tup (encF F)), some (.lst (rs.map fun cs => .dct (nms F) (encCs F cs))), some (CL (nF F)), none, none, none] ((List.range (nF F)).map fun i => D.loc i) (M (wRecs F rs)) = .ok ((List.range (nF F)).map fun i => encC ((wRecs F rs).getD i [])) (M (wRecs F rs)) := by
    refine comp_map (fun i => D.loc i) (fun i => encC ((wRecs F rs).getD i [])) (fun i => [some (.tup (encF F)), some (.lst (rs.map fun cs => .dct (nms F) (encCs F cs))), some (CL (nF F)), none, none, some (.loc i)]) _ fun i hi => ⟨rfl, ?_⟩
    have hi' : i < (wRecs F rs).length := by rw [hlw]; exact List.mem_range.mp hi
    have e5 : (M (wRecs F rs))[i]? = some (.lst (((wRecs F rs).getD i []).map encE)) := by
      unfold M
      rw [List.getElem?_map, List.getElem?_eq_getElem hi']
      simp [List.getD_eq_getElem?_getD, hi']
    unfold e__law_columns_1
    simp_arith [y_tupO e5, encC]
  have ef : ((List.range (nF F)).map fun i => encC ((wRecs F rs).getD i [])) = (wRecs F rs).map encC := by
    apply List.ext_getElem?
    intro i
    rw [List.getElem?_map, List.getElem?_map]
    by_cases hi : i < nF F
    · have hi' : i < (wRecs F rs).length := by rw [hlw]; exact hi
      rw [List.getElem?_range hi, List.getElem?_eq_getElem hi']
      simp [List.getD_eq_getElem?_getD, hi']
    · rw [List.getElem?_eq_none (by simpa using hi), List.getElem?_eq_none (by rw [hlw]; omega)]; rfl
  rw [ef] at ec
  have hll : ls.length ≤ 16777215 := by omega
  have hcl : ((List.range (nF F)).map fun i => D.loc i).length ≤ 16777215 := by simp; omega
  have hca : ∀ m, alld (CL (nF F)) m = .ok ((List.range (nF F)).map fun i => D.loc i) m := fun m => rfl
  refine ⟨M (wRecs F rs), ?_⟩
  have e7 : (wRecs F rs) = rs.foldl (fun acc cs => zapp acc (wF F cs 0 0 0)) (List.replicate (nF F) []) := rfl
  rw [← e7] at hf2
  simp_arith [e1, hll, hc2, List.length_nil, hC, hf2, hca, hcl, ec]

end PU
set_option Elab.async false
set_option linter.all false
set_option maxRecDepth 100000
set_option maxHeartbeats 4000000
namespace PU
open PySem PySem.Spec L2 FR
set_option autoImplicit false
/-! ### draws from a stream -/
def SO (p : Nat) (m : List O) : Prop := ∃ pos : Int, 0 ≤ pos ∧ m[p]? = some (.lst [.int pos])
def SD (ds : List D) (p : Nat) : D := .lst [.lst ds, .loc p]
structure Dg (ds : List D) : Prop where
  l : 0 < ds.length
  d : Digs ds
def Dr (o : List D → List O → Rs D) (args : List D) (p : Nat) (Q : D → Prop) : Prop := ∀ m, SO p m → ∃ d m', o args m = .ok d m' ∧ SO p m' ∧ FrB p m m' ∧ Q d
theorem next_t {ds : List D} {p : Nat} (g : Dg ds) {n : Nat} (hn : 0 < n) {m : List O} (h : SO p m) : ∃ v m', v < n ∧ o__law_next [SD ds p, .int (n : Nat)] m = .ok (.int (v : Nat)) m' ∧ SO p m' ∧ FrB p m m' := by
  obtain ⟨pos, h0, hp⟩ := h
  obtain ⟨v, m', a, b, e, c, f⟩ := next_x hp h0 g.l g.d (many := (n : Int)) (by omega)
  refine ⟨v.toNat, m', by omega, ?_, ⟨pos + 1, by omega, c⟩, f⟩
  rw [show ((v.toNat : Nat) : Int) = v by omega]
  exact e
theorem next_l {ds : List D} {p : Nat} (g : Dg ds) {n : Nat} {i : Int} (hi : i = (n : Nat)) (hn : 0 < n) {m : List O} (h : SO p m) : ∃ v m', v < n ∧ o__law_next [SD ds p, .int i] m = .ok (.int (v : Nat)) m' ∧ SO p m' ∧ FrB p m m' := by
  subst hi; exact next_t g hn h
theorem compL_draw {α : Type} {P : D → Prop} {pt : Pt} {f : FE} {r : Lc} {p : Nat} (enc : α → D) (R : α → Lc) : ∀ (l : List α), (∀ z ∈ l, asg pt (enc z) r = some (R z) ∧ ∀ m, SO p m → ∃ d m', f (R z) m = .ok d m' ∧ SO p m' ∧ FrB p m m' ∧ P d) → ∀ m, SO p m → ∃ ds m', compL pt tTrue f r (l.map enc) m = .ok ds m' ∧ SO p m' ∧ FrB p m m' ∧ ds.length = l.length ∧ ∀ d ∈ ds, P d
  | [], _, m, h => ⟨[], m, rfl, h, .rfl', rfl, fun d hd => by cases hd⟩
  | z :: l, hz, m, h => by
    obtain ⟨h1, h2⟩ := hz z List.mem_cons_self
    obtain ⟨d, m1, e1, s1, f1, p1⟩ := h2 m h
    obtain ⟨ds, m2, e2, s2, f2, l2, p2⟩ := compL_draw enc R l (fun y hy => hz y (List.mem_cons_of_mem _ hy)) m1 s1
    refine ⟨d :: ds, m2, ?_, s2, f1.trans f2, by simp [l2], fun x hx => ?_⟩
    · simp only [List.map_cons, compL, h1, tTrue, e1, e2, Rs.bind]
    · rcases List.mem_cons.mp hx with rfl | hx
      · exact p1
      · exact p2 x hx
theorem join_empty : ∀ l : List Str, (Str.join "" l).cps.toList = (l.map fun x => x.cps.toList).flatten
  | [] => by simp [Str.join]; first | rfl | decide +kernel
  | [s] => by simp [Str.join]
  | s :: x :: l => by
    show (s ++ "" ++ Str.join "" (x :: l)).cps.toList = _
    rw [str_toList, str_toList, join_empty (x :: l)]
    have : (("" : Str)).cps.toList = [] := by decide +kernel
    rw [this]
    simp
def SG15 : Str := "abzAZ09 .-_@/()"
theorem sign15 {v : Nat} (h : v < 15) {m : List O} : ∃ c, c ∈ SG.cps.toList ∧ gIx (.str SG15) (.int (v : Nat)) m = .ok (.str ⟨#[c]⟩) m := by
  have hl : SG15.cps.toList.length = 15 := by decide +kernel
  obtain ⟨c, hc⟩ : ∃ c, SG15.cps.toList[v]? = some c := ⟨_, List.getElem?_eq_getElem (by omega)⟩
  refine ⟨c, ?_, ?_⟩
  · have : ∀ c ∈ SG15.cps.toList, c ∈ SG.cps.toList := by decide +kernel
    exact this c (List.mem_of_getElem? hc)
  · show (if SG15.length ≤ 16777216 then (match atI SG15.cps.toList (v : Int) with | some c => Rs.ok (D.str ⟨#[c]⟩) m | none => .stk) else .stk) = _
    rw [if_pos (by decide +kernel), w_atN, hc]
theorem strs_of : ∀ {ds : List D}, (∀ d ∈ ds, ∃ c, c ∈ SG.cps.toList ∧ d = .str ⟨#[c]⟩) → ∃ ys : List Str, strsD ds = some ys ∧ ys.length = ds.length ∧ (∀ y ∈ ys, ∃ c, c ∈ SG.cps.toList ∧ y = ⟨#[c]⟩)
  | [], _ => ⟨[], rfl, rfl, fun y hy => by cases hy⟩
  | d :: ds, h => by
    obtain ⟨ys, e1, e2, e3⟩ := strs_of fun x hx => h x (List.mem_cons_of_mem _ hx)
    obtain ⟨c, hc, rfl⟩ := h d List.mem_cons_self
    refine ⟨⟨#[c]⟩ :: ys, by simp only [strsD, e1]; rfl, by simp [e2], fun y hy => ?_⟩
    rcases List.mem_cons.mp hy with rfl | hy
    · exact ⟨c, hc, rfl⟩
    · exact e3 y hy
theorem one_chars : ∀ {ys : List Str}, (∀ y ∈ ys, ∃ c, c ∈ SG.cps.toList ∧ y = ⟨#[c]⟩) → ((ys.map fun x => x.cps.toList).flatten).length = ys.length ∧ (∀ c ∈ (ys.map fun x => x.cps.toList).flatten, c ∈ SG.cps.toList) ∧ (ys.map (·.length)).sum = ys.length
  | [], _ => ⟨rfl, ⟨(fun c hc => by simp at hc), rfl⟩⟩
  | y :: ys, h => by
    obtain ⟨a, b, c⟩ := one_chars fun x hx => h x (List.mem_cons_of_mem _ hx)
    obtain ⟨k, hk, rfl⟩ := h y List.mem_cons_self
    refine ⟨by simp [a], fun z hz => ?_, ?_⟩
    · simp only [List.map_cons, List.flatten_cons, List.mem_append] at hz
      rcases hz with hz | hz
      · simp at hz; subst hz; exact hk
      · exact b z hz
    · simp only [List.map_cons, List.sum_cons, c, List.length_cons]
      have : (Str.mk #[k]).length = 1 := rfl
      omega
theorem join_t {fo f : FE} {r : Lc} {m m1 m2 : List O} {x : Str} {d : D} {xs : List D} {ys : List Str} (hfo : fo r m = .ok (.str x) m1) (hf : f r m1 = .ok d m2) (hd : derefS d m2 = some xs) (hs : strsD xs = some ys) (hl : (ys.map (·.length)).sum + ys.length * x.length ≤ 16777216) : fJoin fo f r m = .ok (.str (Txt.join x ys)) m2 := by
  unfold fJoin
  rw [hfo]
  simp only [Rs.bind, hf, hd, hs, if_pos hl]
theorem text_t {ds : List D} {p : Nat} (g : Dg ds) : Dr o__law_text [SD ds p] p fun d => ∃ x, d = .str x ∧ TOk x := by
  intro m h
  rw [u__law_text]
  unfold b__law_text
  obtain ⟨v, m1, hv, e1, s1, f1⟩ := next_l g (n := 5) (i := 5) rfl (by omega) h
  obtain ⟨cs, m2, e2, s2, f2, l2, p2⟩ := compL_draw (p := p) (P := fun d => ∃ c, c ∈ SG.cps.toList ∧ d = .str ⟨#[c]⟩) (pt := .nm 2) (f := e__law_text_0) (r := [some (SD ds p), some (.str SG15), none]) (fun k : Nat => D.int (k : Nat)) (fun k => [some (SD ds p), some (.str SG15), some (.int (k : Nat))]) (List.range v) (fun k _ => ⟨rfl, fun m hm => by
    obtain ⟨u, m', hu, e, s, f⟩ := next_l g (n := 15) (i := 15) rfl (by omega) hm
    obtain ⟨c, hc, ec⟩ := sign15 hu (m := m')
    refine ⟨_, m', ?_, s, f, c, hc, rfl⟩
    unfold e__law_text_0
    simp_arith [e, ec]⟩) m1 s1
  obtain ⟨ys, a1, a2, a3⟩ := strs_of p2
  obtain ⟨b1, b2, b3⟩ := one_chars a3
  have hj : fJoin (fC (.str "")) (fLc [2] (.nm 2) (iR1 (aCons (fCB o__law_next (aCons (fVar 0) (aCons (fC (.int 5)) aNil))) aNil)) tTrue e__law_text_0) [some (SD ds p), some (.str SG15), none] m = .ok (.str (Str.join "" ys)) m2 := by
    have hl : ((List.range v).map fun k : Nat => D.int (k : Nat)).length ≤ 16777215 := by simp; omega
    have hr : ∀ m, iRg [.int (v : Nat)] m = .ok ((List.range v).map fun k => D.int (k : Nat)) m := fun m => iRg_n rfl (by omega)
    have elc : (fLc [2] (.nm 2) (iR1 (aCons (fCB o__law_next (aCons (fVar 0) (aCons (fC (.int 5)) aNil))) aNil)) tTrue e__law_text_0) [some (SD ds p), some (.str SG15), none] m = .ok (.lst cs) m2 := by
      simp_arith [e1, hr, hl, e2]
    rw [← jeq]
    refine join_t rfl elc rfl a1 ?_
    have : (("" : Str)).length = 0 := by decide +kernel
    rw [b3, this, a2, l2, List.length_range]; omega
  refine ⟨.str (Str.join "" ys), m2, ?_, s2, f1.trans f2, _, rfl, ?_, ?_⟩
  · have hS : ("abzAZ09 .-_@/()" : Str) = SG15 := rfl
    rw [hS]
    simp_arith [hj]
  · have : (Str.join "" ys).length = (Str.join "" ys).cps.toList.length := by simp [Str.length]
    rw [this, join_empty, b1, a2, l2, List.length_range]; omega
  · rw [join_empty]; exact b2

end PU
set_option Elab.async false
set_option linter.all false
set_option maxRecDepth 100000
set_option maxHeartbeats 4000000
namespace PU
open PySem PySem.Spec L2 FR
set_option autoImplicit false
theorem leaf_value_t {ds : List D} {p : Nat} (g : Dg ds) (K : Kd) : Dr o__law_leaf_value [SD ds p, .str (kdS K)] p fun d => ∃ x, d = encV x ∧ VOk x ∧ fitK x K = true := by
  intro m h
  rw [u__law_leaf_value]
  unfold b__law_leaf_value
  cases K with
  | text =>
    obtain ⟨d, m1, e, s, f, x, rfl, hx⟩ := text_t g m h
    refine ⟨.str x, m1, ?_, s, f, .str x, rfl, hx, rfl⟩
    simp_arith [y_kT, e]
  | flag =>
    obtain ⟨v, m1, hv, e, s, f⟩ := next_l g (n := 2) (i := 2) rfl (by omega) h
    refine ⟨.bl (decide ((v : Int) = 0)), m1, ?_, s, f, .bl (decide ((v : Int) = 0)), rfl, trivial, rfl⟩
    simp_arith [y_kT, y_kF, e]
  | int =>
    obtain ⟨v, m1, hv, e, s, f⟩ := next_l g (n := 9) (i := 9) rfl (by omega) h
    obtain ⟨u, m2, hu, e2, s2, f2⟩ := next_l g (n := 60) (i := 60) rfl (by omega) s
    obtain ⟨w, m3, hw, e3, s3, f3⟩ := next_l g (n := 2) (i := 2) rfl (by omega) s2
    obtain ⟨a, ha, hb⟩ : ∃ a : Int, (∀ m, gIx (.lst [.int 0, .int 1, .int 7, .int 127, .int 128, .int 2147483647, .int (-1), .int (-2147483648), .int (-64)]) (.int (v : Nat)) m = .ok (.int a) m) ∧ -2147483648 ≤ a ∧ a ≤ 2147483647 := by
      have : v = 0 ∨ v = 1 ∨ v = 2 ∨ v = 3 ∨ v = 4 ∨ v = 5 ∨ v = 6 ∨ v = 7 ∨ v = 8 := by omega
      rcases this with rfl | rfl | rfl | rfl | rfl | rfl | rfl | rfl | rfl <;> exact ⟨_, fun m => by rw [y_ixL, w_atN]; rfl, by decide, by decide⟩
    obtain ⟨c, hc, hd⟩ : ∃ c : Int, (∀ m, gIx (.lst [.int a, .int (u : Nat)]) (.int (w : Nat)) m = .ok (.int c) m) ∧ -2147483648 ≤ c ∧ c ≤ 2147483647 := by
      have : w = 0 ∨ w = 1 := by omega
      rcases this with rfl | rfl
      · exact ⟨a, fun m => by rw [y_ixL, w_atN]; rfl, hb⟩
      · exact ⟨u, fun m => by rw [y_ixL, w_atN]; rfl, by omega, by omega⟩
    refine ⟨.int c, m3, ?_, s3, (f.trans f2).trans f3, .int c, rfl, hd, rfl⟩
    simp_arith [y_kT, y_kF, e, ha, e2, e3, hc]
abbrev RO (f : Nat) := R__law_occurrence_x__law_record f
theorem putD_t {fo fi f : FE} {r : Lc} {m m1 m2 m3 : List O} {d : D} {q : Nat} {x : Str} {ks : List Str} {vs : List D} (h1 : f r m = .ok d m1) (h2 : fo r m1 = .ok (.loc q) m2) (h3 : fi r m2 = .ok (.str x) m3) (hq : m3[q]? = some (.dct ks vs)) (hx : x ∉ ks) (hl : ks.length < 10000) : sPutD fo fi f r m = .ok (.nx r) (m3.set q (.dct (ks ++ [x]) (vs ++ [d]))) := by
  unfold sPutD
  rw [h1]
  simp only [Rs.sq, h2, h3, gPutD, hq]
  have hc : ks.contains x = false := by simpa using hx
  have hk : putDK x ks = ks ++ [x] := by unfold putDK; rw [hc]; rfl
  have hv : putDV x d ks vs = vs ++ [d] := by unfold putDV; rw [hc]; rfl
  rw [hk, hv, if_pos (by omega)]
theorem occ_list {t : Tr} : ∀ {ds : List D}, (∀ d ∈ ds, ∃ o, d = encOc t o ∧ wfO 3 t o) → ∃ os : List Oc, ds = os.map (encOc t) ∧ os.length = ds.length ∧ ∀ o ∈ os, wfO 3 t o
  | [], _ => ⟨[], rfl, rfl, fun o ho => by cases ho⟩
  | d :: ds, h => by
    obtain ⟨os, e1, e2, e3⟩ := occ_list fun x hx => h x (List.mem_cons_of_mem _ hx)
    obtain ⟨o, rfl, ho⟩ := h d List.mem_cons_self
    refine ⟨o :: os, by rw [e1]; rfl, by simp [e2], fun x hx => ?_⟩
    rcases List.mem_cons.mp hx with rfl | hx
    · exact ho
    · exact e3 x hx
/-- one field of a record is drawn -/
theorem rec_turn {ds : List D} {p : Nat} (g : Dg ds) {f : Nat} {t : Tr} (ho : Dr (RO f).1 [SD ds p, encT t] p fun d => ∃ o, d = encOc t o ∧ wfO 3 t o) {nm : Str} {ru : Ru} {x1 : Option D} {q : Nat} (hqp : q ≠ p) {ks : List Str} {vs : List D} (hx : nm ∉ ks) (hl : ks.length < 10000) {m : List O} (h : SO p m) (hq : m[q]? = some (.dct ks vs)) :
    ∃ os m', f__law_record_0 (RO f).1 (RO f).2 [some (SD ds p), x1, some (.loc q), some (.str nm), some (.str (ruS ru)), some (encT t), none] m = .ok (.nx [some (SD ds p), x1, some (.loc q), none, none, none, none]) m' ∧ SO p m' ∧ FrB p (m.set q .dead) (m'.set q .dead) ∧ m'[q]? = some (.dct (ks ++ [nm]) (vs ++ [encCt ru (encOc t) os])) ∧ (∀ o ∈ os, wfO 3 t o) ∧ cntOk 3 ru os.length := by
  have fin_ : ∀ (m2 : List O) (d : D), SO p m2 → FrB p m m2 → SO p (m2.set q (.dct (ks ++ [nm]) (vs ++ [d]))) ∧ FrB p (m.set q .dead) ((m2.set q (.dct (ks ++ [nm]) (vs ++ [d]))).set q .dead) ∧ (m2.set q (.dct (ks ++ [nm]) (vs ++ [d])))[q]? = some (.dct (ks ++ [nm]) (vs ++ [d])) := fun m2 d s f => by
    have hq2 := f q _ hqp hq
    refine ⟨?_, ?_, get_set hq2⟩
    · obtain ⟨pos, a, b⟩ := s
      exact ⟨pos, a, by rw [get_set_ne hqp]; exact b⟩
    · intro i o hi hio
      by_cases e : i = q
      · subst e
        rw [get_set hq] at hio; cases hio
        rw [get_set (get_set hq2)]
      · rw [get_set_ne (Ne.symm e)] at hio
        rw [get_set_ne (Ne.symm e), get_set_ne (Ne.symm e)]
        exact f i o hi hio
  cases ru with
  | rep =>
    obtain ⟨v, m1, hv, e1, s1, f1⟩ := next_l g (n := 4) (i := 4) rfl (by omega) h
    obtain ⟨cs, m2, e2, s2, f2, l2, p2⟩ := compL_draw (p := p) (P := fun d => ∃ o, d = encOc t o ∧ wfO 3 t o) (pt := .nm 6) (f := e__law_record_0 (RO f).1 (RO f).2) (r := [some (SD ds p), x1, some (.loc q), some (.str nm), some (.str (ruS .rep)), some (encT t), none]) (fun k : Nat => D.int (k : Nat)) (fun k => [some (SD ds p), x1, some (.loc q), some (.str nm), some (.str (ruS .rep)), some (encT t), some (.int (k : Nat))]) (List.range v) (fun k _ => ⟨rfl, fun m hm => by
      obtain ⟨d, m', e, s, f', hP⟩ := ho m hm
      refine ⟨d, m', ?_, s, f', hP⟩
      unfold e__law_record_0
      simp_arith [e]⟩) m1 s1
    obtain ⟨os, rfl, ol, ow⟩ := occ_list p2
    have hl2 : ((List.range v).map fun k : Nat => D.int (k : Nat)).length ≤ 16777215 := by simp; omega
    have hr : ∀ m, iRg [.int (v : Nat)] m = .ok ((List.range v).map fun k => D.int (k : Nat)) m := fun m => iRg_n rfl (by omega)
    have elc : (fLc [6] (.nm 6) (iR1 (aCons (fCB o__law_next (aCons (fVar 0) (aCons (fC (.int 4)) aNil))) aNil)) tTrue (e__law_record_0 (RO f).1 (RO f).2)) [some (SD ds p), x1, some (.loc q), some (.str nm), some (.str (ruS .rep)), some (encT t), none] m = .ok (.lst (os.map (encOc t))) m2 := by
      simp_arith [e1, hr, hl2, e2]
    have hp := putD_t (fo := fVar 2) (fi := fVar 3) elc rfl rfl (f2 q _ hqp (f1 q _ hqp hq)) hx hl
    obtain ⟨a, b, c⟩ := fin_ m2 (.lst (os.map (encOc t))) s2 (f1.trans f2)
    refine ⟨os, _, ?_, a, b, c, ow, by simp [cntOk]; rw [ol, l2]; simp; omega⟩
    unfold f__law_record_0
    simp_arith [y_rP, hp]
  | req =>
    obtain ⟨d, m1, e, s, f', o, rfl, hw⟩ := ho m h
    have hp := putD_t (fo := fVar 2) (fi := fVar 3) (m := m) (d := encOc t o) (f := (fCB (RO f).1 (aCons (fVar 0) (aCons (fVar 5) aNil)))) (r := [some (SD ds p), x1, some (.loc q), some (.str nm), some (.str (ruS .req)), some (encT t), none]) (by simp_arith [e]) rfl rfl (f' q _ hqp hq) hx hl
    obtain ⟨a, b, c⟩ := fin_ m1 (encOc t o) s f'
    refine ⟨[o], _, ?_, a, b, c, by simpa using hw, rfl⟩
    unfold f__law_record_0
    simp_arith [y_rP, y_rO, hp]
  | opt =>
    obtain ⟨v, m1, hv, e1, s1, f1⟩ := next_l g (n := 3) (i := 3) rfl (by omega) h
    by_cases h0 : v = 0
    · have hp := putD_t (fo := fVar 2) (fi := fVar 3) (f := fC .non) (r := [some (SD ds p), x1, some (.loc q), some (.str nm), some (.str (ruS .opt)), some (encT t), none]) rfl rfl rfl (f1 q _ hqp hq) hx hl
      obtain ⟨a, b, c⟩ := fin_ m1 .non s1 f1
      refine ⟨[], _, ?_, a, b, c, by simp, by simp [cntOk]⟩
      have hz : ((v : Int) = 0) := by omega
      unfold f__law_record_0
      simp_arith [y_rP, y_rO, e1, eq_true hz, hp]
    · obtain ⟨d, m2, e, s, f', o, rfl, hw⟩ := ho m1 s1
      have hp := putD_t (fo := fVar 2) (fi := fVar 3) (m := m1) (d := encOc t o) (f := (fCB (RO f).1 (aCons (fVar 0) (aCons (fVar 5) aNil)))) (r := [some (SD ds p), x1, some (.loc q), some (.str nm), some (.str (ruS .opt)), some (encT t), none]) (by simp_arith [e]) rfl rfl (f' q _ hqp (f1 q _ hqp hq)) hx hl
      obtain ⟨a, b, c⟩ := fin_ m2 (encOc t o) s (f1.trans f')
      refine ⟨[o], _, ?_, a, b, c, by simpa using hw, by simp [cntOk]⟩
      have hz : ¬ ((v : Int) = 0) := by omega
      unfold f__law_record_0
      simp_arith [y_rP, y_rO, e1, hz, hp]

theorem rec_draws {ds : List D} {p : Nat} (g : Dg ds) {f n : Nat} (ho : ∀ t, KOk n (encT t) → Dr (RO f).1 [SD ds p, encT t] p fun d => ∃ o, d = encOc t o ∧ wfO 3 t o) {x1 : Option D} {q : Nat} (hqp : q ≠ p) : ∀ (fs : Fs) (ks : List Str) (vs : List D) (m : List O), (∀ d ∈ encF fs, FOk (KOk n) d) → (ks ++ nms fs).Nodup → ks.length + fs.len ≤ 10000 → SO p m → m[q]? = some (.dct ks vs) →
    ∃ cs m', forL (.tp [3, 4, 5]) (f__law_record_0 (RO f).1 (RO f).2) (encF fs) [some (SD ds p), x1, some (.loc q), none, none, none, none] m = .ok (.nx [some (SD ds p), x1, some (.loc q), none, none, none, none]) m' ∧ SO p m' ∧ FrB p (m.set q .dead) (m'.set q .dead) ∧ m'[q]? = some (.dct (ks ++ nms fs) (vs ++ encCs fs cs)) ∧ wfC 3 fs cs
  | .nil, ks, vs, m, _, _, _, h, hq => ⟨[], m, rfl, h, .rfl', by simpa [nms, encCs] using hq, rfl⟩
  | .cons nm ru t fs, ks, vs, m, hf, hn, hl, h, hq => by
    obtain ⟨hk, hf'⟩ := head_t hf
    simp only [nms, Fs.len] at hn hl
    have hx : nm ∉ ks := fun hm => by
      rw [List.nodup_append] at hn
      exact hn.2.2 nm hm nm (by simp) rfl
    obtain ⟨os, m1, e1, s1, f1, q1, w1, w2⟩ := rec_turn g (ho t hk) (nm := nm) (ru := ru) (x1 := x1) hqp hx (by omega) h hq
    obtain ⟨cs, m2, e2, s2, f2, q2, w3⟩ := rec_draws g ho (x1 := x1) hqp fs (ks ++ [nm]) (vs ++ [encCt ru (encOc t) os]) m1 hf' (by simpa using hn) (by simp; omega) s1 q1
    refine ⟨os :: cs, m2, ?_, s2, f1.trans f2, ?_, w1, w2, w3⟩
    · show forL _ _ (.tup [.str nm, .str (ruS ru), encT t] :: encF fs) _ _ = _
      rw [forL_cons]
      simp_arith [e1]
      exact e2
    · rw [q2]
      simp [nms, encCs]
theorem rec_step_t {ds : List D} {p : Nat} (g : Dg ds) {f n : Nat} (ho : ∀ t, KOk n (encT t) → Dr (RO f).1 [SD ds p, encT t] p fun d => ∃ o, d = encOc t o ∧ wfO 3 t o) {fs : Fs} (hf : FsOk (KOk n) (encF fs)) (hl : fs.len ≤ 10000) :
    Dr (RO (f + 1)).2 [SD ds p, .tup (encF fs)] p fun d => ∃ cs, d = .dct (nms fs) (encCs fs cs) ∧ wfC 3 fs cs := by
  intro m h
  have hpm : p < m.length := by obtain ⟨pos, _, e⟩ := h; exact lt_of_get e
  have h1 : SO p (m ++ [.dct [] []]) := by obtain ⟨pos, a, e⟩ := h; exact ⟨pos, a, get_app e⟩
  have hq : (m ++ [O.dct [] []])[m.length]? = some (.dct [] []) := by simp
  obtain ⟨cs, m', e, s, fr, q', w⟩ := rec_draws g ho (x1 := some (.tup (encF fs))) (q := m.length) (by omega) fs [] [] (m ++ [.dct [] []]) hf.2.2.1 (by simpa [← nms_enc] using hf.2.2.2) (by simpa using hl) h1 hq
  refine ⟨.dct (nms fs) (encCs fs cs), m'.set m.length .dead, ?_, ?_, ?_, cs, rfl, w⟩
  · show (R__law_occurrence_x__law_record (f + 1)).2 _ _ = _
    rw [u__law_record]
    unfold b__law_record
    have ed : fDnew [some (SD ds p), some (.tup (encF fs)), none, none, none, none, none] m = .ok (.loc m.length) (m ++ [.dct [] []]) := rfl
    simp only [List.nil_append] at q'
    simp_arith [ed, e, y_frzD q']
  · obtain ⟨pos, a, b⟩ := s
    exact ⟨pos, a, by rw [get_set_ne (by omega)]; exact b⟩
  · intro i o hi hio
    refine fr i o hi ?_
    have := lt_of_get hio
    rw [get_set_ne (by omega)]
    exact get_app hio
theorem occ_step_t {ds : List D} {p : Nat} (g : Dg ds) {f : Nat} {t : Tr} (hr : ∀ fs, t = .gp fs → Dr (RO f).2 [SD ds p, .tup (encF fs)] p fun d => ∃ cs, d = .dct (nms fs) (encCs fs cs) ∧ wfC 3 fs cs) :
    Dr (RO (f + 1)).1 [SD ds p, encT t] p fun d => ∃ o, d = encOc t o ∧ wfO 3 t o := by
  intro m h
  show ∃ d m', (R__law_occurrence_x__law_record (f + 1)).1 _ _ = _ ∧ _
  rw [u__law_occurrence]
  unfold b__law_occurrence
  cases t with
  | lf K =>
    obtain ⟨d, m1, e, s, fr, x, rfl, hx⟩ := leaf_value_t g K m h
    refine ⟨encV x, m1, ?_, s, fr, .v x, rfl, hx⟩
    have ek : encT (.lf K) = .str (kdS K) := rfl
    have := isi_T (t := .lf K) (m := m)
    rw [ek] at this ⊢
    simp_arith [this, isLf, e]
  | gp fs =>
    obtain ⟨d, m1, e, s, fr, cs, rfl, hx⟩ := hr fs rfl m h
    refine ⟨.dct (nms fs) (encCs fs cs), m1, ?_, s, fr, .r cs, rfl, hx⟩
    have ek : encT (.gp fs) = .tup (encF fs) := rfl
    have := isi_T (t := .gp fs) (m := m)
    rw [ek] at this ⊢
    simp_arith [this, isLf, e]
theorem fs_len {n : Nat} {fs : Fs} (h : FsOk (KOk n) (encF fs)) : fs.len ≤ 10000 := by
  have := h.2.1
  rw [encF_len] at this
  omega
theorem ro_ok {ds : List D} {p : Nat} (g : Dg ds) : ∀ (n f : Nat), (∀ t, KOk n (encT t) → 2 * n + 1 ≤ f → Dr (RO f).1 [SD ds p, encT t] p fun d => ∃ o, d = encOc t o ∧ wfO 3 t o) ∧ (∀ fs, FsOk (KOk n) (encF fs) → 2 * n + 2 ≤ f → Dr (RO f).2 [SD ds p, .tup (encF fs)] p fun d => ∃ cs, d = .dct (nms fs) (encCs fs cs) ∧ wfC 3 fs cs) := by
  intro n
  induction n with
  | zero =>
    intro f
    have hw : ∀ f t, KOk 0 (encT t) → 1 ≤ f → Dr (RO f).1 [SD ds p, encT t] p fun d => ∃ o, d = encOc t o ∧ wfO 3 t o := fun f t hk hf => by
      obtain ⟨f, rfl⟩ : ∃ g, f = g + 1 := ⟨f - 1, by omega⟩
      exact occ_step_t g fun g e => by subst e; exact hk.elim
    refine ⟨fun t hk hf => hw f t hk (by omega), fun fs hk hf => ?_⟩
    obtain ⟨f, rfl⟩ : ∃ g, f = g + 1 := ⟨f - 1, by omega⟩
    exact rec_step_t g (fun t ht => hw f t ht (by omega)) hk (fs_len hk)
  | succ n ih =>
    intro f
    have hw : ∀ f t, KOk (n + 1) (encT t) → 2 * (n + 1) + 1 ≤ f → Dr (RO f).1 [SD ds p, encT t] p fun d => ∃ o, d = encOc t o ∧ wfO 3 t o := fun f t hk hf => by
      obtain ⟨f, rfl⟩ : ∃ g, f = g + 1 := ⟨f - 1, by omega⟩
      exact occ_step_t g fun g e => by subst e; exact (ih f).2 g hk (by omega)
    refine ⟨fun t hk hf => hw f t hk (by omega), fun fs hk hf => ?_⟩
    obtain ⟨f, rfl⟩ : ∃ g, f = g + 1 := ⟨f - 1, by omega⟩
    exact rec_step_t g (fun t ht => hw f t ht (by omega)) hk (fs_len hk)
def encR (F : Fs) (cs : List (List Oc)) : D := .dct (nms F) (encCs F cs)
theorem record_t {ds : List D} {p : Nat} (g : Dg ds) {F : Fs} (h : Sch F) : Dr o__law_record [SD ds p, .tup (encF F)] p fun d => ∃ cs, d = encR F cs ∧ wfC 3 F cs := (ro_ok g 2 9).2 F h.ok (by omega)
theorem recs_list {F : Fs} : ∀ {ds : List D}, (∀ d ∈ ds, ∃ cs, d = encR F cs ∧ wfC 3 F cs) → ∃ rs : List (List (List Oc)), ds = rs.map (encR F) ∧ rs.length = ds.length ∧ ∀ cs ∈ rs, wfC 3 F cs
  | [], _ => ⟨[], rfl, rfl, fun o ho => by cases ho⟩
  | d :: ds, h => by
    obtain ⟨os, e1, e2, e3⟩ := recs_list fun x hx => h x (List.mem_cons_of_mem _ hx)
    obtain ⟨o, rfl, ho⟩ := h d List.mem_cons_self
    refine ⟨o :: os, by rw [e1]; rfl, by simp [e2], fun x hx => ?_⟩
    rcases List.mem_cons.mp hx with rfl | hx
    · exact ho
    · exact e3 x hx
theorem records_t {ds : List D} {p : Nat} (g : Dg ds) {F : Fs} (h : Sch F) {i : Int} {k : Nat} (hi : i = (k : Nat)) (hk : k ≤ 1000) : Dr o__law_records [SD ds p, .tup (encF F), .int i] p fun d => ∃ rs : List (List (List Oc)), d = .lst (rs.map (encR F)) ∧ rs.length ≤ k ∧ ∀ cs ∈ rs, wfC 3 F cs := by
  intro m hm
  rw [u__law_records]
  unfold b__law_records
  obtain ⟨v, m1, hv, e1, s1, f1⟩ := next_l g (n := k + 1) (i := i + 1) (by omega) (by omega) hm
  obtain ⟨cs, m2, e2, s2, f2, l2, p2⟩ := compL_draw (p := p) (P := fun d => ∃ cs, d = encR F cs ∧ wfC 3 F cs) (pt := .nm 3) (f := e__law_records_0) (r := [some (SD ds p), some (.tup (encF F)), some (.int i), none]) (fun k : Nat => D.int (k : Nat)) (fun k => [some (SD ds p), some (.tup (encF F)), some (.int i), some (.int (k : Nat))]) (List.range v) (fun k _ => ⟨rfl, fun m hm => by
    obtain ⟨d, m', e, s, f', hP⟩ := record_t g h m hm
    refine ⟨d, m', ?_, s, f', hP⟩
    unfold e__law_records_0
    simp_arith [e]⟩) m1 s1
  obtain ⟨rs, rfl, ol, ow⟩ := recs_list p2
  have hl2 : ((List.range v).map fun k : Nat => D.int (k : Nat)).length ≤ 16777215 := by simp; omega
  have hr : ∀ m, iRg [.int (v : Nat)] m = .ok ((List.range v).map fun k => D.int (k : Nat)) m := fun m => iRg_n rfl (by omega)
  refine ⟨_, m2, ?_, s2, f1.trans f2, rs, rfl, by rw [ol, l2]; simp; omega, ow⟩
  simp_arith [e1, hr, hl2, e2]
/-! sizes of what is drawn -/
mutual
theorem szT_le : ∀ (n : Nat) (t : Tr) (o : Oc), KOk n (encT t) → wfO 3 t o → szT t o ≤ 4 ^ n * nT t
  | n, .lf K, .v x, _, _ => by simp [szT, nT]; exact Nat.one_le_pow _ _ (by omega)
  | n, .lf K, .r cs, _, h => h.elim
  | 0, .gp fs, _, hn, _ => hn.elim
  | n + 1, .gp fs, .r cs, hn, h => by
    have := szF_le n fs cs hn.2.2.1 h
    simpa [szT, nT] using this
  | n + 1, .gp fs, .v x, _, h => h.elim
theorem szF_le : ∀ (n : Nat) (fs : Fs) (cs : List (List Oc)), (∀ d ∈ encF fs, FOk (KOk n) d) → wfC 3 fs cs → szF fs cs ≤ 4 ^ (n + 1) * nF fs
  | n, .nil, cs, _, _ => by cases cs <;> simp [szF]
  | n, .cons _ ru t fs, [], _, h => h.elim
  | n, .cons _ ru t fs, os :: cs, hn, h => by
    obtain ⟨hk, hf⟩ := head_t hn
    obtain ⟨h1, h2, h3⟩ := h
    have a := szF_le n fs cs hf h3
    have b : (os.map (szT t)).sum ≤ os.length * (4 ^ n * nT t) := sum_le _ _ os fun o ho => szT_le n t o hk (h1 o ho)
    have c : os.length ≤ 3 := by cases ru <;> simp [cntOk] at h2 <;> omega
    have d : os.length * (4 ^ n * nT t) ≤ 3 * (4 ^ n * nT t) := Nat.mul_le_mul_right _ c
    have e : 1 ≤ 4 ^ n * nT t := Nat.mul_pos (Nat.pow_pos (by omega)) (by rw [← lv_T n t hk]; exact lv_pos n _ hk)
    simp only [szF, nF, Nat.mul_add]
    rw [Nat.pow_succ] at a ⊢
    have : 4 ^ n * 4 * nT t = 4 * (4 ^ n * nT t) := by rw [Nat.mul_comm (4 ^ n) 4, Nat.mul_assoc]
    omega
end
theorem szR_le {F : Fs} (h : Sch F) {cs : List (List Oc)} (hw : wfC 3 F cs) : szF F cs ≤ 768 := by
  have := szF_le 2 F cs h.ok.2.2.1 hw
  have hn : nF F ≤ 12 := by
    have := wys_le h
    rw [show (wys F).length = nF F from wsF_len F 0 0] at this; exact this
  have : 4 ^ (2 + 1) * nF F ≤ 64 * 12 := Nat.mul_le_mul_left _ hn
  omega

end PU
set_option Elab.async false
set_option linter.all false
set_option maxRecDepth 100000
set_option maxHeartbeats 4000000
namespace FR
open PySem PySem.Spec L2
set_option autoImplicit false
theorem fold_all {P : Col → Prop} {f : Oc → List Col} (hz : ∀ x y, P x → P y → P (x ++ y)) : ∀ (os : List Oc) (a : List Col), (∀ o ∈ os, ∀ c ∈ f o, P c) → (∀ c ∈ a, P c) → ∀ c ∈ os.foldl (fun acc o => zapp acc (f o)) a, P c
  | [], a, _, ha => ha
  | o :: os, a, h, ha => fold_all hz os _ (fun x hx => h x (List.mem_cons_of_mem _ hx)) fun c hc => by
    obtain ⟨x, hx, y, hy, rfl⟩ := mem_zapp hc
    exact hz x y (ha x hx) (h o List.mem_cons_self y hy)
theorem wS_all {P : Col → Prop} (hz : ∀ x y, P x → P y → P (x ++ y)) {f : Oc → Nat → List Col} {n s k d : Nat} {os : List Oc} (h0 : P [⟨s, d, none⟩]) (h1 : ∀ o ∈ os, ∀ c ∈ f o s, P c) (h2 : ∀ o ∈ os, ∀ c ∈ f o k, P c) : ∀ c ∈ wS f n s k d os, P c := by
  cases os with
  | nil => intro c hc; simp [wS] at hc; rw [hc.2]; exact h0
  | cons o os => exact fold_all hz os _ (fun x hx => h2 x (List.mem_cons_of_mem _ hx)) (h1 o List.mem_cons_self)
def enB (R Dm : Nat) (e : En) : Prop := e.r ≤ R ∧ e.d ≤ Dm ∧ ∀ x, e.v = some x → VOk x
def AllE (P : En → Prop) (c : Col) : Prop := ∀ e ∈ c, P e
theorem AllE.app {P : En → Prop} {x y : Col} (h1 : AllE P x) (h2 : AllE P y) : AllE P (x ++ y) := fun e he => by
  rcases List.mem_append.mp he with h | h
  · exact h1 e h
  · exact h2 e h
theorem enB.mono {R Dm R' Dm' : Nat} {e : En} (h : enB R Dm e) (h1 : R ≤ R') (h2 : Dm ≤ Dm') : enB R' Dm' e := ⟨by have := h.1; omega, by have := h.2.1; omega, h.2.2⟩
theorem kU_le {ru : Ru} {k : Nat} : kU ru k ≤ k + 1 := by unfold kU; split <;> omega
theorem dU_le {ru : Ru} {d : Nat} : dU ru d ≤ d + 1 := by unfold dU; split <;> omega
mutual
theorem wT_en {b : Nat} : ∀ (n : Nat) (t : Tr) (o : Oc) (s k d : Nat), hT t ≤ n → wfO b t o → ∀ c ∈ wT t o s k d, AllE (enB (max s (k + n)) (d + n)) c
  | n, .lf K, .v x, s, k, d, _, h => fun c hc => by
    simp only [wT, List.mem_singleton] at hc
    subst hc
    intro e he
    simp only [List.mem_singleton] at he
    subst he
    exact ⟨by show s ≤ _; omega, by show d ≤ _; omega, fun y hy => by cases hy; exact h.1⟩
  | n, .lf K, .r _, _, _, _, _, h => h.elim
  | 0, .gp fs, _, _, _, _, hn, _ => by simp [hT] at hn
  | n + 1, .gp fs, .r cs, s, k, d, hn, h => fun c hc => by
    simp only [hT] at hn
    have := wF_en n fs cs s k d (by omega) h c hc
    intro e he
    exact (this e he).mono (by omega) (by omega)
  | n + 1, .gp fs, .v x, _, _, _, _, h => h.elim
theorem wF_en {b : Nat} : ∀ (n : Nat) (fs : Fs) (cs : List (List Oc)) (s k d : Nat), hF fs ≤ n → wfC b fs cs → ∀ c ∈ wF fs cs s k d, AllE (enB (max s (k + n + 1)) (d + n + 1)) c
  | n, .nil, cs, _, _, _, _, _ => fun c hc => by simp [wF] at hc
  | n, .cons _ ru t fs, [], _, _, _, _, h => h.elim
  | n, .cons _ ru t fs, os :: cs, s, k, d, hn, h => fun c hc => by
    simp only [hF] at hn
    obtain ⟨h1, h2, h3⟩ := h
    rw [wF, List.mem_append] at hc
    have a := kU_le (ru := ru) (k := k)
    have a' := dU_le (ru := ru) (d := d)
    rcases hc with hc | hc
    · refine wS_all (P := AllE _) (fun x y hx hy => hx.app hy) ?_ (fun o ho c hc e he => ?_) (fun o ho c hc e he => ?_) c hc
      · intro e he
        simp only [List.mem_singleton] at he
        subst he
        exact ⟨by show s ≤ _; omega, by show d ≤ _; omega, fun y hy => by cases hy⟩
      · exact (wT_en n t o s _ _ (by omega) (h1 o ho) c hc e he).mono (by omega) (by omega)
      · exact (wT_en n t o _ _ _ (by omega) (h1 o ho) c hc e he).mono (by omega) (by omega)
    · exact wF_en n fs cs s k d (by omega) h3 c hc
end
theorem fold_l {f : Oc → List Col} {B : Nat} (hf : ∀ o, ∀ c ∈ f o, c.length ≤ B) : ∀ (os : List Oc) (a : List Col) (A : Nat), (∀ c ∈ a, c.length ≤ A) → ∀ c ∈ os.foldl (fun acc o => zapp acc (f o)) a, c.length ≤ A + os.length * B
  | [], a, A, ha => fun c hc => by have := ha c hc; simp; omega
  | o :: os, a, A, ha => fun c hc => by
    have := fold_l hf os (zapp a (f o)) (A + B) (fun c hc => by
      obtain ⟨x, hx, y, hy, rfl⟩ := mem_zapp hc
      have := ha x hx
      have := hf o y hy
      rw [List.length_append]; omega) c hc
    rw [List.length_cons, Nat.succ_mul]; omega
theorem fold_l' {f : Oc → List Col} {B : Nat} : ∀ (os : List Oc) (a : List Col) (A : Nat), (∀ o ∈ os, ∀ c ∈ f o, c.length ≤ B) → (∀ c ∈ a, c.length ≤ A) → ∀ c ∈ os.foldl (fun acc o => zapp acc (f o)) a, c.length ≤ A + os.length * B
  | [], a, A, _, ha => fun c hc => by have := ha c hc; simp; omega
  | o :: os, a, A, hf, ha => fun c hc => by
    have := fold_l' os (zapp a (f o)) (A + B) (fun x hx => hf x (List.mem_cons_of_mem _ hx)) (fun c hc => by
      obtain ⟨x, hx, y, hy, rfl⟩ := mem_zapp hc
      have := ha x hx
      have := hf o List.mem_cons_self y hy
      rw [List.length_append]; omega) c hc
    rw [List.length_cons, Nat.succ_mul]; omega
mutual
theorem wT_l3 : ∀ (n : Nat) (t : Tr) (o : Oc) (s k d : Nat), hT t ≤ n → wfO 3 t o → ∀ c ∈ wT t o s k d, c.length ≤ 3 ^ n
  | n, .lf K, .v x, s, k, d, _, h => fun c hc => by
    simp only [wT, List.mem_singleton] at hc
    subst hc
    exact Nat.one_le_pow _ _ (by omega)
  | n, .lf K, .r _, _, _, _, _, h => h.elim
  | 0, .gp fs, _, _, _, _, hn, _ => by simp [hT] at hn
  | n + 1, .gp fs, .r cs, s, k, d, hn, h => fun c hc => by
    simp only [hT] at hn
    exact wF_l3 n fs cs s k d (by omega) h c hc
  | n + 1, .gp fs, .v x, _, _, _, _, h => h.elim
theorem wF_l3 : ∀ (n : Nat) (fs : Fs) (cs : List (List Oc)) (s k d : Nat), hF fs ≤ n → wfC 3 fs cs → ∀ c ∈ wF fs cs s k d, c.length ≤ 3 ^ (n + 1)
  | n, .nil, cs, _, _, _, _, _ => fun c hc => by simp [wF] at hc
  | n, .cons _ ru t fs, [], _, _, _, _, h => h.elim
  | n, .cons _ ru t fs, os :: cs, s, k, d, hn, h => fun c hc => by
    simp only [hF] at hn
    obtain ⟨h1, h2, h3⟩ := h
    rw [wF, List.mem_append] at hc
    have p1 : 1 ≤ 3 ^ (n + 1) := Nat.one_le_pow _ _ (by omega)
    rcases hc with hc | hc
    · have c3 : os.length ≤ 3 := by cases ru <;> simp [cntOk] at h2 <;> omega
      cases os with
      | nil => simp [wS] at hc; rw [hc.2]; exact p1
      | cons o os =>
        have := fold_l' (B := 3 ^ n) os (wT t o s (kU ru k) (dU ru d)) (3 ^ n) (fun o ho c hc => wT_l3 n t o _ _ _ (by omega) (h1 o (List.mem_cons_of_mem _ ho)) c hc) (fun c hc => wT_l3 n t o _ _ _ (by omega) (h1 o List.mem_cons_self) c hc) c hc
        simp only [List.length_cons] at c3
        have : os.length * 3 ^ n ≤ 2 * 3 ^ n := Nat.mul_le_mul_right _ (by omega)
        rw [Nat.pow_succ]; omega
    · exact wF_l3 n fs cs s k d (by omega) h3 c hc
end
theorem recs_l {F : Fs} (h : hF F ≤ 2) : ∀ (rs : List (List (List Oc))) (a : List Col) (A : Nat), (∀ cs ∈ rs, wfC 3 F cs) → (∀ c ∈ a, c.length ≤ A ∧ AllE EnOk c) → ∀ c ∈ rs.foldl (fun acc cs => zapp acc (wF F cs 0 0 0)) a, c.length ≤ A + rs.length * 27 ∧ AllE EnOk c
  | [], a, A, _, ha => fun c hc => by have := ha c hc; simp; exact this
  | cs :: rs, a, A, hf, ha => fun c hc => by
    have := recs_l h rs (zapp a (wF F cs 0 0 0)) (A + 27) (fun x hx => hf x (List.mem_cons_of_mem _ hx)) (fun c hc => by
      obtain ⟨x, hx, y, hy, rfl⟩ := mem_zapp hc
      have h1 := ha x hx
      have h2 := wF_l3 2 F cs _ _ _ h (hf cs List.mem_cons_self) y hy
      have h3 := wF_en 2 F cs 0 0 0 h (hf cs List.mem_cons_self) y hy
      refine ⟨by rw [List.length_append]; omega, h1.2.app fun e he => ?_⟩
      obtain ⟨e1, e2, e3⟩ := h3 e he
      exact ⟨by omega, by omega, e3⟩) c hc
    refine ⟨?_, this.2⟩
    have := this.1
    rw [List.length_cons, Nat.succ_mul]; omega
theorem wRecs_ok {F : Fs} (h : hF F ≤ 2) {rs : List (List (List Oc))} (hw : ∀ cs ∈ rs, wfC 3 F cs) : ∀ c ∈ wRecs F rs, c.length ≤ rs.length * 27 ∧ AllE EnOk c := fun c hc => by
  have := recs_l h rs (List.replicate (nF F) []) 0 hw (fun c hc => by
    rw [(List.mem_replicate.mp hc).2]
    exact ⟨by simp, fun e he => by cases he⟩) c hc
  simpa using this

end FR
set_option Elab.async false
set_option linter.all false
set_option maxRecDepth 100000
set_option maxHeartbeats 4000000
namespace PU
open PySem PySem.Spec L2 FR
set_option autoImplicit false
/-! ### the law's turning of columns -/
theorem _root_.FR.FrB.put2 {p q : Nat} {m0 m : List O} {u : O} (h : FrB p m0 m) (hq : m0.length ≤ q) : FrB p m0 (m.set q u) := fun i o hi hio => by
  have := lt_of_get hio
  rw [get_set_ne (by omega)]; exact h i o hi hio
theorem _root_.FR.FrB.app2 {p : Nat} {m0 m x : List O} (h : FrB p m0 m) : FrB p m0 (m ++ x) := fun i o hi hio => get_app (h i o hi hio)
theorem SO.put {p q : Nat} {m : List O} {u : O} (h : SO p m) (hq : q ≠ p) : SO p (m.set q u) := by
  obtain ⟨pos, a, b⟩ := h
  exact ⟨pos, a, by rw [get_set_ne hq]; exact b⟩
theorem SO.app {p : Nat} {m x : List O} (h : SO p m) : SO p (m ++ x) := by
  obtain ⟨pos, a, b⟩ := h
  exact ⟨pos, a, get_app b⟩
theorem _root_.FR.EnOk.mk' {r d : Nat} {v : Option Vl} (hr : r ≤ 3) (hd : d ≤ 3) (hv : ∀ x, v = some x → VOk x) : EnOk ⟨r, d, v⟩ := ⟨hr, hd, hv⟩
theorem _root_.FR.AllE.set {c : Col} (h : AllE EnOk c) {n : Nat} {e : En} (he : EnOk e) : AllE EnOk (c.set n e) := fun x hx => by
  rcases List.mem_or_eq_of_mem_set hx with h1 | h1
  · exact h x h1
  · rw [h1]; exact he
theorem _root_.FR.AllE.sub {c c' : Col} (h : AllE EnOk c) (hs : ∀ e ∈ c', e ∈ c) : AllE EnOk c' := fun x hx => h x (hs x hx)
theorem four_t {v : Nat} (h : v < 4) : ∃ x : Option Vl, (∀ m, gIx (.lst [.non, .int 5, .str "x", .bl true]) (.int (v : Nat)) m = .ok (encO x) m) ∧ ∀ y, x = some y → VOk y := by
  have : v = 0 ∨ v = 1 ∨ v = 2 ∨ v = 3 := by omega
  rcases this with rfl | rfl | rfl | rfl
  · exact ⟨none, fun m => by rw [y_ixL, w_atN]; rfl, fun y hy => by cases hy⟩
  · exact ⟨some (.int 5), fun m => by rw [y_ixL, w_atN]; rfl, fun y hy => by cases hy; exact ⟨by decide, by decide⟩⟩
  · exact ⟨some (.str "x"), fun m => by rw [y_ixL, w_atN]; rfl, fun y hy => by cases hy; exact ⟨by decide +kernel, by decide +kernel⟩⟩
  · exact ⟨some (.bl true), fun m => by rw [y_ixL, w_atN]; rfl, fun y hy => by cases hy; trivial⟩
/-- the part of a turn where the column changes -/
def TnK : FS := (sIf (tVal (fBin gEq (fVar 9) (fC (.int 0)))) (sSet 7 (fBin gAdd (fSl (fVar 7) pNo (pSo (fVar 8))) (fSl (fVar 7) (pSo (fBin gAdd (fVar 8) (fC (.int 1)))) pNo))) (sIf (tVal (fBin gEq (fVar 9) (fC (.int 1)))) (sSet 7 (fBin gAdd (fBin gAdd (fSl (fVar 7) pNo (pSo (fVar 8))) (fLst (aCons (fBin gIx (fVar 7) (fVar 8)) aNil))) (fSl (fVar 7) (pSo (fVar 8)) pNo))) (sIf (tVal (fBin gEq (fVar 9) (fC (.int 2)))) (sPut (fVar 7) (fVar 8) (fTup (aCons (fCB o__law_next (aCons (fVar 0) (aCons (fC (.int 4)) aNil))) (aCons (fVar 11) (aCons (fVar 12) aNil))))) (sIf (tVal (fBin gEq (fVar 9) (fC (.int 3)))) (sPut (fVar 7) (fVar 8) (fTup (aCons (fVar 10) (aCons (fCB o__law_next (aCons (fVar 0) (aCons (fC (.int 4)) aNil))) (aCons (fVar 12) aNil))))) (sIf (tVal (fBin gEq (fVar 9) (fC (.int 4)))) (sPut (fVar 7) (fVar 8) (fTup (aCons (fVar 10) (aCons (fVar 11) (aCons (fBin gIx (fLst (aCons (fC .non) (aCons (fC (.int 5)) (aCons (fC (.str "x")) (aCons (fC (.bl true)) aNil))))) (fCB o__law_next (aCons (fVar 0) (aCons (fC (.int 4)) aNil)))) aNil))))) (sIf (tVal (fBin gEq (fVar 9) (fC (.int 5)))) (sSeq (sSet 13 (fCB o__law_record (aCons (fVar 0) (aCons (fVar 1) aNil))))
    (sSet 7 (fBin gAdd (fVar 7) (fCB bList (aCons (fBin gIx (fCB (iso o__law_columns) (aCons (fVar 1) (aCons (fLst (aCons (fVar 13) aNil)) aNil))) (fVar 6)) aNil))))) sNx))))))
theorem turn_k {ds : List D} {p : Nat} (g : Dg ds) {F : Fs} (h : Sch F) {c : Col} {e : En} {n lf kind : Nat} {L : Nat} (hL : L ≤ 100000) (hcl : c.length ≤ L) (hce : AllE EnOk c) (hn : c[n]? = some e) (hlf : lf < nF F) {x2 x3 x4 x5 : Option D} {q : Nat} (hqp : q ≠ p) {m0 m : List O} (hm0 : m0.length ≤ q) (hs : SO p m) (hf : FrB p m0 m) (hq : m[q]? = some (.lst (c.map encE))) {q2 : Nat} {o2 : O} (hq2 : q2 ≠ q) (hq2p : q2 ≠ p) (ho2 : m[q2]? = some o2) :
    ∃ x7 x13 m' c', TnK [some (SD ds p), some (.tup (encF F)), x2, x3, x4, x5, some (.int (lf : Nat)), some (.loc q), some (.int (n : Nat)), some (.int (kind : Nat)), some (.int e.r), some (.int e.d), some (encO e.v), none] m =
      .ok (.nx [some (SD ds p), some (.tup (encF F)), x2, x3, x4, x5, some (.int (lf : Nat)), some x7, some (.int (n : Nat)), some (.int (kind : Nat)), some (.int e.r), some (.int e.d), some (encO e.v), x13]) m' ∧ bTuple [x7] m' = .ok (encC c') m' ∧ SO p m' ∧ FrB p m0 m' ∧ m'[q2]? = some o2 ∧ c'.length ≤ L + 27 ∧ AllE EnOk c' := by
  have he := hce e (List.mem_of_getElem? hn)
  have hnl : n < c.length := (List.getElem?_eq_some_iff.mp hn).1
  have hix : ∀ m, m[q]? = some (.lst (c.map encE)) → gIx (.loc q) (.int (n : Nat)) m = .ok (encE e) m := fun m hh => by
    rw [y_ixO hh, w_atN, List.getElem?_map, hn]; rfl
  have htk : ∀ k : Nat, (c.map encE).take k = (c.take k).map encE := fun k => by rw [List.map_take]
  have hdr : ∀ k : Nat, (c.map encE).drop k = (c.drop k).map encE := fun k => by rw [List.map_drop]
  obtain ⟨N, hN⟩ : ∃ N : Int, N = (n : Nat) := ⟨_, rfl⟩
  obtain ⟨Kn, hK⟩ : ∃ K : Int, K = (kind : Nat) := ⟨_, rfl⟩
  rw [← hN] at hix ⊢
  rw [← hK]
  unfold TnK
  by_cases k0 : Kn = 0
  · refine ⟨.lst ((c.take n ++ c.drop (n + 1)).map encE), none, m, c.take n ++ c.drop (n + 1), ?_, rfl, hs, hf, ho2, by simp; omega, hce.sub fun x hx => ?_⟩
    · have e1 : gAdd (.lst ((c.take n).map encE)) (.lst ((c.drop (n + 1)).map encE)) m = .ok (.lst ((c.take n ++ c.drop (n + 1)).map encE)) m := by
        rw [y_addLL (by simp; omega), List.map_append]
      simp_arith [eq_true k0, sl_o hq, cut_take hN, cut_drop (show N + 1 = ((n + 1 : Nat) : Int) by omega), htk, hdr, e1]
    · rcases List.mem_append.mp hx with hx | hx
      · exact List.mem_of_mem_take hx
      · exact List.mem_of_mem_drop hx
  by_cases k1 : Kn = 1
  · refine ⟨.lst ((c.take n ++ [e] ++ c.drop n).map encE), none, m, c.take n ++ [e] ++ c.drop n, ?_, rfl, hs, hf, ho2, by simp; omega, hce.sub fun x hx => ?_⟩
    · have e1 : gAdd (.lst ((c.take n).map encE)) (.lst [encE e]) m = .ok (.lst ((c.take n ++ [e]).map encE)) m := by
        rw [y_addLL (by simp; omega), List.map_append]; rfl
      have e2 : gAdd (.lst ((c.take n ++ [e]).map encE)) (.lst ((c.drop n).map encE)) m = .ok (.lst ((c.take n ++ [e] ++ c.drop n).map encE)) m := by
        rw [y_addLL (by simp; omega), List.map_append, List.map_append, List.map_append]
      simp_arith [k0, eq_true k1, sl_o hq, cut_take hN, cut_drop hN, htk, hdr, hix m hq, e1, e2]
    · simp only [List.mem_append, List.mem_singleton] at hx
      rcases hx with (hx | hx) | hx
      · exact List.mem_of_mem_take hx
      · rw [hx]; exact List.mem_of_getElem? hn
      · exact List.mem_of_mem_drop hx
  have putR : ∀ (m1 : List O) (e' : En), SO p m1 → FrB p m0 m1 → m1[q]? = some (.lst (c.map encE)) → m1[q2]? = some o2 → EnOk e' → bTuple [.loc q] (m1.set q (.lst ((c.set n e').map encE))) = .ok (encC (c.set n e')) (m1.set q (.lst ((c.set n e').map encE))) ∧ SO p (m1.set q (.lst ((c.set n e').map encE))) ∧ FrB p m0 (m1.set q (.lst ((c.set n e').map encE))) ∧ (m1.set q (.lst ((c.set n e').map encE)))[q2]? = some o2 ∧ (c.set n e').length ≤ L + 27 ∧ AllE EnOk (c.set n e') ∧ gPut (.loc q) (.int N) (encE e') m1 = some (m1.set q (.lst ((c.set n e').map encE))) := fun m1 e' s1 f1 q1 o1 hen => by
    refine ⟨y_tupO (get_set q1), s1.put hqp, f1.put2 hm0, ?_, by rw [List.length_set]; omega, hce.set hen, ?_⟩
    · rw [get_set_ne (Ne.symm hq2)]; exact o1
    · rw [putO q1 hN (by rw [List.length_map]; exact hnl), List.map_set]
  by_cases k2 : Kn = 2
  · obtain ⟨v, m1, hv, e1, s1, f1⟩ := next_l g (n := 4) (i := 4) rfl (by omega) hs
    obtain ⟨a1, a2, a3, a4, a5, a6, a7⟩ := putR m1 ⟨v, e.d, e.v⟩ s1 (hf.trans f1) (f1 q _ hqp hq) (f1 q2 _ hq2p ho2) (EnOk.mk' (by omega) he.d he.v)
    refine ⟨.loc q, none, _, _, ?_, a1, a2, a3, a4, a5, a6⟩
    have a7' : gPut (.loc q) (.int N) (.tup [.int (v : Nat), .int e.d, encO e.v]) m1 = _ := a7
    simp_arith [k0, k1, eq_true k2, e1, a7']
  by_cases k3 : Kn = 3
  · obtain ⟨v, m1, hv, e1, s1, f1⟩ := next_l g (n := 4) (i := 4) rfl (by omega) hs
    obtain ⟨a1, a2, a3, a4, a5, a6, a7⟩ := putR m1 ⟨e.r, v, e.v⟩ s1 (hf.trans f1) (f1 q _ hqp hq) (f1 q2 _ hq2p ho2) (EnOk.mk' he.r (by omega) he.v)
    refine ⟨.loc q, none, _, _, ?_, a1, a2, a3, a4, a5, a6⟩
    have a7' : gPut (.loc q) (.int N) (.tup [.int e.r, .int (v : Nat), encO e.v]) m1 = _ := a7
    simp_arith [k0, k1, k2, eq_true k3, e1, a7']
  by_cases k4 : Kn = 4
  · obtain ⟨v, m1, hv, e1, s1, f1⟩ := next_l g (n := 4) (i := 4) rfl (by omega) hs
    obtain ⟨x, hx, hxo⟩ := four_t hv
    obtain ⟨a1, a2, a3, a4, a5, a6, a7⟩ := putR m1 ⟨e.r, e.d, x⟩ s1 (hf.trans f1) (f1 q _ hqp hq) (f1 q2 _ hq2p ho2) (EnOk.mk' he.r he.d hxo)
    refine ⟨.loc q, none, _, _, ?_, a1, a2, a3, a4, a5, a6⟩
    have a7' : gPut (.loc q) (.int N) (.tup [.int e.r, .int e.d, encO x]) m1 = _ := a7
    simp_arith [k0, k1, k2, k3, eq_true k4, e1, hx, a7']
  by_cases k5 : Kn = 5
  · obtain ⟨d, m1, e1, s1, f1, cs, rfl, hw⟩ := record_t g h m hs
    obtain ⟨m2, e2⟩ := lcols_t (b := 3) (by omega) h (rs := [cs]) (by simpa using hw) (by have := szR_le h hw; simp; omega) (by simp)
    obtain ⟨c2, hc2⟩ : ∃ c2, (wRecs F [cs])[lf]? = some c2 := ⟨_, List.getElem?_eq_getElem (by rw [wRecs_len]; exact hlf)⟩
    obtain ⟨b1, b2⟩ := wRecs_ok h.h (rs := [cs]) (by simpa using hw) c2 (List.mem_of_getElem? hc2)
    have i1 : ∀ m, iso o__law_columns [.tup (encF F), .lst [encR F cs]] m = .ok (.tup ((wRecs F [cs]).map encC)) m := fun m => iso_val (by simp [noLocs, noLoc, encF_nl, encR, encCs_nl]) e2 (noLocs_map encC _ fun c _ => encC_nl c)
    have i2 : ∀ m, gIx (.tup ((wRecs F [cs]).map encC)) (.int (lf : Nat)) m = .ok (.tup (c2.map encE)) m := fun m => ix_map hc2
    have q1 := f1 q _ hqp hq
    have i3 : gAdd (.loc q) (.lst (c2.map encE)) m1 = .ok (.lst ((c ++ c2).map encE)) m1 := by
      rw [y_addOL q1 (by simp at b1 ⊢; omega), List.map_append]
    refine ⟨.lst ((c ++ c2).map encE), some (encR F cs), m1, c ++ c2, ?_, rfl, s1, hf.trans f1, f1 q2 _ hq2p ho2, by simp at b1 ⊢; omega, hce.app b2⟩
    simp_arith [k0, k1, k2, k3, k4, eq_true k5, e1, i1, i2, i3]
  · refine ⟨.loc q, none, m, c, ?_, y_tupO hq, hs, hf, ho2, by omega, hce⟩
    simp_arith [k0, k1, k2, k3, k4, k5]

end PU
set_option Elab.async false
set_option linter.all false
set_option maxRecDepth 100000
set_option maxHeartbeats 4000000
namespace PU
open PySem PySem.Spec L2 FR
set_option autoImplicit false
theorem turn_t {ds : List D} {p : Nat} (g : Dg ds) {F : Fs} (h : Sch F) {cols : List Col} (hlen : cols.length = nF F) (hpos : 0 < nF F) {L : Nat} (hL : L ≤ 100000) (hc : ∀ c ∈ cols, c.length ≤ L ∧ AllE EnOk c) {x2 x4 x5 : Option D} {q2 : Nat} (hq2p : q2 ≠ p) {m0 m : List O} (hm0 : m0.length ≤ q2) (hs : SO p m) (hf : FrB p m0 m) (hq2 : m[q2]? = some (.lst (cols.map encC))) :
    ∃ (m' : List O) (cols' : List Col), f__law_turned_0 [some (SD ds p), some (.tup (encF F)), x2, some (.loc q2), x4, x5, none, none, none, none, none, none, none, none] m = .ok (.nx [some (SD ds p), some (.tup (encF F)), x2, some (.loc q2), x4, none, none, none, none, none, none, none, none, none]) m' ∧ SO p m' ∧ FrB p m0 m' ∧ m'[q2]? = some (.lst (cols'.map encC)) ∧ cols'.length = nF F ∧ ∀ c ∈ cols', c.length ≤ L + 27 ∧ AllE EnOk c := by
  obtain ⟨lf, m1, hlf, e1, s1, f1⟩ := next_l g (n := cols.length) (i := ((cols.map encC).length : Nat)) (by rw [List.length_map]) (by omega) hs
  have q1 := f1 q2 _ hq2p hq2
  obtain ⟨c, hcc⟩ : ∃ c, cols[lf]? = some c := ⟨_, List.getElem?_eq_getElem hlf⟩
  obtain ⟨hcl, hce⟩ := hc c (List.mem_of_getElem? hcc)
  have i1 : gIx (.loc q2) (.int (lf : Nat)) m1 = .ok (.tup (c.map encE)) m1 := by
    rw [y_ixO q1, w_atN, List.getElem?_map, hcc]; rfl
  have l1 : bLen [.loc q2] m = .ok (.int ((cols.map encC).length : Nat)) m := y_lenO hq2
  obtain ⟨LL, hLL⟩ : ∃ LL : Int, LL = ((cols.map encC).length : Nat) := ⟨_, rfl⟩
  rw [← hLL] at e1 l1
  obtain ⟨LF, hLF⟩ : ∃ i : Int, i = (lf : Nat) := ⟨_, rfl⟩
  by_cases hemp : c = []
  · subst hemp
    refine ⟨m1, cols, ?_, s1, hf.trans f1, q1, hlen, fun c hc' => ⟨by have := (hc c hc').1; omega, (hc c hc').2⟩⟩
    unfold f__law_turned_0
    rw [List.map_nil] at i1
    simp_arith [l1, e1, i1, List.isEmpty_nil]
  have hne : (c.map encE).isEmpty = false := by cases c with
    | nil => exact absurd rfl hemp
    | cons a b => rfl
  have hcpos : 0 < c.length := List.length_pos_iff.mpr hemp
  obtain ⟨q, hq⟩ : ∃ q, q = m1.length := ⟨_, rfl⟩
  have b1 : bListN [.tup (c.map encE)] m1 = .ok (.loc q) (m1 ++ [.lst (c.map encE)]) := by rw [hq]; rfl
  have hpq : q ≠ p := by obtain ⟨pos, _, b⟩ := s1; have := lt_of_get b; omega
  have hq2q : q2 ≠ q := by have := lt_of_get q1; omega
  have hm0q : m0.length ≤ q := by have := lt_of_get q1; omega
  obtain ⟨pl, m2, hpl, e2, s2, f2⟩ := next_l g (n := 60) (i := 60) rfl (by omega) (SO.app (x := [.lst (c.map encE)]) s1)
  have qa : (m1 ++ [O.lst (c.map encE)])[q]? = some (.lst (c.map encE)) := by rw [hq]; simp
  have qb := f2 q _ hpq qa
  have q3 := f2 q2 _ hq2p (get_app (x := [.lst (c.map encE)]) q1)
  have l2 : bLen [.loc q] m2 = .ok (.int (c.length : Nat)) m2 := by rw [y_lenO qb, List.length_map]
  have md : gMod (.int (pl : Nat)) (.int (c.length : Nat)) m2 = .ok (.int ((pl % c.length : Nat) : Int)) m2 := by
    rw [y_mod (by omega)]; simp
  obtain ⟨kd, m3, hkd, e3, s3, f3⟩ := next_l g (n := 7) (i := 7) rfl (by omega) s2
  have qc := f3 q _ hpq qb
  have q4 := f3 q2 _ hq2p q3
  have hpc : pl % c.length < c.length := Nat.mod_lt _ hcpos
  obtain ⟨e, he⟩ : ∃ e, c[pl % c.length]? = some e := ⟨_, List.getElem?_eq_getElem hpc⟩
  have i2 : gIx (.loc q) (.int ((pl % c.length : Nat) : Int)) m3 = .ok (.tup [.int e.r, .int e.d, encO e.v]) m3 := by
    rw [y_ixO qc, w_atN, List.getElem?_map, he]; rfl
  have fr3 : FrB p m0 m3 := (((hf.trans f1).app2 (x := [.lst (c.map encE)])).trans f2).trans f3
  obtain ⟨x7, x13, m4, c', e4, t4, s4, f4, q5, l4, a4⟩ := turn_k g h (c := c) (e := e) (n := pl % c.length) (lf := lf) (kind := kd) hL hcl hce he (by omega) (x2 := x2) (x3 := some (.loc q2)) (x4 := x4) (x5 := x5) hpq hm0q s3 fr3 qc hq2q hq2p q4
  have pt : gPut (.loc q2) (.int (lf : Nat)) (encC c') m4 = some (m4.set q2 (.lst ((cols.set lf c').map encC))) := by
    rw [putO q5 rfl (by rw [List.length_map]; exact hlf), List.map_set]
  refine ⟨m4.set q2 (.lst ((cols.set lf c').map encC)), cols.set lf c', ?_, s4.put hq2p, f4.put2 hm0, get_set q5, by rw [List.length_set]; exact hlen, fun d hd => ?_⟩
  · obtain ⟨PL, hPL⟩ : ∃ PL : Int, PL = ((pl % c.length : Nat) : Int) := ⟨_, rfl⟩
    rw [← hPL] at md i2 e4
    show sFgtE [5, 6, 7, 8, 9, 10, 11, 12, 13] (sSeq (sSet 6 (fCB o__law_next (aCons (fVar 0) (aCons (fCB bLen (aCons (fVar 3) aNil)) aNil))))
      (sIf (tTru (fBin gIx (fVar 3) (fVar 6))) (sSeq (sSet 7 (fCB bListN (aCons (fBin gIx (fVar 3) (fVar 6)) aNil)))
      (sSeq (sSet 8 (fBin gMod (fCB o__law_next (aCons (fVar 0) (aCons (fC (.int 60)) aNil))) (fCB bLen (aCons (fVar 7) aNil))))
      (sSeq (sSet 9 (fCB o__law_next (aCons (fVar 0) (aCons (fC (.int 7)) aNil))))
      (sSeq (sAsg (.tp [10, 11, 12]) (fBin gIx (fVar 7) (fVar 8)))
      (sSeq TnK (sPut (fVar 3) (fVar 6) (fCB bTuple (aCons (fVar 7) aNil)))))))) sNx)) _ _ = _
    simp_arith [l1, e1, i1, hne, b1, e2, l2, md, e3, i2, e4, t4, pt]
  · rcases List.mem_or_eq_of_mem_set hd with h1 | h1
    · have := hc d h1
      exact ⟨by omega, this.2⟩
    · subst h1; exact ⟨l4, a4⟩
theorem parts_list : ∀ {ds : List D}, (∀ d ∈ ds, ∃ q : Option Col, d = encP q ∧ PtOk q) → ∃ ps : List (Option Col), ds = ps.map encP ∧ ps.length = ds.length ∧ ∀ q ∈ ps, PtOk q
  | [], _ => ⟨[], rfl, rfl, fun o ho => by cases ho⟩
  | d :: ds, h => by
    obtain ⟨os, e1, e2, e3⟩ := parts_list fun x hx => h x (List.mem_cons_of_mem _ hx)
    obtain ⟨o, rfl, ho⟩ := h d List.mem_cons_self
    refine ⟨o :: os, by rw [e1]; rfl, by simp [e2], fun x hx => ?_⟩
    rcases List.mem_cons.mp hx with rfl | hx
    · exact ho
    · exact e3 x hx
theorem turned_t {ds : List D} {p : Nat} (g : Dg ds) {F : Fs} (h : Sch F) {cols : List Col} (hlen : cols.length = nF F) (hpos : 0 < nF F) (hc : ∀ c ∈ cols, c.length ≤ 900 ∧ AllE EnOk c) :
    Dr o__law_turned [SD ds p, .tup (encF F), .tup (cols.map encC)] p fun d => ∃ ps : List (Option Col), d = encPs ps ∧ ps.length = nF F ∧ ∀ q ∈ ps, PtOk q := by
  intro m hs
  rw [u__law_turned]
  unfold b__law_turned
  have hn : nF F ≤ 12 := by
    have := wys_le h
    rw [show (wys F).length = nF F from wsF_len F 0 0] at this; exact this
  have hpm : p < m.length := by obtain ⟨pos, _, e⟩ := hs; exact lt_of_get e
  let R : Lc := [some (SD ds p), some (.tup (encF F)), some (.tup (cols.map encC)), some (.loc m.length), none, none, none, none, none, none, none, none, none, none]
  have c0 : compL (.nm 4) tTrue e__law_turned_0 [some (SD ds p), some (.tup (encF F)), some (.tup (cols.map encC)), none, none, none, none, none, none, none, none, none, none, none] (cols.map encC) m = .ok (cols.map encC) m := by
    refine comp_map encC encC (fun c => [some (SD ds p), some (.tup (encF F)), some (.tup (cols.map encC)), none, some (encC c), none, none, none, none, none, none, none, none, none]) cols fun c _ => ⟨rfl, ?_⟩
    unfold e__law_turned_0
    simp_arith []
  have e0 : fLcN [4] (.nm 4) (iAll (fVar 2)) tTrue e__law_turned_0 [some (SD ds p), some (.tup (encF F)), some (.tup (cols.map encC)), none, none, none, none, none, none, none, none, none, none, none] m = .ok (.loc m.length) (m ++ [.lst (cols.map encC)]) := by
    show ((iAll (fVar 2)) _ m).bind _ = _
    show (if (cols.map encC).length ≤ 16777215 then _ else _) = _
    rw [if_pos (by simp; omega)]
    show ((compL _ _ _ _ _ m).bind _) = _
    have c0' : compL (.nm 4) tTrue e__law_turned_0 (wipeL [some (SD ds p), some (.tup (encF F)), some (.tup (cols.map encC)), none, none, none, none, none, none, none, none, none, none, none] [4]) (cols.map encC) m = .ok (cols.map encC) m := c0
    rw [c0']; rfl
  have q0 : (m ++ [O.lst (cols.map encC)])[m.length]? = some (.lst (cols.map encC)) := by simp
  obtain ⟨v, m1, hv, e1, s1, f1⟩ := next_l g (n := 2) (i := 2) rfl (by omega) (SO.app (x := [.lst (cols.map encC)]) hs)
  have q1 := f1 m.length _ (by omega) q0
  have fr1 : FrB p m m1 := (FrB.rfl'.app2 (x := [.lst (cols.map encC)])).trans f1
  have hr : iRg [.int (1 + (v : Nat))] m1 = .ok ((List.range (1 + v)).map fun k => D.int (k : Nat)) m1 := iRg_n (by omega) (by omega)
  have loop : ∃ (m2 : List O) (cols2 : List Col), forL (.nm 5) f__law_turned_0 ((List.range (1 + v)).map fun k => D.int (k : Nat)) R m1 = .ok (.nx R) m2 ∧ SO p m2 ∧ FrB p m m2 ∧ m2[m.length]? = some (.lst (cols2.map encC)) ∧ cols2.length = nF F ∧ ∀ c ∈ cols2, c.length ≤ 1000 ∧ AllE EnOk c := by
    have one : ∀ (k : Nat) (cs : List Col) (L : Nat) (mm : List O), L ≤ 100000 → cs.length = nF F → (∀ c ∈ cs, c.length ≤ L ∧ AllE EnOk c) → SO p mm → FrB p m mm → mm[m.length]? = some (.lst (cs.map encC)) → ∃ (m' : List O) (cs' : List Col), f__law_turned_0 [some (SD ds p), some (.tup (encF F)), some (.tup (cols.map encC)), some (.loc m.length), none, some (.int (k : Nat)), none, none, none, none, none, none, none, none] mm = .ok (.nx R) m' ∧ SO p m' ∧ FrB p m m' ∧ m'[m.length]? = some (.lst (cs'.map encC)) ∧ cs'.length = nF F ∧ ∀ c ∈ cs', c.length ≤ L + 27 ∧ AllE EnOk c := fun k cs L mm a b c d e f => turn_t g h b hpos a c (by omega) (Nat.le_refl _) d e f
    obtain ⟨ma, ca, ea, sa, fa, qa, la, aa⟩ := one 0 cols 900 m1 (by omega) hlen hc s1 fr1 q1
    have : v = 0 ∨ v = 1 := by omega
    rcases this with rfl | rfl
    · refine ⟨ma, ca, ?_, sa, fa, qa, la, fun c hc => ⟨by have := (aa c hc).1; omega, (aa c hc).2⟩⟩
      show forL _ _ [D.int (0 : Nat)] R m1 = _
      rw [forL_cons]
      simp only [R, asg, List.set_cons_succ, List.set_cons_zero, ea, forL_nil]
    · obtain ⟨mb, cb, eb, sb, fb, qb, lb, ab⟩ := one 1 ca 927 ma (by omega) la aa sa fa qa
      refine ⟨mb, cb, ?_, sb, fb, qb, lb, fun c hc => ⟨by have := (ab c hc).1; omega, (ab c hc).2⟩⟩
      show forL _ _ [D.int (0 : Nat), D.int (1 : Nat)] R m1 = _
      rw [forL_cons]
      simp only [R, asg, List.set_cons_succ, List.set_cons_zero, ea, forL_nil]
      rw [forL_cons]
      simp only [R] at eb
      simp only [R, asg, List.set_cons_succ, List.set_cons_zero, eb, forL_nil]
  obtain ⟨m2, cols2, e2, s2, f2, q2, l2, a2⟩ := loop
  obtain ⟨cs, m3, e3, s3, f3, l3, p3⟩ := compL_draw (p := p) (P := fun d => ∃ q : Option Col, d = encP q ∧ PtOk q) (pt := .nm 4) (f := e__law_turned_1) (r := R) encC (fun c => [some (SD ds p), some (.tup (encF F)), some (.tup (cols.map encC)), some (.loc m.length), some (encC c), none, none, none, none, none, none, none, none, none]) cols2 (fun c hcm => ⟨rfl, fun mm hmm => by
    obtain ⟨u, m', hu, e, s, f⟩ := next_l g (n := 6) (i := 6) rfl (by omega) hmm
    by_cases h0 : u = 0
    · refine ⟨.non, m', ?_, s, f, none, rfl, fun c hc => by cases hc⟩
      have hz : ((u : Nat) : Int) = 0 := by omega
      unfold e__law_turned_1
      simp_arith [e, eq_true hz]
    · refine ⟨encC c, m', ?_, s, f, some c, rfl, fun c' hc' => by cases hc'; exact ⟨(a2 c hcm).1, (a2 c hcm).2⟩⟩
      have hz : ¬ (((u : Nat) : Int) = 0) := by omega
      unfold e__law_turned_1
      simp_arith [e, hz]⟩) (m2.set m.length .dead) (s2.put (by omega))
  obtain ⟨ps, rfl, ol, ow⟩ := parts_list p3
  have hl3 : (cols2.map encC).length ≤ 16777215 := by simp; omega
  refine ⟨encPs ps, m3, ?_, s3, (f2.put2 (Nat.le_refl _)).trans f3, ps, rfl, by rw [ol, l3, l2], ow⟩
  simp only [R] at e2 e3
  have eT : (fLc [4] (.nm 4) (iAll (fFrz (fVar 3))) tTrue e__law_turned_1) [some (SD ds p), some (.tup (encF F)), some (.tup (cols.map encC)), some (.loc m.length), none, none, none, none, none, none, none, none, none, none] m2 = .ok (.lst (ps.map encP)) m3 := by
    simp_arith [y_frzO q2, hl3, e3]
  simp_arith [e0, e1, hr, e2, ↓eT, encPs]

end PU
set_option Elab.async false
set_option linter.all false
set_option maxRecDepth 100000
set_option maxHeartbeats 4000000
namespace PU
open PySem PySem.Spec L2 FR
set_option autoImplicit false
/-! ### the law's own reading of columns -/
theorem kb_nn {t : String} (h : t = "int" ∨ t = "bool" ∨ t = "str") : kitB "NoneType" t = some false := by rcases h with rfl | rfl | rfl <;> decide +kernel
theorem kb_bb : kitB "bool" "bool" = some true := by decide +kernel
theorem kb_bi : kitB "bool" "int" = some true := by decide +kernel
theorem kb_bs : kitB "bool" "str" = some false := by decide +kernel
theorem kb_is : kitB "int" "str" = some false := by decide +kernel
theorem isi_O {v : Option Vl} {m : List O} : bIsi [encO v, .ty "int"] m = .ok (.bl (match v with | some (.int _) => true | some (.bl _) => true | _ => false)) m ∧ bIsi [encO v, .ty "bool"] m = .ok (.bl (match v with | some (.bl _) => true | _ => false)) m ∧ bIsi [encO v, .ty "str"] m = .ok (.bl (match v with | some (.str _) => true | _ => false)) m := by
  cases v with
  | none => exact ⟨y_isi rfl (kb_nn (.inl rfl)), y_isi rfl (kb_nn (.inr (.inl rfl))), y_isi rfl (kb_nn (.inr (.inr rfl)))⟩
  | some v =>
    cases v with
    | int i => exact ⟨y_isi (t := "int") rfl kb_ii, y_isi (t := "int") rfl kb_ib, y_isi (t := "int") rfl kb_is⟩
    | bl z => exact ⟨y_isi (t := "bool") rfl kb_bi, y_isi (t := "bool") rfl kb_bb, y_isi (t := "bool") rfl kb_bs⟩
    | str x => exact ⟨y_isi (t := "str") rfl kb_si, y_isi (t := "str") rfl kb_sb, y_isi (t := "str") rfl kb_ss⟩
theorem integer_t {v : Option Vl} {m : List O} : o__law_is_integer [encO v] m = .ok (.bl (match v with | some (.int _) => true | _ => false)) m := by
  rw [u__law_is_integer]
  unfold b__law_is_integer
  obtain ⟨a, b, c⟩ := isi_O (v := v) (m := m)
  cases v with
  | none => simp_arith [a]
  | some v => cases v <;> simp_arith [a, b]
theorem fits_t {v : Option Vl} (hv : ∀ x, v = some x → VOk x) {K : Kd} {m : List O} : o__law_fits_kind [encO v, .str (kdS K)] m = .ok (.bl (fitO v K)) m := by
  rw [u__law_fits_kind]
  unfold b__law_fits_kind
  obtain ⟨a, b, c⟩ := isi_O (v := v) (m := m)
  have i := integer_t (v := v) (m := m)
  cases K with
  | int =>
    cases v with
    | none => simp_arith [y_kI, i, fitO]
    | some v =>
      cases v with
      | int n =>
        have h := hv _ rfl
        have e : encO (some (.int n)) = .int n := rfl
        rw [e] at i ⊢
        have h1 := h.1
        have h2 := h.2
        simp_arith [y_kI, i, h1, h2, fitO, fitK]
      | bl z => simp_arith [y_kI, i, fitO, fitK]
      | str x => simp_arith [y_kI, i, fitO, fitK]
  | text =>
    cases v with
    | none => simp_arith [y_kI, y_kT, c, fitO]
    | some v => cases v <;> simp_arith [y_kI, y_kT, c, fitO, fitK]
  | flag =>
    cases v with
    | none => simp_arith [y_kI, y_kT, b, fitO]
    | some v => cases v <;> simp_arith [y_kI, y_kT, b, fitO, fitK]
theorem last_t {w : List Stp} (h : w ≠ []) {m : List O} : ∃ nm ru, gIx (.lst (w.map s4Dt)) (.int (-1)) m = .ok (.tup [.str nm, .str ru, .int (lk w), .int (ld w)]) m := by
  obtain ⟨s, hs⟩ : ∃ s, w.getLast? = some s := by
    cases e : w.getLast? with
    | none => exact absurd (List.getLast?_eq_none_iff.mp e) h
    | some s => exact ⟨s, rfl⟩
  refine ⟨s.nm, ruS s.ru, ?_⟩
  rw [y_ixL, w_atL, List.getLast?_map, hs]
  simp only [Option.map_some, s4Dt, lk, ld, hs, Option.getD_some]
theorem comp_filL {α : Type} {l : List α} {f : α → D} {q : α → Bool} {c : List D} (h : c = (l.filter q).map f) : c.length ≤ l.length := by
  rw [h, List.length_map]; exact List.length_filter_le _ _
theorem fault_turn_t {F : Fs} {i : Nat} {w : List Stp} {K : Kd} (L : Lf F i w K) {c : Col} (hc : ColOk c) {k : Nat} (hk : k < c.length) {x0 x1 x6 : Option D} {m : List O} (h : Sch F) :
    f__law_fault_0 [x0, x1, some (encC c), some (.lst (w.map s4Dt)), some (.str (kdS K)), some (.lst (.int 0 :: (stsW w).map fun x => D.int (x : Nat))), x6, some (.int (k : Nat)), none, none, none] m =
      (if adm w K c k = true then .ok (.nx [x0, x1, some (encC c), some (.lst (w.map s4Dt)), some (.str (kdS K)), some (.lst (.int 0 :: (stsW w).map fun x => D.int (x : Nat))), x6, none, none, none, none]) m else .ok (.rt (.int (k : Nat))) m) := by
  obtain ⟨e, he⟩ : ∃ e, c[k]? = some e := ⟨_, List.getElem?_eq_getElem hk⟩
  have hen := hc.all e (List.mem_of_getElem? he)
  obtain ⟨nm, rl, hlast⟩ := last_t L.ne (m := m)
  have ei : gIx (encC c) (.int (k : Nat)) m = .ok (.tup [.int e.r, .int e.d, encO e.v]) m := ix_map he
  have hf := fits_t hen.v (K := K) (m := m)
  unfold adm
  rw [he]
  unfold admE
  obtain ⟨kk, hkk⟩ : ∃ kk : Int, kk = (k : Nat) := ⟨_, rfl⟩
  rw [← hkk] at ei ⊢
  simp only []
  unfold f__law_fault_0
  by_cases a1 : e.r ≤ lk w
  rotate_left
  · have b1 : ((lk w : Int) < (e.r : Int)) := by omega
    simp_arith [ei, hlast, b1, a1, Bool.false_and]
  have b1 : ¬ ((lk w : Int) < (e.r : Int)) := by omega
  by_cases a2 : e.d ≤ ld w
  rotate_left
  · have b2 : ((ld w : Int) < (e.d : Int)) := by omega
    simp_arith [ei, hlast, b1, b2, a1, a2, Bool.false_and, Bool.and_false]
  have b2 : ¬ ((ld w : Int) < (e.d : Int)) := by omega
  have tail : ∀ (A : FS), A = (sIf (tAnd_ (tVal (fBin gGt (fVar 8) (fC (.int 0)))) (tOr_ (tVal (fBin gEq (fVar 7) (fC (.int 0)))) (tOr_ (tVal (fBin gLt (fBin gIx (fBin gIx (fVar 2) (fBin FR.gSub (fVar 7) (fC (.int 1)))) (fC (.int 1))) (fBin gIx (fVar 5) (fVar 8)))) (tVal (fBin gLt (fVar 9) (fBin gIx (fVar 5) (fVar 8))))))) (sRet (fVar 7)) sNx) →
      A [x0, x1, some (encC c), some (.lst (w.map s4Dt)), some (.str (kdS K)), some (.lst (.int 0 :: (stsW w).map fun x => D.int (x : Nat))), x6, some (.int kk), some (.int e.r), some (.int e.d), some (encO e.v)] m =
      (if (decide (e.r = 0) || cont w e.r e.d (prvD c k)) = true then .ok (.nx [x0, x1, some (encC c), some (.lst (w.map s4Dt)), some (.str (kdS K)), some (.lst (.int 0 :: (stsW w).map fun x => D.int (x : Nat))), x6, some (.int kk), some (.int e.r), some (.int e.d), some (encO e.v)]) m else .ok (.rt (.int kk)) m) := by
    rintro A rfl
    by_cases a3 : e.r = 0
    · have b3 : ¬ ((0 : Int) < (e.r : Int)) := by omega
      simp_arith [b3, eq_true a3, Bool.true_or]
    have b3 : ((0 : Int) < (e.r : Int)) := by omega
    obtain ⟨x, _, _, _, hx⟩ := way_start L.lv (show 0 < e.r by omega) a1
    simp only [Nat.sub_zero] at hx
    have es : gIx (.lst (.int 0 :: (stsW w).map fun x => D.int (x : Nat))) (.int e.r) m = .ok (.int x) m := by
      rw [y_ixL, w_atN, show e.r = (e.r - 1) + 1 by omega, List.getElem?_cons_succ, List.getElem?_map, hx]; rfl
    unfold cont prvD
    rw [hx]
    cases k with
    | zero =>
      have k0 : kk = 0 := by omega
      simp_arith [b3, a3, eq_true k0, Bool.false_or]
    | succ k =>
      obtain ⟨p, hp⟩ : ∃ p, c[k]? = some p := ⟨_, List.getElem?_eq_getElem (by omega)⟩
      have ep : gIx (encC c) (.int (kk - 1)) m = .ok (.tup [.int p.r, .int p.d, encO p.v]) m := by
        rw [show kk - 1 = (k : Nat) by omega]
        exact ix_map hp
      have k0 : ¬ (kk = 0) := by omega
      rw [if_neg (show ¬ (k + 1 = 0) by omega), Nat.add_sub_cancel, hp]
      by_cases hq : x ≤ p.d
      · have g1 : ¬ ((p.d : Int) < (x : Int)) := by omega
        by_cases hq2 : x ≤ e.d
        · have g2 : ¬ ((e.d : Int) < (x : Int)) := by omega
          simp_arith [b3, a3, k0, ep, es, g1, g2, Option.map_some, hq, hq2, Bool.false_or, Bool.and_self]
        · have g2 : ((e.d : Int) < (x : Int)) := by omega
          simp_arith [b3, a3, k0, ep, es, g1, g2, Option.map_some, hq, hq2, Bool.false_or, Bool.and_false]
      · have g1 : ((p.d : Int) < (x : Int)) := by omega
        simp_arith [b3, a3, k0, ep, es, g1, Option.map_some, hq, Bool.false_or, Bool.false_and]
  obtain ⟨A, hA⟩ : ∃ A : FS, A = (sIf (tAnd_ (tVal (fBin gGt (fVar 8) (fC (.int 0)))) (tOr_ (tVal (fBin gEq (fVar 7) (fC (.int 0)))) (tOr_ (tVal (fBin gLt (fBin gIx (fBin gIx (fVar 2) (fBin FR.gSub (fVar 7) (fC (.int 1)))) (fC (.int 1))) (fBin gIx (fVar 5) (fVar 8)))) (tVal (fBin gLt (fVar 9) (fBin gIx (fVar 5) (fVar 8))))))) (sRet (fVar 7)) sNx) := ⟨_, rfl⟩
  have tl := tail A hA
  rw [← hA]
  by_cases a4 : e.d < ld w
  · have b4 : ((e.d : Int) < (ld w : Int)) := by omega
    have b5 : ¬ ((e.d : Int) = (ld w : Int)) := by omega
    rcases Option.eq_none_or_eq_some e.v with hv0 | ⟨v, hv0⟩
    · rw [hv0] at ei tl
      simp only [encO] at ei tl
      by_cases hz : (decide (e.r = 0) || cont w e.r e.d (prvD c k)) = true
      · rw [if_pos hz] at tl
        simp_arith [ei, hlast, b1, b2, a1, a2, a4, b4, b5, hv0, Option.isNone_none, tl, hz, Bool.and_self]
      · rw [if_neg hz] at tl
        rw [Bool.not_eq_true] at hz
        simp_arith [ei, hlast, b1, b2, a1, a2, a4, b4, b5, hv0, Option.isNone_none, tl, hz, Bool.and_self, Bool.and_false]
    · rw [hv0] at ei
      simp only [encO] at ei
      simp_arith [ei, hlast, b1, b2, a1, a2, a4, b4, b5, hv0, Option.isNone_some, isNon_V, Bool.and_false, Bool.false_and]
  · have b4 : ¬ ((e.d : Int) < (ld w : Int)) := by omega
    have b5 : ((e.d : Int) = (ld w : Int)) := by omega
    rcases Bool.eq_false_or_eq_true (fitO e.v K) with hfo | hfo
    rotate_left
    · rw [hfo] at hf
      simp_arith [ei, hlast, b1, b2, a1, a2, b4, eq_true b5, a4, hf, hfo, Bool.and_false, Bool.false_and, Int.lt_irrefl]
    · rw [hfo] at hf
      by_cases hz : (decide (e.r = 0) || cont w e.r e.d (prvD c k)) = true
      · rw [if_pos hz] at tl
        simp_arith [ei, hlast, b1, b2, a1, a2, a4, b4, eq_true b5, hf, hfo, tl, hz, Bool.and_self]
      · rw [if_neg hz] at tl
        rw [Bool.not_eq_true] at hz
        simp_arith [ei, hlast, b1, b2, a1, a2, a4, b4, eq_true b5, hf, hfo, tl, hz, Bool.and_self, Bool.and_false]

end PU
set_option Elab.async false
set_option linter.all false
set_option maxRecDepth 100000
set_option maxHeartbeats 4000000
namespace PU
open PySem PySem.Spec L2 FR
set_option autoImplicit false
theorem lfault_t {F : Fs} (h : Sch F) {i : Nat} {w : List Stp} {K : Kd} (L : Lf F i w K) {c : Col} (hc : ColOk c) {m : List O} :
    o__law_fault [.tup (encF F), .int i, encC c] m = .ok (encN (ffC w K c)) m := by
  rw [u__law_fault]
  unfold b__law_fault
  have hl : bLen [encC c] m = .ok (.int (c.length : Nat)) m := by unfold encC; rw [y_lenT, List.length_map]
  have hr : iRg [.int (c.length : Nat)] m = .ok ((List.range c.length).map fun k => D.int (k : Nat)) m := iRg_n rfl (by have := hc.len; omega)
  have hw : gIx (.lst ((wys F).map lwD)) (.int i) m = .ok (.tup [.lst (w.map s4Dt), .str (kdS K)]) m := by
    rw [y_ixL, w_atN, List.getElem?_map, L.at_]; rfl
  let R : Option D → Option D → Lc := fun a b => [some (.tup (encF F)), some (.int i), some (encC c), some (.lst (w.map s4Dt)), some (.str (kdS K)), a, none, b, none, none, none]
  have hcm : compL (.nm 6) t__law_fault_0 e__law_fault_0 (R none none) (w.map s4Dt) m = .ok ((w.filter fun s => decide (s.ru = .rep)).map fun s => D.int (s.d : Nat)) m := by
    refine comp_fil s4Dt _ (fun s => decide (s.ru = .rep)) (fun s => [some (.tup (encF F)), some (.int i), some (encC c), some (.lst (w.map s4Dt)), some (.str (kdS K)), none, some (s4Dt s), none, none, none, none]) _ fun s _ => ⟨rfl, ?_, fun _ => ?_⟩
    · unfold t__law_fault_0 s4Dt
      simp_arith [y_rP]
    · unfold e__law_fault_0 s4Dt
      simp_arith []
  have hst : ((w.filter fun s => decide (s.ru = .rep)).map fun s => D.int (s.d : Nat)) = (stsW w).map fun x => D.int (x : Nat) := by unfold stsW; rw [List.map_map]; rfl
  rw [hst] at hcm
  have hwl : (w.map s4Dt).length ≤ 16777215 := by have := wy_len h L; simp; omega
  have hsl : ((stsW w).map fun x => D.int (x : Nat)).length ≤ 16777215 := by
    have := wy_len h L
    have : (stsW w).length ≤ w.length := by unfold stsW; rw [List.length_map]; exact List.length_filter_le _ _
    simp; omega
  have ha : gAdd (.lst [.int 0]) (.lst ((stsW w).map fun x => D.int (x : Nat))) m = .ok (.lst (.int 0 :: (stsW w).map fun x => D.int (x : Nat))) m := by
    rw [y_addLL (by simp at hsl ⊢; omega)]; rfl
  have hf : forL (.nm 7) f__law_fault_0 ((List.range c.length).map fun k => D.int (k : Nat)) (R (some (.lst (.int 0 :: (stsW w).map fun x => D.int (x : Nat)))) none) m = foundR (fun (z : Nat) => D.int (z : Nat)) (R (some (.lst (.int 0 :: (stsW w).map fun x => D.int (x : Nat)))) none) m (ffC w K c) := by
    refine forL_find (enc := fun (k : Nat) => D.int (k : Nat)) (out := fun (z : Nat) => D.int (z : Nat)) (fun k => !adm w K c k) _ fun k hk => ⟨_, rfl, ?_, ?_⟩
    · intro hq
      have := fault_turn_t L hc (List.mem_range.mp hk) (x0 := some (.tup (encF F))) (x1 := some (.int i)) (x6 := none) (m := m) h
      rw [if_pos (by simpa using hq)] at this
      exact this
    · intro hq
      have := fault_turn_t L hc (List.mem_range.mp hk) (x0 := some (.tup (encF F))) (x1 := some (.int i)) (x6 := none) (m := m) h
      rw [if_neg (by simpa using hq)] at this
      exact this
  simp only [R] at hcm hf
  rcases Option.eq_none_or_eq_some (ffC w K c) with e | ⟨z, e⟩
  · rw [e] at hf ⊢
    simp_arith [lways_t h, hw, hwl, hcm, ha, hl, hr, hf, encN]
  · rw [e] at hf ⊢
    simp_arith [lways_t h, hw, hwl, hcm, ha, hl, hr, hf, encN]
theorem encN_nl (o : Option Nat) : noLoc (encN o) = true := by cases o <;> rfl
theorem lfault_i {F : Fs} (h : Sch F) {i : Nat} {w : List Stp} {K : Kd} (L : Lf F i w K) {c : Col} (hc : ColOk c) {m : List O} :
    iso o__law_fault [.tup (encF F), .int i, encC c] m = .ok (encN (ffC w K c)) m := iso_val (by simp [noLocs, noLoc, encF_nl, encC_nl]) (lfault_t h L hc) (encN_nl _)
theorem first_i {F : Fs} (h : Sch F) {i : Nat} {w : List Stp} {K : Kd} (L : Lf F i w K) {c : Col} (hc : ColOk c) {m : List O} :
    iso o_first_fault [SC F, .int i, encC c] m = .ok (encN (ffC w K c)) m := iso_val (by simp [noLocs, noLoc, sc_nlt h, encC_nl]) (first_t h L hc) (encN_nl _)
theorem bones_t {c : Col} (hc : c.length ≤ 1000) {k d : Nat} : ∃ m', o__law_bones [encC c, .int k, .int d] [] = .ok (encS (skl k d c)) m' := by
  rw [u__law_bones]
  unfold b__law_bones encC
  have hf : ∀ (cs : List En) (acc : List D), acc.length + cs.length ≤ 1000000 → forL (.nm 4) f__law_bones_0 (cs.map encE) [some (.tup (c.map encE)), some (.int k), some (.int d), some (.loc 0), none] [.lst acc] = .ok (.nx [some (.tup (c.map encE)), some (.int k), some (.int d), some (.loc 0), none]) [.lst (acc ++ (skl k d cs).map encB)] := by
    intro cs
    induction cs with
    | nil => intro acc _; simp [skl, forL]
    | cons e cs ih =>
      intro acc hl
      simp only [List.length_cons] at hl
      rw [List.map_cons, forL_cons]
      have ee : encE e = .tup [.int e.r, .int e.d, encO e.v] := rfl
      by_cases hr : e.r ≤ k
      · have h1 : ((e.r : Int) ≤ (k : Int)) := by omega
        have e2 : gIx (.lst [.int e.d, .int d]) (.int (if decide ((d : Int) < (e.d : Int)) = true then 1 else 0)) [.lst acc] = .ok (.int ((min e.d d : Nat) : Int)) [.lst acc] := by
          by_cases hd : d < e.d
          · have : ((d : Int) < (e.d : Int)) := by omega
            rw [decide_eq_true this, Nat.min_eq_right (by omega)]; rfl
          · have : ¬ ((d : Int) < (e.d : Int)) := by omega
            rw [decide_eq_false this, Nat.min_eq_left (by omega)]; rfl
        have e3 := appI_one (m := [O.lst acc]) (i := 0) (xs := acc) (d := .tup [.int e.r, .int ((min e.d d : Nat) : Int)]) rfl (by omega)
        have hb : f__law_bones_0 [some (.tup (c.map encE)), some (.int k), some (.int d), some (.loc 0), some (encE e)] [.lst acc] = .ok (.nx [some (.tup (c.map encE)), some (.int k), some (.int d), some (.loc 0), none]) [.lst (acc ++ [encB (e.r, min e.d d)])] := by
          rw [ee]
          unfold f__law_bones_0
          simp_arith [h1, appO_loc (m := [O.lst acc]) (i := 0) (xs := acc) rfl, e2, e3]
          rfl
        have e4 : skl k d (e :: cs) = (e.r, min e.d d) :: skl k d cs := by unfold skl; simp [List.filter_cons, hr]
        simp_arith [hb]
        rw [ih _ (by simp; omega), e4]
        simp
      · have h1 : ¬ ((e.r : Int) ≤ (k : Int)) := by omega
        have hb : f__law_bones_0 [some (.tup (c.map encE)), some (.int k), some (.int d), some (.loc 0), some (encE e)] [.lst acc] = .ok (.nx [some (.tup (c.map encE)), some (.int k), some (.int d), some (.loc 0), none]) [.lst acc] := by
          rw [ee]
          unfold f__law_bones_0
          simp_arith [h1]
        have e4 : skl k d (e :: cs) = skl k d cs := by unfold skl; simp [List.filter_cons, hr]
        simp_arith [hb]
        rw [ih _ (by omega), e4]
  have hf0 := hf c [] (by simp; omega)
  have hnew : fNew aNil [some (.tup (c.map encE)), some (.int k), some (.int d), none, none] [] = .ok (.loc 0) [.lst []] := rfl
  rw [List.nil_append] at hf0
  refine ⟨[.lst ((skl k d c).map encB)], ?_⟩
  have ht : bTuple [.loc 0] [.lst ((skl k d c).map encB)] = .ok (.tup ((skl k d c).map encB)) [.lst ((skl k d c).map encB)] := rfl
  simp_arith [↓hnew, hf0, ht]
  rfl
theorem encS_nl (s : List (Nat × Nat)) : noLoc (encS s) = true := noLocs_map encB s fun p _ => rfl
theorem bones_i {c : Col} (hc : c.length ≤ 1000) {k d : Nat} {m : List O} : iso o__law_bones [encC c, .int k, .int d] m = .ok (encS (skl k d c)) m := by
  obtain ⟨m', e⟩ := bones_t hc (k := k) (d := d)
  exact iso_val (by simp [noLocs, noLoc, encC_nl]) e (encS_nl _)
theorem skel_i {c : Col} (hc : c.length ≤ 1000) {k d : Nat} {m : List O} : iso o_skeleton [encC c, .int k, .int d] m = .ok (encS (skl k d c)) m := iso_val (by simp [noLocs, noLoc, encC_nl]) (skel_t hc) (encS_nl _)
def dfl : Kd → Vl
  | .int => .int 0
  | .text => .str ""
  | .flag => .bl true
theorem dfl_ok {K : Kd} : VOk (dfl K) := by
  cases K with
  | int => exact ⟨by decide, by decide⟩
  | text => exact ⟨by decide +kernel, by decide +kernel⟩
  | flag => trivial
theorem dfl_fit {K : Kd} : fitK (dfl K) K = true := by cases K <;> rfl
theorem dct3 {r : Lc} {m : List O} : fDct (("int", (fC (.int 0))) :: (("text", (fC (.str ""))) :: (("flag", (fC (.bl true))) :: []))) r m = .ok (.dct ["int", "text", "flag"] [.int 0, .str "", .bl true]) m := by
  unfold fDct
  show (if (nodupS ["int", "text", "flag"] && decide (3 ≤ 15)) = true then _ else _) = _
  rw [if_pos (by decide +kernel)]
  rfl
theorem dget3 {K : Kd} {m : List O} : gIxA (.dct ["int", "text", "flag"] [.int 0, .str "", .bl true]) (.str (kdS K)) m = .ok (encV (dfl K)) m := by
  have l : lookD ["int", "text", "flag"] [D.int 0, .str "", .bl true] (kdS K) = some (encV (dfl K)) := by
    cases K
    · show (if ("int" : Str) = "int" then _ else _) = _
      rw [if_pos rfl]; rfl
    · show (if ("text" : Str) = "int" then _ else (if ("text" : Str) = "text" then _ else _)) = _
      rw [if_neg (by decide +kernel), if_pos rfl]; rfl
    · show (if ("flag" : Str) = "int" then _ else (if ("flag" : Str) = "text" then _ else (if ("flag" : Str) = "flag" then _ else _))) = _
      rw [if_neg (by decide +kernel), if_neg (by decide +kernel), if_pos rfl]; rfl
  show (match lookD _ _ (kdS K) with | some v => Rs.ok v m | none => .stk) = _
  rw [l]
theorem sts_le : ∀ {w : List Stp} {k d : Nat}, wayLv k d w → ∀ x ∈ stsW w, x ≤ ld w
  | [], _, _, _, x, hx => by simp [stsW] at hx
  | [s], _, _, _, x, hx => by
    simp only [stsW, List.mem_map, List.mem_filter, List.mem_singleton] at hx
    obtain ⟨a, ⟨rfl, _⟩, rfl⟩ := hx
    simp [ld]
  | s :: t :: w, k, d, h, x, hx => by
    have hl : ld (s :: t :: w) = ld (t :: w) := by simp [ld]
    rw [hl]
    obtain ⟨_, _, h3⟩ := h
    simp only [stsW, List.mem_map, List.mem_filter] at hx
    obtain ⟨a, ⟨ha, hr⟩, rfl⟩ := hx
    rcases List.mem_cons.mp ha with rfl | ha
    · obtain ⟨l, hll⟩ : ∃ l, (t :: w).getLast? = some l := ⟨_, List.getLast?_eq_some_getLast (by simp)⟩
      have := (wayLv_ge h3 l (List.mem_of_getLast? hll)).2
      simp only [ld, hll, Option.map_some, Option.getD_some]
      exact this
    · exact sts_le h3 a.d (by simp only [stsW, List.mem_map, List.mem_filter]; exact ⟨a, ⟨ha, hr⟩, rfl⟩)
/-- what the law tells of one entry by itself -/
theorem own_t {F : Fs} (h : Sch F) {i : Nat} {w : List Stp} {K : Kd} (L : Lf F i w K) {c : Col} (hc : ColOk c) {k : Nat} (hk : k < c.length) {m : List O} :
    o__law_own [SC F, .tup (encF F), .int i, encC c, .int k] m = .ok (.bl (adm w K c k)) m := by
  obtain ⟨e, he⟩ : ∃ e, c[k]? = some e := ⟨_, List.getElem?_eq_getElem hk⟩
  have hen := hc.all e (List.mem_of_getElem? he)
  rw [u__law_own]
  unfold b__law_own
  have el : gIx (.tup ((wys F).map lfD)) (.int i) m = .ok (.tup [.str (pathW w), .str (kdS K), .int (lk w), .int (ld w)]) m := ix_map L.at_
  obtain ⟨kk, hkk⟩ : ∃ kk : Int, kk = (k : Nat) := ⟨_, rfl⟩
  rw [← hkk]
  cases k with
  | zero =>
    have k0 : kk = 0 := by omega
    have hcut : gSl (encC c) none (some 1) m = .ok (encC (c.take 1)) m := by
      unfold encC
      rw [sl_t, cut_take (i := 1) (n := 1) rfl, List.map_take]
    have hc1 : ColOk (c.take 1) := ⟨by simp; omega, fun x hx => hc.all x (List.mem_of_mem_take hx)⟩
    have hl1 : (c.take 1).length = 1 := by simp; omega
    have hff : (ffC w K (c.take 1)).isNone = adm w K c 0 := by
      unfold ffC
      rw [hl1]
      have : adm w K (c.take 1) 0 = adm w K c 0 := by
        unfold adm prvD
        rw [List.getElem?_take_of_lt (by omega)]
      show (List.find? _ [0]).isNone = _
      rw [List.find?_cons, this]
      cases adm w K c 0 <;> rfl
    have hN : FR.isNon (encN (ffC w K (c.take 1))) = adm w K c 0 := by
      rw [← hff]
      cases ffC w K (c.take 1) <;> rfl
    simp_arith [eq_true k0, hcut, lfault_i h L hc1, hN]
  | succ k =>
    obtain ⟨p, hp⟩ : ∃ p, c[k]? = some p := ⟨_, List.getElem?_eq_getElem (by omega)⟩
    have hpn := hc.all p (List.mem_of_getElem? hp)
    have k0 : ¬ (kk = 0) := by omega
    have ep : gIx (encC c) (.int (kk - 1)) m = .ok (.tup [.int p.r, .int p.d, encO p.v]) m := by
      rw [show kk - 1 = (k : Nat) by omega]
      exact ix_map hp
    have ek : gIx (encC c) (.int kk) m = .ok (encE e) m := by rw [hkk]; exact ix_map he
    have hmin : (if (ld w : Int) < (p.d : Int) then (ld w : Int) else (p.d : Int)) = ((min p.d (ld w) : Nat) : Int) := by split <;> omega
    obtain ⟨a, ha⟩ : ∃ a, a = min p.d (ld w) := ⟨_, rfl⟩
    rw [← ha] at hmin
    have hal : a ≤ ld w := by omega
    have hpd := hpn.d
    obtain ⟨v, hv1, hv2, hv3⟩ : ∃ v : Option Vl, (v = if a = ld w then some (dfl K) else none) ∧ (∀ x, v = some x → VOk x) ∧ (fIf (tVal (fBin gEq (fVar 9) (fVar 8))) (fBin gIxA (fDct (("int", (fC (.int 0))) :: (("text", (fC (.str ""))) :: (("flag", (fC (.bl true))) :: [])))) (fVar 6)) (fC .non)) [some (SC F), some (.tup (encF F)), some (.int i), some (encC c), some (.int kk), some (.str (pathW w)), some (.str (kdS K)), some (.int (lk w)), some (.int (ld w)), some (.int (a : Nat)), none] m = .ok (encO v) m := by
      by_cases hz : a = ld w
      · refine ⟨some (dfl K), by rw [if_pos hz], fun x hx => by cases hx; exact dfl_ok, ?_⟩
        have hz' : ((a : Int) = (ld w : Int)) := by omega
        simp_arith [eq_true hz', dct3, dget3]
        rfl
      · refine ⟨none, by rw [if_neg hz], (fun x hx => by cases hx), ?_⟩
        have hz' : ¬ ((a : Int) = (ld w : Int)) := by omega
        simp_arith [hz']
        try rfl
    have hc2 : ColOk [⟨0, a, v⟩, e] := ⟨by simp, fun x hx => by
      simp only [List.mem_cons, List.not_mem_nil, or_false] at hx
      rcases hx with rfl | rfl
      · exact ⟨by simp, by show a ≤ 3; omega, hv2⟩
      · exact hen⟩
    have hN : FR.isNon (encN (ffC w K [⟨0, a, v⟩, e])) = adm w K c (k + 1) := by
      have e0 : adm w K [⟨0, a, v⟩, e] 0 = true := by
        show admE w K ⟨0, a, v⟩ _ = true
        unfold admE
        by_cases hz : a = ld w
        · rw [hv1, if_pos hz]; simp [hz, fitO, dfl_fit]
        · rw [hv1, if_neg hz]
          have : a < ld w := by omega
          simp [this, hal]
      have e1 : adm w K [⟨0, a, v⟩, e] 1 = adm w K c (k + 1) := by
        unfold adm
        rw [he]
        show admE w K e (some a) = admE w K e (prvD c (k + 1))
        have hpr : prvD c (k + 1) = some p.d := by unfold prvD; rw [if_neg (by omega), Nat.add_sub_cancel, hp]; rfl
        rw [hpr]
        have hct : cont w e.r e.d (some a) = cont w e.r e.d (some p.d) := by
          unfold cont
          cases hx : (stsW w)[e.r - 1]? with
          | none => rfl
          | some x =>
            have := sts_le L.lv x (List.mem_of_getElem? hx)
            have : (x ≤ a) = (x ≤ p.d) := by apply propext; omega
            simp only [this]
        unfold admE
        rw [hct]
      unfold ffC
      show FR.isNon (encN (List.find? _ [0, 1])) = _
      rw [List.find?_cons, e0]
      simp only [Bool.not_true]
      rw [List.find?_cons, e1]
      cases adm w K c (k + 1) <;> rfl
    have hfo := lfault_i h L hc2 (m := m)
    have hce : encC [⟨0, a, v⟩, e] = .tup [.tup [.int 0, .int a, encO v], encE e] := rfl
    rw [hce] at hfo
    simp_arith [k0, fld_leaves h, el, ep, hmin, ↓hv3, ek, hfo, hN]

end PU
set_option Elab.async false
set_option linter.all false
set_option maxRecDepth 100000
set_option maxHeartbeats 4000000
namespace PU
open PySem PySem.Spec L2 FR
set_option autoImplicit false
theorem forL_draw {α : Type} {pt : Pt} {body : FS} {r : Lc} {p : Nat} {enc : α → D} : ∀ (l : List α), (∀ z ∈ l, ∃ r1, asg pt (enc z) r = some r1 ∧ ∀ m, SO p m → ∃ m', body r1 m = .ok (.nx r) m' ∧ SO p m' ∧ FrB p m m') → ∀ m, SO p m → ∃ m', forL pt body (l.map enc) r m = .ok (.nx r) m' ∧ SO p m' ∧ FrB p m m'
  | [], _, m, h => ⟨m, rfl, h, .rfl'⟩
  | z :: l, hz, m, h => by
    obtain ⟨r1, h1, h2⟩ := hz z List.mem_cons_self
    obtain ⟨m1, e1, s1, f1⟩ := h2 m h
    obtain ⟨m2, e2, s2, f2⟩ := forL_draw l (fun y hy => hz y (List.mem_cons_of_mem _ hy)) m1 s1
    refine ⟨m2, ?_, s2, f1.trans f2⟩
    simp only [List.map_cons, forL, h1, e1, e2]
/-- a drawn schema and a stream -/
theorem schema_t (ns : List Int) {i : Int} (hi : 0 ≤ i) : ∃ F, Sch F ∧ 0 < nF F ∧ ∀ m, iso o__law_schema [.scr ns, .int i] m = .ok (.tup (encF F)) m := by
  obtain ⟨fs, m', e, _, hs⟩ := schema_ok (m := []) (ns := ns) hi
  obtain ⟨F, rfl, hF⟩ := typ_F 2 fs hs.ok.2.2.1
  have S : Sch F := ⟨hs.ok, hs.lv, hF⟩
  refine ⟨F, S, ?_, fun m => iso_val rfl e (encF_nl F)⟩
  cases F with
  | nil => exact absurd rfl hs.ok.1
  | cons nm ru t g =>
    obtain ⟨hk, _⟩ := head_t hs.ok.2.2.1
    have := lv_pos 2 _ hk
    rw [lv_T 2 t hk] at this
    simp only [nF]; omega
theorem make_t {F : Fs} (h : Sch F) {fa : FA} {r : Lc} {m : List O} (ha : fa r m = .ok [.tup (encF F)] m) : fMakeI "Schema" o_Schema fa r m = .ok (SC F) m := make_ok h.ok h.le ha
theorem stream_t (ns : List Int) {first count : Int} (h0 : 0 ≤ first) (hc : 0 < count) (hc2 : count ≤ 1000) (m : List O) : ∃ ds p m', Dg ds ∧ o__law_stream [.scr ns, .int first, .int count] m = .ok (SD ds p) m' ∧ SO p m' := by
  obtain ⟨ds, p, m', e, _, _, hp, hd, hl⟩ := stream_ok (m := m) (ns := ns) h0 hc hc2
  exact ⟨ds, p, m', ⟨hl, hd⟩, e, 0, by omega, hp⟩
theorem same_non {m : List O} : iso o__law_same [.non, .non] m = .ok (.bl true) m := by
  have e : o__law_same [.non, .non] [] = .ok (.bl true) [] := by
    show r__law_same (11 + 1) [.non, .non] [] = _
    rw [u__law_same]
    unfold b__law_same
    simp_arith []
  exact iso_val rfl e rfl
theorem same_N {o : Option Nat} {m : List O} : iso o__law_same [encN o, encN o] m = .ok (.bl true) m := by
  cases o with
  | none => exact same_non
  | some k => exact same_iso (n := 0) (by omega) (by simp [encN, PL])
theorem same_S {s : List (Nat × Nat)} (h : s.length ≤ 100000) {m : List O} : iso o__law_same [encS s, encS s] m = .ok (.bl true) m := by
  refine same_iso (n := 2) (by omega) ⟨by rw [List.length_map]; omega, fun d hd => ?_⟩
  obtain ⟨p, _, rfl⟩ := List.mem_map.mp hd
  refine ⟨by simp, fun x hx => ?_⟩
  simp only [List.mem_cons, List.not_mem_nil, or_false] at hx
  rcases hx with rfl | rfl <;> trivial
theorem same_B {z : Bool} {m : List O} : iso o__law_same [.bl z, .bl z] m = .ok (.bl true) m := same_iso (n := 0) (by omega) (by simp [PL])
theorem skl_len {k d : Nat} {c : Col} : (skl k d c).length ≤ c.length := by
  unfold skl; rw [List.length_map]; exact List.length_filter_le _ _
theorem encR_nl (F : Fs) (cs : List (List Oc)) : noLoc (encR F cs) = true := encCs_nl F cs
theorem lcols_i {F : Fs} (h : Sch F) {rs : List (List (List Oc))} (hw : ∀ cs ∈ rs, wfC 3 F cs) (hl : rs.length ≤ 100) {m : List O} : iso o__law_columns [.tup (encF F), .lst (rs.map (encR F))] m = .ok (.tup ((wRecs F rs).map encC)) m := by
  have hs : (rs.map (szF F)).sum ≤ 16777215 := by
    have := sum_le (szF F) 768 rs fun cs hc => szR_le h (hw cs hc)
    have : rs.length * 768 ≤ 100 * 768 := Nat.mul_le_mul_right _ hl
    omega
  obtain ⟨m', e⟩ := lcols_t (b := 3) (by omega) h hw hs (by omega)
  exact iso_val (by simp only [noLocs, noLoc, encF_nl, Bool.true_and, Bool.and_true]; exact noLocs_map (encR F) rs fun c _ => encR_nl F c) e (noLocs_map encC _ fun c _ => encC_nl c)

end PU
set_option Elab.async false
set_option linter.all false
set_option maxRecDepth 100000
set_option maxHeartbeats 4000000
namespace K14
open PySem PySem.Spec L2 FR PU
def f_law_0 : FS := (sFgtE [8] (sIf (tNot_ (tTru (fCB (iso o__law_same) (aCons (fCB o_is_admissible (aCons (fVar 2) (aCons (fVar 5) (aCons (fVar 6) (aCons (fVar 8) aNil))))) (aCons (fCB (iso o__law_own) (aCons (fVar 2) (aCons (fVar 1) (aCons (fVar 5) (aCons (fVar 6) (aCons (fVar 8) aNil)))))) aNil))))) (sRet (fC (.bl false))) sNx))
def f_law_1 : FS := (sFgtE [5, 6, 7, 8, 9] (sSeq (sSet 6 (fBin gIx (fVar 4) (fVar 5)))
    (sIf (tVal (fBin gIsNot (fVar 6) (fC .non))) (sSeq (sSet 7 (fCB (iso o__law_fault) (aCons (fVar 1) (aCons (fVar 5) (aCons (fVar 6) aNil)))))
    (sSeq (sIf (tNot_ (tTru (fCB (iso o__law_same) (aCons (fCB o_first_fault (aCons (fVar 2) (aCons (fVar 5) (aCons (fVar 6) aNil)))) (aCons (fVar 7) aNil))))) (sRet (fC (.bl false))) sNx)
    (sSeq (sFgtB [8] (sFor (.nm 8) (iR1 (aCons (fCB bLen (aCons (fVar 6) aNil)) aNil)) (f_law_0)))
    (sSeq (sSet 9 (fTup (aCons (fCB o__law_next (aCons (fVar 3) (aCons (fC (.int 4)) aNil))) (aCons (fCB o__law_next (aCons (fVar 3) (aCons (fC (.int 4)) aNil))) aNil))))
    (sIf (tNot_ (tTru (fCB (iso o__law_same) (aCons (fCB o_skeleton (aCons (fVar 6) (aCons (fBin gIx (fVar 9) (fC (.int 0))) (aCons (fBin gIx (fVar 9) (fC (.int 1))) aNil)))) (aCons (fCB (iso o__law_bones) (aCons (fVar 6) (aCons (fBin gIx (fVar 9) (fC (.int 0))) (aCons (fBin gIx (fVar 9) (fC (.int 1))) aNil)))) aNil))))) (sRet (fC (.bl false))) sNx))))) sNx)))
def e_law_0 : FE := (fCB o_is_value (aCons (fVar 11) (aCons (fVar 12) aNil)))
def b_law : FS := (sSeq (sSet 1 (fCB (iso o__law_schema) (aCons (fVar 0) (aCons (fC (.int 0)) aNil))))
    (sSeq (sSet 2 (fMakeI "Schema" o_Schema (aCons (fVar 1) aNil)))
    (sSeq (sSet 3 (fCB o__law_stream (aCons (fVar 0) (aCons (fC (.int 5)) (aCons (fC (.int 24)) aNil)))))
    (sSeq (sSet 4 (fCB (iso o__law_columns) (aCons (fVar 1) (aCons (fCB o__law_records (aCons (fVar 3) (aCons (fVar 1) (aCons (fC (.int 4)) aNil)))) aNil))))
    (sSeq (sSet 4 (fCB o__law_turned (aCons (fVar 3) (aCons (fVar 1) (aCons (fVar 4) aNil)))))
    (sSeq (sFgtB [5, 6, 7, 8, 9] (sFor (.nm 5) (iR1 (aCons (fCB bLen (aCons (fVar 4) aNil)) aNil)) (f_law_1)))
    (sSeq (sSet 10 (fLst (aCons (fC .non) (aCons (fC (.bl true)) (aCons (fC (.bl false)) (aCons (fC (.int 0)) (aCons (fUn gNeg (fC (.int 2147483648))) (aCons (fC (.int 2147483648)) (aCons (fC (.str "")) (aCons (fC (.str "a@b")) (aCons (fBin gMul (fC (.str "a")) (fC (.int 101))) (aCons (fC (.str "~")) (aCons (fC (.int 7)) (aCons (fC (.str "A z")) aNil))))))))))))))
    (sSeq (sSet 11 (fBin gIx (fVar 10) (fCB o__law_next (aCons (fVar 3) (aCons (fC (.int 12)) aNil)))))
    (sSeq (sSet 7 (fLst (aCons (fAnd (fCB o__law_is_integer (aCons (fVar 11) aNil)) (fBin gLt (fVar 11) (fC (.int 2147483648)))) (aCons (fAnd (fCB bIsi (aCons (fVar 11) (aCons (fC (.ty "str")) aNil))) (fAnd (fBin gLt (fCB bLen (aCons (fVar 11) aNil)) (fC (.int 101))) (fBin gNe (fVar 11) (fC (.str "~"))))) (aCons (fCB bIsi (aCons (fVar 11) (aCons (fC (.ty "bool")) aNil))) aNil)))))
    (sRet (fCB (iso o__law_same) (aCons (fLc [12] (.nm 12) (iAll (fLst (aCons (fC (.str "int")) (aCons (fC (.str "text")) (aCons (fC (.str "flag")) aNil))))) tTrue (e_law_0)) (aCons (fVar 7) aNil)))))))))))))
def o_law := runF 13 b_law
theorem u_law (x0 : D) (m : List O) : o_law [x0] m = fin (b_law [some x0, none, none, none, none, none, none, none, none, none, none, none, none] m) := runF_fin _ _

end K14
set_option Elab.async false
set_option linter.all false
set_option maxRecDepth 100000
set_option maxHeartbeats 4000000
namespace K14
open PySem PySem.Spec L2 FR PU
/-! ### the text by places -/
def top (i : Nat) : Stmt := PySem.Challenge.pw_columnkin_k14_admissible_entries.main.body.getD i (.Pass ⟨0, 0, 0, 0⟩)
abbrev s_Schema___init__ : Stmt := inClass (top 13) 0
abbrev s_start_of : Stmt := top 14
abbrev s_ways_within : Stmt := top 15
abbrev s_step_below : Stmt := top 16
abbrev s_levels_below : Stmt := top 17
abbrev s_leaf_of : Stmt := top 18
abbrev s_check_fields : Stmt := top 19
abbrev s_check_field : Stmt := top 20
abbrev s_is_name : Stmt := top 21
abbrev s_is_value : Stmt := top 28
abbrev s_is_entry : Stmt := top 29
abbrev s_is_level : Stmt := top 30
abbrev s_is_admissible : Stmt := top 31
abbrev s_continues_list : Stmt := top 32
abbrev s_first_fault : Stmt := top 33
abbrev s_skeleton : Stmt := top 34
abbrev s__law_cell : Stmt := top 36
abbrev s__law_draws : Stmt := top 37
abbrev s__law_stream : Stmt := top 38
abbrev s__law_next : Stmt := top 39
abbrev s__law_is_integer : Stmt := top 40
abbrev s__law_same : Stmt := top 41
abbrev s__law_fields : Stmt := top 42
abbrev s__law_leaf_count : Stmt := top 43
abbrev s__law_schema : Stmt := top 44
abbrev s__law_text : Stmt := top 45
abbrev s__law_leaf_value : Stmt := top 46
abbrev s__law_occurrence : Stmt := top 47
abbrev s__law_record : Stmt := top 48
abbrev s__law_records : Stmt := top 49
abbrev s__law_ways : Stmt := top 50
abbrev s__law_leaves : Stmt := top 51
abbrev s__law_write : Stmt := top 52
abbrev s__law_write_record : Stmt := top 53
abbrev s__law_columns : Stmt := top 54
abbrev s__law_fits_kind : Stmt := top 55
abbrev s__law_fault : Stmt := top 56
abbrev s__law_bones : Stmt := top 57
abbrev s__law_turned : Stmt := top 58
abbrev s__law_own : Stmt := top 59
abbrev s_law : Stmt := top 60
/-! ### the module's constants -/
/-! ### what the top has written -/
structure Tc (T : Tx) (a_Schema a_BadSchema : Addr) : Prop where
  a_Schema_fields : NoAttr T.K a_Schema "fields"
  a_Schema_leaves : NoAttr T.K a_Schema "leaves"
  a_Schema_ways : NoAttr T.K a_Schema "ways"
  b_abs : T.mg "abs" = none
  b_all : T.mg "all" = none
  b_any : T.mg "any" = none
  b_bool : T.mg "bool" = none
  b_dict : T.mg "dict" = none
  b_int : T.mg "int" = none
  b_isinstance : T.mg "isinstance" = none
  b_len : T.mg "len" = none
  b_list : T.mg "list" = none
  b_min : T.mg "min" = none
  b_range : T.mg "range" = none
  b_str : T.mg "str" = none
  b_sum : T.mg "sum" = none
  b_tuple : T.mg "tuple" = none
  b_type : T.mg "type" = none
  c_GREATEST_INTEGER : GV T "GREATEST_INTEGER" c_GREATEST_INTEGER
  c_GREATEST_LEVEL : GV T "GREATEST_LEVEL" c_GREATEST_LEVEL
  c_KINDS : GV T "KINDS" c_KINDS
  c_LEAST_INTEGER : GV T "LEAST_INTEGER" c_LEAST_INTEGER
  c_LETTERS : GV T "LETTERS" c_LETTERS
  c_LONGEST_NAME : GV T "LONGEST_NAME" c_LONGEST_NAME
  c_LONGEST_TEXT : GV T "LONGEST_TEXT" c_LONGEST_TEXT
  c_MOST_DEEP : GV T "MOST_DEEP" c_MOST_DEEP
  c_MOST_LEAVES : GV T "MOST_LEAVES" c_MOST_LEAVES
  c_NAME_SIGNS : GV T "NAME_SIGNS" c_NAME_SIGNS
  c_RULES : GV T "RULES" c_RULES
  c_SIGNS : GV T "SIGNS" c_SIGNS
  c_WHOLE_RECORD : GV T "WHOLE_RECORD" c_WHOLE_RECORD
  e_BadSchema : ExOk T "BadSchema" a_BadSchema
  d__law_bones : Df T "_law_bones" s__law_bones ["column", "repetition", "definition"]
  d__law_cell : Df T "_law_cell" s__law_cell ["script", "k"]
  d__law_columns : Df T "_law_columns" s__law_columns ["fields", "records"]
  d__law_draws : Df T "_law_draws" s__law_draws ["cell", "count"]
  d__law_fault : Df T "_law_fault" s__law_fault ["fields", "leaf", "column"]
  d__law_fields : Df T "_law_fields" s__law_fields ["stream", "depth", "least"]
  d__law_fits_kind : Df T "_law_fits_kind" s__law_fits_kind ["value", "kind"]
  d__law_is_integer : Df T "_law_is_integer" s__law_is_integer ["actual"]
  d__law_leaf_count : Df T "_law_leaf_count" s__law_leaf_count ["kind"]
  d__law_leaf_value : Df T "_law_leaf_value" s__law_leaf_value ["stream", "kind"]
  d__law_leaves : Df T "_law_leaves" s__law_leaves ["fields"]
  d__law_next : Df T "_law_next" s__law_next ["stream", "many"]
  d__law_occurrence : Df T "_law_occurrence" s__law_occurrence ["stream", "kind"]
  d__law_own : Df T "_law_own" s__law_own ["schema", "fields", "leaf", "column", "k"]
  d__law_record : Df T "_law_record" s__law_record ["stream", "fields"]
  d__law_records : Df T "_law_records" s__law_records ["stream", "fields", "most"]
  d__law_same : Df T "_law_same" s__law_same ["actual", "expected"]
  d__law_schema : Df T "_law_schema" s__law_schema ["script", "first"]
  d__law_stream : Df T "_law_stream" s__law_stream ["script", "first", "count"]
  d__law_text : Df T "_law_text" s__law_text ["stream"]
  d__law_turned : Df T "_law_turned" s__law_turned ["stream", "fields", "parts"]
  d__law_ways : Df T "_law_ways" s__law_ways ["fields", "way", "levels"]
  d__law_write : Df T "_law_write" s__law_write ["kind", "occurrences", "columns", "leaf", "numbers", "rule"]
  d__law_write_record : Df T "_law_write_record" s__law_write_record ["fields", "record", "columns", "leaf", "numbers"]
  d_check_field : Df T "check_field" s_check_field ["field"]
  d_check_fields : Df T "check_fields" s_check_fields ["fields"]
  d_continues_list : Df T "continues_list" s_continues_list ["schema", "leaf", "column", "index"]
  d_first_fault : Df T "first_fault" s_first_fault ["schema", "leaf", "column"]
  d_is_admissible : Df T "is_admissible" s_is_admissible ["schema", "leaf", "column", "index"]
  d_is_entry : Df T "is_entry" s_is_entry ["entry"]
  d_is_level : Df T "is_level" s_is_level ["level"]
  d_is_name : Df T "is_name" s_is_name ["name"]
  d_is_value : Df T "is_value" s_is_value ["value", "kind"]
  d_leaf_of : Df T "leaf_of" s_leaf_of ["step", "kind"]
  d_levels_below : Df T "levels_below" s_levels_below ["repetition", "definition", "rule"]
  d_skeleton : Df T "skeleton" s_skeleton ["column", "repetition", "definition"]
  d_start_of : Df T "start_of" s_start_of ["schema", "leaf", "number"]
  d_step_below : Df T "step_below" s_step_below ["step", "name", "rule"]
  d_ways_within : Df T "ways_within" s_ways_within ["fields", "around"]
  k_Schema : ClG T "Schema" a_Schema
  m_Schema : ∃ f fd, L2.Fun T.K "__init__" "Schema.__init__" s_Schema___init__ f fd ∧ T.mg "Schema" = some (.ref a_Schema) ∧ Mk T.K a_Schema f ∧ Binds T.K fd ["self", "fields"] []
section
variable {P : Program} {w : World} {T : Tx} {base : Heap} {a_Schema a_BadSchema : Addr}
theorem sc_leaf_of : FnScope ["step", "kind", "path", "repetition", "definition"] ["step", "kind"] (defScope s_leaf_of) := ⟨rfl, rfl, rfl, by decide +kernel, rfl, by decide +kernel, by decide +kernel⟩
theorem G_leaf_of (t : Tc T a_Schema a_BadSchema) : FnG P w T base "leaf_of" 1 2 o_leaf_of := by
  refine g_rule (k := 0) (body := b_leaf_of) t.d_leaf_of sc_leaf_of rfl rfl ?_
  intro f cdv A outer s H E hr
  have nd : (["step", "kind", "path", "repetition", "definition"] : List Str).Nodup := sc_leaf_of.nd
  have tk : Takes (cxF P w T base ["step", "kind", "path", "repetition", "definition"] "leaf_of" (defScope s_leaf_of) f cdv A outer s H E) (WF E) := takes_of rfl rfl rfl rfl
  show PSs (cxF P w T base ["step", "kind", "path", "repetition", "definition"] "leaf_of" (defScope s_leaf_of) f cdv A outer s H E) (defBody s_leaf_of) (rdS (tx (cxF P w T base ["step", "kind", "path", "repetition", "definition"] "leaf_of" (defScope s_leaf_of) f cdv A outer s H E)) (WF E) b_leaf_of)
  exact (ss_cons (s_asg (v_var (i := 0)) (g_tp rfl (gs_cons (g_nm (i := 2) nd) (gs_cons (g_nm (i := 3) nd) (gs_cons (g_nm (i := 4) nd) gs_nil)))))
    (ss_one (s_ret (v_tup (a_cons (v_var (i := 2)) (a_cons (v_var (i := 1)) (a_cons (v_var (i := 3)) (a_cons (v_var (i := 4)) a_nil))))))))
theorem sc_is_name : FnScope ["name", "sign"] ["name"] (defScope s_is_name) := ⟨rfl, rfl, rfl, by decide +kernel, rfl, by decide +kernel, by decide +kernel⟩
theorem G_is_name (t : Tc T a_Schema a_BadSchema) : FnG P w T base "is_name" 1 1 o_is_name := by
  refine g_rule (k := 0) (body := b_is_name) t.d_is_name sc_is_name rfl rfl ?_
  intro f cdv A outer s H E hr
  have nd : (["name", "sign"] : List Str).Nodup := sc_is_name.nd
  have tk : Takes (cxF P w T base ["name", "sign"] "is_name" (defScope s_is_name) f cdv A outer s H E) (WF E) := takes_of rfl rfl rfl rfl
  show PSs (cxF P w T base ["name", "sign"] "is_name" (defScope s_is_name) f cdv A outer s H E) (defBody s_is_name) (rdS (tx (cxF P w T base ["name", "sign"] "is_name" (defScope s_is_name) f cdv A outer s H E)) (WF E) b_is_name)
  exact (ss_cons (s_if (t_w (w_or (t_cmp (nomark _) cm_isNot (v_typ (cb_type) t.b_type bb_type (a_cons (v_var (i := 0)) a_nil)) (v_bty rfl t.b_str bb_str)) (w_or1 (t_not (t_chain (by with_unfolding_all rfl) cm_le cm_le v_int (v_blt (cb_len) t.b_len bb_len (a_cons (v_var (i := 0)) a_nil)) (v_glob rfl t.c_LONGEST_NAME)))))) (ss_one (s_ret v_bl)) ss_nil)
    (ss_one (s_ret (v_and (v_cmp (by rfl) cm_in (v_ix (v_var (i := 0)) v_int) (v_glob rfl t.c_LETTERS)) (v_one (v_blt (cb_all rfl) t.b_all bb_all (a_cons (v_lc (own := [("sign", 1)]) (p := (.nm 1)) (by decide) rfl nd (i_all (v_var (i := 0))) (blkOk_by (N := ["name", "sign"]) (sc := defScope s_is_name) (by decide +kernel)) (fun _ _ _ _ _ => (g_nm (i := 1) nd)) (fun _ _ _ _ _ => ts_nil) (fun _ _ _ _ _ => (v_cmp (by rfl) cm_in (v_var (i := 1)) (v_glob rfl t.c_NAME_SIGNS)))) a_nil)))))))
theorem sc_check_field : FnScope ["field", "name", "rule", "kind"] ["field"] (defScope s_check_field) := ⟨rfl, rfl, rfl, by decide +kernel, rfl, by decide +kernel, by decide +kernel⟩
theorem G_check_field (t : Tc T a_Schema a_BadSchema) : FnG P w T base "check_field" 2 1 o_check_field := by
  have G_is_name := @G_is_name P w T base a_Schema a_BadSchema t
  refine g_rule (k := 1) (body := b_check_field) t.d_check_field sc_check_field rfl rfl ?_
  intro f cdv A outer s H E hr
  have nd : (["field", "name", "rule", "kind"] : List Str).Nodup := sc_check_field.nd
  have tk : Takes (cxF P w T base ["field", "name", "rule", "kind"] "check_field" (defScope s_check_field) f cdv A outer s H E) (WF E) := takes_of rfl rfl rfl rfl
  show PSs (cxF P w T base ["field", "name", "rule", "kind"] "check_field" (defScope s_check_field) f cdv A outer s H E) (defBody s_check_field) (rdS (tx (cxF P w T base ["field", "name", "rule", "kind"] "check_field" (defScope s_check_field) f cdv A outer s H E)) (WF E) b_check_field)
  exact (ss_cons (s_if (t_w (w_or (t_cmp (nomark _) cm_isNot (v_typ (cb_type) t.b_type bb_type (a_cons (v_var (i := 0)) a_nil)) (v_bty rfl t.b_tuple bb_tuple)) (w_or1 (t_cmp (nomark _) (cm_ne hr) (v_blt (cb_len) t.b_len bb_len (a_cons (v_var (i := 0)) a_nil)) v_int)))) (ss_one (s_raise rfl tk t.e_BadSchema)) ss_nil)
    (ss_cons (s_asg (v_var (i := 0)) (g_tp rfl (gs_cons (g_nm (i := 1) nd) (gs_cons (g_nm (i := 2) nd) (gs_cons (g_nm (i := 3) nd) gs_nil)))))
    (ss_cons (s_if (t_not (t_tru (v_call G_is_name (hr.mono (by omega)) tk (a_cons (v_var (i := 1)) a_nil) (al_cons al_nil)))) (ss_one (s_raise rfl tk t.e_BadSchema)) ss_nil)
    (ss_cons (s_if (t_w (w_or (t_cmp (nomark _) cm_isNot (v_typ (cb_type) t.b_type bb_type (a_cons (v_var (i := 2)) a_nil)) (v_bty rfl t.b_str bb_str)) (w_or1 (t_cmp (by rfl) cm_notIn (v_var (i := 2)) (v_glob rfl t.c_RULES))))) (ss_one (s_raise rfl tk t.e_BadSchema)) ss_nil)
    (ss_one (s_if (t_w (w_and (t_cmp (nomark _) cm_isNot (v_typ (cb_type) t.b_type bb_type (a_cons (v_var (i := 3)) a_nil)) (v_bty rfl t.b_tuple bb_tuple)) (w_and1 (t_w (w_or (t_cmp (nomark _) cm_isNot (v_typ (cb_type) t.b_type bb_type (a_cons (v_var (i := 3)) a_nil)) (v_bty rfl t.b_str bb_str)) (w_or1 (t_cmp (by rfl) cm_notIn (v_var (i := 3)) (v_glob rfl t.c_KINDS)))))))) (ss_one (s_raise rfl tk t.e_BadSchema)) ss_nil))))))
theorem sc_check_fields : FnScope ["fields", "field"] ["fields"] (defScope s_check_fields) := ⟨rfl, rfl, rfl, by decide +kernel, rfl, by decide +kernel, by decide +kernel⟩
theorem G_check_fields (t : Tc T a_Schema a_BadSchema) : FnG P w T base "check_fields" 3 1 o_check_fields := by
  have G_check_field := @G_check_field P w T base a_Schema a_BadSchema t
  refine g_rule (k := 2) (body := b_check_fields) t.d_check_fields sc_check_fields rfl rfl ?_
  intro f cdv A outer s H E hr
  have nd : (["fields", "field"] : List Str).Nodup := sc_check_fields.nd
  have tk : Takes (cxF P w T base ["fields", "field"] "check_fields" (defScope s_check_fields) f cdv A outer s H E) (WF E) := takes_of rfl rfl rfl rfl
  show PSs (cxF P w T base ["fields", "field"] "check_fields" (defScope s_check_fields) f cdv A outer s H E) (defBody s_check_fields) (rdS (tx (cxF P w T base ["fields", "field"] "check_fields" (defScope s_check_fields) f cdv A outer s H E)) (WF E) b_check_fields)
  exact (ss_cons (s_if (t_w (w_or (t_cmp (nomark _) cm_isNot (v_typ (cb_type) t.b_type bb_type (a_cons (v_var (i := 0)) a_nil)) (v_bty rfl t.b_tuple bb_tuple)) (w_or1 (t_cmp (nomark _) (cm_eq hr) (v_blt (cb_len) t.b_len bb_len (a_cons (v_var (i := 0)) a_nil)) v_int)))) (ss_one (s_raise rfl tk t.e_BadSchema)) ss_nil)
    (ss_cons (s_for (passes_of rfl) rfl (i_all (v_var (i := 0))) (g_nm (i := 1) nd) (ss_one (s_exp (v_call G_check_field (hr.mono (by omega)) tk (a_cons (v_var (i := 1)) a_nil) (al_cons al_nil)))))
    (ss_one (s_if (t_cmp (nomark _) (cm_ne hr) (v_lenSet (own := [("field", 1)]) (p := (.nm 1)) (by decide) t.b_len bb_len rfl nd (i_all (v_var (i := 0))) (blkOk_by (N := ["fields", "field"]) (sc := defScope s_check_fields) (by decide +kernel)) (fun _ _ _ _ _ => (g_nm (i := 1) nd)) (fun _ _ _ _ _ => ts_nil) (fun _ _ _ _ _ => (v_ix (v_var (i := 1)) v_int))) (v_blt (cb_len) t.b_len bb_len (a_cons (v_var (i := 0)) a_nil))) (ss_one (s_raise rfl tk t.e_BadSchema)) ss_nil))))
theorem sc_levels_below : FnScope ["repetition", "definition", "rule"] ["repetition", "definition", "rule"] (defScope s_levels_below) := ⟨rfl, rfl, rfl, by decide +kernel, rfl, by decide +kernel, by decide +kernel⟩
theorem G_levels_below (t : Tc T a_Schema a_BadSchema) : FnG P w T base "levels_below" 1 3 o_levels_below := by
  refine g_rule (k := 0) (body := b_levels_below) t.d_levels_below sc_levels_below rfl rfl ?_
  intro f cdv A outer s H E hr
  have nd : (["repetition", "definition", "rule"] : List Str).Nodup := sc_levels_below.nd
  have tk : Takes (cxF P w T base ["repetition", "definition", "rule"] "levels_below" (defScope s_levels_below) f cdv A outer s H E) (WF E) := takes_of rfl rfl rfl rfl
  show PSs (cxF P w T base ["repetition", "definition", "rule"] "levels_below" (defScope s_levels_below) f cdv A outer s H E) (defBody s_levels_below) (rdS (tx (cxF P w T base ["repetition", "definition", "rule"] "levels_below" (defScope s_levels_below) f cdv A outer s H E)) (WF E) b_levels_below)
  exact (ss_one (s_ret (v_tup (a_cons (v_if (t_cmp (nomark _) (cm_eq hr) (v_var (i := 2)) v_str) (v_add (v_var (i := 0)) v_int) (v_var (i := 0))) (a_cons (v_if (t_cmp (nomark _) (cm_eq hr) (v_var (i := 2)) v_str) (v_var (i := 1)) (v_add (v_var (i := 1)) v_int)) a_nil)))))
theorem sc_step_below : FnScope ["step", "name", "rule", "path", "group_repetition", "group_definition", "repetition", "definition"] ["step", "name", "rule"] (defScope s_step_below) := ⟨rfl, rfl, rfl, by decide +kernel, rfl, by decide +kernel, by decide +kernel⟩
theorem G_step_below (t : Tc T a_Schema a_BadSchema) : FnG P w T base "step_below" 2 3 o_step_below := by
  have G_levels_below := @G_levels_below P w T base a_Schema a_BadSchema t
  refine g_rule (k := 1) (body := b_step_below) t.d_step_below sc_step_below rfl rfl ?_
  intro f cdv A outer s H E hr
  have nd : (["step", "name", "rule", "path", "group_repetition", "group_definition", "repetition", "definition"] : List Str).Nodup := sc_step_below.nd
  have tk : Takes (cxF P w T base ["step", "name", "rule", "path", "group_repetition", "group_definition", "repetition", "definition"] "step_below" (defScope s_step_below) f cdv A outer s H E) (WF E) := takes_of rfl rfl rfl rfl
  show PSs (cxF P w T base ["step", "name", "rule", "path", "group_repetition", "group_definition", "repetition", "definition"] "step_below" (defScope s_step_below) f cdv A outer s H E) (defBody s_step_below) (rdS (tx (cxF P w T base ["step", "name", "rule", "path", "group_repetition", "group_definition", "repetition", "definition"] "step_below" (defScope s_step_below) f cdv A outer s H E)) (WF E) b_step_below)
  exact (ss_cons (s_asg (v_var (i := 0)) (g_tp rfl (gs_cons (g_nm (i := 3) nd) (gs_cons (g_nm (i := 4) nd) (gs_cons (g_nm (i := 5) nd) gs_nil)))))
    (ss_cons (s_asg (v_call G_levels_below (hr.mono (by omega)) tk (a_cons (v_var (i := 4)) (a_cons (v_var (i := 5)) (a_cons (v_var (i := 2)) a_nil))) (al_cons (al_cons (al_cons al_nil)))) (g_tp rfl (gs_cons (g_nm (i := 6) nd) (gs_cons (g_nm (i := 7) nd) gs_nil))))
    (ss_one (s_ret (v_tup (a_cons (v_if (t_tru (v_var (i := 3))) (v_js (j_cons (v_fmt (v_var (i := 3))) (j_cons v_str (j_cons (v_fmt (v_var (i := 1))) j_nil)))) (v_var (i := 1))) (a_cons (v_var (i := 6)) (a_cons (v_var (i := 7)) a_nil))))))))
theorem sc_ways_within : FnScope ["fields", "around", "found", "name", "rule", "kind", "way"] ["fields", "around"] (defScope s_ways_within) := ⟨rfl, rfl, rfl, by decide +kernel, rfl, by decide +kernel, by decide +kernel⟩
theorem Gr_ways_within (t : Tc T a_Schema a_BadSchema) : ∀ n : Nat, FnG P w T base "ways_within" (3 + n) 2 (r_ways_within n)
  | 0 => by obtain ⟨f, fd, F, hm, b⟩ := t.d_ways_within.ex; exact ⟨f, fd, _, fn_zero, hm, F.kp, b⟩
  | n + 1 => by
    have G_check_fields := @G_check_fields P w T base a_Schema a_BadSchema t
    have G_step_below := @G_step_below P w T base a_Schema a_BadSchema t
    have G_ways_within := Gr_ways_within t n
    refine g_rule (k := 3 + n) (body := b_ways_within (r_ways_within n)) t.d_ways_within sc_ways_within rfl rfl ?_
    intro f cdv A outer s H E hr
    have nd : (["fields", "around", "found", "name", "rule", "kind", "way"] : List Str).Nodup := sc_ways_within.nd
    have tk : Takes (cxF P w T base ["fields", "around", "found", "name", "rule", "kind", "way"] "ways_within" (defScope s_ways_within) f cdv A outer s H E) (WF E) := takes_of rfl rfl rfl rfl
    show PSs (cxF P w T base ["fields", "around", "found", "name", "rule", "kind", "way"] "ways_within" (defScope s_ways_within) f cdv A outer s H E) (defBody s_ways_within) (rdS (tx (cxF P w T base ["fields", "around", "found", "name", "rule", "kind", "way"] "ways_within" (defScope s_ways_within) f cdv A outer s H E)) (WF E) (b_ways_within (r_ways_within n)))
    exact (ss_cons (s_if (t_cmp (nomark _) cm_gt (v_blt (cb_len) t.b_len bb_len (a_cons (v_var (i := 1)) a_nil)) (v_glob rfl t.c_MOST_DEEP)) (ss_one (s_raise rfl tk t.e_BadSchema)) ss_nil)
    (ss_cons (s_exp (v_call G_check_fields (hr.mono (by omega)) tk (a_cons (v_var (i := 0)) a_nil) (al_cons al_nil)))
    (ss_cons (s_set (i := 2) nd (v_new a_nil))
    (ss_cons (s_for (passes_of rfl) rfl (i_all (v_var (i := 0))) (g_tp rfl (gs_cons (g_nm (i := 3) nd) (gs_cons (g_nm (i := 4) nd) (gs_cons (g_nm (i := 5) nd) gs_nil)))) (ss_cons (s_set (i := 6) nd (v_tup (a_star (v_var (i := 1)) (a_cons (v_call G_step_below (hr.mono (by omega)) tk (a_cons (v_ix (v_var (i := 1)) (v_neg v_int)) (a_cons (v_var (i := 3)) (a_cons (v_var (i := 4)) a_nil))) (al_cons (al_cons (al_cons al_nil)))) a_nil))))
    (ss_one (s_if (t_cmp (nomark _) cm_is (v_typ (cb_type) t.b_type bb_type (a_cons (v_var (i := 5)) a_nil)) (v_bty rfl t.b_tuple bb_tuple)) (ss_one (s_exp (v_ext (v_var (i := 2)) (a_cons (v_call G_ways_within (hr.mono (by omega)) tk (a_cons (v_var (i := 5)) (a_cons (v_var (i := 6)) a_nil)) (al_cons (al_cons al_nil))) a_nil)))) (ss_one (s_exp (v_app (v_var (i := 2)) (a_cons (v_tup (a_cons (v_var (i := 6)) (a_cons (v_var (i := 5)) a_nil))) a_nil))))))))
    (ss_cons (s_if (t_cmp (nomark _) cm_gt (v_blt (cb_len) t.b_len bb_len (a_cons (v_var (i := 2)) a_nil)) (v_glob rfl t.c_MOST_LEAVES)) (ss_one (s_raise rfl tk t.e_BadSchema)) ss_nil)
    (ss_one (s_ret (v_frz (v_var (i := 2))))))))))
theorem G_ways_within (t : Tc T a_Schema a_BadSchema) : FnG P w T base "ways_within" 9 2 o_ways_within := Gr_ways_within t 6
theorem sc_Schema___init__ : FnScope ["self", "fields", "found", "way", "kind"] ["self", "fields"] (defScope s_Schema___init__) := ⟨rfl, rfl, rfl, by decide +kernel, rfl, by decide +kernel, by decide +kernel⟩
set_option maxHeartbeats 4000000 in
theorem G_Schema (t : Tc T a_Schema a_BadSchema) : MkG P w T base "Schema" 10 1 o_Schema___init__ := by
  have G_leaf_of := @G_leaf_of P w T base a_Schema a_BadSchema t
  have G_ways_within := @G_ways_within P w T base a_Schema a_BadSchema t
  obtain ⟨f, fd, F, hm, mk, b⟩ := t.m_Schema
  refine ⟨a_Schema, f, fd, ["self", "fields"], fn_rule (k := 9) (body := b_Schema___init__) F sc_Schema___init__ ?_, hm, mk, b⟩
  intro cdv A outer s H E hr
  have nd : (["self", "fields", "found", "way", "kind"] : List Str).Nodup := sc_Schema___init__.nd
  have tk : Takes (cxF P w T base ["self", "fields", "found", "way", "kind"] "Schema.__init__" (defScope s_Schema___init__) f cdv A outer s H E) (WF E) := takes_of rfl rfl rfl rfl
  show PSs (cxF P w T base ["self", "fields", "found", "way", "kind"] "Schema.__init__" (defScope s_Schema___init__) f cdv A outer s H E) (defBody s_Schema___init__) (rdS (tx (cxF P w T base ["self", "fields", "found", "way", "kind"] "Schema.__init__" (defScope s_Schema___init__) f cdv A outer s H E)) (WF E) b_Schema___init__)
  exact (ss_cons (s_set (i := 2) nd (v_call G_ways_within (hr.mono (by omega)) tk (a_cons (v_var (i := 1)) (a_cons (v_tup (a_cons (v_glob rfl t.c_WHOLE_RECORD) a_nil)) a_nil)) (al_cons (al_cons al_nil))))
    (ss_cons (s_fld t.k_Schema t.a_Schema_fields (v_var (i := 0)) (v_var (i := 1)))
    (ss_cons (s_fld t.k_Schema t.a_Schema_ways (v_var (i := 0)) (v_typ (cb_tuple) t.b_tuple bb_tuple (a_cons (v_lc (own := [("way", 3), ("kind", 4)]) (p := (.tp [3, 4])) (by decide) rfl nd (i_all (v_var (i := 2))) (blkOk_by (N := ["self", "fields", "found", "way", "kind"]) (sc := defScope s_Schema___init__) (by decide +kernel)) (fun _ _ _ _ _ => (g_tp rfl (gs_cons (g_nm (i := 3) nd) (gs_cons (g_nm (i := 4) nd) gs_nil)))) (fun _ _ _ _ _ => ts_nil) (fun _ _ _ _ _ => (v_var (i := 3)))) a_nil)))
    (ss_one (s_fld t.k_Schema t.a_Schema_leaves (v_var (i := 0)) (v_typ (cb_tuple) t.b_tuple bb_tuple (a_cons (v_lc (own := [("way", 3), ("kind", 4)]) (p := (.tp [3, 4])) (by decide) rfl nd (i_all (v_var (i := 2))) (blkOk_by (N := ["self", "fields", "found", "way", "kind"]) (sc := defScope s_Schema___init__) (by decide +kernel)) (fun _ _ _ _ _ => (g_tp rfl (gs_cons (g_nm (i := 3) nd) (gs_cons (g_nm (i := 4) nd) gs_nil)))) (fun _ _ _ _ _ => ts_nil) (fun _ _ _ _ _ => (v_call G_leaf_of (hr.mono (by omega)) tk0 (a_cons (v_ix (v_var (i := 3)) (v_neg v_int)) (a_cons (v_var (i := 4)) a_nil)) (al_cons (al_cons al_nil))))) a_nil)))))))
theorem sc_start_of : FnScope ["schema", "leaf", "number", "step"] ["schema", "leaf", "number"] (defScope s_start_of) := ⟨rfl, rfl, rfl, by decide +kernel, rfl, by decide +kernel, by decide +kernel⟩
theorem G_start_of (t : Tc T a_Schema a_BadSchema) : FnG P w T base "start_of" 1 3 o_start_of := by
  refine g_rule (k := 0) (body := b_start_of) t.d_start_of sc_start_of rfl rfl ?_
  intro f cdv A outer s H E hr
  have nd : (["schema", "leaf", "number", "step"] : List Str).Nodup := sc_start_of.nd
  have tk : Takes (cxF P w T base ["schema", "leaf", "number", "step"] "start_of" (defScope s_start_of) f cdv A outer s H E) (WF E) := takes_of rfl rfl rfl rfl
  show PSs (cxF P w T base ["schema", "leaf", "number", "step"] "start_of" (defScope s_start_of) f cdv A outer s H E) (defBody s_start_of) (rdS (tx (cxF P w T base ["schema", "leaf", "number", "step"] "start_of" (defScope s_start_of) f cdv A outer s H E)) (WF E) b_start_of)
  exact (ss_one (s_ret (v_blt (cb_min rfl) t.b_min bb_min (a_cons (v_lc (own := [("step", 3)]) (p := (.nm 3)) (by decide) rfl nd (i_all (v_ix (v_fld t.k_Schema t.a_Schema_ways (v_var (i := 0))) (v_var (i := 1)))) (blkOk_by (N := ["schema", "leaf", "number", "step"]) (sc := defScope s_start_of) (by decide +kernel)) (fun _ _ _ _ _ => (g_nm (i := 3) nd)) (fun _ _ _ _ _ => (ts_one (t_cmp (nomark _) (cm_eq hr) (v_ix (v_var (i := 3)) v_int) (v_var (i := 2))))) (fun _ _ _ _ _ => (v_ix (v_var (i := 3)) v_int))) a_nil))))
theorem sc_is_value : FnScope ["value", "kind", "sign"] ["value", "kind"] (defScope s_is_value) := ⟨rfl, rfl, rfl, by decide +kernel, rfl, by decide +kernel, by decide +kernel⟩
theorem G_is_value (t : Tc T a_Schema a_BadSchema) : FnG P w T base "is_value" 1 2 o_is_value := by
  refine g_rule (k := 0) (body := b_is_value) t.d_is_value sc_is_value rfl rfl ?_
  intro f cdv A outer s H E hr
  have nd : (["value", "kind", "sign"] : List Str).Nodup := sc_is_value.nd
  have tk : Takes (cxF P w T base ["value", "kind", "sign"] "is_value" (defScope s_is_value) f cdv A outer s H E) (WF E) := takes_of rfl rfl rfl rfl
  show PSs (cxF P w T base ["value", "kind", "sign"] "is_value" (defScope s_is_value) f cdv A outer s H E) (defBody s_is_value) (rdS (tx (cxF P w T base ["value", "kind", "sign"] "is_value" (defScope s_is_value) f cdv A outer s H E)) (WF E) b_is_value)
  exact (ss_cons (s_if (t_cmp (nomark _) (cm_eq hr) (v_var (i := 1)) v_str) (ss_one (s_ret (v_and (v_cmp (nomark _) cm_is (v_typ (cb_typeA) t.b_type bb_type (a_cons (v_var (i := 0)) a_nil)) (v_bty rfl t.b_int bb_int)) (v_one (v_chain (by with_unfolding_all rfl) cm_le cm_le (v_glob rfl t.c_LEAST_INTEGER) (v_var (i := 0)) (v_glob rfl t.c_GREATEST_INTEGER)))))) ss_nil)
    (ss_cons (s_if (t_cmp (nomark _) (cm_eq hr) (v_var (i := 1)) v_str) (ss_one (s_ret (v_and (v_cmp (nomark _) cm_is (v_typ (cb_typeA) t.b_type bb_type (a_cons (v_var (i := 0)) a_nil)) (v_bty rfl t.b_str bb_str)) (v_and (v_cmp (nomark _) cm_le (v_blt (cb_len) t.b_len bb_len (a_cons (v_var (i := 0)) a_nil)) (v_glob rfl t.c_LONGEST_TEXT)) (v_one (v_blt (cb_all rfl) t.b_all bb_all (a_cons (v_lc (own := [("sign", 2)]) (p := (.nm 2)) (by decide) rfl nd (i_all (v_var (i := 0))) (blkOk_by (N := ["value", "kind", "sign"]) (sc := defScope s_is_value) (by decide +kernel)) (fun _ _ _ _ _ => (g_nm (i := 2) nd)) (fun _ _ _ _ _ => ts_nil) (fun _ _ _ _ _ => (v_cmp (by rfl) cm_in (v_var (i := 2)) (v_glob rfl t.c_SIGNS)))) a_nil))))))) ss_nil)
    (ss_one (s_ret (v_and (v_cmp (nomark _) (cm_eq hr) (v_var (i := 1)) v_str) (v_one (v_cmp (nomark _) cm_is (v_typ (cb_typeA) t.b_type bb_type (a_cons (v_var (i := 0)) a_nil)) (v_bty rfl t.b_bool bb_bool))))))))
theorem sc_is_level : FnScope ["level"] ["level"] (defScope s_is_level) := ⟨rfl, rfl, rfl, by decide +kernel, rfl, by decide +kernel, by decide +kernel⟩
theorem G_is_level (t : Tc T a_Schema a_BadSchema) : FnG P w T base "is_level" 1 1 o_is_level := by
  refine g_rule (k := 0) (body := b_is_level) t.d_is_level sc_is_level rfl rfl ?_
  intro f cdv A outer s H E hr
  have nd : (["level"] : List Str).Nodup := sc_is_level.nd
  have tk : Takes (cxF P w T base ["level"] "is_level" (defScope s_is_level) f cdv A outer s H E) (WF E) := takes_of rfl rfl rfl rfl
  show PSs (cxF P w T base ["level"] "is_level" (defScope s_is_level) f cdv A outer s H E) (defBody s_is_level) (rdS (tx (cxF P w T base ["level"] "is_level" (defScope s_is_level) f cdv A outer s H E)) (WF E) b_is_level)
  exact (ss_one (s_ret (v_and (v_cmp (nomark _) cm_is (v_typ (cb_typeA) t.b_type bb_type (a_cons (v_var (i := 0)) a_nil)) (v_bty rfl t.b_int bb_int)) (v_one (v_chain (by with_unfolding_all rfl) cm_le cm_le v_int (v_var (i := 0)) (v_glob rfl t.c_GREATEST_LEVEL))))))
theorem sc_is_entry : FnScope ["entry", "repetition", "definition", "value", "kind"] ["entry"] (defScope s_is_entry) := ⟨rfl, rfl, rfl, by decide +kernel, rfl, by decide +kernel, by decide +kernel⟩
theorem G_is_entry (t : Tc T a_Schema a_BadSchema) : FnG P w T base "is_entry" 2 1 o_is_entry := by
  have G_is_level := @G_is_level P w T base a_Schema a_BadSchema t
  have G_is_value := @G_is_value P w T base a_Schema a_BadSchema t
  refine g_rule (k := 1) (body := b_is_entry) t.d_is_entry sc_is_entry rfl rfl ?_
  intro f cdv A outer s H E hr
  have nd : (["entry", "repetition", "definition", "value", "kind"] : List Str).Nodup := sc_is_entry.nd
  have tk : Takes (cxF P w T base ["entry", "repetition", "definition", "value", "kind"] "is_entry" (defScope s_is_entry) f cdv A outer s H E) (WF E) := takes_of rfl rfl rfl rfl
  show PSs (cxF P w T base ["entry", "repetition", "definition", "value", "kind"] "is_entry" (defScope s_is_entry) f cdv A outer s H E) (defBody s_is_entry) (rdS (tx (cxF P w T base ["entry", "repetition", "definition", "value", "kind"] "is_entry" (defScope s_is_entry) f cdv A outer s H E)) (WF E) b_is_entry)
  exact (ss_cons (s_if (t_w (w_or (t_cmp (nomark _) cm_isNot (v_typ (cb_typeA) t.b_type bb_type (a_cons (v_var (i := 0)) a_nil)) (v_bty rfl t.b_tuple bb_tuple)) (w_or1 (t_cmp (nomark _) (cm_ne hr) (v_blt (cb_len) t.b_len bb_len (a_cons (v_var (i := 0)) a_nil)) v_int)))) (ss_one (s_ret v_bl)) ss_nil)
    (ss_cons (s_asg (v_var (i := 0)) (g_tp rfl (gs_cons (g_nm (i := 1) nd) (gs_cons (g_nm (i := 2) nd) (gs_cons (g_nm (i := 3) nd) gs_nil)))))
    (ss_cons (s_if (t_w (w_or (t_not (t_tru (v_call G_is_level (hr.mono (by omega)) tk (a_cons (v_var (i := 1)) a_nil) (al_cons al_nil)))) (w_or1 (t_not (t_tru (v_call G_is_level (hr.mono (by omega)) tk (a_cons (v_var (i := 2)) a_nil) (al_cons al_nil))))))) (ss_one (s_ret v_bl)) ss_nil)
    (ss_one (s_ret (v_or (v_cmp (nomark _) cm_is (v_var (i := 3)) v_non) (v_one (v_blt (cb_any rfl) t.b_any bb_any (a_cons (v_lc (own := [("kind", 4)]) (p := (.nm 4)) (by decide) rfl nd (i_all (v_glob rfl t.c_KINDS)) (blkOk_by (N := ["entry", "repetition", "definition", "value", "kind"]) (sc := defScope s_is_entry) (by decide +kernel)) (fun _ _ _ _ _ => (g_nm (i := 4) nd)) (fun _ _ _ _ _ => ts_nil) (fun _ _ _ _ _ => (v_call G_is_value (hr.mono (by omega)) tk0 (a_cons (v_var (i := 3)) (a_cons (v_var (i := 4)) a_nil)) (al_cons (al_cons al_nil))))) a_nil)))))))))
theorem sc_continues_list : FnScope ["schema", "leaf", "column", "index", "start"] ["schema", "leaf", "column", "index"] (defScope s_continues_list) := ⟨rfl, rfl, rfl, by decide +kernel, rfl, by decide +kernel, by decide +kernel⟩
theorem G_continues_list (t : Tc T a_Schema a_BadSchema) : FnG P w T base "continues_list" 2 4 o_continues_list := by
  have G_start_of := @G_start_of P w T base a_Schema a_BadSchema t
  refine g_rule (k := 1) (body := b_continues_list) t.d_continues_list sc_continues_list rfl rfl ?_
  intro f cdv A outer s H E hr
  have nd : (["schema", "leaf", "column", "index", "start"] : List Str).Nodup := sc_continues_list.nd
  have tk : Takes (cxF P w T base ["schema", "leaf", "column", "index", "start"] "continues_list" (defScope s_continues_list) f cdv A outer s H E) (WF E) := takes_of rfl rfl rfl rfl
  show PSs (cxF P w T base ["schema", "leaf", "column", "index", "start"] "continues_list" (defScope s_continues_list) f cdv A outer s H E) (defBody s_continues_list) (rdS (tx (cxF P w T base ["schema", "leaf", "column", "index", "start"] "continues_list" (defScope s_continues_list) f cdv A outer s H E)) (WF E) b_continues_list)
  exact (ss_cons (s_set (i := 4) nd (v_call G_start_of (hr.mono (by omega)) tk (a_cons (v_var (i := 0)) (a_cons (v_var (i := 1)) (a_cons (v_ix (v_ix (v_var (i := 2)) (v_var (i := 3))) v_int) a_nil))) (al_cons (al_cons (al_cons al_nil)))))
    (ss_one (s_ret (v_and (v_cmp (nomark _) cm_gt (v_var (i := 3)) v_int) (v_and (v_cmp (nomark _) cm_ge (v_ix (v_ix (v_var (i := 2)) (v_sub (v_var (i := 3)) v_int)) v_int) (v_var (i := 4))) (v_one (v_cmp (nomark _) cm_ge (v_ix (v_ix (v_var (i := 2)) (v_var (i := 3))) v_int) (v_var (i := 4)))))))))
theorem sc_is_admissible : FnScope ["schema", "leaf", "column", "index", "path", "kind", "most_repetition", "most_definition", "repetition", "definition", "value"] ["schema", "leaf", "column", "index"] (defScope s_is_admissible) := ⟨rfl, rfl, rfl, by decide +kernel, rfl, by decide +kernel, by decide +kernel⟩
theorem G_is_admissible (t : Tc T a_Schema a_BadSchema) : FnG P w T base "is_admissible" 3 4 o_is_admissible := by
  have G_continues_list := @G_continues_list P w T base a_Schema a_BadSchema t
  have G_is_entry := @G_is_entry P w T base a_Schema a_BadSchema t
  have G_is_value := @G_is_value P w T base a_Schema a_BadSchema t
  refine g_rule (k := 2) (body := b_is_admissible) t.d_is_admissible sc_is_admissible rfl rfl ?_
  intro f cdv A outer s H E hr
  have nd : (["schema", "leaf", "column", "index", "path", "kind", "most_repetition", "most_definition", "repetition", "definition", "value"] : List Str).Nodup := sc_is_admissible.nd
  have tk : Takes (cxF P w T base ["schema", "leaf", "column", "index", "path", "kind", "most_repetition", "most_definition", "repetition", "definition", "value"] "is_admissible" (defScope s_is_admissible) f cdv A outer s H E) (WF E) := takes_of rfl rfl rfl rfl
  show PSs (cxF P w T base ["schema", "leaf", "column", "index", "path", "kind", "most_repetition", "most_definition", "repetition", "definition", "value"] "is_admissible" (defScope s_is_admissible) f cdv A outer s H E) (defBody s_is_admissible) (rdS (tx (cxF P w T base ["schema", "leaf", "column", "index", "path", "kind", "most_repetition", "most_definition", "repetition", "definition", "value"] "is_admissible" (defScope s_is_admissible) f cdv A outer s H E)) (WF E) b_is_admissible)
  exact (ss_cons (s_if (t_w (w_or (t_not (t_chain (by with_unfolding_all rfl) cm_le cm_lt v_int (v_var (i := 3)) (v_blt (cb_len) t.b_len bb_len (a_cons (v_var (i := 2)) a_nil)))) (w_or1 (t_not (t_tru (v_call G_is_entry (hr.mono (by omega)) tk (a_cons (v_ix (v_var (i := 2)) (v_var (i := 3))) a_nil) (al_cons al_nil))))))) (ss_one (s_ret v_bl)) ss_nil)
    (ss_cons (s_asg (v_ix (v_fld t.k_Schema t.a_Schema_leaves (v_var (i := 0))) (v_var (i := 1))) (g_tp rfl (gs_cons (g_nm (i := 4) nd) (gs_cons (g_nm (i := 5) nd) (gs_cons (g_nm (i := 6) nd) (gs_cons (g_nm (i := 7) nd) gs_nil))))))
    (ss_cons (s_asg (v_ix (v_var (i := 2)) (v_var (i := 3))) (g_tp rfl (gs_cons (g_nm (i := 8) nd) (gs_cons (g_nm (i := 9) nd) (gs_cons (g_nm (i := 10) nd) gs_nil)))))
    (ss_cons (s_if (t_w (w_or (t_cmp (nomark _) cm_gt (v_var (i := 8)) (v_var (i := 6))) (w_or1 (t_cmp (nomark _) cm_gt (v_var (i := 9)) (v_var (i := 7)))))) (ss_one (s_ret v_bl)) ss_nil)
    (ss_cons (s_if (t_w (w_and (t_cmp (nomark _) cm_lt (v_var (i := 9)) (v_var (i := 7))) (w_and1 (t_cmp (nomark _) cm_isNot (v_var (i := 10)) v_non)))) (ss_one (s_ret v_bl)) ss_nil)
    (ss_cons (s_if (t_w (w_and (t_cmp (nomark _) (cm_eq hr) (v_var (i := 9)) (v_var (i := 7))) (w_and1 (t_not (t_tru (v_call G_is_value (hr.mono (by omega)) tk (a_cons (v_var (i := 10)) (a_cons (v_var (i := 5)) a_nil)) (al_cons (al_cons al_nil)))))))) (ss_one (s_ret v_bl)) ss_nil)
    (ss_one (s_ret (v_or (v_cmp (nomark _) (cm_eq hr) (v_var (i := 8)) v_int) (v_one (v_call G_continues_list (hr.mono (by omega)) tk (a_cons (v_var (i := 0)) (a_cons (v_var (i := 1)) (a_cons (v_var (i := 2)) (a_cons (v_var (i := 3)) a_nil)))) (al_cons (al_cons (al_cons (al_cons al_nil)))))))))))))))
theorem sc_first_fault : FnScope ["schema", "leaf", "column", "index"] ["schema", "leaf", "column"] (defScope s_first_fault) := ⟨rfl, rfl, rfl, by decide +kernel, rfl, by decide +kernel, by decide +kernel⟩
theorem G_first_fault (t : Tc T a_Schema a_BadSchema) : FnG P w T base "first_fault" 4 3 o_first_fault := by
  have G_is_admissible := @G_is_admissible P w T base a_Schema a_BadSchema t
  refine g_rule (k := 3) (body := b_first_fault) t.d_first_fault sc_first_fault rfl rfl ?_
  intro f cdv A outer s H E hr
  have nd : (["schema", "leaf", "column", "index"] : List Str).Nodup := sc_first_fault.nd
  have tk : Takes (cxF P w T base ["schema", "leaf", "column", "index"] "first_fault" (defScope s_first_fault) f cdv A outer s H E) (WF E) := takes_of rfl rfl rfl rfl
  show PSs (cxF P w T base ["schema", "leaf", "column", "index"] "first_fault" (defScope s_first_fault) f cdv A outer s H E) (defBody s_first_fault) (rdS (tx (cxF P w T base ["schema", "leaf", "column", "index"] "first_fault" (defScope s_first_fault) f cdv A outer s H E)) (WF E) b_first_fault)
  exact (ss_cons (s_fgtB (s_for (passes_of rfl) rfl (i_r1 t.b_range (a_cons (v_blt (cb_len) t.b_len bb_len (a_cons (v_var (i := 2)) a_nil)) a_nil)) (g_nm (i := 3) nd) (ss_fgtE (ss_one (s_if (t_not (t_tru (v_call G_is_admissible (hr.mono (by omega)) tk (a_cons (v_var (i := 0)) (a_cons (v_var (i := 1)) (a_cons (v_var (i := 2)) (a_cons (v_var (i := 3)) a_nil)))) (al_cons (al_cons (al_cons (al_cons al_nil))))))) (ss_one (s_ret (v_var (i := 3)))) ss_nil)))))
    (ss_one (s_ret v_non)))
theorem sc_skeleton : FnScope ["column", "repetition", "definition", "entry"] ["column", "repetition", "definition"] (defScope s_skeleton) := ⟨rfl, rfl, rfl, by decide +kernel, rfl, by decide +kernel, by decide +kernel⟩
theorem G_skeleton (t : Tc T a_Schema a_BadSchema) : FnG P w T base "skeleton" 1 3 o_skeleton := by
  refine g_rule (k := 0) (body := b_skeleton) t.d_skeleton sc_skeleton rfl rfl ?_
  intro f cdv A outer s H E hr
  have nd : (["column", "repetition", "definition", "entry"] : List Str).Nodup := sc_skeleton.nd
  have tk : Takes (cxF P w T base ["column", "repetition", "definition", "entry"] "skeleton" (defScope s_skeleton) f cdv A outer s H E) (WF E) := takes_of rfl rfl rfl rfl
  show PSs (cxF P w T base ["column", "repetition", "definition", "entry"] "skeleton" (defScope s_skeleton) f cdv A outer s H E) (defBody s_skeleton) (rdS (tx (cxF P w T base ["column", "repetition", "definition", "entry"] "skeleton" (defScope s_skeleton) f cdv A outer s H E)) (WF E) b_skeleton)
  exact (ss_one (s_ret (v_typ (cb_tuple) t.b_tuple bb_tuple (a_cons (v_lc (own := [("entry", 3)]) (p := (.nm 3)) (by decide) rfl nd (i_all (v_var (i := 0))) (blkOk_by (N := ["column", "repetition", "definition", "entry"]) (sc := defScope s_skeleton) (by decide +kernel)) (fun _ _ _ _ _ => (g_nm (i := 3) nd)) (fun _ _ _ _ _ => (ts_one (t_cmp (nomark _) cm_le (v_ix (v_var (i := 3)) v_int) (v_var (i := 1))))) (fun _ _ _ _ _ => (v_tup (a_cons (v_ix (v_var (i := 3)) v_int) (a_cons (v_blt (cb_min2 rfl) t.b_min bb_min (a_cons (v_ix (v_var (i := 3)) v_int) (a_cons (v_var (i := 2)) a_nil))) a_nil))))) a_nil))))
theorem sc__law_cell : FnScope ["script", "k"] ["script", "k"] (defScope s__law_cell) := ⟨rfl, rfl, rfl, by decide +kernel, rfl, by decide +kernel, by decide +kernel⟩
theorem G__law_cell (t : Tc T a_Schema a_BadSchema) : FnG P w T base "_law_cell" 1 2 o__law_cell := by
  refine g_rule (k := 0) (body := b__law_cell) t.d__law_cell sc__law_cell rfl rfl ?_
  intro f cdv A outer s H E hr
  have nd : (["script", "k"] : List Str).Nodup := sc__law_cell.nd
  have tk : Takes (cxF P w T base ["script", "k"] "_law_cell" (defScope s__law_cell) f cdv A outer s H E) (WF E) := takes_of rfl rfl rfl rfl
  show PSs (cxF P w T base ["script", "k"] "_law_cell" (defScope s__law_cell) f cdv A outer s H E) (defBody s__law_cell) (rdS (tx (cxF P w T base ["script", "k"] "_law_cell" (defScope s__law_cell) f cdv A outer s H E)) (WF E) b__law_cell)
  exact (ss_cons (s_if (t_cmp (nomark _) cm_lt (v_var (i := 1)) (v_blt (cb_len) t.b_len bb_len (a_cons (v_var (i := 0)) a_nil))) (ss_one (s_ret (v_typ (cb_int) t.b_int bb_int (a_cons (v_ix (v_var (i := 0)) (v_var (i := 1))) a_nil)))) ss_nil)
    (ss_one (s_ret v_int)))
theorem sc__law_draws : FnScope ["cell", "count", "number", "great", "found", "k", "mixed"] ["cell", "count"] (defScope s__law_draws) := ⟨rfl, rfl, rfl, by decide +kernel, rfl, by decide +kernel, by decide +kernel⟩
theorem G__law_draws (t : Tc T a_Schema a_BadSchema) : FnG P w T base "_law_draws" 1 2 o__law_draws := by
  refine g_rule (k := 0) (body := b__law_draws) t.d__law_draws sc__law_draws rfl rfl ?_
  intro f cdv A outer s H E hr
  have nd : (["cell", "count", "number", "great", "found", "k", "mixed"] : List Str).Nodup := sc__law_draws.nd
  have tk : Takes (cxF P w T base ["cell", "count", "number", "great", "found", "k", "mixed"] "_law_draws" (defScope s__law_draws) f cdv A outer s H E) (WF E) := takes_of rfl rfl rfl rfl
  show PSs (cxF P w T base ["cell", "count", "number", "great", "found", "k", "mixed"] "_law_draws" (defScope s__law_draws) f cdv A outer s H E) (defBody s__law_draws) (rdS (tx (cxF P w T base ["cell", "count", "number", "great", "found", "k", "mixed"] "_law_draws" (defScope s__law_draws) f cdv A outer s H E)) (WF E) b__law_draws)
  exact (ss_cons (s_set (i := 2) nd (v_blt (cb_abs) t.b_abs bb_abs (a_cons (v_typ (cb_int) t.b_int bb_int (a_cons (v_var (i := 0)) a_nil)) a_nil)))
    (ss_cons (s_set (i := 3) nd (v_cmp (nomark _) cm_ge (v_var (i := 2)) (v_pow v_int v_int)))
    (ss_cons (s_set (i := 4) nd (v_new a_nil))
    (ss_cons (s_for (passes_of rfl) rfl (i_r1 t.b_range (a_cons v_int a_nil)) (g_nm (i := 5) nd) (ss_one (s_if (t_w (w_and (t_cmp (nomark _) cm_lt (v_var (i := 5)) (v_var (i := 1))) (w_and1 (t_tru (v_var (i := 3)))))) (ss_cons (s_exp (v_app (v_var (i := 4)) (a_cons (v_mod (v_var (i := 2)) v_int) a_nil)))
    (ss_one (s_set (i := 2) nd (v_fdiv (v_var (i := 2)) v_int)))) (ss_one (s_if (t_cmp (nomark _) cm_lt (v_var (i := 5)) (v_var (i := 1))) (ss_cons (s_set (i := 6) nd (v_mod (v_add (v_add (v_mulA (v_typ (cb_int) t.b_int bb_int (a_cons (v_var (i := 2)) a_nil)) v_int) (v_mulA (v_var (i := 5)) v_int)) v_int) v_int))
    (ss_cons (s_set (i := 6) nd (v_mod (v_add (v_add (v_mulA (v_typ (cb_int) t.b_int bb_int (a_cons (v_var (i := 6)) a_nil)) (v_typ (cb_int) t.b_int bb_int (a_cons (v_var (i := 6)) a_nil))) (v_mulA (v_var (i := 5)) v_int)) v_int) v_int))
    (ss_one (s_exp (v_app (v_var (i := 4)) (a_cons (v_mod (v_typ (cb_int) t.b_int bb_int (a_cons (v_var (i := 6)) a_nil)) v_int) a_nil)))))) ss_nil)))))
    (ss_one (s_ret (v_frz (v_var (i := 4)))))))))
theorem sc__law_stream : FnScope ["script", "first", "count", "found", "k"] ["script", "first", "count"] (defScope s__law_stream) := ⟨rfl, rfl, rfl, by decide +kernel, rfl, by decide +kernel, by decide +kernel⟩
theorem G__law_stream (t : Tc T a_Schema a_BadSchema) : FnG P w T base "_law_stream" 2 3 o__law_stream := by
  have G__law_cell := @G__law_cell P w T base a_Schema a_BadSchema t
  have G__law_draws := @G__law_draws P w T base a_Schema a_BadSchema t
  refine g_rule (k := 1) (body := b__law_stream) t.d__law_stream sc__law_stream rfl rfl ?_
  intro f cdv A outer s H E hr
  have nd : (["script", "first", "count", "found", "k"] : List Str).Nodup := sc__law_stream.nd
  have tk : Takes (cxF P w T base ["script", "first", "count", "found", "k"] "_law_stream" (defScope s__law_stream) f cdv A outer s H E) (WF E) := takes_of rfl rfl rfl rfl
  show PSs (cxF P w T base ["script", "first", "count", "found", "k"] "_law_stream" (defScope s__law_stream) f cdv A outer s H E) (defBody s__law_stream) (rdS (tx (cxF P w T base ["script", "first", "count", "found", "k"] "_law_stream" (defScope s__law_stream) f cdv A outer s H E)) (WF E) b__law_stream)
  exact (ss_cons (s_set (i := 3) nd (v_new a_nil))
    (ss_cons (s_for (passes_of rfl) rfl (i_r1 t.b_range (a_cons (v_var (i := 2)) a_nil)) (g_nm (i := 4) nd) (ss_one (s_exp (v_ext (v_var (i := 3)) (a_cons (v_call G__law_draws (hr.mono (by omega)) tk (a_cons (v_call G__law_cell (hr.mono (by omega)) tk (a_cons (v_var (i := 0)) (a_cons (v_add (v_var (i := 1)) (v_var (i := 4))) a_nil)) (al_cons (al_cons al_nil))) (a_cons v_int a_nil)) (al_cons (al_cons al_nil))) a_nil)))))
    (ss_one (s_ret (v_lst (a_cons (v_frz (v_var (i := 3))) (a_cons (v_new (a_cons v_int a_nil)) a_nil)))))))
theorem sc__law_next : FnScope ["stream", "many", "digits", "place", "value"] ["stream", "many"] (defScope s__law_next) := ⟨rfl, rfl, rfl, by decide +kernel, rfl, by decide +kernel, by decide +kernel⟩
theorem G__law_next (t : Tc T a_Schema a_BadSchema) : FnG P w T base "_law_next" 1 2 o__law_next := by
  refine g_rule (k := 0) (body := b__law_next) t.d__law_next sc__law_next rfl rfl ?_
  intro f cdv A outer s H E hr
  have nd : (["stream", "many", "digits", "place", "value"] : List Str).Nodup := sc__law_next.nd
  have tk : Takes (cxF P w T base ["stream", "many", "digits", "place", "value"] "_law_next" (defScope s__law_next) f cdv A outer s H E) (WF E) := takes_of rfl rfl rfl rfl
  show PSs (cxF P w T base ["stream", "many", "digits", "place", "value"] "_law_next" (defScope s__law_next) f cdv A outer s H E) (defBody s__law_next) (rdS (tx (cxF P w T base ["stream", "many", "digits", "place", "value"] "_law_next" (defScope s__law_next) f cdv A outer s H E)) (WF E) b__law_next)
  exact (ss_cons (s_set (i := 2) nd (v_ix (v_var (i := 0)) v_int))
    (ss_cons (s_set (i := 3) nd (v_ix (v_var (i := 0)) v_int))
    (ss_cons (s_set (i := 4) nd (v_mod (v_typ (cb_int) t.b_int bb_int (a_cons (v_ix (v_var (i := 2)) (v_mod (v_typ (cb_int) t.b_int bb_int (a_cons (v_ix (v_var (i := 3)) v_int) a_nil)) (v_blt (cb_len) t.b_len bb_len (a_cons (v_var (i := 2)) a_nil)))) a_nil)) (v_var (i := 1))))
    (ss_cons (s_put (v_var (i := 3)) v_int (v_add (v_ix (v_var (i := 3)) v_int) v_int))
    (ss_one (s_ret (v_var (i := 4))))))))
theorem sc__law_is_integer : FnScope ["actual"] ["actual"] (defScope s__law_is_integer) := ⟨rfl, rfl, rfl, by decide +kernel, rfl, by decide +kernel, by decide +kernel⟩
theorem G__law_is_integer (t : Tc T a_Schema a_BadSchema) : FnG P w T base "_law_is_integer" 1 1 o__law_is_integer := by
  refine g_rule (k := 0) (body := b__law_is_integer) t.d__law_is_integer sc__law_is_integer rfl rfl ?_
  intro f cdv A outer s H E hr
  have nd : (["actual"] : List Str).Nodup := sc__law_is_integer.nd
  have tk : Takes (cxF P w T base ["actual"] "_law_is_integer" (defScope s__law_is_integer) f cdv A outer s H E) (WF E) := takes_of rfl rfl rfl rfl
  show PSs (cxF P w T base ["actual"] "_law_is_integer" (defScope s__law_is_integer) f cdv A outer s H E) (defBody s__law_is_integer) (rdS (tx (cxF P w T base ["actual"] "_law_is_integer" (defScope s__law_is_integer) f cdv A outer s H E)) (WF E) b__law_is_integer)
  exact (ss_one (s_ret (v_and (v_blt (cb_isi) t.b_isinstance bb_isinstance (a_cons (v_var (i := 0)) (a_cons (v_bty rfl t.b_int bb_int) a_nil))) (v_one (v_not (v_blt (cb_isi) t.b_isinstance bb_isinstance (a_cons (v_var (i := 0)) (a_cons (v_bty rfl t.b_bool bb_bool) a_nil))))))))
theorem sc__law_same : FnScope ["actual", "expected", "key", "k"] ["actual", "expected"] (defScope s__law_same) := ⟨rfl, rfl, rfl, by decide +kernel, rfl, by decide +kernel, by decide +kernel⟩
theorem Gr__law_same (t : Tc T a_Schema a_BadSchema) : ∀ n : Nat, FnG P w T base "_law_same" (1 + n) 2 (r__law_same n)
  | 0 => by obtain ⟨f, fd, F, hm, b⟩ := t.d__law_same.ex; exact ⟨f, fd, _, fn_zero, hm, F.kp, b⟩
  | n + 1 => by
    have G__law_is_integer := @G__law_is_integer P w T base a_Schema a_BadSchema t
    have G__law_same := Gr__law_same t n
    refine g_rule (k := 1 + n) (body := b__law_same (r__law_same n)) t.d__law_same sc__law_same rfl rfl ?_
    intro f cdv A outer s H E hr
    have nd : (["actual", "expected", "key", "k"] : List Str).Nodup := sc__law_same.nd
    have tk : Takes (cxF P w T base ["actual", "expected", "key", "k"] "_law_same" (defScope s__law_same) f cdv A outer s H E) (WF E) := takes_of rfl rfl rfl rfl
    show PSs (cxF P w T base ["actual", "expected", "key", "k"] "_law_same" (defScope s__law_same) f cdv A outer s H E) (defBody s__law_same) (rdS (tx (cxF P w T base ["actual", "expected", "key", "k"] "_law_same" (defScope s__law_same) f cdv A outer s H E)) (WF E) (b__law_same (r__law_same n)))
    exact (ss_cons (s_if (t_cmp (nomark _) cm_is (v_var (i := 1)) v_non) (ss_one (s_ret (v_cmp (nomark _) cm_is (v_var (i := 0)) v_non))) ss_nil)
    (ss_cons (s_if (t_tru (v_blt (cb_isi) t.b_isinstance bb_isinstance (a_cons (v_var (i := 1)) (a_cons (v_bty rfl t.b_bool bb_bool) a_nil)))) (ss_one (s_ret (v_and (v_blt (cb_isi) t.b_isinstance bb_isinstance (a_cons (v_var (i := 0)) (a_cons (v_bty rfl t.b_bool bb_bool) a_nil))) (v_one (v_cmp (nomark _) (cm_eq hr) (v_var (i := 0)) (v_var (i := 1))))))) ss_nil)
    (ss_cons (s_if (t_tru (v_blt (cb_isi) t.b_isinstance bb_isinstance (a_cons (v_var (i := 1)) (a_cons (v_bty rfl t.b_int bb_int) a_nil)))) (ss_one (s_ret (v_and (v_call G__law_is_integer (hr.mono (by omega)) tk (a_cons (v_var (i := 0)) a_nil) (al_cons al_nil)) (v_one (v_cmp (nomark _) (cm_eq hr) (v_var (i := 0)) (v_var (i := 1))))))) ss_nil)
    (ss_cons (s_if (t_tru (v_blt (cb_isi) t.b_isinstance bb_isinstance (a_cons (v_var (i := 1)) (a_cons (v_bty rfl t.b_str bb_str) a_nil)))) (ss_one (s_ret (v_and (v_blt (cb_isi) t.b_isinstance bb_isinstance (a_cons (v_var (i := 0)) (a_cons (v_bty rfl t.b_str bb_str) a_nil))) (v_one (v_cmp (nomark _) (cm_eq hr) (v_var (i := 0)) (v_var (i := 1))))))) ss_nil)
    (ss_cons (s_if (t_tru (v_blt (cb_isi) t.b_isinstance bb_isinstance (a_cons (v_var (i := 1)) (a_cons (v_bty rfl t.b_dict bb_dict) a_nil)))) (ss_cons (s_if (t_w (w_or (t_not (t_tru (v_blt (cb_isi) t.b_isinstance bb_isinstance (a_cons (v_var (i := 0)) (a_cons (v_bty rfl t.b_dict bb_dict) a_nil))))) (w_or1 (t_cmp (nomark _) (cm_ne hr) (v_typ (cb_list) t.b_list bb_list (a_cons (v_var (i := 0)) a_nil)) (v_typ (cb_list) t.b_list bb_list (a_cons (v_var (i := 1)) a_nil)))))) (ss_one (s_ret v_bl)) ss_nil)
    (ss_cons (s_for (passes_of rfl) rfl (i_all (v_var (i := 1))) (g_nm (i := 2) nd) (ss_one (s_if (t_not (t_tru (v_call G__law_same (hr.mono (by omega)) tk (a_cons (v_ix (v_var (i := 0)) (v_var (i := 2))) (a_cons (v_ix (v_var (i := 1)) (v_var (i := 2))) a_nil)) (al_cons (al_cons al_nil))))) (ss_one (s_ret v_bl)) ss_nil)))
    (ss_one (s_ret v_bl)))) ss_nil)
    (ss_cons (s_if (t_w (w_and (t_tru (v_blt (cb_isi) t.b_isinstance bb_isinstance (a_cons (v_var (i := 1)) (a_cons (v_bty rfl t.b_tuple bb_tuple) a_nil)))) (w_and1 (t_not (t_tru (v_blt (cb_isi) t.b_isinstance bb_isinstance (a_cons (v_var (i := 0)) (a_cons (v_bty rfl t.b_tuple bb_tuple) a_nil)))))))) (ss_one (s_ret v_bl)) ss_nil)
    (ss_cons (s_if (t_w (w_and (t_tru (v_blt (cb_isi) t.b_isinstance bb_isinstance (a_cons (v_var (i := 1)) (a_cons (v_bty rfl t.b_list bb_list) a_nil)))) (w_and1 (t_not (t_tru (v_blt (cb_isi) t.b_isinstance bb_isinstance (a_cons (v_var (i := 0)) (a_cons (v_bty rfl t.b_list bb_list) a_nil)))))))) (ss_one (s_ret v_bl)) ss_nil)
    (ss_cons (s_if (t_cmp (nomark _) (cm_ne hr) (v_blt (cb_len) t.b_len bb_len (a_cons (v_var (i := 0)) a_nil)) (v_blt (cb_len) t.b_len bb_len (a_cons (v_var (i := 1)) a_nil))) (ss_one (s_ret v_bl)) ss_nil)
    (ss_cons (s_for (passes_of rfl) rfl (i_r1 t.b_range (a_cons (v_blt (cb_len) t.b_len bb_len (a_cons (v_var (i := 1)) a_nil)) a_nil)) (g_nm (i := 3) nd) (ss_one (s_if (t_not (t_tru (v_call G__law_same (hr.mono (by omega)) tk (a_cons (v_ix (v_var (i := 0)) (v_var (i := 3))) (a_cons (v_ix (v_var (i := 1)) (v_var (i := 3))) a_nil)) (al_cons (al_cons al_nil))))) (ss_one (s_ret v_bl)) ss_nil)))
    (ss_one (s_ret v_bl)))))))))))
theorem G__law_same (t : Tc T a_Schema a_BadSchema) : FnG P w T base "_law_same" 13 2 o__law_same := Gr__law_same t 12
theorem sc__law_fields : FnScope ["stream", "depth", "least", "names", "found", "k", "rule", "kind"] ["stream", "depth", "least"] (defScope s__law_fields) := ⟨rfl, rfl, rfl, by decide +kernel, rfl, by decide +kernel, by decide +kernel⟩
theorem Gr__law_fields (t : Tc T a_Schema a_BadSchema) : ∀ n : Nat, FnG P w T base "_law_fields" (1 + n) 3 (r__law_fields n)
  | 0 => by obtain ⟨f, fd, F, hm, b⟩ := t.d__law_fields.ex; exact ⟨f, fd, _, fn_zero, hm, F.kp, b⟩
  | n + 1 => by
    have G__law_next := @G__law_next P w T base a_Schema a_BadSchema t
    have G__law_fields := Gr__law_fields t n
    refine g_rule (k := 1 + n) (body := b__law_fields (r__law_fields n)) t.d__law_fields sc__law_fields rfl rfl ?_
    intro f cdv A outer s H E hr
    have nd : (["stream", "depth", "least", "names", "found", "k", "rule", "kind"] : List Str).Nodup := sc__law_fields.nd
    have tk : Takes (cxF P w T base ["stream", "depth", "least", "names", "found", "k", "rule", "kind"] "_law_fields" (defScope s__law_fields) f cdv A outer s H E) (WF E) := takes_of rfl rfl rfl rfl
    show PSs (cxF P w T base ["stream", "depth", "least", "names", "found", "k", "rule", "kind"] "_law_fields" (defScope s__law_fields) f cdv A outer s H E) (defBody s__law_fields) (rdS (tx (cxF P w T base ["stream", "depth", "least", "names", "found", "k", "rule", "kind"] "_law_fields" (defScope s__law_fields) f cdv A outer s H E)) (WF E) (b__law_fields (r__law_fields n)))
    exact (ss_cons (s_set (i := 3) nd (v_lst (a_cons v_str (a_cons v_str (a_cons v_str (a_cons v_str (a_cons v_str (a_cons v_str a_nil))))))))
    (ss_cons (s_set (i := 4) nd (v_new a_nil))
    (ss_cons (s_for (passes_of rfl) rfl (i_r1 t.b_range (a_cons (v_add (v_var (i := 2)) (v_call G__law_next (hr.mono (by omega)) tk (a_cons (v_var (i := 0)) (a_cons v_int a_nil)) (al_cons (al_cons al_nil)))) a_nil)) (g_nm (i := 5) nd) (ss_cons (s_set (i := 6) nd (v_ix (v_lst (a_cons v_str (a_cons v_str (a_cons v_str a_nil)))) (v_call G__law_next (hr.mono (by omega)) tk (a_cons (v_var (i := 0)) (a_cons v_int a_nil)) (al_cons (al_cons al_nil)))))
    (ss_cons (s_set (i := 7) nd (v_ix (v_lst (a_cons v_str (a_cons v_str (a_cons v_str (a_cons v_str a_nil))))) (v_call G__law_next (hr.mono (by omega)) tk (a_cons (v_var (i := 0)) (a_cons v_int a_nil)) (al_cons (al_cons al_nil)))))
    (ss_cons (s_if (t_w (w_and (t_cmp (nomark _) cm_lt (v_var (i := 1)) v_int) (w_and1 (t_cmp (nomark _) (cm_eq hr) (v_call G__law_next (hr.mono (by omega)) tk (a_cons (v_var (i := 0)) (a_cons v_int a_nil)) (al_cons (al_cons al_nil))) v_int)))) (ss_one (s_set (i := 7) nd (v_call G__law_fields (hr.mono (by omega)) tk (a_cons (v_var (i := 0)) (a_cons (v_add (v_var (i := 1)) v_int) (a_cons v_int a_nil))) (al_cons (al_cons (al_cons al_nil)))))) ss_nil)
    (ss_one (s_exp (v_app (v_var (i := 4)) (a_cons (v_tup (a_cons (v_ix (v_var (i := 3)) (v_var (i := 5))) (a_cons (v_var (i := 6)) (a_cons (v_var (i := 7)) a_nil)))) a_nil))))))))
    (ss_one (s_ret (v_typ (cb_tuple) t.b_tuple bb_tuple (a_cons (v_var (i := 4)) a_nil)))))))
theorem G__law_fields (t : Tc T a_Schema a_BadSchema) : FnG P w T base "_law_fields" 7 3 o__law_fields := Gr__law_fields t 6
theorem sc__law_leaf_count : FnScope ["kind", "field"] ["kind"] (defScope s__law_leaf_count) := ⟨rfl, rfl, rfl, by decide +kernel, rfl, by decide +kernel, by decide +kernel⟩
theorem Gr__law_leaf_count (t : Tc T a_Schema a_BadSchema) : ∀ n : Nat, FnG P w T base "_law_leaf_count" (0 + n) 1 (r__law_leaf_count n)
  | 0 => by obtain ⟨f, fd, F, hm, b⟩ := t.d__law_leaf_count.ex; exact ⟨f, fd, _, fn_zero, hm, F.kp, b⟩
  | n + 1 => by
    have G__law_leaf_count := Gr__law_leaf_count t n
    refine g_rule (k := 0 + n) (body := b__law_leaf_count (r__law_leaf_count n)) t.d__law_leaf_count sc__law_leaf_count rfl rfl ?_
    intro f cdv A outer s H E hr
    have nd : (["kind", "field"] : List Str).Nodup := sc__law_leaf_count.nd
    have tk : Takes (cxF P w T base ["kind", "field"] "_law_leaf_count" (defScope s__law_leaf_count) f cdv A outer s H E) (WF E) := takes_of rfl rfl rfl rfl
    show PSs (cxF P w T base ["kind", "field"] "_law_leaf_count" (defScope s__law_leaf_count) f cdv A outer s H E) (defBody s__law_leaf_count) (rdS (tx (cxF P w T base ["kind", "field"] "_law_leaf_count" (defScope s__law_leaf_count) f cdv A outer s H E)) (WF E) (b__law_leaf_count (r__law_leaf_count n)))
    exact (ss_cons (s_if (t_tru (v_blt (cb_isi) t.b_isinstance bb_isinstance (a_cons (v_var (i := 0)) (a_cons (v_bty rfl t.b_str bb_str) a_nil)))) (ss_one (s_ret v_int)) ss_nil)
    (ss_one (s_ret (v_blt (cb_sum rfl) t.b_sum bb_sum (a_cons (v_lc (own := [("field", 1)]) (p := (.nm 1)) (by decide) rfl nd (i_all (v_var (i := 0))) (blkOk_by (N := ["kind", "field"]) (sc := defScope s__law_leaf_count) (by decide +kernel)) (fun _ _ _ _ _ => (g_nm (i := 1) nd)) (fun _ _ _ _ _ => ts_nil) (fun _ _ _ _ _ => (v_call G__law_leaf_count (hr.mono (by omega)) tk0 (a_cons (v_ix (v_var (i := 1)) v_int) a_nil) (al_cons al_nil)))) a_nil)))))
theorem G__law_leaf_count (t : Tc T a_Schema a_BadSchema) : FnG P w T base "_law_leaf_count" 6 1 o__law_leaf_count := Gr__law_leaf_count t 6
theorem sc__law_schema : FnScope ["script", "first", "fields", "field"] ["script", "first"] (defScope s__law_schema) := ⟨rfl, rfl, rfl, by decide +kernel, rfl, by decide +kernel, by decide +kernel⟩
theorem G__law_schema (t : Tc T a_Schema a_BadSchema) : FnG P w T base "_law_schema" 8 2 o__law_schema := by
  have G__law_fields := @G__law_fields P w T base a_Schema a_BadSchema t
  have G__law_leaf_count := @G__law_leaf_count P w T base a_Schema a_BadSchema t
  have G__law_stream := @G__law_stream P w T base a_Schema a_BadSchema t
  refine g_rule (k := 7) (body := b__law_schema) t.d__law_schema sc__law_schema rfl rfl ?_
  intro f cdv A outer s H E hr
  have nd : (["script", "first", "fields", "field"] : List Str).Nodup := sc__law_schema.nd
  have tk : Takes (cxF P w T base ["script", "first", "fields", "field"] "_law_schema" (defScope s__law_schema) f cdv A outer s H E) (WF E) := takes_of rfl rfl rfl rfl
  show PSs (cxF P w T base ["script", "first", "fields", "field"] "_law_schema" (defScope s__law_schema) f cdv A outer s H E) (defBody s__law_schema) (rdS (tx (cxF P w T base ["script", "first", "fields", "field"] "_law_schema" (defScope s__law_schema) f cdv A outer s H E)) (WF E) b__law_schema)
  exact (ss_cons (s_set (i := 2) nd (v_call G__law_fields (hr.mono (by omega)) tk (a_cons (v_call G__law_stream (hr.mono (by omega)) tk (a_cons (v_var (i := 0)) (a_cons (v_var (i := 1)) (a_cons v_int a_nil))) (al_cons (al_cons (al_cons al_nil)))) (a_cons v_int (a_cons v_int a_nil))) (al_cons (al_cons (al_cons al_nil)))))
    (ss_cons (s_if (t_cmp (nomark _) cm_gt (v_blt (cb_sum rfl) t.b_sum bb_sum (a_cons (v_lc (own := [("field", 3)]) (p := (.nm 3)) (by decide) rfl nd (i_all (v_var (i := 2))) (blkOk_by (N := ["script", "first", "fields", "field"]) (sc := defScope s__law_schema) (by decide +kernel)) (fun _ _ _ _ _ => (g_nm (i := 3) nd)) (fun _ _ _ _ _ => ts_nil) (fun _ _ _ _ _ => (v_call G__law_leaf_count (hr.mono (by omega)) tk0 (a_cons (v_ix (v_var (i := 3)) v_int) a_nil) (al_cons al_nil)))) a_nil)) v_int) (ss_one (s_ret (v_sl (v_var (i := 2)) p_no (p_so v_int)))) ss_nil)
    (ss_one (s_ret (v_var (i := 2))))))
theorem sc__law_text : FnScope ["stream", "signs", "k"] ["stream"] (defScope s__law_text) := ⟨rfl, rfl, rfl, by decide +kernel, rfl, by decide +kernel, by decide +kernel⟩
theorem G__law_text (t : Tc T a_Schema a_BadSchema) : FnG P w T base "_law_text" 2 1 o__law_text := by
  have G__law_next := @G__law_next P w T base a_Schema a_BadSchema t
  refine g_rule (k := 1) (body := b__law_text) t.d__law_text sc__law_text rfl rfl ?_
  intro f cdv A outer s H E hr
  have nd : (["stream", "signs", "k"] : List Str).Nodup := sc__law_text.nd
  have tk : Takes (cxF P w T base ["stream", "signs", "k"] "_law_text" (defScope s__law_text) f cdv A outer s H E) (WF E) := takes_of rfl rfl rfl rfl
  show PSs (cxF P w T base ["stream", "signs", "k"] "_law_text" (defScope s__law_text) f cdv A outer s H E) (defBody s__law_text) (rdS (tx (cxF P w T base ["stream", "signs", "k"] "_law_text" (defScope s__law_text) f cdv A outer s H E)) (WF E) b__law_text)
  exact (ss_cons (s_set (i := 1) nd v_str)
    (ss_one (s_ret (v_join v_str (v_lc (own := [("k", 2)]) (p := (.nm 2)) (by decide) rfl nd (i_r1 t.b_range (a_cons (v_call G__law_next (hr.mono (by omega)) tk (a_cons (v_var (i := 0)) (a_cons v_int a_nil)) (al_cons (al_cons al_nil))) a_nil)) (blkOk_by (N := ["stream", "signs", "k"]) (sc := defScope s__law_text) (by decide +kernel)) (fun _ _ _ _ _ => (g_nm (i := 2) nd)) (fun _ _ _ _ _ => ts_nil) (fun _ _ _ _ _ => (v_ix (v_var (i := 1)) (v_call G__law_next (hr.mono (by omega)) tk0 (a_cons (v_var (i := 0)) (a_cons v_int a_nil)) (al_cons (al_cons al_nil))))))))))
theorem sc__law_leaf_value : FnScope ["stream", "kind", "great"] ["stream", "kind"] (defScope s__law_leaf_value) := ⟨rfl, rfl, rfl, by decide +kernel, rfl, by decide +kernel, by decide +kernel⟩
theorem G__law_leaf_value (t : Tc T a_Schema a_BadSchema) : FnG P w T base "_law_leaf_value" 3 2 o__law_leaf_value := by
  have G__law_next := @G__law_next P w T base a_Schema a_BadSchema t
  have G__law_text := @G__law_text P w T base a_Schema a_BadSchema t
  refine g_rule (k := 2) (body := b__law_leaf_value) t.d__law_leaf_value sc__law_leaf_value rfl rfl ?_
  intro f cdv A outer s H E hr
  have nd : (["stream", "kind", "great"] : List Str).Nodup := sc__law_leaf_value.nd
  have tk : Takes (cxF P w T base ["stream", "kind", "great"] "_law_leaf_value" (defScope s__law_leaf_value) f cdv A outer s H E) (WF E) := takes_of rfl rfl rfl rfl
  show PSs (cxF P w T base ["stream", "kind", "great"] "_law_leaf_value" (defScope s__law_leaf_value) f cdv A outer s H E) (defBody s__law_leaf_value) (rdS (tx (cxF P w T base ["stream", "kind", "great"] "_law_leaf_value" (defScope s__law_leaf_value) f cdv A outer s H E)) (WF E) b__law_leaf_value)
  exact (ss_cons (s_if (t_cmp (nomark _) (cm_eq hr) (v_var (i := 1)) v_str) (ss_one (s_ret (v_call G__law_text (hr.mono (by omega)) tk (a_cons (v_var (i := 0)) a_nil) (al_cons al_nil)))) ss_nil)
    (ss_cons (s_if (t_cmp (nomark _) (cm_eq hr) (v_var (i := 1)) v_str) (ss_one (s_ret (v_cmp (nomark _) (cm_eq hr) (v_call G__law_next (hr.mono (by omega)) tk (a_cons (v_var (i := 0)) (a_cons v_int a_nil)) (al_cons (al_cons al_nil))) v_int))) ss_nil)
    (ss_cons (s_set (i := 2) nd (v_ix (v_lst (a_cons v_int (a_cons v_int (a_cons v_int (a_cons v_int (a_cons v_int (a_cons v_int (a_cons (v_neg v_int) (a_cons (v_neg v_int) (a_cons (v_neg v_int) a_nil)))))))))) (v_call G__law_next (hr.mono (by omega)) tk (a_cons (v_var (i := 0)) (a_cons v_int a_nil)) (al_cons (al_cons al_nil)))))
    (ss_one (s_ret (v_ix (v_lst (a_cons (v_var (i := 2)) (a_cons (v_call G__law_next (hr.mono (by omega)) tk (a_cons (v_var (i := 0)) (a_cons v_int a_nil)) (al_cons (al_cons al_nil))) a_nil))) (v_call G__law_next (hr.mono (by omega)) tk (a_cons (v_var (i := 0)) (a_cons v_int a_nil)) (al_cons (al_cons al_nil)))))))))
theorem sc__law_occurrence : FnScope ["stream", "kind"] ["stream", "kind"] (defScope s__law_occurrence) := ⟨rfl, rfl, rfl, by decide +kernel, rfl, by decide +kernel, by decide +kernel⟩
theorem sc__law_record : FnScope ["stream", "fields", "record", "name", "rule", "kind", "k"] ["stream", "fields"] (defScope s__law_record) := ⟨rfl, rfl, rfl, by decide +kernel, rfl, by decide +kernel, by decide +kernel⟩
theorem Gr_R__law_occurrence_x__law_record (t : Tc T a_Schema a_BadSchema) : ∀ n : Nat, FnG P w T base "_law_occurrence" (3 + n) 2 (R__law_occurrence_x__law_record n).1 ∧ FnG P w T base "_law_record" (3 + n) 2 (R__law_occurrence_x__law_record n).2
  | 0 => ⟨by obtain ⟨f, fd, F, hm, b⟩ := t.d__law_occurrence.ex; exact ⟨f, fd, _, fn_zero, hm, F.kp, b⟩, by obtain ⟨f, fd, F, hm, b⟩ := t.d__law_record.ex; exact ⟨f, fd, _, fn_zero, hm, F.kp, b⟩⟩
  | n + 1 => by
    obtain ⟨G__law_occurrence, G__law_record⟩ := Gr_R__law_occurrence_x__law_record t n
    have G__law_leaf_value := @G__law_leaf_value P w T base a_Schema a_BadSchema t
    have G__law_next := @G__law_next P w T base a_Schema a_BadSchema t
    refine ⟨?_, ?_⟩
    · refine g_rule (k := 3 + n) (body := (b__law_occurrence (R__law_occurrence_x__law_record n).1 (R__law_occurrence_x__law_record n).2)) t.d__law_occurrence sc__law_occurrence rfl rfl ?_
      intro f cdv A outer s H E hr
      have nd : (["stream", "kind"] : List Str).Nodup := sc__law_occurrence.nd
      have tk : Takes (cxF P w T base ["stream", "kind"] "_law_occurrence" (defScope s__law_occurrence) f cdv A outer s H E) (WF E) := takes_of rfl rfl rfl rfl
      show PSs (cxF P w T base ["stream", "kind"] "_law_occurrence" (defScope s__law_occurrence) f cdv A outer s H E) (defBody s__law_occurrence) (rdS (tx (cxF P w T base ["stream", "kind"] "_law_occurrence" (defScope s__law_occurrence) f cdv A outer s H E)) (WF E) (b__law_occurrence (R__law_occurrence_x__law_record n).1 (R__law_occurrence_x__law_record n).2))
      exact (ss_cons (s_if (t_tru (v_blt (cb_isi) t.b_isinstance bb_isinstance (a_cons (v_var (i := 1)) (a_cons (v_bty rfl t.b_str bb_str) a_nil)))) (ss_one (s_ret (v_call G__law_leaf_value (hr.mono (by omega)) tk (a_cons (v_var (i := 0)) (a_cons (v_var (i := 1)) a_nil)) (al_cons (al_cons al_nil))))) ss_nil)
    (ss_one (s_ret (v_call G__law_record (hr.mono (by omega)) tk (a_cons (v_var (i := 0)) (a_cons (v_var (i := 1)) a_nil)) (al_cons (al_cons al_nil))))))
    · refine g_rule (k := 3 + n) (body := (b__law_record (R__law_occurrence_x__law_record n).1 (R__law_occurrence_x__law_record n).2)) t.d__law_record sc__law_record rfl rfl ?_
      intro f cdv A outer s H E hr
      have nd : (["stream", "fields", "record", "name", "rule", "kind", "k"] : List Str).Nodup := sc__law_record.nd
      have tk : Takes (cxF P w T base ["stream", "fields", "record", "name", "rule", "kind", "k"] "_law_record" (defScope s__law_record) f cdv A outer s H E) (WF E) := takes_of rfl rfl rfl rfl
      show PSs (cxF P w T base ["stream", "fields", "record", "name", "rule", "kind", "k"] "_law_record" (defScope s__law_record) f cdv A outer s H E) (defBody s__law_record) (rdS (tx (cxF P w T base ["stream", "fields", "record", "name", "rule", "kind", "k"] "_law_record" (defScope s__law_record) f cdv A outer s H E)) (WF E) (b__law_record (R__law_occurrence_x__law_record n).1 (R__law_occurrence_x__law_record n).2))
      exact (ss_cons (s_set (i := 2) nd v_dnew)
    (ss_cons (s_fgtB (s_for (passes_of rfl) rfl (i_all (v_var (i := 1))) (g_tp rfl (gs_cons (g_nm (i := 3) nd) (gs_cons (g_nm (i := 4) nd) (gs_cons (g_nm (i := 5) nd) gs_nil)))) (ss_fgtE (ss_one (s_if (t_cmp (nomark _) (cm_eq hr) (v_var (i := 4)) v_str) (ss_one (s_putD hr (v_var (i := 2)) (v_var (i := 3)) (v_lc (own := [("k", 6)]) (p := (.nm 6)) (by decide) rfl nd (i_r1 t.b_range (a_cons (v_call G__law_next (hr.mono (by omega)) tk (a_cons (v_var (i := 0)) (a_cons v_int a_nil)) (al_cons (al_cons al_nil))) a_nil)) (blkOk_by (N := ["stream", "fields", "record", "name", "rule", "kind", "k"]) (sc := defScope s__law_record) (by decide +kernel)) (fun _ _ _ _ _ => (g_nm (i := 6) nd)) (fun _ _ _ _ _ => ts_nil) (fun _ _ _ _ _ => (v_call G__law_occurrence (hr.mono (by omega)) tk0 (a_cons (v_var (i := 0)) (a_cons (v_var (i := 5)) a_nil)) (al_cons (al_cons al_nil))))))) (ss_one (s_if (t_w (w_and (t_cmp (nomark _) (cm_eq hr) (v_var (i := 4)) v_str) (w_and1 (t_cmp (nomark _) (cm_eq hr) (v_call G__law_next (hr.mono (by omega)) tk (a_cons (v_var (i := 0)) (a_cons v_int a_nil)) (al_cons (al_cons al_nil))) v_int)))) (ss_one (s_putD hr (v_var (i := 2)) (v_var (i := 3)) v_non)) (ss_one (s_putD hr (v_var (i := 2)) (v_var (i := 3)) (v_call G__law_occurrence (hr.mono (by omega)) tk (a_cons (v_var (i := 0)) (a_cons (v_var (i := 5)) a_nil)) (al_cons (al_cons al_nil))))))))))))
    (ss_one (s_ret (v_frz (v_var (i := 2)))))))
theorem G__law_occurrence (t : Tc T a_Schema a_BadSchema) : FnG P w T base "_law_occurrence" 12 2 o__law_occurrence := (Gr_R__law_occurrence_x__law_record t 9).1
theorem G__law_record (t : Tc T a_Schema a_BadSchema) : FnG P w T base "_law_record" 12 2 o__law_record := (Gr_R__law_occurrence_x__law_record t 9).2
theorem sc__law_records : FnScope ["stream", "fields", "most", "k"] ["stream", "fields", "most"] (defScope s__law_records) := ⟨rfl, rfl, rfl, by decide +kernel, rfl, by decide +kernel, by decide +kernel⟩
theorem G__law_records (t : Tc T a_Schema a_BadSchema) : FnG P w T base "_law_records" 13 3 o__law_records := by
  have G__law_next := @G__law_next P w T base a_Schema a_BadSchema t
  have G__law_record := @G__law_record P w T base a_Schema a_BadSchema t
  refine g_rule (k := 12) (body := b__law_records) t.d__law_records sc__law_records rfl rfl ?_
  intro f cdv A outer s H E hr
  have nd : (["stream", "fields", "most", "k"] : List Str).Nodup := sc__law_records.nd
  have tk : Takes (cxF P w T base ["stream", "fields", "most", "k"] "_law_records" (defScope s__law_records) f cdv A outer s H E) (WF E) := takes_of rfl rfl rfl rfl
  show PSs (cxF P w T base ["stream", "fields", "most", "k"] "_law_records" (defScope s__law_records) f cdv A outer s H E) (defBody s__law_records) (rdS (tx (cxF P w T base ["stream", "fields", "most", "k"] "_law_records" (defScope s__law_records) f cdv A outer s H E)) (WF E) b__law_records)
  exact (ss_one (s_ret (v_lc (own := [("k", 3)]) (p := (.nm 3)) (by decide) rfl nd (i_r1 t.b_range (a_cons (v_call G__law_next (hr.mono (by omega)) tk (a_cons (v_var (i := 0)) (a_cons (v_add (v_var (i := 2)) v_int) a_nil)) (al_cons (al_cons al_nil))) a_nil)) (blkOk_by (N := ["stream", "fields", "most", "k"]) (sc := defScope s__law_records) (by decide +kernel)) (fun _ _ _ _ _ => (g_nm (i := 3) nd)) (fun _ _ _ _ _ => ts_nil) (fun _ _ _ _ _ => (v_call G__law_record (hr.mono (by omega)) tk0 (a_cons (v_var (i := 0)) (a_cons (v_var (i := 1)) a_nil)) (al_cons (al_cons al_nil)))))))
theorem sc__law_ways : FnScope ["fields", "way", "levels", "found", "name", "rule", "kind", "more", "longer"] ["fields", "way", "levels"] (defScope s__law_ways) := ⟨rfl, rfl, rfl, by decide +kernel, rfl, by decide +kernel, by decide +kernel⟩
theorem Gr__law_ways (t : Tc T a_Schema a_BadSchema) : ∀ n : Nat, FnG P w T base "_law_ways" (0 + n) 3 (r__law_ways n)
  | 0 => by obtain ⟨f, fd, F, hm, b⟩ := t.d__law_ways.ex; exact ⟨f, fd, _, fn_zero, hm, F.kp, b⟩
  | n + 1 => by
    have G__law_ways := Gr__law_ways t n
    refine g_rule (k := 0 + n) (body := b__law_ways (r__law_ways n)) t.d__law_ways sc__law_ways rfl rfl ?_
    intro f cdv A outer s H E hr
    have nd : (["fields", "way", "levels", "found", "name", "rule", "kind", "more", "longer"] : List Str).Nodup := sc__law_ways.nd
    have tk : Takes (cxF P w T base ["fields", "way", "levels", "found", "name", "rule", "kind", "more", "longer"] "_law_ways" (defScope s__law_ways) f cdv A outer s H E) (WF E) := takes_of rfl rfl rfl rfl
    show PSs (cxF P w T base ["fields", "way", "levels", "found", "name", "rule", "kind", "more", "longer"] "_law_ways" (defScope s__law_ways) f cdv A outer s H E) (defBody s__law_ways) (rdS (tx (cxF P w T base ["fields", "way", "levels", "found", "name", "rule", "kind", "more", "longer"] "_law_ways" (defScope s__law_ways) f cdv A outer s H E)) (WF E) (b__law_ways (r__law_ways n)))
    exact (ss_cons (s_set (i := 3) nd (v_new a_nil))
    (ss_cons (s_for (passes_of rfl) rfl (i_all (v_var (i := 0))) (g_tp rfl (gs_cons (g_nm (i := 4) nd) (gs_cons (g_nm (i := 5) nd) (gs_cons (g_nm (i := 6) nd) gs_nil)))) (ss_cons (s_set (i := 7) nd (v_tup (a_cons (v_add (v_ix (v_var (i := 2)) v_int) (v_typ (cb_int) t.b_int bb_int (a_cons (v_cmp (nomark _) (cm_eq hr) (v_var (i := 5)) v_str) a_nil))) (a_cons (v_add (v_ix (v_var (i := 2)) v_int) (v_typ (cb_int) t.b_int bb_int (a_cons (v_cmp (nomark _) (cm_ne hr) (v_var (i := 5)) v_str) a_nil))) a_nil))))
    (ss_cons (s_set (i := 8) nd (v_add (v_var (i := 1)) (v_lst (a_cons (v_tup (a_cons (v_var (i := 4)) (a_cons (v_var (i := 5)) (a_cons (v_ix (v_var (i := 7)) v_int) (a_cons (v_ix (v_var (i := 7)) v_int) a_nil))))) a_nil))))
    (ss_one (s_if (t_tru (v_blt (cb_isi) t.b_isinstance bb_isinstance (a_cons (v_var (i := 6)) (a_cons (v_bty rfl t.b_str bb_str) a_nil)))) (ss_one (s_exp (v_app (v_var (i := 3)) (a_cons (v_tup (a_cons (v_var (i := 8)) (a_cons (v_var (i := 6)) a_nil))) a_nil)))) (ss_one (s_exp (v_ext (v_var (i := 3)) (a_cons (v_call G__law_ways (hr.mono (by omega)) tk (a_cons (v_var (i := 6)) (a_cons (v_var (i := 8)) (a_cons (v_var (i := 7)) a_nil))) (al_cons (al_cons (al_cons al_nil)))) a_nil)))))))))
    (ss_one (s_ret (v_frz (v_var (i := 3)))))))
theorem G__law_ways (t : Tc T a_Schema a_BadSchema) : FnG P w T base "_law_ways" 6 3 o__law_ways := Gr__law_ways t 6
theorem sc__law_leaves : FnScope ["fields", "found", "way", "kind", "step"] ["fields"] (defScope s__law_leaves) := ⟨rfl, rfl, rfl, by decide +kernel, rfl, by decide +kernel, by decide +kernel⟩
theorem G__law_leaves (t : Tc T a_Schema a_BadSchema) : FnG P w T base "_law_leaves" 7 1 o__law_leaves := by
  have G__law_ways := @G__law_ways P w T base a_Schema a_BadSchema t
  refine g_rule (k := 6) (body := b__law_leaves) t.d__law_leaves sc__law_leaves rfl rfl ?_
  intro f cdv A outer s H E hr
  have nd : (["fields", "found", "way", "kind", "step"] : List Str).Nodup := sc__law_leaves.nd
  have tk : Takes (cxF P w T base ["fields", "found", "way", "kind", "step"] "_law_leaves" (defScope s__law_leaves) f cdv A outer s H E) (WF E) := takes_of rfl rfl rfl rfl
  show PSs (cxF P w T base ["fields", "found", "way", "kind", "step"] "_law_leaves" (defScope s__law_leaves) f cdv A outer s H E) (defBody s__law_leaves) (rdS (tx (cxF P w T base ["fields", "found", "way", "kind", "step"] "_law_leaves" (defScope s__law_leaves) f cdv A outer s H E)) (WF E) b__law_leaves)
  exact (ss_cons (s_set (i := 1) nd (v_new a_nil))
    (ss_cons (s_for (passes_of rfl) rfl (i_all (v_call G__law_ways (hr.mono (by omega)) tk (a_cons (v_var (i := 0)) (a_cons (v_lst a_nil) (a_cons (v_tup (a_cons v_int (a_cons v_int a_nil))) a_nil))) (al_cons (al_cons (al_cons al_nil))))) (g_tp rfl (gs_cons (g_nm (i := 2) nd) (gs_cons (g_nm (i := 3) nd) gs_nil))) (ss_one (s_exp (v_app (v_var (i := 1)) (a_cons (v_tup (a_cons (v_join v_str (v_lc (own := [("step", 4)]) (p := (.nm 4)) (by decide) rfl nd (i_all (v_var (i := 2))) (blkOk_by (N := ["fields", "found", "way", "kind", "step"]) (sc := defScope s__law_leaves) (by decide +kernel)) (fun _ _ _ _ _ => (g_nm (i := 4) nd)) (fun _ _ _ _ _ => ts_nil) (fun _ _ _ _ _ => (v_ix (v_var (i := 4)) v_int)))) (a_cons (v_var (i := 3)) (a_cons (v_ix (v_ix (v_var (i := 2)) (v_neg v_int)) v_int) (a_cons (v_ix (v_ix (v_var (i := 2)) (v_neg v_int)) v_int) a_nil))))) a_nil)))))
    (ss_one (s_ret (v_frz (v_var (i := 1)))))))
theorem sc__law_write : FnScope ["kind", "occurrences", "columns", "leaf", "numbers", "rule", "now", "repetition", "definition", "inner", "place", "k", "start"] ["kind", "occurrences", "columns", "leaf", "numbers", "rule"] (defScope s__law_write) := ⟨rfl, rfl, rfl, by decide +kernel, rfl, by decide +kernel, by decide +kernel⟩
theorem sc__law_write_record : FnScope ["fields", "record", "columns", "leaf", "numbers", "name", "rule", "kind", "value", "occurrences"] ["fields", "record", "columns", "leaf", "numbers"] (defScope s__law_write_record) := ⟨rfl, rfl, rfl, by decide +kernel, rfl, by decide +kernel, by decide +kernel⟩
theorem Gr_R__law_write_x__law_write_record (t : Tc T a_Schema a_BadSchema) : ∀ n : Nat, FnG P w T base "_law_write" (6 + n) 6 (R__law_write_x__law_write_record n).1 ∧ FnG P w T base "_law_write_record" (6 + n) 5 (R__law_write_x__law_write_record n).2
  | 0 => ⟨by obtain ⟨f, fd, F, hm, b⟩ := t.d__law_write.ex; exact ⟨f, fd, _, fn_zero, hm, F.kp, b⟩, by obtain ⟨f, fd, F, hm, b⟩ := t.d__law_write_record.ex; exact ⟨f, fd, _, fn_zero, hm, F.kp, b⟩⟩
  | n + 1 => by
    obtain ⟨G__law_write, G__law_write_record⟩ := Gr_R__law_write_x__law_write_record t n
    have G__law_leaf_count := @G__law_leaf_count P w T base a_Schema a_BadSchema t
    refine ⟨?_, ?_⟩
    · refine g_rule (k := 6 + n) (body := (b__law_write (R__law_write_x__law_write_record n).1 (R__law_write_x__law_write_record n).2)) t.d__law_write sc__law_write rfl rfl ?_
      intro f cdv A outer s H E hr
      have nd : (["kind", "occurrences", "columns", "leaf", "numbers", "rule", "now", "repetition", "definition", "inner", "place", "k", "start"] : List Str).Nodup := sc__law_write.nd
      have tk : Takes (cxF P w T base ["kind", "occurrences", "columns", "leaf", "numbers", "rule", "now", "repetition", "definition", "inner", "place", "k", "start"] "_law_write" (defScope s__law_write) f cdv A outer s H E) (WF E) := takes_of rfl rfl rfl rfl
      show PSs (cxF P w T base ["kind", "occurrences", "columns", "leaf", "numbers", "rule", "now", "repetition", "definition", "inner", "place", "k", "start"] "_law_write" (defScope s__law_write) f cdv A outer s H E) (defBody s__law_write) (rdS (tx (cxF P w T base ["kind", "occurrences", "columns", "leaf", "numbers", "rule", "now", "repetition", "definition", "inner", "place", "k", "start"] "_law_write" (defScope s__law_write) f cdv A outer s H E)) (WF E) (b__law_write (R__law_write_x__law_write_record n).1 (R__law_write_x__law_write_record n).2))
      exact (ss_cons (s_asg (v_var (i := 4)) (g_tp rfl (gs_cons (g_nm (i := 6) nd) (gs_cons (g_nm (i := 7) nd) (gs_cons (g_nm (i := 8) nd) gs_nil)))))
    (ss_cons (s_set (i := 9) nd (v_tup (a_cons (v_add (v_var (i := 7)) (v_typ (cb_int) t.b_int bb_int (a_cons (v_cmp (nomark _) (cm_eq hr) (v_var (i := 5)) v_str) a_nil))) (a_cons (v_add (v_var (i := 8)) (v_typ (cb_int) t.b_int bb_int (a_cons (v_cmp (nomark _) (cm_ne hr) (v_var (i := 5)) v_str) a_nil))) a_nil))))
    (ss_cons (s_if (t_not (t_tru (v_var (i := 1)))) (ss_one (s_fgtB (s_for (passes_of rfl) rfl (i_r2 t.b_range (a_cons (v_var (i := 3)) (a_cons (v_add (v_var (i := 3)) (v_call G__law_leaf_count (hr.mono (by omega)) tk (a_cons (v_var (i := 0)) a_nil) (al_cons al_nil))) a_nil))) (g_nm (i := 10) nd) (ss_fgtE (ss_one (s_exp (v_app (v_ix (v_var (i := 2)) (v_var (i := 10))) (a_cons (v_tup (a_cons (v_var (i := 6)) (a_cons (v_var (i := 8)) (a_cons v_non a_nil)))) a_nil)))))))) ss_nil)
    (ss_one (s_fgtB (s_for (passes_of rfl) rfl (i_r1 t.b_range (a_cons (v_blt (cb_len) t.b_len bb_len (a_cons (v_var (i := 1)) a_nil)) a_nil)) (g_nm (i := 11) nd) (ss_fgtE (ss_cons (s_set (i := 12) nd (v_var (i := 6)))
    (ss_cons (s_if (t_cmp (nomark _) cm_gt (v_var (i := 11)) v_int) (ss_one (s_set (i := 12) nd (v_ix (v_var (i := 9)) v_int))) ss_nil)
    (ss_one (s_if (t_tru (v_blt (cb_isi) t.b_isinstance bb_isinstance (a_cons (v_var (i := 0)) (a_cons (v_bty rfl t.b_str bb_str) a_nil)))) (ss_one (s_exp (v_app (v_ix (v_var (i := 2)) (v_var (i := 3))) (a_cons (v_tup (a_cons (v_var (i := 12)) (a_cons (v_ix (v_var (i := 9)) v_int) (a_cons (v_ix (v_var (i := 1)) (v_var (i := 11))) a_nil)))) a_nil)))) (ss_one (s_exp (v_call G__law_write_record (hr.mono (by omega)) tk (a_cons (v_var (i := 0)) (a_cons (v_ix (v_var (i := 1)) (v_var (i := 11))) (a_cons (v_var (i := 2)) (a_cons (v_var (i := 3)) (a_cons (v_tup (a_cons (v_var (i := 12)) (a_cons (v_ix (v_var (i := 9)) v_int) (a_cons (v_ix (v_var (i := 9)) v_int) a_nil)))) a_nil))))) (al_cons (al_cons (al_cons (al_cons (al_cons al_nil)))))))))))))))))))
    · refine g_rule (k := 6 + n) (body := (b__law_write_record (R__law_write_x__law_write_record n).1 (R__law_write_x__law_write_record n).2)) t.d__law_write_record sc__law_write_record rfl rfl ?_
      intro f cdv A outer s H E hr
      have nd : (["fields", "record", "columns", "leaf", "numbers", "name", "rule", "kind", "value", "occurrences"] : List Str).Nodup := sc__law_write_record.nd
      have tk : Takes (cxF P w T base ["fields", "record", "columns", "leaf", "numbers", "name", "rule", "kind", "value", "occurrences"] "_law_write_record" (defScope s__law_write_record) f cdv A outer s H E) (WF E) := takes_of rfl rfl rfl rfl
      show PSs (cxF P w T base ["fields", "record", "columns", "leaf", "numbers", "name", "rule", "kind", "value", "occurrences"] "_law_write_record" (defScope s__law_write_record) f cdv A outer s H E) (defBody s__law_write_record) (rdS (tx (cxF P w T base ["fields", "record", "columns", "leaf", "numbers", "name", "rule", "kind", "value", "occurrences"] "_law_write_record" (defScope s__law_write_record) f cdv A outer s H E)) (WF E) (b__law_write_record (R__law_write_x__law_write_record n).1 (R__law_write_x__law_write_record n).2))
      exact (ss_one (s_fgtB (s_for (passes_of rfl) rfl (i_all (v_var (i := 0))) (g_tp rfl (gs_cons (g_nm (i := 5) nd) (gs_cons (g_nm (i := 6) nd) (gs_cons (g_nm (i := 7) nd) gs_nil)))) (ss_fgtE (ss_cons (s_set (i := 8) nd (v_ixA hr (v_var (i := 1)) (v_var (i := 5))))
    (ss_cons (s_set (i := 9) nd (v_lst (a_cons (v_var (i := 8)) a_nil)))
    (ss_cons (s_if (t_cmp (nomark _) (cm_eq hr) (v_var (i := 6)) v_str) (ss_one (s_set (i := 9) nd (v_var (i := 8)))) (ss_one (s_if (t_cmp (nomark _) cm_is (v_var (i := 8)) v_non) (ss_one (s_set (i := 9) nd (v_lst a_nil))) ss_nil)))
    (ss_cons (s_exp (v_call G__law_write (hr.mono (by omega)) tk (a_cons (v_var (i := 7)) (a_cons (v_var (i := 9)) (a_cons (v_var (i := 2)) (a_cons (v_var (i := 3)) (a_cons (v_var (i := 4)) (a_cons (v_var (i := 6)) a_nil)))))) (al_cons (al_cons (al_cons (al_cons (al_cons (al_cons al_nil))))))))
    (ss_one (s_set (i := 3) nd (v_add (v_var (i := 3)) (v_call G__law_leaf_count (hr.mono (by omega)) tk (a_cons (v_var (i := 7)) a_nil) (al_cons al_nil)))))))))))))
theorem G__law_write (t : Tc T a_Schema a_BadSchema) : FnG P w T base "_law_write" 15 6 o__law_write := (Gr_R__law_write_x__law_write_record t 9).1
theorem G__law_write_record (t : Tc T a_Schema a_BadSchema) : FnG P w T base "_law_write_record" 15 5 o__law_write_record := (Gr_R__law_write_x__law_write_record t 9).2
theorem sc__law_columns : FnScope ["fields", "records", "columns", "leaf", "record", "column"] ["fields", "records"] (defScope s__law_columns) := ⟨rfl, rfl, rfl, by decide +kernel, rfl, by decide +kernel, by decide +kernel⟩
theorem G__law_columns (t : Tc T a_Schema a_BadSchema) : FnG P w T base "_law_columns" 16 2 o__law_columns := by
  have G__law_leaves := @G__law_leaves P w T base a_Schema a_BadSchema t
  have G__law_write_record := @G__law_write_record P w T base a_Schema a_BadSchema t
  refine g_rule (k := 15) (body := b__law_columns) t.d__law_columns sc__law_columns rfl rfl ?_
  intro f cdv A outer s H E hr
  have nd : (["fields", "records", "columns", "leaf", "record", "column"] : List Str).Nodup := sc__law_columns.nd
  have tk : Takes (cxF P w T base ["fields", "records", "columns", "leaf", "record", "column"] "_law_columns" (defScope s__law_columns) f cdv A outer s H E) (WF E) := takes_of rfl rfl rfl rfl
  show PSs (cxF P w T base ["fields", "records", "columns", "leaf", "record", "column"] "_law_columns" (defScope s__law_columns) f cdv A outer s H E) (defBody s__law_columns) (rdS (tx (cxF P w T base ["fields", "records", "columns", "leaf", "record", "column"] "_law_columns" (defScope s__law_columns) f cdv A outer s H E)) (WF E) b__law_columns)
  exact (ss_cons (s_setLc (i := 2) (own := [("leaf", 3)]) (p := (.nm 3)) (by decide) rfl nd (sw_true rfl rfl rfl (by decide +kernel)) (i_all (v_call (FnG.iso G__law_leaves) (hr.mono (by omega)) tk (a_cons (v_var (i := 0)) a_nil) (al_cons al_nil))) (blkOk_by (N := ["fields", "records", "columns", "leaf", "record", "column"]) (sc := defScope s__law_columns) (by decide +kernel)) (fun _ _ _ _ _ => (g_nm (i := 3) nd)) (fun _ _ _ _ _ => ts_nil) (fun _ _ _ _ _ => (v_new a_nil)))
    (ss_cons (s_fgtB (s_for (passes_of rfl) rfl (i_all (v_var (i := 1))) (g_nm (i := 4) nd) (ss_fgtE (ss_one (s_exp (v_call G__law_write_record (hr.mono (by omega)) tk (a_cons (v_var (i := 0)) (a_cons (v_var (i := 4)) (a_cons (v_var (i := 2)) (a_cons v_int (a_cons (v_tup (a_cons v_int (a_cons v_int (a_cons v_int a_nil)))) a_nil))))) (al_cons (al_cons (al_cons (al_cons (al_cons al_nil)))))))))))
    (ss_one (s_ret (v_typ (cb_tuple) t.b_tuple bb_tuple (a_cons (v_lc (own := [("column", 5)]) (p := (.nm 5)) (by decide) rfl nd (i_all (v_var (i := 2))) (blkOk_by (N := ["fields", "records", "columns", "leaf", "record", "column"]) (sc := defScope s__law_columns) (by decide +kernel)) (fun _ _ _ _ _ => (g_nm (i := 5) nd)) (fun _ _ _ _ _ => ts_nil) (fun _ _ _ _ _ => (v_typ (cb_tuple) t.b_tuple bb_tuple (a_cons (v_var (i := 5)) a_nil)))) a_nil))))))
theorem sc__law_fits_kind : FnScope ["value", "kind"] ["value", "kind"] (defScope s__law_fits_kind) := ⟨rfl, rfl, rfl, by decide +kernel, rfl, by decide +kernel, by decide +kernel⟩
theorem G__law_fits_kind (t : Tc T a_Schema a_BadSchema) : FnG P w T base "_law_fits_kind" 2 2 o__law_fits_kind := by
  have G__law_is_integer := @G__law_is_integer P w T base a_Schema a_BadSchema t
  refine g_rule (k := 1) (body := b__law_fits_kind) t.d__law_fits_kind sc__law_fits_kind rfl rfl ?_
  intro f cdv A outer s H E hr
  have nd : (["value", "kind"] : List Str).Nodup := sc__law_fits_kind.nd
  have tk : Takes (cxF P w T base ["value", "kind"] "_law_fits_kind" (defScope s__law_fits_kind) f cdv A outer s H E) (WF E) := takes_of rfl rfl rfl rfl
  show PSs (cxF P w T base ["value", "kind"] "_law_fits_kind" (defScope s__law_fits_kind) f cdv A outer s H E) (defBody s__law_fits_kind) (rdS (tx (cxF P w T base ["value", "kind"] "_law_fits_kind" (defScope s__law_fits_kind) f cdv A outer s H E)) (WF E) b__law_fits_kind)
  exact (ss_cons (s_if (t_cmp (nomark _) (cm_eq hr) (v_var (i := 1)) v_str) (ss_one (s_ret (v_and (v_call G__law_is_integer (hr.mono (by omega)) tk (a_cons (v_var (i := 0)) a_nil) (al_cons al_nil)) (v_one (v_chain (by with_unfolding_all rfl) cm_le cm_le (v_neg v_int) (v_var (i := 0)) v_int))))) ss_nil)
    (ss_cons (s_if (t_cmp (nomark _) (cm_eq hr) (v_var (i := 1)) v_str) (ss_one (s_ret (v_blt (cb_isi) t.b_isinstance bb_isinstance (a_cons (v_var (i := 0)) (a_cons (v_bty rfl t.b_str bb_str) a_nil))))) ss_nil)
    (ss_one (s_ret (v_blt (cb_isi) t.b_isinstance bb_isinstance (a_cons (v_var (i := 0)) (a_cons (v_bty rfl t.b_bool bb_bool) a_nil)))))))
theorem sc__law_fault : FnScope ["fields", "leaf", "column", "way", "kind", "starts", "step", "k", "repetition", "definition", "value"] ["fields", "leaf", "column"] (defScope s__law_fault) := ⟨rfl, rfl, rfl, by decide +kernel, rfl, by decide +kernel, by decide +kernel⟩
theorem G__law_fault (t : Tc T a_Schema a_BadSchema) : FnG P w T base "_law_fault" 7 3 o__law_fault := by
  have G__law_fits_kind := @G__law_fits_kind P w T base a_Schema a_BadSchema t
  have G__law_ways := @G__law_ways P w T base a_Schema a_BadSchema t
  refine g_rule (k := 6) (body := b__law_fault) t.d__law_fault sc__law_fault rfl rfl ?_
  intro f cdv A outer s H E hr
  have nd : (["fields", "leaf", "column", "way", "kind", "starts", "step", "k", "repetition", "definition", "value"] : List Str).Nodup := sc__law_fault.nd
  have tk : Takes (cxF P w T base ["fields", "leaf", "column", "way", "kind", "starts", "step", "k", "repetition", "definition", "value"] "_law_fault" (defScope s__law_fault) f cdv A outer s H E) (WF E) := takes_of rfl rfl rfl rfl
  show PSs (cxF P w T base ["fields", "leaf", "column", "way", "kind", "starts", "step", "k", "repetition", "definition", "value"] "_law_fault" (defScope s__law_fault) f cdv A outer s H E) (defBody s__law_fault) (rdS (tx (cxF P w T base ["fields", "leaf", "column", "way", "kind", "starts", "step", "k", "repetition", "definition", "value"] "_law_fault" (defScope s__law_fault) f cdv A outer s H E)) (WF E) b__law_fault)
  exact (ss_cons (s_asg (v_ix (v_call (FnG.iso G__law_ways) (hr.mono (by omega)) tk (a_cons (v_var (i := 0)) (a_cons (v_lst a_nil) (a_cons (v_tup (a_cons v_int (a_cons v_int a_nil))) a_nil))) (al_cons (al_cons (al_cons al_nil)))) (v_var (i := 1))) (g_tp rfl (gs_cons (g_nm (i := 3) nd) (gs_cons (g_nm (i := 4) nd) gs_nil))))
    (ss_cons (s_set (i := 5) nd (v_add (v_lst (a_cons v_int a_nil)) (v_lc (own := [("step", 6)]) (p := (.nm 6)) (by decide) rfl nd (i_all (v_var (i := 3))) (blkOk_by (N := ["fields", "leaf", "column", "way", "kind", "starts", "step", "k", "repetition", "definition", "value"]) (sc := defScope s__law_fault) (by decide +kernel)) (fun _ _ _ _ _ => (g_nm (i := 6) nd)) (fun _ _ _ _ _ => (ts_one (t_cmp (nomark _) (cm_eq hr) (v_ix (v_var (i := 6)) v_int) v_str))) (fun _ _ _ _ _ => (v_ix (v_var (i := 6)) v_int)))))
    (ss_cons (s_fgtB (s_for (passes_of rfl) rfl (i_r1 t.b_range (a_cons (v_blt (cb_len) t.b_len bb_len (a_cons (v_var (i := 2)) a_nil)) a_nil)) (g_nm (i := 7) nd) (ss_fgtE (ss_cons (s_asg (v_ix (v_var (i := 2)) (v_var (i := 7))) (g_tp rfl (gs_cons (g_nm (i := 8) nd) (gs_cons (g_nm (i := 9) nd) (gs_cons (g_nm (i := 10) nd) gs_nil)))))
    (ss_cons (s_if (t_w (w_or (t_cmp (nomark _) cm_gt (v_var (i := 8)) (v_ix (v_ix (v_var (i := 3)) (v_neg v_int)) v_int)) (w_or1 (t_cmp (nomark _) cm_gt (v_var (i := 9)) (v_ix (v_ix (v_var (i := 3)) (v_neg v_int)) v_int))))) (ss_one (s_ret (v_var (i := 7)))) ss_nil)
    (ss_cons (s_if (t_w (w_and (t_cmp (nomark _) cm_lt (v_var (i := 9)) (v_ix (v_ix (v_var (i := 3)) (v_neg v_int)) v_int)) (w_and1 (t_cmp (nomark _) cm_isNot (v_var (i := 10)) v_non)))) (ss_one (s_ret (v_var (i := 7)))) ss_nil)
    (ss_cons (s_if (t_w (w_and (t_cmp (nomark _) (cm_eq hr) (v_var (i := 9)) (v_ix (v_ix (v_var (i := 3)) (v_neg v_int)) v_int)) (w_and1 (t_not (t_tru (v_call G__law_fits_kind (hr.mono (by omega)) tk (a_cons (v_var (i := 10)) (a_cons (v_var (i := 4)) a_nil)) (al_cons (al_cons al_nil)))))))) (ss_one (s_ret (v_var (i := 7)))) ss_nil)
    (ss_one (s_if (t_w (w_and (t_cmp (nomark _) cm_gt (v_var (i := 8)) v_int) (w_and1 (t_w (w_or (t_cmp (nomark _) (cm_eq hr) (v_var (i := 7)) v_int) (w_or (t_cmp (nomark _) cm_lt (v_ix (v_ix (v_var (i := 2)) (v_sub (v_var (i := 7)) v_int)) v_int) (v_ix (v_var (i := 5)) (v_var (i := 8)))) (w_or1 (t_cmp (nomark _) cm_lt (v_var (i := 9)) (v_ix (v_var (i := 5)) (v_var (i := 8))))))))))) (ss_one (s_ret (v_var (i := 7)))) ss_nil)))))))))
    (ss_one (s_ret v_non)))))
theorem sc__law_bones : FnScope ["column", "repetition", "definition", "found", "entry"] ["column", "repetition", "definition"] (defScope s__law_bones) := ⟨rfl, rfl, rfl, by decide +kernel, rfl, by decide +kernel, by decide +kernel⟩
theorem G__law_bones (t : Tc T a_Schema a_BadSchema) : FnG P w T base "_law_bones" 1 3 o__law_bones := by
  refine g_rule (k := 0) (body := b__law_bones) t.d__law_bones sc__law_bones rfl rfl ?_
  intro f cdv A outer s H E hr
  have nd : (["column", "repetition", "definition", "found", "entry"] : List Str).Nodup := sc__law_bones.nd
  have tk : Takes (cxF P w T base ["column", "repetition", "definition", "found", "entry"] "_law_bones" (defScope s__law_bones) f cdv A outer s H E) (WF E) := takes_of rfl rfl rfl rfl
  show PSs (cxF P w T base ["column", "repetition", "definition", "found", "entry"] "_law_bones" (defScope s__law_bones) f cdv A outer s H E) (defBody s__law_bones) (rdS (tx (cxF P w T base ["column", "repetition", "definition", "found", "entry"] "_law_bones" (defScope s__law_bones) f cdv A outer s H E)) (WF E) b__law_bones)
  exact (ss_cons (s_set (i := 3) nd (v_new a_nil))
    (ss_cons (s_fgtB (s_for (passes_of rfl) rfl (i_all (v_var (i := 0))) (g_nm (i := 4) nd) (ss_fgtE (ss_one (s_if (t_cmp (nomark _) cm_le (v_ix (v_var (i := 4)) v_int) (v_var (i := 1))) (ss_one (s_exp (v_app (v_var (i := 3)) (a_cons (v_tup (a_cons (v_ix (v_var (i := 4)) v_int) (a_cons (v_ix (v_lst (a_cons (v_ix (v_var (i := 4)) v_int) (a_cons (v_var (i := 2)) a_nil))) (v_typ (cb_int) t.b_int bb_int (a_cons (v_cmp (nomark _) cm_lt (v_var (i := 2)) (v_ix (v_var (i := 4)) v_int)) a_nil))) a_nil))) a_nil)))) ss_nil)))))
    (ss_one (s_ret (v_typ (cb_tuple) t.b_tuple bb_tuple (a_cons (v_var (i := 3)) a_nil))))))
theorem sc__law_turned : FnScope ["stream", "fields", "parts", "found", "part", "turn", "leaf", "column", "place", "kind", "repetition", "definition", "value", "other"] ["stream", "fields", "parts"] (defScope s__law_turned) := ⟨rfl, rfl, rfl, by decide +kernel, rfl, by decide +kernel, by decide +kernel⟩
theorem G__law_turned (t : Tc T a_Schema a_BadSchema) : FnG P w T base "_law_turned" 17 3 o__law_turned := by
  have G__law_columns := @G__law_columns P w T base a_Schema a_BadSchema t
  have G__law_next := @G__law_next P w T base a_Schema a_BadSchema t
  have G__law_record := @G__law_record P w T base a_Schema a_BadSchema t
  refine g_rule (k := 16) (body := b__law_turned) t.d__law_turned sc__law_turned rfl rfl ?_
  intro f cdv A outer s H E hr
  have nd : (["stream", "fields", "parts", "found", "part", "turn", "leaf", "column", "place", "kind", "repetition", "definition", "value", "other"] : List Str).Nodup := sc__law_turned.nd
  have tk : Takes (cxF P w T base ["stream", "fields", "parts", "found", "part", "turn", "leaf", "column", "place", "kind", "repetition", "definition", "value", "other"] "_law_turned" (defScope s__law_turned) f cdv A outer s H E) (WF E) := takes_of rfl rfl rfl rfl
  show PSs (cxF P w T base ["stream", "fields", "parts", "found", "part", "turn", "leaf", "column", "place", "kind", "repetition", "definition", "value", "other"] "_law_turned" (defScope s__law_turned) f cdv A outer s H E) (defBody s__law_turned) (rdS (tx (cxF P w T base ["stream", "fields", "parts", "found", "part", "turn", "leaf", "column", "place", "kind", "repetition", "definition", "value", "other"] "_law_turned" (defScope s__law_turned) f cdv A outer s H E)) (WF E) b__law_turned)
  exact (ss_cons (s_setLcN (i := 3) (own := [("part", 4)]) (p := (.nm 4)) (by decide) rfl nd (sw_true rfl rfl rfl (by decide +kernel)) (i_all (v_var (i := 2))) (blkOk_by (N := ["stream", "fields", "parts", "found", "part", "turn", "leaf", "column", "place", "kind", "repetition", "definition", "value", "other"]) (sc := defScope s__law_turned) (by decide +kernel)) (fun _ _ _ _ _ => (g_nm (i := 4) nd)) (fun _ _ _ _ _ => ts_nil) (fun _ _ _ _ _ => (v_var (i := 4))))
    (ss_cons (s_fgtB (s_for (passes_of rfl) rfl (i_r1 t.b_range (a_cons (v_add v_int (v_call G__law_next (hr.mono (by omega)) tk (a_cons (v_var (i := 0)) (a_cons v_int a_nil)) (al_cons (al_cons al_nil)))) a_nil)) (g_nm (i := 5) nd) (ss_fgtE (ss_cons (s_set (i := 6) nd (v_call G__law_next (hr.mono (by omega)) tk (a_cons (v_var (i := 0)) (a_cons (v_blt (cb_len) t.b_len bb_len (a_cons (v_var (i := 3)) a_nil)) a_nil)) (al_cons (al_cons al_nil))))
    (ss_one (s_if (t_tru (v_ix (v_var (i := 3)) (v_var (i := 6)))) (ss_cons (s_set (i := 7) nd (v_typ (cb_listN) t.b_list bb_list (a_cons (v_ix (v_var (i := 3)) (v_var (i := 6))) a_nil)))
    (ss_cons (s_set (i := 8) nd (v_mod (v_call G__law_next (hr.mono (by omega)) tk (a_cons (v_var (i := 0)) (a_cons v_int a_nil)) (al_cons (al_cons al_nil))) (v_blt (cb_len) t.b_len bb_len (a_cons (v_var (i := 7)) a_nil))))
    (ss_cons (s_set (i := 9) nd (v_call G__law_next (hr.mono (by omega)) tk (a_cons (v_var (i := 0)) (a_cons v_int a_nil)) (al_cons (al_cons al_nil))))
    (ss_cons (s_asg (v_ix (v_var (i := 7)) (v_var (i := 8))) (g_tp rfl (gs_cons (g_nm (i := 10) nd) (gs_cons (g_nm (i := 11) nd) (gs_cons (g_nm (i := 12) nd) gs_nil)))))
    (ss_cons (s_if (t_cmp (nomark _) (cm_eq hr) (v_var (i := 9)) v_int) (ss_one (s_set (i := 7) nd (v_add (v_sl (v_var (i := 7)) p_no (p_so (v_var (i := 8)))) (v_sl (v_var (i := 7)) (p_so (v_add (v_var (i := 8)) v_int)) p_no)))) (ss_one (s_if (t_cmp (nomark _) (cm_eq hr) (v_var (i := 9)) v_int) (ss_one (s_set (i := 7) nd (v_add (v_add (v_sl (v_var (i := 7)) p_no (p_so (v_var (i := 8)))) (v_lst (a_cons (v_ix (v_var (i := 7)) (v_var (i := 8))) a_nil))) (v_sl (v_var (i := 7)) (p_so (v_var (i := 8))) p_no)))) (ss_one (s_if (t_cmp (nomark _) (cm_eq hr) (v_var (i := 9)) v_int) (ss_one (s_put (v_var (i := 7)) (v_var (i := 8)) (v_tup (a_cons (v_call G__law_next (hr.mono (by omega)) tk (a_cons (v_var (i := 0)) (a_cons v_int a_nil)) (al_cons (al_cons al_nil))) (a_cons (v_var (i := 11)) (a_cons (v_var (i := 12)) a_nil)))))) (ss_one (s_if (t_cmp (nomark _) (cm_eq hr) (v_var (i := 9)) v_int) (ss_one (s_put (v_var (i := 7)) (v_var (i := 8)) (v_tup (a_cons (v_var (i := 10)) (a_cons (v_call G__law_next (hr.mono (by omega)) tk (a_cons (v_var (i := 0)) (a_cons v_int a_nil)) (al_cons (al_cons al_nil))) (a_cons (v_var (i := 12)) a_nil)))))) (ss_one (s_if (t_cmp (nomark _) (cm_eq hr) (v_var (i := 9)) v_int) (ss_one (s_put (v_var (i := 7)) (v_var (i := 8)) (v_tup (a_cons (v_var (i := 10)) (a_cons (v_var (i := 11)) (a_cons (v_ix (v_lst (a_cons v_non (a_cons v_int (a_cons v_str (a_cons v_bl a_nil))))) (v_call G__law_next (hr.mono (by omega)) tk (a_cons (v_var (i := 0)) (a_cons v_int a_nil)) (al_cons (al_cons al_nil)))) a_nil)))))) (ss_one (s_if (t_cmp (nomark _) (cm_eq hr) (v_var (i := 9)) v_int) (ss_cons (s_set (i := 13) nd (v_call G__law_record (hr.mono (by omega)) tk (a_cons (v_var (i := 0)) (a_cons (v_var (i := 1)) a_nil)) (al_cons (al_cons al_nil))))
    (ss_one (s_set (i := 7) nd (v_add (v_var (i := 7)) (v_typ (cb_list) t.b_list bb_list (a_cons (v_ix (v_call (FnG.iso G__law_columns) (hr.mono (by omega)) tk (a_cons (v_var (i := 1)) (a_cons (v_lst (a_cons (v_var (i := 13)) a_nil)) a_nil)) (al_cons (al_cons al_nil))) (v_var (i := 6))) a_nil)))))) ss_nil)))))))))))
    (ss_one (s_put (v_var (i := 3)) (v_var (i := 6)) (v_typ (cb_tuple) t.b_tuple bb_tuple (a_cons (v_var (i := 7)) a_nil))))))))) ss_nil))))))
    (ss_one (s_ret (v_typ (cb_tuple) t.b_tuple bb_tuple (a_cons (v_lc (own := [("part", 4)]) (p := (.nm 4)) (by decide) rfl nd (i_all (v_frz (v_var (i := 3)))) (blkOk_by (N := ["stream", "fields", "parts", "found", "part", "turn", "leaf", "column", "place", "kind", "repetition", "definition", "value", "other"]) (sc := defScope s__law_turned) (by decide +kernel)) (fun _ _ _ _ _ => (g_nm (i := 4) nd)) (fun _ _ _ _ _ => ts_nil) (fun _ _ _ _ _ => (v_ix (v_lst (a_cons (v_var (i := 4)) (a_cons v_non a_nil))) (v_typ (cb_int) t.b_int bb_int (a_cons (v_cmp (nomark _) (cm_eq hr) (v_call G__law_next (hr.mono (by omega)) tk0 (a_cons (v_var (i := 0)) (a_cons v_int a_nil)) (al_cons (al_cons al_nil))) v_int) a_nil))))) a_nil))))))
theorem sc__law_own : FnScope ["schema", "fields", "leaf", "column", "k", "path", "kind", "repetition", "definition", "ahead", "value"] ["schema", "fields", "leaf", "column", "k"] (defScope s__law_own) := ⟨rfl, rfl, rfl, by decide +kernel, rfl, by decide +kernel, by decide +kernel⟩
theorem G__law_own (t : Tc T a_Schema a_BadSchema) : FnG P w T base "_law_own" 8 5 o__law_own := by
  have G__law_fault := @G__law_fault P w T base a_Schema a_BadSchema t
  refine g_rule (k := 7) (body := b__law_own) t.d__law_own sc__law_own rfl rfl ?_
  intro f cdv A outer s H E hr
  have nd : (["schema", "fields", "leaf", "column", "k", "path", "kind", "repetition", "definition", "ahead", "value"] : List Str).Nodup := sc__law_own.nd
  have tk : Takes (cxF P w T base ["schema", "fields", "leaf", "column", "k", "path", "kind", "repetition", "definition", "ahead", "value"] "_law_own" (defScope s__law_own) f cdv A outer s H E) (WF E) := takes_of rfl rfl rfl rfl
  show PSs (cxF P w T base ["schema", "fields", "leaf", "column", "k", "path", "kind", "repetition", "definition", "ahead", "value"] "_law_own" (defScope s__law_own) f cdv A outer s H E) (defBody s__law_own) (rdS (tx (cxF P w T base ["schema", "fields", "leaf", "column", "k", "path", "kind", "repetition", "definition", "ahead", "value"] "_law_own" (defScope s__law_own) f cdv A outer s H E)) (WF E) b__law_own)
  exact (ss_cons (s_if (t_cmp (nomark _) (cm_eq hr) (v_var (i := 4)) v_int) (ss_one (s_ret (v_cmp (nomark _) cm_is (v_call (FnG.iso G__law_fault) (hr.mono (by omega)) tk (a_cons (v_var (i := 1)) (a_cons (v_var (i := 2)) (a_cons (v_sl (v_var (i := 3)) p_no (p_so v_int)) a_nil))) (al_cons (al_cons (al_cons al_nil)))) v_non))) ss_nil)
    (ss_cons (s_asg (v_ix (v_fld t.k_Schema t.a_Schema_leaves (v_var (i := 0))) (v_var (i := 2))) (g_tp rfl (gs_cons (g_nm (i := 5) nd) (gs_cons (g_nm (i := 6) nd) (gs_cons (g_nm (i := 7) nd) (gs_cons (g_nm (i := 8) nd) gs_nil))))))
    (ss_cons (s_set (i := 9) nd (v_blt (cb_min2 rfl) t.b_min bb_min (a_cons (v_ix (v_ix (v_var (i := 3)) (v_sub (v_var (i := 4)) v_int)) v_int) (a_cons (v_var (i := 8)) a_nil))))
    (ss_cons (s_set (i := 10) nd (v_if (t_cmp (nomark _) (cm_eq hr) (v_var (i := 9)) (v_var (i := 8))) (v_ixA hr (v_dct (pd_cons v_int (pd_cons v_str (pd_cons v_bl pd_nil)))) (v_var (i := 6))) v_non))
    (ss_one (s_ret (v_cmp (nomark _) cm_is (v_call (FnG.iso G__law_fault) (hr.mono (by omega)) tk (a_cons (v_var (i := 1)) (a_cons (v_var (i := 2)) (a_cons (v_tup (a_cons (v_tup (a_cons v_int (a_cons (v_var (i := 9)) (a_cons (v_var (i := 10)) a_nil)))) (a_cons (v_ix (v_var (i := 3)) (v_var (i := 4))) a_nil))) a_nil))) (al_cons (al_cons (al_cons al_nil)))) v_non)))))))
end
end K14
set_option Elab.async false
set_option linter.all false
set_option maxRecDepth 100000
set_option maxHeartbeats 4000000
namespace K14
open PySem PySem.Spec L2 FR PU
section
variable {P : Program} {w : World} {T : Tx} {base : Heap} {a_Schema a_BadSchema : Addr}
theorem sc_law : FnScope ["script", "fields", "schema", "stream", "parts", "leaf", "column", "due", "k", "levels", "values", "value", "kind"] ["script"] (defScope s_law) := ⟨rfl, rfl, rfl, by decide +kernel, rfl, by decide +kernel, by decide +kernel⟩
theorem G_law (t : Tc T a_Schema a_BadSchema) {f : Addr} {fd : FuncData} (F : L2.Fun T.K "law" "law" s_law f fd) : FnOk P w T.K T.mg base (L2.CX P w) 18 f fd ["script"] (spF T 1 o_law) := by
  have G__law_bones := @G__law_bones P w T base a_Schema a_BadSchema t
  have G__law_columns := @G__law_columns P w T base a_Schema a_BadSchema t
  have G__law_fault := @G__law_fault P w T base a_Schema a_BadSchema t
  have G__law_is_integer := @G__law_is_integer P w T base a_Schema a_BadSchema t
  have G__law_next := @G__law_next P w T base a_Schema a_BadSchema t
  have G__law_own := @G__law_own P w T base a_Schema a_BadSchema t
  have G__law_records := @G__law_records P w T base a_Schema a_BadSchema t
  have G__law_same := @G__law_same P w T base a_Schema a_BadSchema t
  have G__law_schema := @G__law_schema P w T base a_Schema a_BadSchema t
  have G__law_stream := @G__law_stream P w T base a_Schema a_BadSchema t
  have G__law_turned := @G__law_turned P w T base a_Schema a_BadSchema t
  have G_first_fault := @G_first_fault P w T base a_Schema a_BadSchema t
  have G_is_admissible := @G_is_admissible P w T base a_Schema a_BadSchema t
  have G_is_value := @G_is_value P w T base a_Schema a_BadSchema t
  have G_skeleton := @G_skeleton P w T base a_Schema a_BadSchema t
  have G_Schema := @G_Schema P w T base a_Schema a_BadSchema t
  refine fn_ruleN (n := 1) (nn := 13) (k := 17) (body := b_law) F sc_law rfl rfl ?_
  intro cdv A outer s H E hr
  have nd : (["script", "fields", "schema", "stream", "parts", "leaf", "column", "due", "k", "levels", "values", "value", "kind"] : List Str).Nodup := sc_law.nd
  have tk : Takes (cxF P w T base ["script", "fields", "schema", "stream", "parts", "leaf", "column", "due", "k", "levels", "values", "value", "kind"] "law" (defScope s_law) f cdv A outer s H E) (WF E) := takes_of rfl rfl rfl rfl
  show PSs (cxF P w T base ["script", "fields", "schema", "stream", "parts", "leaf", "column", "due", "k", "levels", "values", "value", "kind"] "law" (defScope s_law) f cdv A outer s H E) (defBody s_law) (rdS (tx (cxF P w T base ["script", "fields", "schema", "stream", "parts", "leaf", "column", "due", "k", "levels", "values", "value", "kind"] "law" (defScope s_law) f cdv A outer s H E)) (WF E) b_law)
  have S0 : PS (cxF P w T base ["script", "fields", "schema", "stream", "parts", "leaf", "column", "due", "k", "levels", "values", "value", "kind"] "law" (defScope s_law) f cdv A outer s H E) ((defBody s_law).getD 0 (.Pass ⟨0, 0, 0, 0⟩)) (rdS (tx (cxF P w T base ["script", "fields", "schema", "stream", "parts", "leaf", "column", "due", "k", "levels", "values", "value", "kind"] "law" (defScope s_law) f cdv A outer s H E)) (WF E) (sSet 1 (fCB (iso o__law_schema) (aCons (fVar 0) (aCons (fC (.int 0)) aNil))))) := (s_set (i := 1) nd (v_call (FnG.iso G__law_schema) (hr.mono (by omega)) tk (a_cons (v_var (i := 0)) (a_cons v_int a_nil)) (al_cons (al_cons al_nil))))
  have S1 : PS (cxF P w T base ["script", "fields", "schema", "stream", "parts", "leaf", "column", "due", "k", "levels", "values", "value", "kind"] "law" (defScope s_law) f cdv A outer s H E) ((defBody s_law).getD 1 (.Pass ⟨0, 0, 0, 0⟩)) (rdS (tx (cxF P w T base ["script", "fields", "schema", "stream", "parts", "leaf", "column", "due", "k", "levels", "values", "value", "kind"] "law" (defScope s_law) f cdv A outer s H E)) (WF E) (sSet 2 (fMakeI "Schema" o_Schema (aCons (fVar 1) aNil)))) := (s_set (i := 2) nd (v_makeI G_Schema (hr.mono (by omega)) tk (a_cons (v_var (i := 1)) a_nil) (al_cons al_nil)))
  have S2 : PS (cxF P w T base ["script", "fields", "schema", "stream", "parts", "leaf", "column", "due", "k", "levels", "values", "value", "kind"] "law" (defScope s_law) f cdv A outer s H E) ((defBody s_law).getD 2 (.Pass ⟨0, 0, 0, 0⟩)) (rdS (tx (cxF P w T base ["script", "fields", "schema", "stream", "parts", "leaf", "column", "due", "k", "levels", "values", "value", "kind"] "law" (defScope s_law) f cdv A outer s H E)) (WF E) (sSet 3 (fCB o__law_stream (aCons (fVar 0) (aCons (fC (.int 5)) (aCons (fC (.int 24)) aNil)))))) := (s_set (i := 3) nd (v_call G__law_stream (hr.mono (by omega)) tk (a_cons (v_var (i := 0)) (a_cons v_int (a_cons v_int a_nil))) (al_cons (al_cons (al_cons al_nil)))))
  have S3 : PS (cxF P w T base ["script", "fields", "schema", "stream", "parts", "leaf", "column", "due", "k", "levels", "values", "value", "kind"] "law" (defScope s_law) f cdv A outer s H E) ((defBody s_law).getD 3 (.Pass ⟨0, 0, 0, 0⟩)) (rdS (tx (cxF P w T base ["script", "fields", "schema", "stream", "parts", "leaf", "column", "due", "k", "levels", "values", "value", "kind"] "law" (defScope s_law) f cdv A outer s H E)) (WF E) (sSet 4 (fCB (iso o__law_columns) (aCons (fVar 1) (aCons (fCB o__law_records (aCons (fVar 3) (aCons (fVar 1) (aCons (fC (.int 4)) aNil)))) aNil))))) := (s_set (i := 4) nd (v_call (FnG.iso G__law_columns) (hr.mono (by omega)) tk (a_cons (v_var (i := 1)) (a_cons (v_call G__law_records (hr.mono (by omega)) tk (a_cons (v_var (i := 3)) (a_cons (v_var (i := 1)) (a_cons v_int a_nil))) (al_cons (al_cons (al_cons al_nil)))) a_nil)) (al_cons (al_cons al_nil))))
  have S4 : PS (cxF P w T base ["script", "fields", "schema", "stream", "parts", "leaf", "column", "due", "k", "levels", "values", "value", "kind"] "law" (defScope s_law) f cdv A outer s H E) ((defBody s_law).getD 4 (.Pass ⟨0, 0, 0, 0⟩)) (rdS (tx (cxF P w T base ["script", "fields", "schema", "stream", "parts", "leaf", "column", "due", "k", "levels", "values", "value", "kind"] "law" (defScope s_law) f cdv A outer s H E)) (WF E) (sSet 4 (fCB o__law_turned (aCons (fVar 3) (aCons (fVar 1) (aCons (fVar 4) aNil)))))) := (s_set (i := 4) nd (v_call G__law_turned (hr.mono (by omega)) tk (a_cons (v_var (i := 3)) (a_cons (v_var (i := 1)) (a_cons (v_var (i := 4)) a_nil))) (al_cons (al_cons (al_cons al_nil)))))
  have S5 : PS (cxF P w T base ["script", "fields", "schema", "stream", "parts", "leaf", "column", "due", "k", "levels", "values", "value", "kind"] "law" (defScope s_law) f cdv A outer s H E) ((defBody s_law).getD 5 (.Pass ⟨0, 0, 0, 0⟩)) (rdS (tx (cxF P w T base ["script", "fields", "schema", "stream", "parts", "leaf", "column", "due", "k", "levels", "values", "value", "kind"] "law" (defScope s_law) f cdv A outer s H E)) (WF E) (sFgtB [5, 6, 7, 8, 9] (sFor (.nm 5) (iR1 (aCons (fCB bLen (aCons (fVar 4) aNil)) aNil)) (f_law_1)))) := (s_fgtB (s_for (passes_of rfl) rfl (i_r1 t.b_range (a_cons (v_blt (cb_len) t.b_len bb_len (a_cons (v_var (i := 4)) a_nil)) a_nil)) (g_nm (i := 5) nd) (ss_fgtE (ss_cons (s_set (i := 6) nd (v_ix (v_var (i := 4)) (v_var (i := 5))))
    (ss_one (s_if (t_cmp (nomark _) cm_isNot (v_var (i := 6)) v_non) (ss_cons (s_set (i := 7) nd (v_call (FnG.iso G__law_fault) (hr.mono (by omega)) tk (a_cons (v_var (i := 1)) (a_cons (v_var (i := 5)) (a_cons (v_var (i := 6)) a_nil))) (al_cons (al_cons (al_cons al_nil)))))
    (ss_cons (s_if (t_not (t_tru (v_call (FnG.iso G__law_same) (hr.mono (by omega)) tk (a_cons (v_call G_first_fault (hr.mono (by omega)) tk (a_cons (v_var (i := 2)) (a_cons (v_var (i := 5)) (a_cons (v_var (i := 6)) a_nil))) (al_cons (al_cons (al_cons al_nil)))) (a_cons (v_var (i := 7)) a_nil)) (al_cons (al_cons al_nil))))) (ss_one (s_ret v_bl)) ss_nil)
    (ss_cons (s_fgtB (s_for (passes_of rfl) rfl (i_r1 t.b_range (a_cons (v_blt (cb_len) t.b_len bb_len (a_cons (v_var (i := 6)) a_nil)) a_nil)) (g_nm (i := 8) nd) (ss_fgtE (ss_one (s_if (t_not (t_tru (v_call (FnG.iso G__law_same) (hr.mono (by omega)) tk (a_cons (v_call G_is_admissible (hr.mono (by omega)) tk (a_cons (v_var (i := 2)) (a_cons (v_var (i := 5)) (a_cons (v_var (i := 6)) (a_cons (v_var (i := 8)) a_nil)))) (al_cons (al_cons (al_cons (al_cons al_nil))))) (a_cons (v_call (FnG.iso G__law_own) (hr.mono (by omega)) tk (a_cons (v_var (i := 2)) (a_cons (v_var (i := 1)) (a_cons (v_var (i := 5)) (a_cons (v_var (i := 6)) (a_cons (v_var (i := 8)) a_nil))))) (al_cons (al_cons (al_cons (al_cons (al_cons al_nil)))))) a_nil)) (al_cons (al_cons al_nil))))) (ss_one (s_ret v_bl)) ss_nil)))))
    (ss_cons (s_set (i := 9) nd (v_tup (a_cons (v_call G__law_next (hr.mono (by omega)) tk (a_cons (v_var (i := 3)) (a_cons v_int a_nil)) (al_cons (al_cons al_nil))) (a_cons (v_call G__law_next (hr.mono (by omega)) tk (a_cons (v_var (i := 3)) (a_cons v_int a_nil)) (al_cons (al_cons al_nil))) a_nil))))
    (ss_one (s_if (t_not (t_tru (v_call (FnG.iso G__law_same) (hr.mono (by omega)) tk (a_cons (v_call G_skeleton (hr.mono (by omega)) tk (a_cons (v_var (i := 6)) (a_cons (v_ix (v_var (i := 9)) v_int) (a_cons (v_ix (v_var (i := 9)) v_int) a_nil))) (al_cons (al_cons (al_cons al_nil)))) (a_cons (v_call (FnG.iso G__law_bones) (hr.mono (by omega)) tk (a_cons (v_var (i := 6)) (a_cons (v_ix (v_var (i := 9)) v_int) (a_cons (v_ix (v_var (i := 9)) v_int) a_nil))) (al_cons (al_cons (al_cons al_nil)))) a_nil)) (al_cons (al_cons al_nil))))) (ss_one (s_ret v_bl)) ss_nil)))))) ss_nil))))))
  have S6 : PS (cxF P w T base ["script", "fields", "schema", "stream", "parts", "leaf", "column", "due", "k", "levels", "values", "value", "kind"] "law" (defScope s_law) f cdv A outer s H E) ((defBody s_law).getD 6 (.Pass ⟨0, 0, 0, 0⟩)) (rdS (tx (cxF P w T base ["script", "fields", "schema", "stream", "parts", "leaf", "column", "due", "k", "levels", "values", "value", "kind"] "law" (defScope s_law) f cdv A outer s H E)) (WF E) (sSet 10 (fLst (aCons (fC .non) (aCons (fC (.bl true)) (aCons (fC (.bl false)) (aCons (fC (.int 0)) (aCons (fUn gNeg (fC (.int 2147483648))) (aCons (fC (.int 2147483648)) (aCons (fC (.str "")) (aCons (fC (.str "a@b")) (aCons (fBin gMul (fC (.str "a")) (fC (.int 101))) (aCons (fC (.str "~")) (aCons (fC (.int 7)) (aCons (fC (.str "A z")) aNil))))))))))))))) := (s_set (i := 10) nd (v_lst (a_cons v_non (a_cons v_bl (a_cons v_bl (a_cons v_int (a_cons (v_neg v_int) (a_cons v_int (a_cons v_str (a_cons v_str (a_cons (v_mulA v_str v_int) (a_cons v_str (a_cons v_int (a_cons v_str a_nil))))))))))))))
  have S7 : PS (cxF P w T base ["script", "fields", "schema", "stream", "parts", "leaf", "column", "due", "k", "levels", "values", "value", "kind"] "law" (defScope s_law) f cdv A outer s H E) ((defBody s_law).getD 7 (.Pass ⟨0, 0, 0, 0⟩)) (rdS (tx (cxF P w T base ["script", "fields", "schema", "stream", "parts", "leaf", "column", "due", "k", "levels", "values", "value", "kind"] "law" (defScope s_law) f cdv A outer s H E)) (WF E) (sSet 11 (fBin gIx (fVar 10) (fCB o__law_next (aCons (fVar 3) (aCons (fC (.int 12)) aNil)))))) := (s_set (i := 11) nd (v_ix (v_var (i := 10)) (v_call G__law_next (hr.mono (by omega)) tk (a_cons (v_var (i := 3)) (a_cons v_int a_nil)) (al_cons (al_cons al_nil)))))
  have S8 : PS (cxF P w T base ["script", "fields", "schema", "stream", "parts", "leaf", "column", "due", "k", "levels", "values", "value", "kind"] "law" (defScope s_law) f cdv A outer s H E) ((defBody s_law).getD 8 (.Pass ⟨0, 0, 0, 0⟩)) (rdS (tx (cxF P w T base ["script", "fields", "schema", "stream", "parts", "leaf", "column", "due", "k", "levels", "values", "value", "kind"] "law" (defScope s_law) f cdv A outer s H E)) (WF E) (sSet 7 (fLst (aCons (fAnd (fCB o__law_is_integer (aCons (fVar 11) aNil)) (fBin gLt (fVar 11) (fC (.int 2147483648)))) (aCons (fAnd (fCB bIsi (aCons (fVar 11) (aCons (fC (.ty "str")) aNil))) (fAnd (fBin gLt (fCB bLen (aCons (fVar 11) aNil)) (fC (.int 101))) (fBin gNe (fVar 11) (fC (.str "~"))))) (aCons (fCB bIsi (aCons (fVar 11) (aCons (fC (.ty "bool")) aNil))) aNil)))))) := (s_set (i := 7) nd (v_lst (a_cons (v_and (v_call G__law_is_integer (hr.mono (by omega)) tk (a_cons (v_var (i := 11)) a_nil) (al_cons al_nil)) (v_one (v_cmp (nomark _) cm_lt (v_var (i := 11)) v_int))) (a_cons (v_and (v_blt (cb_isi) t.b_isinstance bb_isinstance (a_cons (v_var (i := 11)) (a_cons (v_bty rfl t.b_str bb_str) a_nil))) (v_and (v_cmp (nomark _) cm_lt (v_blt (cb_len) t.b_len bb_len (a_cons (v_var (i := 11)) a_nil)) v_int) (v_one (v_cmp (nomark _) (cm_ne hr) (v_var (i := 11)) v_str)))) (a_cons (v_blt (cb_isi) t.b_isinstance bb_isinstance (a_cons (v_var (i := 11)) (a_cons (v_bty rfl t.b_bool bb_bool) a_nil))) a_nil)))))
  have S9 : PS (cxF P w T base ["script", "fields", "schema", "stream", "parts", "leaf", "column", "due", "k", "levels", "values", "value", "kind"] "law" (defScope s_law) f cdv A outer s H E) ((defBody s_law).getD 9 (.Pass ⟨0, 0, 0, 0⟩)) (rdS (tx (cxF P w T base ["script", "fields", "schema", "stream", "parts", "leaf", "column", "due", "k", "levels", "values", "value", "kind"] "law" (defScope s_law) f cdv A outer s H E)) (WF E) (sRet (fCB (iso o__law_same) (aCons (fLc [12] (.nm 12) (iAll (fLst (aCons (fC (.str "int")) (aCons (fC (.str "text")) (aCons (fC (.str "flag")) aNil))))) tTrue (e_law_0)) (aCons (fVar 7) aNil))))) := (s_ret (v_call (FnG.iso G__law_same) (hr.mono (by omega)) tk (a_cons (v_lc (own := [("kind", 12)]) (p := (.nm 12)) (by decide) rfl nd (i_all (v_lst (a_cons v_str (a_cons v_str (a_cons v_str a_nil))))) (blkOk_by (N := ["script", "fields", "schema", "stream", "parts", "leaf", "column", "due", "k", "levels", "values", "value", "kind"]) (sc := defScope s_law) (by decide +kernel)) (fun _ _ _ _ _ => (g_nm (i := 12) nd)) (fun _ _ _ _ _ => ts_nil) (fun _ _ _ _ _ => (v_call G_is_value (hr.mono (by omega)) tk0 (a_cons (v_var (i := 11)) (a_cons (v_var (i := 12)) a_nil)) (al_cons (al_cons al_nil))))) (a_cons (v_var (i := 7)) a_nil)) (al_cons (al_cons al_nil))))
  exact (ss_cons S0 (ss_cons S1 (ss_cons S2 (ss_cons S3 (ss_cons S4 (ss_cons S5 (ss_cons S6 (ss_cons S7 (ss_cons S8 (ss_one S9))))))))))
end

end K14
set_option Elab.async false
set_option linter.all false
set_option maxRecDepth 100000
set_option maxHeartbeats 4000000
namespace K14
open PySem PySem.Spec L2 FR
set_option autoImplicit false
open PU
def VALS : List D := [.non, .bl true, .bl false, .int 0, .int (-2147483648), .int 2147483648, .str "", .str "a@b", .str (Txt.mul "a" 101), .str "~", .int 7, .str "A z"]
def Tail : FS := (sSeq (sSet 7 (fLst (aCons (fAnd (fCB o__law_is_integer (aCons (fVar 11) aNil)) (fBin gLt (fVar 11) (fC (.int 2147483648)))) (aCons (fAnd (fCB bIsi (aCons (fVar 11) (aCons (fC (.ty "str")) aNil))) (fAnd (fBin gLt (fCB bLen (aCons (fVar 11) aNil)) (fC (.int 101))) (fBin gNe (fVar 11) (fC (.str "~"))))) (aCons (fCB bIsi (aCons (fVar 11) (aCons (fC (.ty "bool")) aNil))) aNil)))))
    (sRet (fCB (iso o__law_same) (aCons (fLc [12] (.nm 12) (iAll (fLst (aCons (fC (.str "int")) (aCons (fC (.str "text")) (aCons (fC (.str "flag")) aNil))))) tTrue (e_law_0)) (aCons (fVar 7) aNil)))))
theorem tail_t {u : Nat} (hu : u < 12) {x0 x1 x2 x3 x4 x5 x6 x7 x8 x9 x10 : Option D} {m : List O} : ∃ d, VALS[u]? = some d ∧ Tail [x0, x1, x2, x3, x4, x5, x6, x7, x8, x9, x10, some d, none] m = .ok (.rt (.bl true)) m := by
  have : u = 0 ∨ u = 1 ∨ u = 2 ∨ u = 3 ∨ u = 4 ∨ u = 5 ∨ u = 6 ∨ u = 7 ∨ u = 8 ∨ u = 9 ∨ u = 10 ∨ u = 11 := by omega
  rcases this with rfl | rfl | rfl | rfl | rfl | rfl | rfl | rfl | rfl | rfl | rfl | rfl <;> refine ⟨_, rfl, ?_⟩ <;> kernel_rfl
theorem vals_t {r : Lc} {m : List O} : (fLst (aCons (fC .non) (aCons (fC (.bl true)) (aCons (fC (.bl false)) (aCons (fC (.int 0)) (aCons (fUn gNeg (fC (.int 2147483648))) (aCons (fC (.int 2147483648)) (aCons (fC (.str "")) (aCons (fC (.str "a@b")) (aCons (fBin gMul (fC (.str "a")) (fC (.int 101))) (aCons (fC (.str "~")) (aCons (fC (.int 7)) (aCons (fC (.str "A z")) aNil))))))))))))) r m = .ok (.lst VALS) m := by
  kernel_rfl
theorem adm_turn {F : Fs} (h : Sch F) {i : Nat} {w : List Stp} {K : Kd} (L : Lf F i w K) {c : Col} (hc : ColOk c) {k : Nat} (hk : k < c.length) {x0 x3 x4 x7 x10 x11 x12 : Option D} {m : List O} :
    f_law_0 [x0, some (.tup (encF F)), some (SC F), x3, x4, some (.int (i : Nat)), some (encC c), x7, some (.int (k : Nat)), none, x10, x11, x12] m = .ok (.nx [x0, some (.tup (encF F)), some (SC F), x3, x4, some (.int (i : Nat)), some (encC c), x7, none, none, x10, x11, x12]) m := by
  have ha := adm_t h L hc rfl hk (m := m)
  have ho : iso o__law_own [SC F, .tup (encF F), .int (i : Nat), encC c, .int (k : Nat)] m = .ok (.bl (adm w K c k)) m := iso_val (by simp [noLocs, noLoc, encF_nl, encC_nl, sc_nlt h]) (own_t h L hc hk) rfl
  unfold f_law_0
  simp_arith [ha, ho, same_B]
theorem leaf_turn {ds : List D} {p : Nat} (g : Dg ds) {F : Fs} (h : Sch F) {ps : List (Option Col)} (hl : ps.length = nF F) (hp : ∀ q ∈ ps, PtOk q) {i : Nat} (hi : i < ps.length) {x0 x10 x11 x12 : Option D} {m : List O} (hs : SO p m) :
    ∃ m', f_law_1 [x0, some (.tup (encF F)), some (SC F), some (SD ds p), some (encPs ps), some (.int (i : Nat)), none, none, none, none, x10, x11, x12] m = .ok (.nx [x0, some (.tup (encF F)), some (SC F), some (SD ds p), some (encPs ps), none, none, none, none, none, x10, x11, x12]) m' ∧ SO p m' ∧ FrB p m m' := by
  obtain ⟨q, hq⟩ : ∃ q, ps[i]? = some q := ⟨_, List.getElem?_eq_getElem hi⟩
  have ei : gIx (encPs ps) (.int (i : Nat)) m = .ok (encP q) m := ix_map hq
  have hwl : (wys F).length = nF F := wsF_len F 0 0
  obtain ⟨⟨w, K⟩, hw⟩ : ∃ q, (wys F)[i]? = some q := ⟨_, List.getElem?_eq_getElem (by omega)⟩
  have L : Lf F i w K := ⟨hw⟩
  cases q with
  | none =>
    refine ⟨m, ?_, hs, .rfl'⟩
    have ei' : gIx (encPs ps) (.int (i : Nat)) m = .ok .non m := ei
    unfold f_law_1
    simp_arith [ei']
  | some c =>
    have hc := hp _ (List.mem_of_getElem? hq) c rfl
    have ei' : gIx (encPs ps) (.int (i : Nat)) m = .ok (encC c) m := ei
    obtain ⟨a, m1, ha, e1, s1, f1⟩ := next_l g (n := 4) (i := 4) rfl (by omega) hs
    obtain ⟨b, m2, hb, e2, s2, f2⟩ := next_l g (n := 4) (i := 4) rfl (by omega) s1
    have hnn : FR.isNon (encC c) = false := rfl
    have hbl : bLen [encC c] m = .ok (.int (c.length : Nat)) m := by unfold encC; rw [y_lenT, List.length_map]
    have hr : iRg [.int (c.length : Nat)] m = .ok ((List.range c.length).map fun k => D.int (k : Nat)) m := iRg_n rfl (by have := hc.len; omega)
    have hf : forL (.nm 8) f_law_0 ((List.range c.length).map fun k => D.int (k : Nat)) [x0, some (.tup (encF F)), some (SC F), some (SD ds p), some (encPs ps), some (.int (i : Nat)), some (encC c), some (encN (ffC w K c)), none, none, x10, x11, x12] m = .ok (.nx [x0, some (.tup (encF F)), some (SC F), some (SD ds p), some (encPs ps), some (.int (i : Nat)), some (encC c), some (encN (ffC w K c)), none, none, x10, x11, x12]) m :=
      forL_skip (enc := fun (k : Nat) => D.int (k : Nat)) _ fun k hk => ⟨_, rfl, adm_turn h L hc (List.mem_range.mp hk)⟩
    have hsl : (skl a b c).length ≤ 100000 := by have := skl_len (k := a) (d := b) (c := c); have := hc.len; omega
    refine ⟨m2, ?_, s2, f1.trans f2⟩
    unfold f_law_1
    simp_arith [ei', hnn, lfault_i h L hc, first_t h L hc, same_N, hbl, hr, hf, e1, e2, skel_t hc.len, bones_i hc.len, same_S hsl]
theorem pure_law (ns : List Int) (hns : ns.length ≤ 63) : ∃ m, o_law [.scr ns] [] = .ok (.bl true) m := by
  obtain ⟨F, h, hpos, es⟩ := schema_t ns (i := 0) (by omega)
  obtain ⟨ds, p, m1, g, e1, s1⟩ := stream_t ns (first := 5) (count := 24) (by omega) (by omega) (by omega) []
  obtain ⟨d2, m2, e2, s2, _, rs, rfl, hrl, hrw⟩ := records_t g h (i := 4) (k := 4) rfl (by omega) m1 s1
  have e3 := lcols_i h hrw (by omega) (m := m2)
  obtain ⟨d4, m4, e4, s4, _, ps, rfl, hpl, hpo⟩ := turned_t g h (cols := wRecs F rs) (wRecs_len rs) hpos (fun c hc => by
    have := wRecs_ok h.h hrw c hc
    exact ⟨by omega, this.2⟩) m2 s2
  have hn : nF F ≤ 12 := by
    have := wys_le h
    rw [show (wys F).length = nF F from wsF_len F 0 0] at this; exact this
  have hbl : bLen [encPs ps] m4 = .ok (.int (ps.length : Nat)) m4 := by unfold encPs; rw [y_lenT, List.length_map]
  have hr : iRg [.int (ps.length : Nat)] m4 = .ok ((List.range ps.length).map fun k => D.int (k : Nat)) m4 := iRg_n rfl (by omega)
  obtain ⟨m5, e5, s5, _⟩ := forL_draw (p := p) (pt := .nm 5) (body := f_law_1) (r := [some (.scr ns), some (.tup (encF F)), some (SC F), some (SD ds p), some (encPs ps), none, none, none, none, none, none, none, none]) (enc := fun (k : Nat) => D.int (k : Nat)) (List.range ps.length) (fun k hk => ⟨_, rfl, fun m hm => leaf_turn g h hpl hpo (List.mem_range.mp hk) hm⟩) m4 s4
  obtain ⟨u, m6, hu, e6, s6, _⟩ := next_l g (n := 12) (i := 12) rfl (by omega) s5
  obtain ⟨dv, hv, et⟩ := tail_t hu (x0 := some (.scr ns)) (x1 := some (.tup (encF F))) (x2 := some (SC F)) (x3 := some (SD ds p)) (x4 := some (encPs ps)) (x5 := none) (x6 := none) (x7 := none) (x8 := none) (x9 := none) (x10 := some (.lst VALS)) (m := m6)
  have ev_ : gIx (.lst VALS) (.int (u : Nat)) m6 = .ok dv m6 := by rw [y_ixL, w_atN, hv]
  refine ⟨m6, ?_⟩
  rw [u_law]
  have em : fMakeI "Schema" o_Schema (aCons (fVar 1) aNil) [some (.scr ns), some (.tup (encF F)), none, none, none, none, none, none, none, none, none, none, none] [] = .ok (SC F) [] := make_t h rfl
  unfold b_law
  show fin (sSeq _ (sSeq _ (sSeq _ (sSeq _ (sSeq _ (sSeq _ (sSeq _ (sSeq _ Tail))))))) _ _) = _
  simp_arith [es, ↓em, e1, e2, e3, e4, hbl, hr, e5, ↓vals_t, e6, ev_, et]

end K14
set_option Elab.async false
set_option linter.all false
set_option maxRecDepth 100000
set_option maxHeartbeats 4000000
namespace K14
open PySem PySem.Spec L2 FR PU
/-! ### the head -/
def hFn : List He.DefD := [
  ⟨("Schema", some "__init__"), "__init__", "Schema.__init__", defArgs s_Schema___init__, defBody s_Schema___init__, defScope s_Schema___init__, [], []⟩,
  ⟨("start_of", none), "start_of", "start_of", defArgs s_start_of, defBody s_start_of, defScope s_start_of, [], []⟩,
  ⟨("ways_within", none), "ways_within", "ways_within", defArgs s_ways_within, defBody s_ways_within, defScope s_ways_within, [], []⟩,
  ⟨("step_below", none), "step_below", "step_below", defArgs s_step_below, defBody s_step_below, defScope s_step_below, [], []⟩,
  ⟨("levels_below", none), "levels_below", "levels_below", defArgs s_levels_below, defBody s_levels_below, defScope s_levels_below, [], []⟩,
  ⟨("leaf_of", none), "leaf_of", "leaf_of", defArgs s_leaf_of, defBody s_leaf_of, defScope s_leaf_of, [], []⟩,
  ⟨("check_fields", none), "check_fields", "check_fields", defArgs s_check_fields, defBody s_check_fields, defScope s_check_fields, [], []⟩,
  ⟨("check_field", none), "check_field", "check_field", defArgs s_check_field, defBody s_check_field, defScope s_check_field, [], []⟩,
  ⟨("is_name", none), "is_name", "is_name", defArgs s_is_name, defBody s_is_name, defScope s_is_name, [], []⟩,
  ⟨("is_value", none), "is_value", "is_value", defArgs s_is_value, defBody s_is_value, defScope s_is_value, [], []⟩,
  ⟨("is_entry", none), "is_entry", "is_entry", defArgs s_is_entry, defBody s_is_entry, defScope s_is_entry, [], []⟩,
  ⟨("is_level", none), "is_level", "is_level", defArgs s_is_level, defBody s_is_level, defScope s_is_level, [], []⟩,
  ⟨("is_admissible", none), "is_admissible", "is_admissible", defArgs s_is_admissible, defBody s_is_admissible, defScope s_is_admissible, [], []⟩,
  ⟨("continues_list", none), "continues_list", "continues_list", defArgs s_continues_list, defBody s_continues_list, defScope s_continues_list, [], []⟩,
  ⟨("first_fault", none), "first_fault", "first_fault", defArgs s_first_fault, defBody s_first_fault, defScope s_first_fault, [], []⟩,
  ⟨("skeleton", none), "skeleton", "skeleton", defArgs s_skeleton, defBody s_skeleton, defScope s_skeleton, [], []⟩,
  ⟨("_law_cell", none), "_law_cell", "_law_cell", defArgs s__law_cell, defBody s__law_cell, defScope s__law_cell, [], []⟩,
  ⟨("_law_draws", none), "_law_draws", "_law_draws", defArgs s__law_draws, defBody s__law_draws, defScope s__law_draws, [], []⟩,
  ⟨("_law_stream", none), "_law_stream", "_law_stream", defArgs s__law_stream, defBody s__law_stream, defScope s__law_stream, [], []⟩,
  ⟨("_law_next", none), "_law_next", "_law_next", defArgs s__law_next, defBody s__law_next, defScope s__law_next, [], []⟩,
  ⟨("_law_is_integer", none), "_law_is_integer", "_law_is_integer", defArgs s__law_is_integer, defBody s__law_is_integer, defScope s__law_is_integer, [], []⟩,
  ⟨("_law_same", none), "_law_same", "_law_same", defArgs s__law_same, defBody s__law_same, defScope s__law_same, [], []⟩,
  ⟨("_law_fields", none), "_law_fields", "_law_fields", defArgs s__law_fields, defBody s__law_fields, defScope s__law_fields, [], []⟩,
  ⟨("_law_leaf_count", none), "_law_leaf_count", "_law_leaf_count", defArgs s__law_leaf_count, defBody s__law_leaf_count, defScope s__law_leaf_count, [], []⟩,
  ⟨("_law_schema", none), "_law_schema", "_law_schema", defArgs s__law_schema, defBody s__law_schema, defScope s__law_schema, [], []⟩,
  ⟨("_law_text", none), "_law_text", "_law_text", defArgs s__law_text, defBody s__law_text, defScope s__law_text, [], []⟩,
  ⟨("_law_leaf_value", none), "_law_leaf_value", "_law_leaf_value", defArgs s__law_leaf_value, defBody s__law_leaf_value, defScope s__law_leaf_value, [], []⟩,
  ⟨("_law_occurrence", none), "_law_occurrence", "_law_occurrence", defArgs s__law_occurrence, defBody s__law_occurrence, defScope s__law_occurrence, [], []⟩,
  ⟨("_law_record", none), "_law_record", "_law_record", defArgs s__law_record, defBody s__law_record, defScope s__law_record, [], []⟩,
  ⟨("_law_records", none), "_law_records", "_law_records", defArgs s__law_records, defBody s__law_records, defScope s__law_records, [], []⟩,
  ⟨("_law_ways", none), "_law_ways", "_law_ways", defArgs s__law_ways, defBody s__law_ways, defScope s__law_ways, [], []⟩,
  ⟨("_law_leaves", none), "_law_leaves", "_law_leaves", defArgs s__law_leaves, defBody s__law_leaves, defScope s__law_leaves, [], []⟩,
  ⟨("_law_write", none), "_law_write", "_law_write", defArgs s__law_write, defBody s__law_write, defScope s__law_write, [], []⟩,
  ⟨("_law_write_record", none), "_law_write_record", "_law_write_record", defArgs s__law_write_record, defBody s__law_write_record, defScope s__law_write_record, [], []⟩,
  ⟨("_law_columns", none), "_law_columns", "_law_columns", defArgs s__law_columns, defBody s__law_columns, defScope s__law_columns, [], []⟩,
  ⟨("_law_fits_kind", none), "_law_fits_kind", "_law_fits_kind", defArgs s__law_fits_kind, defBody s__law_fits_kind, defScope s__law_fits_kind, [], []⟩,
  ⟨("_law_fault", none), "_law_fault", "_law_fault", defArgs s__law_fault, defBody s__law_fault, defScope s__law_fault, [], []⟩,
  ⟨("_law_bones", none), "_law_bones", "_law_bones", defArgs s__law_bones, defBody s__law_bones, defScope s__law_bones, [], []⟩,
  ⟨("_law_turned", none), "_law_turned", "_law_turned", defArgs s__law_turned, defBody s__law_turned, defScope s__law_turned, [], []⟩,
  ⟨("_law_own", none), "_law_own", "_law_own", defArgs s__law_own, defBody s__law_own, defScope s__law_own, [], []⟩,
  ⟨("law", none), "law", "law", defArgs s_law, defBody s_law, defScope s_law, [], []⟩]
def hFa : List He.Fa := [
  .noat "Schema" "fields",
  .noat "Schema" "leaves",
  .noat "Schema" "ways",
  .free "abs",
  .free "all",
  .free "any",
  .free "bool",
  .free "dict",
  .free "int",
  .free "isinstance",
  .free "len",
  .free "list",
  .free "min",
  .free "range",
  .free "str",
  .free "sum",
  .free "tuple",
  .free "type",
  .glo "BadSchema",
  .exc "BadSchema",
  .glo "_law_bones",
  .glo "_law_cell",
  .glo "_law_columns",
  .glo "_law_draws",
  .glo "_law_fault",
  .glo "_law_fields",
  .glo "_law_fits_kind",
  .glo "_law_is_integer",
  .glo "_law_leaf_count",
  .glo "_law_leaf_value",
  .glo "_law_leaves",
  .glo "_law_next",
  .glo "_law_occurrence",
  .glo "_law_own",
  .glo "_law_record",
  .glo "_law_records",
  .glo "_law_same",
  .glo "_law_schema",
  .glo "_law_stream",
  .glo "_law_text",
  .glo "_law_turned",
  .glo "_law_ways",
  .glo "_law_write",
  .glo "_law_write_record",
  .glo "check_field",
  .glo "check_fields",
  .glo "continues_list",
  .glo "first_fault",
  .glo "is_admissible",
  .glo "is_entry",
  .glo "is_level",
  .glo "is_name",
  .glo "is_value",
  .glo "leaf_of",
  .glo "levels_below",
  .glo "skeleton",
  .glo "start_of",
  .glo "step_below",
  .glo "ways_within",
  .glo "Schema",
  .cls "Schema",
  .mkr "Schema",
  .glo "law"]
def hXs : List Fx := [
  .con "GREATEST_INTEGER" c_GREATEST_INTEGER,
  .con "GREATEST_LEVEL" c_GREATEST_LEVEL,
  .con "KINDS" c_KINDS,
  .con "LEAST_INTEGER" c_LEAST_INTEGER,
  .con "LETTERS" c_LETTERS,
  .con "LONGEST_NAME" c_LONGEST_NAME,
  .con "LONGEST_TEXT" c_LONGEST_TEXT,
  .con "MOST_DEEP" c_MOST_DEEP,
  .con "MOST_LEAVES" c_MOST_LEAVES,
  .con "NAME_SIGNS" c_NAME_SIGNS,
  .con "RULES" c_RULES,
  .con "SIGNS" c_SIGNS,
  .con "WHOLE_RECORD" c_WHOLE_RECORD]
abbrev R : PySem.W.OpenRow := PySem.W.OpenLaw.row PySem.Challenge.rw_columnkin_k14_admissible_entries
abbrev hk : PySem.W.Hook := hookY 6 hFa hFn hXs
def loose : List Str := ("_wall" : Str) :: ("KinError" : Str) :: ("BadSchema" : Str) :: ("KINDS" : Str) :: ("RULES" : Str) :: ("LETTERS" : Str) :: ("NAME_SIGNS" : Str) :: ("LONGEST_NAME" : Str) :: ("MOST_DEEP" : Str) :: ("MOST_LEAVES" : Str) :: ("WHOLE_RECORD" : Str) :: ("Schema" : Str) :: ("start_of" : Str) :: ("ways_within" : Str) :: ("step_below" : Str) :: ("levels_below" : Str) :: ("leaf_of" : Str) :: ("check_fields" : Str) :: ("check_field" : Str) :: ("is_name" : Str) :: ("SIGNS" : Str) :: ("LONGEST_TEXT" : Str) :: ("LEAST_INTEGER" : Str) :: ("GREATEST_INTEGER" : Str) :: ("GREATEST_LEVEL" : Str) :: ("is_value" : Str) :: ("is_entry" : Str) :: ("is_level" : Str) :: ("is_admissible" : Str) :: ("continues_list" : Str) :: ("first_fault" : Str) :: ("skeleton" : Str) :: ("_law_cell" : Str) :: ("_law_draws" : Str) :: ("_law_stream" : Str) :: ("_law_next" : Str) :: ("_law_is_integer" : Str) :: ("_law_same" : Str) :: ("_law_fields" : Str) :: ("_law_leaf_count" : Str) :: ("_law_schema" : Str) :: ("_law_text" : Str) :: ("_law_leaf_value" : Str) :: ("_law_occurrence" : Str) :: ("_law_record" : Str) :: ("_law_records" : Str) :: ("_law_ways" : Str) :: ("_law_leaves" : Str) :: ("_law_write" : Str) :: ("_law_write_record" : Str) :: ("_law_columns" : Str) :: ("_law_fits_kind" : Str) :: ("_law_fault" : Str) :: ("_law_bones" : Str) :: ("_law_turned" : Str) :: ("_law_own" : Str) :: []
theorem run (w : World) : HandSHeadRun.RunEq R (PySem.W.view R.prog [60]) hk (obY 6 hFa hFn hXs) 9000 loose w := by
  intro os
  kernel_rfl
theorem facts {P : Program} {w : World} {K : PySem.W.Frag} {h : Heap} {mg : Str → Option Value} {f : Addr} (KX : K.In h) (G : h.Ns mainGlobals mg) (hfa : mg ("law" : Str) = some (.ref f)) (cc : He.SaysD hFa hFn K) (cx : (hXs.all fun z => z.ok K) = true) :
    ∃ fd : FuncData, (∀ (s : Shared) (u : Value), BindsTo s fd ⟨[u], []⟩ [("script", u)]) ∧ ∀ base : Heap, FnOk P w K mg base (L2.CX P w) 18 f fd ["script"] (spF ⟨K, mg⟩ 1 o_law) := by
  obtain ⟨fd_Schema___init__, F_Schema___init__⟩ := cc.def_ 0 (d := ⟨("Schema", some "__init__"), "__init__", "Schema.__init__", defArgs s_Schema___init__, defBody s_Schema___init__, defScope s_Schema___init__, [], []⟩) rfl
  have F_Schema___init__ : L2.Fun K "__init__" "Schema.__init__" s_Schema___init__ (He.ma K (He.ga K "Schema") "__init__") fd_Schema___init__ := funOf F_Schema___init__
  have B_Schema___init__ := F_Schema___init__.binds (ps := ["self", "fields"]) fun _ _ _ _ _ _ us hl => match us, hl with | [_, _], _ => rfl
  obtain ⟨fd_start_of, F_start_of⟩ := cc.def_ 1 (d := ⟨("start_of", none), "start_of", "start_of", defArgs s_start_of, defBody s_start_of, defScope s_start_of, [], []⟩) rfl
  have F_start_of : L2.Fun K "start_of" "start_of" s_start_of (He.ga K "start_of") fd_start_of := funOf F_start_of
  have B_start_of := F_start_of.binds (ps := ["schema", "leaf", "number"]) fun _ _ _ _ _ _ us hl => match us, hl with | [_, _, _], _ => rfl
  obtain ⟨fd_ways_within, F_ways_within⟩ := cc.def_ 2 (d := ⟨("ways_within", none), "ways_within", "ways_within", defArgs s_ways_within, defBody s_ways_within, defScope s_ways_within, [], []⟩) rfl
  have F_ways_within : L2.Fun K "ways_within" "ways_within" s_ways_within (He.ga K "ways_within") fd_ways_within := funOf F_ways_within
  have B_ways_within := F_ways_within.binds (ps := ["fields", "around"]) fun _ _ _ _ _ _ us hl => match us, hl with | [_, _], _ => rfl
  obtain ⟨fd_step_below, F_step_below⟩ := cc.def_ 3 (d := ⟨("step_below", none), "step_below", "step_below", defArgs s_step_below, defBody s_step_below, defScope s_step_below, [], []⟩) rfl
  have F_step_below : L2.Fun K "step_below" "step_below" s_step_below (He.ga K "step_below") fd_step_below := funOf F_step_below
  have B_step_below := F_step_below.binds (ps := ["step", "name", "rule"]) fun _ _ _ _ _ _ us hl => match us, hl with | [_, _, _], _ => rfl
  obtain ⟨fd_levels_below, F_levels_below⟩ := cc.def_ 4 (d := ⟨("levels_below", none), "levels_below", "levels_below", defArgs s_levels_below, defBody s_levels_below, defScope s_levels_below, [], []⟩) rfl
  have F_levels_below : L2.Fun K "levels_below" "levels_below" s_levels_below (He.ga K "levels_below") fd_levels_below := funOf F_levels_below
  have B_levels_below := F_levels_below.binds (ps := ["repetition", "definition", "rule"]) fun _ _ _ _ _ _ us hl => match us, hl with | [_, _, _], _ => rfl
  obtain ⟨fd_leaf_of, F_leaf_of⟩ := cc.def_ 5 (d := ⟨("leaf_of", none), "leaf_of", "leaf_of", defArgs s_leaf_of, defBody s_leaf_of, defScope s_leaf_of, [], []⟩) rfl
  have F_leaf_of : L2.Fun K "leaf_of" "leaf_of" s_leaf_of (He.ga K "leaf_of") fd_leaf_of := funOf F_leaf_of
  have B_leaf_of := F_leaf_of.binds (ps := ["step", "kind"]) fun _ _ _ _ _ _ us hl => match us, hl with | [_, _], _ => rfl
  obtain ⟨fd_check_fields, F_check_fields⟩ := cc.def_ 6 (d := ⟨("check_fields", none), "check_fields", "check_fields", defArgs s_check_fields, defBody s_check_fields, defScope s_check_fields, [], []⟩) rfl
  have F_check_fields : L2.Fun K "check_fields" "check_fields" s_check_fields (He.ga K "check_fields") fd_check_fields := funOf F_check_fields
  have B_check_fields := F_check_fields.binds (ps := ["fields"]) fun _ _ _ _ _ _ us hl => match us, hl with | [_], _ => rfl
  obtain ⟨fd_check_field, F_check_field⟩ := cc.def_ 7 (d := ⟨("check_field", none), "check_field", "check_field", defArgs s_check_field, defBody s_check_field, defScope s_check_field, [], []⟩) rfl
  have F_check_field : L2.Fun K "check_field" "check_field" s_check_field (He.ga K "check_field") fd_check_field := funOf F_check_field
  have B_check_field := F_check_field.binds (ps := ["field"]) fun _ _ _ _ _ _ us hl => match us, hl with | [_], _ => rfl
  obtain ⟨fd_is_name, F_is_name⟩ := cc.def_ 8 (d := ⟨("is_name", none), "is_name", "is_name", defArgs s_is_name, defBody s_is_name, defScope s_is_name, [], []⟩) rfl
  have F_is_name : L2.Fun K "is_name" "is_name" s_is_name (He.ga K "is_name") fd_is_name := funOf F_is_name
  have B_is_name := F_is_name.binds (ps := ["name"]) fun _ _ _ _ _ _ us hl => match us, hl with | [_], _ => rfl
  obtain ⟨fd_is_value, F_is_value⟩ := cc.def_ 9 (d := ⟨("is_value", none), "is_value", "is_value", defArgs s_is_value, defBody s_is_value, defScope s_is_value, [], []⟩) rfl
  have F_is_value : L2.Fun K "is_value" "is_value" s_is_value (He.ga K "is_value") fd_is_value := funOf F_is_value
  have B_is_value := F_is_value.binds (ps := ["value", "kind"]) fun _ _ _ _ _ _ us hl => match us, hl with | [_, _], _ => rfl
  obtain ⟨fd_is_entry, F_is_entry⟩ := cc.def_ 10 (d := ⟨("is_entry", none), "is_entry", "is_entry", defArgs s_is_entry, defBody s_is_entry, defScope s_is_entry, [], []⟩) rfl
  have F_is_entry : L2.Fun K "is_entry" "is_entry" s_is_entry (He.ga K "is_entry") fd_is_entry := funOf F_is_entry
  have B_is_entry := F_is_entry.binds (ps := ["entry"]) fun _ _ _ _ _ _ us hl => match us, hl with | [_], _ => rfl
  obtain ⟨fd_is_level, F_is_level⟩ := cc.def_ 11 (d := ⟨("is_level", none), "is_level", "is_level", defArgs s_is_level, defBody s_is_level, defScope s_is_level, [], []⟩) rfl
  have F_is_level : L2.Fun K "is_level" "is_level" s_is_level (He.ga K "is_level") fd_is_level := funOf F_is_level
  have B_is_level := F_is_level.binds (ps := ["level"]) fun _ _ _ _ _ _ us hl => match us, hl with | [_], _ => rfl
  obtain ⟨fd_is_admissible, F_is_admissible⟩ := cc.def_ 12 (d := ⟨("is_admissible", none), "is_admissible", "is_admissible", defArgs s_is_admissible, defBody s_is_admissible, defScope s_is_admissible, [], []⟩) rfl
  have F_is_admissible : L2.Fun K "is_admissible" "is_admissible" s_is_admissible (He.ga K "is_admissible") fd_is_admissible := funOf F_is_admissible
  have B_is_admissible := F_is_admissible.binds (ps := ["schema", "leaf", "column", "index"]) fun _ _ _ _ _ _ us hl => match us, hl with | [_, _, _, _], _ => rfl
  obtain ⟨fd_continues_list, F_continues_list⟩ := cc.def_ 13 (d := ⟨("continues_list", none), "continues_list", "continues_list", defArgs s_continues_list, defBody s_continues_list, defScope s_continues_list, [], []⟩) rfl
  have F_continues_list : L2.Fun K "continues_list" "continues_list" s_continues_list (He.ga K "continues_list") fd_continues_list := funOf F_continues_list
  have B_continues_list := F_continues_list.binds (ps := ["schema", "leaf", "column", "index"]) fun _ _ _ _ _ _ us hl => match us, hl with | [_, _, _, _], _ => rfl
  obtain ⟨fd_first_fault, F_first_fault⟩ := cc.def_ 14 (d := ⟨("first_fault", none), "first_fault", "first_fault", defArgs s_first_fault, defBody s_first_fault, defScope s_first_fault, [], []⟩) rfl
  have F_first_fault : L2.Fun K "first_fault" "first_fault" s_first_fault (He.ga K "first_fault") fd_first_fault := funOf F_first_fault
  have B_first_fault := F_first_fault.binds (ps := ["schema", "leaf", "column"]) fun _ _ _ _ _ _ us hl => match us, hl with | [_, _, _], _ => rfl
  obtain ⟨fd_skeleton, F_skeleton⟩ := cc.def_ 15 (d := ⟨("skeleton", none), "skeleton", "skeleton", defArgs s_skeleton, defBody s_skeleton, defScope s_skeleton, [], []⟩) rfl
  have F_skeleton : L2.Fun K "skeleton" "skeleton" s_skeleton (He.ga K "skeleton") fd_skeleton := funOf F_skeleton
  have B_skeleton := F_skeleton.binds (ps := ["column", "repetition", "definition"]) fun _ _ _ _ _ _ us hl => match us, hl with | [_, _, _], _ => rfl
  obtain ⟨fd__law_cell, F__law_cell⟩ := cc.def_ 16 (d := ⟨("_law_cell", none), "_law_cell", "_law_cell", defArgs s__law_cell, defBody s__law_cell, defScope s__law_cell, [], []⟩) rfl
  have F__law_cell : L2.Fun K "_law_cell" "_law_cell" s__law_cell (He.ga K "_law_cell") fd__law_cell := funOf F__law_cell
  have B__law_cell := F__law_cell.binds (ps := ["script", "k"]) fun _ _ _ _ _ _ us hl => match us, hl with | [_, _], _ => rfl
  obtain ⟨fd__law_draws, F__law_draws⟩ := cc.def_ 17 (d := ⟨("_law_draws", none), "_law_draws", "_law_draws", defArgs s__law_draws, defBody s__law_draws, defScope s__law_draws, [], []⟩) rfl
  have F__law_draws : L2.Fun K "_law_draws" "_law_draws" s__law_draws (He.ga K "_law_draws") fd__law_draws := funOf F__law_draws
  have B__law_draws := F__law_draws.binds (ps := ["cell", "count"]) fun _ _ _ _ _ _ us hl => match us, hl with | [_, _], _ => rfl
  obtain ⟨fd__law_stream, F__law_stream⟩ := cc.def_ 18 (d := ⟨("_law_stream", none), "_law_stream", "_law_stream", defArgs s__law_stream, defBody s__law_stream, defScope s__law_stream, [], []⟩) rfl
  have F__law_stream : L2.Fun K "_law_stream" "_law_stream" s__law_stream (He.ga K "_law_stream") fd__law_stream := funOf F__law_stream
  have B__law_stream := F__law_stream.binds (ps := ["script", "first", "count"]) fun _ _ _ _ _ _ us hl => match us, hl with | [_, _, _], _ => rfl
  obtain ⟨fd__law_next, F__law_next⟩ := cc.def_ 19 (d := ⟨("_law_next", none), "_law_next", "_law_next", defArgs s__law_next, defBody s__law_next, defScope s__law_next, [], []⟩) rfl
  have F__law_next : L2.Fun K "_law_next" "_law_next" s__law_next (He.ga K "_law_next") fd__law_next := funOf F__law_next
  have B__law_next := F__law_next.binds (ps := ["stream", "many"]) fun _ _ _ _ _ _ us hl => match us, hl with | [_, _], _ => rfl
  obtain ⟨fd__law_is_integer, F__law_is_integer⟩ := cc.def_ 20 (d := ⟨("_law_is_integer", none), "_law_is_integer", "_law_is_integer", defArgs s__law_is_integer, defBody s__law_is_integer, defScope s__law_is_integer, [], []⟩) rfl
  have F__law_is_integer : L2.Fun K "_law_is_integer" "_law_is_integer" s__law_is_integer (He.ga K "_law_is_integer") fd__law_is_integer := funOf F__law_is_integer
  have B__law_is_integer := F__law_is_integer.binds (ps := ["actual"]) fun _ _ _ _ _ _ us hl => match us, hl with | [_], _ => rfl
  obtain ⟨fd__law_same, F__law_same⟩ := cc.def_ 21 (d := ⟨("_law_same", none), "_law_same", "_law_same", defArgs s__law_same, defBody s__law_same, defScope s__law_same, [], []⟩) rfl
  have F__law_same : L2.Fun K "_law_same" "_law_same" s__law_same (He.ga K "_law_same") fd__law_same := funOf F__law_same
  have B__law_same := F__law_same.binds (ps := ["actual", "expected"]) fun _ _ _ _ _ _ us hl => match us, hl with | [_, _], _ => rfl
  obtain ⟨fd__law_fields, F__law_fields⟩ := cc.def_ 22 (d := ⟨("_law_fields", none), "_law_fields", "_law_fields", defArgs s__law_fields, defBody s__law_fields, defScope s__law_fields, [], []⟩) rfl
  have F__law_fields : L2.Fun K "_law_fields" "_law_fields" s__law_fields (He.ga K "_law_fields") fd__law_fields := funOf F__law_fields
  have B__law_fields := F__law_fields.binds (ps := ["stream", "depth", "least"]) fun _ _ _ _ _ _ us hl => match us, hl with | [_, _, _], _ => rfl
  obtain ⟨fd__law_leaf_count, F__law_leaf_count⟩ := cc.def_ 23 (d := ⟨("_law_leaf_count", none), "_law_leaf_count", "_law_leaf_count", defArgs s__law_leaf_count, defBody s__law_leaf_count, defScope s__law_leaf_count, [], []⟩) rfl
  have F__law_leaf_count : L2.Fun K "_law_leaf_count" "_law_leaf_count" s__law_leaf_count (He.ga K "_law_leaf_count") fd__law_leaf_count := funOf F__law_leaf_count
  have B__law_leaf_count := F__law_leaf_count.binds (ps := ["kind"]) fun _ _ _ _ _ _ us hl => match us, hl with | [_], _ => rfl
  obtain ⟨fd__law_schema, F__law_schema⟩ := cc.def_ 24 (d := ⟨("_law_schema", none), "_law_schema", "_law_schema", defArgs s__law_schema, defBody s__law_schema, defScope s__law_schema, [], []⟩) rfl
  have F__law_schema : L2.Fun K "_law_schema" "_law_schema" s__law_schema (He.ga K "_law_schema") fd__law_schema := funOf F__law_schema
  have B__law_schema := F__law_schema.binds (ps := ["script", "first"]) fun _ _ _ _ _ _ us hl => match us, hl with | [_, _], _ => rfl
  obtain ⟨fd__law_text, F__law_text⟩ := cc.def_ 25 (d := ⟨("_law_text", none), "_law_text", "_law_text", defArgs s__law_text, defBody s__law_text, defScope s__law_text, [], []⟩) rfl
  have F__law_text : L2.Fun K "_law_text" "_law_text" s__law_text (He.ga K "_law_text") fd__law_text := funOf F__law_text
  have B__law_text := F__law_text.binds (ps := ["stream"]) fun _ _ _ _ _ _ us hl => match us, hl with | [_], _ => rfl
  obtain ⟨fd__law_leaf_value, F__law_leaf_value⟩ := cc.def_ 26 (d := ⟨("_law_leaf_value", none), "_law_leaf_value", "_law_leaf_value", defArgs s__law_leaf_value, defBody s__law_leaf_value, defScope s__law_leaf_value, [], []⟩) rfl
  have F__law_leaf_value : L2.Fun K "_law_leaf_value" "_law_leaf_value" s__law_leaf_value (He.ga K "_law_leaf_value") fd__law_leaf_value := funOf F__law_leaf_value
  have B__law_leaf_value := F__law_leaf_value.binds (ps := ["stream", "kind"]) fun _ _ _ _ _ _ us hl => match us, hl with | [_, _], _ => rfl
  obtain ⟨fd__law_occurrence, F__law_occurrence⟩ := cc.def_ 27 (d := ⟨("_law_occurrence", none), "_law_occurrence", "_law_occurrence", defArgs s__law_occurrence, defBody s__law_occurrence, defScope s__law_occurrence, [], []⟩) rfl
  have F__law_occurrence : L2.Fun K "_law_occurrence" "_law_occurrence" s__law_occurrence (He.ga K "_law_occurrence") fd__law_occurrence := funOf F__law_occurrence
  have B__law_occurrence := F__law_occurrence.binds (ps := ["stream", "kind"]) fun _ _ _ _ _ _ us hl => match us, hl with | [_, _], _ => rfl
  obtain ⟨fd__law_record, F__law_record⟩ := cc.def_ 28 (d := ⟨("_law_record", none), "_law_record", "_law_record", defArgs s__law_record, defBody s__law_record, defScope s__law_record, [], []⟩) rfl
  have F__law_record : L2.Fun K "_law_record" "_law_record" s__law_record (He.ga K "_law_record") fd__law_record := funOf F__law_record
  have B__law_record := F__law_record.binds (ps := ["stream", "fields"]) fun _ _ _ _ _ _ us hl => match us, hl with | [_, _], _ => rfl
  obtain ⟨fd__law_records, F__law_records⟩ := cc.def_ 29 (d := ⟨("_law_records", none), "_law_records", "_law_records", defArgs s__law_records, defBody s__law_records, defScope s__law_records, [], []⟩) rfl
  have F__law_records : L2.Fun K "_law_records" "_law_records" s__law_records (He.ga K "_law_records") fd__law_records := funOf F__law_records
  have B__law_records := F__law_records.binds (ps := ["stream", "fields", "most"]) fun _ _ _ _ _ _ us hl => match us, hl with | [_, _, _], _ => rfl
  obtain ⟨fd__law_ways, F__law_ways⟩ := cc.def_ 30 (d := ⟨("_law_ways", none), "_law_ways", "_law_ways", defArgs s__law_ways, defBody s__law_ways, defScope s__law_ways, [], []⟩) rfl
  have F__law_ways : L2.Fun K "_law_ways" "_law_ways" s__law_ways (He.ga K "_law_ways") fd__law_ways := funOf F__law_ways
  have B__law_ways := F__law_ways.binds (ps := ["fields", "way", "levels"]) fun _ _ _ _ _ _ us hl => match us, hl with | [_, _, _], _ => rfl
  obtain ⟨fd__law_leaves, F__law_leaves⟩ := cc.def_ 31 (d := ⟨("_law_leaves", none), "_law_leaves", "_law_leaves", defArgs s__law_leaves, defBody s__law_leaves, defScope s__law_leaves, [], []⟩) rfl
  have F__law_leaves : L2.Fun K "_law_leaves" "_law_leaves" s__law_leaves (He.ga K "_law_leaves") fd__law_leaves := funOf F__law_leaves
  have B__law_leaves := F__law_leaves.binds (ps := ["fields"]) fun _ _ _ _ _ _ us hl => match us, hl with | [_], _ => rfl
  obtain ⟨fd__law_write, F__law_write⟩ := cc.def_ 32 (d := ⟨("_law_write", none), "_law_write", "_law_write", defArgs s__law_write, defBody s__law_write, defScope s__law_write, [], []⟩) rfl
  have F__law_write : L2.Fun K "_law_write" "_law_write" s__law_write (He.ga K "_law_write") fd__law_write := funOf F__law_write
  have B__law_write := F__law_write.binds (ps := ["kind", "occurrences", "columns", "leaf", "numbers", "rule"]) fun _ _ _ _ _ _ us hl => match us, hl with | [_, _, _, _, _, _], _ => rfl
  obtain ⟨fd__law_write_record, F__law_write_record⟩ := cc.def_ 33 (d := ⟨("_law_write_record", none), "_law_write_record", "_law_write_record", defArgs s__law_write_record, defBody s__law_write_record, defScope s__law_write_record, [], []⟩) rfl
  have F__law_write_record : L2.Fun K "_law_write_record" "_law_write_record" s__law_write_record (He.ga K "_law_write_record") fd__law_write_record := funOf F__law_write_record
  have B__law_write_record := F__law_write_record.binds (ps := ["fields", "record", "columns", "leaf", "numbers"]) fun _ _ _ _ _ _ us hl => match us, hl with | [_, _, _, _, _], _ => rfl
  obtain ⟨fd__law_columns, F__law_columns⟩ := cc.def_ 34 (d := ⟨("_law_columns", none), "_law_columns", "_law_columns", defArgs s__law_columns, defBody s__law_columns, defScope s__law_columns, [], []⟩) rfl
  have F__law_columns : L2.Fun K "_law_columns" "_law_columns" s__law_columns (He.ga K "_law_columns") fd__law_columns := funOf F__law_columns
  have B__law_columns := F__law_columns.binds (ps := ["fields", "records"]) fun _ _ _ _ _ _ us hl => match us, hl with | [_, _], _ => rfl
  obtain ⟨fd__law_fits_kind, F__law_fits_kind⟩ := cc.def_ 35 (d := ⟨("_law_fits_kind", none), "_law_fits_kind", "_law_fits_kind", defArgs s__law_fits_kind, defBody s__law_fits_kind, defScope s__law_fits_kind, [], []⟩) rfl
  have F__law_fits_kind : L2.Fun K "_law_fits_kind" "_law_fits_kind" s__law_fits_kind (He.ga K "_law_fits_kind") fd__law_fits_kind := funOf F__law_fits_kind
  have B__law_fits_kind := F__law_fits_kind.binds (ps := ["value", "kind"]) fun _ _ _ _ _ _ us hl => match us, hl with | [_, _], _ => rfl
  obtain ⟨fd__law_fault, F__law_fault⟩ := cc.def_ 36 (d := ⟨("_law_fault", none), "_law_fault", "_law_fault", defArgs s__law_fault, defBody s__law_fault, defScope s__law_fault, [], []⟩) rfl
  have F__law_fault : L2.Fun K "_law_fault" "_law_fault" s__law_fault (He.ga K "_law_fault") fd__law_fault := funOf F__law_fault
  have B__law_fault := F__law_fault.binds (ps := ["fields", "leaf", "column"]) fun _ _ _ _ _ _ us hl => match us, hl with | [_, _, _], _ => rfl
  obtain ⟨fd__law_bones, F__law_bones⟩ := cc.def_ 37 (d := ⟨("_law_bones", none), "_law_bones", "_law_bones", defArgs s__law_bones, defBody s__law_bones, defScope s__law_bones, [], []⟩) rfl
  have F__law_bones : L2.Fun K "_law_bones" "_law_bones" s__law_bones (He.ga K "_law_bones") fd__law_bones := funOf F__law_bones
  have B__law_bones := F__law_bones.binds (ps := ["column", "repetition", "definition"]) fun _ _ _ _ _ _ us hl => match us, hl with | [_, _, _], _ => rfl
  obtain ⟨fd__law_turned, F__law_turned⟩ := cc.def_ 38 (d := ⟨("_law_turned", none), "_law_turned", "_law_turned", defArgs s__law_turned, defBody s__law_turned, defScope s__law_turned, [], []⟩) rfl
  have F__law_turned : L2.Fun K "_law_turned" "_law_turned" s__law_turned (He.ga K "_law_turned") fd__law_turned := funOf F__law_turned
  have B__law_turned := F__law_turned.binds (ps := ["stream", "fields", "parts"]) fun _ _ _ _ _ _ us hl => match us, hl with | [_, _, _], _ => rfl
  obtain ⟨fd__law_own, F__law_own⟩ := cc.def_ 39 (d := ⟨("_law_own", none), "_law_own", "_law_own", defArgs s__law_own, defBody s__law_own, defScope s__law_own, [], []⟩) rfl
  have F__law_own : L2.Fun K "_law_own" "_law_own" s__law_own (He.ga K "_law_own") fd__law_own := funOf F__law_own
  have B__law_own := F__law_own.binds (ps := ["schema", "fields", "leaf", "column", "k"]) fun _ _ _ _ _ _ us hl => match us, hl with | [_, _, _, _, _], _ => rfl
  obtain ⟨fd_law, F_law⟩ := cc.def_ 40 (d := ⟨("law", none), "law", "law", defArgs s_law, defBody s_law, defScope s_law, [], []⟩) rfl
  have F_law : L2.Fun K "law" "law" s_law (He.ga K "law") fd_law := funOf F_law
  have e := hfa.symm.trans (He.glo_ok KX G (cc.fact 62 (f := .glo "law") rfl))
  cases e
  have t : Tc ⟨K, mg⟩ (He.ga K "Schema") (He.ga K "BadSchema") := {
    a_Schema_fields := He.noat_ok (cc.fact 0 (f := .noat "Schema" "fields") rfl),
    a_Schema_leaves := He.noat_ok (cc.fact 1 (f := .noat "Schema" "leaves") rfl),
    a_Schema_ways := He.noat_ok (cc.fact 2 (f := .noat "Schema" "ways") rfl),
    b_abs := He.free_ok KX G (cc.fact 3 (f := .free "abs") rfl),
    b_all := He.free_ok KX G (cc.fact 4 (f := .free "all") rfl),
    b_any := He.free_ok KX G (cc.fact 5 (f := .free "any") rfl),
    b_bool := He.free_ok KX G (cc.fact 6 (f := .free "bool") rfl),
    b_dict := He.free_ok KX G (cc.fact 7 (f := .free "dict") rfl),
    b_int := He.free_ok KX G (cc.fact 8 (f := .free "int") rfl),
    b_isinstance := He.free_ok KX G (cc.fact 9 (f := .free "isinstance") rfl),
    b_len := He.free_ok KX G (cc.fact 10 (f := .free "len") rfl),
    b_list := He.free_ok KX G (cc.fact 11 (f := .free "list") rfl),
    b_min := He.free_ok KX G (cc.fact 12 (f := .free "min") rfl),
    b_range := He.free_ok KX G (cc.fact 13 (f := .free "range") rfl),
    b_str := He.free_ok KX G (cc.fact 14 (f := .free "str") rfl),
    b_sum := He.free_ok KX G (cc.fact 15 (f := .free "sum") rfl),
    b_tuple := He.free_ok KX G (cc.fact 16 (f := .free "tuple") rfl),
    b_type := He.free_ok KX G (cc.fact 17 (f := .free "type") rfl),
    c_GREATEST_INTEGER := con_ok (T := ⟨K, mg⟩) KX G (List.all_eq_true.mp cx (.con "GREATEST_INTEGER" c_GREATEST_INTEGER) (List.mem_of_getElem? (i := 0) rfl)),
    c_GREATEST_LEVEL := con_ok (T := ⟨K, mg⟩) KX G (List.all_eq_true.mp cx (.con "GREATEST_LEVEL" c_GREATEST_LEVEL) (List.mem_of_getElem? (i := 1) rfl)),
    c_KINDS := con_ok (T := ⟨K, mg⟩) KX G (List.all_eq_true.mp cx (.con "KINDS" c_KINDS) (List.mem_of_getElem? (i := 2) rfl)),
    c_LEAST_INTEGER := con_ok (T := ⟨K, mg⟩) KX G (List.all_eq_true.mp cx (.con "LEAST_INTEGER" c_LEAST_INTEGER) (List.mem_of_getElem? (i := 3) rfl)),
    c_LETTERS := con_ok (T := ⟨K, mg⟩) KX G (List.all_eq_true.mp cx (.con "LETTERS" c_LETTERS) (List.mem_of_getElem? (i := 4) rfl)),
    c_LONGEST_NAME := con_ok (T := ⟨K, mg⟩) KX G (List.all_eq_true.mp cx (.con "LONGEST_NAME" c_LONGEST_NAME) (List.mem_of_getElem? (i := 5) rfl)),
    c_LONGEST_TEXT := con_ok (T := ⟨K, mg⟩) KX G (List.all_eq_true.mp cx (.con "LONGEST_TEXT" c_LONGEST_TEXT) (List.mem_of_getElem? (i := 6) rfl)),
    c_MOST_DEEP := con_ok (T := ⟨K, mg⟩) KX G (List.all_eq_true.mp cx (.con "MOST_DEEP" c_MOST_DEEP) (List.mem_of_getElem? (i := 7) rfl)),
    c_MOST_LEAVES := con_ok (T := ⟨K, mg⟩) KX G (List.all_eq_true.mp cx (.con "MOST_LEAVES" c_MOST_LEAVES) (List.mem_of_getElem? (i := 8) rfl)),
    c_NAME_SIGNS := con_ok (T := ⟨K, mg⟩) KX G (List.all_eq_true.mp cx (.con "NAME_SIGNS" c_NAME_SIGNS) (List.mem_of_getElem? (i := 9) rfl)),
    c_RULES := con_ok (T := ⟨K, mg⟩) KX G (List.all_eq_true.mp cx (.con "RULES" c_RULES) (List.mem_of_getElem? (i := 10) rfl)),
    c_SIGNS := con_ok (T := ⟨K, mg⟩) KX G (List.all_eq_true.mp cx (.con "SIGNS" c_SIGNS) (List.mem_of_getElem? (i := 11) rfl)),
    c_WHOLE_RECORD := con_ok (T := ⟨K, mg⟩) KX G (List.all_eq_true.mp cx (.con "WHOLE_RECORD" c_WHOLE_RECORD) (List.mem_of_getElem? (i := 12) rfl)),
    e_BadSchema := exok_ok (T := ⟨K, mg⟩) KX G (cc.fact 18 (f := .glo "BadSchema") rfl) (cc.fact 19 (f := .exc "BadSchema") rfl),
    d__law_bones := ⟨⟨_, _, F__law_bones, He.glo_ok KX G (cc.fact 20 (f := .glo "_law_bones") rfl), B__law_bones⟩⟩,
    d__law_cell := ⟨⟨_, _, F__law_cell, He.glo_ok KX G (cc.fact 21 (f := .glo "_law_cell") rfl), B__law_cell⟩⟩,
    d__law_columns := ⟨⟨_, _, F__law_columns, He.glo_ok KX G (cc.fact 22 (f := .glo "_law_columns") rfl), B__law_columns⟩⟩,
    d__law_draws := ⟨⟨_, _, F__law_draws, He.glo_ok KX G (cc.fact 23 (f := .glo "_law_draws") rfl), B__law_draws⟩⟩,
    d__law_fault := ⟨⟨_, _, F__law_fault, He.glo_ok KX G (cc.fact 24 (f := .glo "_law_fault") rfl), B__law_fault⟩⟩,
    d__law_fields := ⟨⟨_, _, F__law_fields, He.glo_ok KX G (cc.fact 25 (f := .glo "_law_fields") rfl), B__law_fields⟩⟩,
    d__law_fits_kind := ⟨⟨_, _, F__law_fits_kind, He.glo_ok KX G (cc.fact 26 (f := .glo "_law_fits_kind") rfl), B__law_fits_kind⟩⟩,
    d__law_is_integer := ⟨⟨_, _, F__law_is_integer, He.glo_ok KX G (cc.fact 27 (f := .glo "_law_is_integer") rfl), B__law_is_integer⟩⟩,
    d__law_leaf_count := ⟨⟨_, _, F__law_leaf_count, He.glo_ok KX G (cc.fact 28 (f := .glo "_law_leaf_count") rfl), B__law_leaf_count⟩⟩,
    d__law_leaf_value := ⟨⟨_, _, F__law_leaf_value, He.glo_ok KX G (cc.fact 29 (f := .glo "_law_leaf_value") rfl), B__law_leaf_value⟩⟩,
    d__law_leaves := ⟨⟨_, _, F__law_leaves, He.glo_ok KX G (cc.fact 30 (f := .glo "_law_leaves") rfl), B__law_leaves⟩⟩,
    d__law_next := ⟨⟨_, _, F__law_next, He.glo_ok KX G (cc.fact 31 (f := .glo "_law_next") rfl), B__law_next⟩⟩,
    d__law_occurrence := ⟨⟨_, _, F__law_occurrence, He.glo_ok KX G (cc.fact 32 (f := .glo "_law_occurrence") rfl), B__law_occurrence⟩⟩,
    d__law_own := ⟨⟨_, _, F__law_own, He.glo_ok KX G (cc.fact 33 (f := .glo "_law_own") rfl), B__law_own⟩⟩,
    d__law_record := ⟨⟨_, _, F__law_record, He.glo_ok KX G (cc.fact 34 (f := .glo "_law_record") rfl), B__law_record⟩⟩,
    d__law_records := ⟨⟨_, _, F__law_records, He.glo_ok KX G (cc.fact 35 (f := .glo "_law_records") rfl), B__law_records⟩⟩,
    d__law_same := ⟨⟨_, _, F__law_same, He.glo_ok KX G (cc.fact 36 (f := .glo "_law_same") rfl), B__law_same⟩⟩,
    d__law_schema := ⟨⟨_, _, F__law_schema, He.glo_ok KX G (cc.fact 37 (f := .glo "_law_schema") rfl), B__law_schema⟩⟩,
    d__law_stream := ⟨⟨_, _, F__law_stream, He.glo_ok KX G (cc.fact 38 (f := .glo "_law_stream") rfl), B__law_stream⟩⟩,
    d__law_text := ⟨⟨_, _, F__law_text, He.glo_ok KX G (cc.fact 39 (f := .glo "_law_text") rfl), B__law_text⟩⟩,
    d__law_turned := ⟨⟨_, _, F__law_turned, He.glo_ok KX G (cc.fact 40 (f := .glo "_law_turned") rfl), B__law_turned⟩⟩,
    d__law_ways := ⟨⟨_, _, F__law_ways, He.glo_ok KX G (cc.fact 41 (f := .glo "_law_ways") rfl), B__law_ways⟩⟩,
    d__law_write := ⟨⟨_, _, F__law_write, He.glo_ok KX G (cc.fact 42 (f := .glo "_law_write") rfl), B__law_write⟩⟩,
    d__law_write_record := ⟨⟨_, _, F__law_write_record, He.glo_ok KX G (cc.fact 43 (f := .glo "_law_write_record") rfl), B__law_write_record⟩⟩,
    d_check_field := ⟨⟨_, _, F_check_field, He.glo_ok KX G (cc.fact 44 (f := .glo "check_field") rfl), B_check_field⟩⟩,
    d_check_fields := ⟨⟨_, _, F_check_fields, He.glo_ok KX G (cc.fact 45 (f := .glo "check_fields") rfl), B_check_fields⟩⟩,
    d_continues_list := ⟨⟨_, _, F_continues_list, He.glo_ok KX G (cc.fact 46 (f := .glo "continues_list") rfl), B_continues_list⟩⟩,
    d_first_fault := ⟨⟨_, _, F_first_fault, He.glo_ok KX G (cc.fact 47 (f := .glo "first_fault") rfl), B_first_fault⟩⟩,
    d_is_admissible := ⟨⟨_, _, F_is_admissible, He.glo_ok KX G (cc.fact 48 (f := .glo "is_admissible") rfl), B_is_admissible⟩⟩,
    d_is_entry := ⟨⟨_, _, F_is_entry, He.glo_ok KX G (cc.fact 49 (f := .glo "is_entry") rfl), B_is_entry⟩⟩,
    d_is_level := ⟨⟨_, _, F_is_level, He.glo_ok KX G (cc.fact 50 (f := .glo "is_level") rfl), B_is_level⟩⟩,
    d_is_name := ⟨⟨_, _, F_is_name, He.glo_ok KX G (cc.fact 51 (f := .glo "is_name") rfl), B_is_name⟩⟩,
    d_is_value := ⟨⟨_, _, F_is_value, He.glo_ok KX G (cc.fact 52 (f := .glo "is_value") rfl), B_is_value⟩⟩,
    d_leaf_of := ⟨⟨_, _, F_leaf_of, He.glo_ok KX G (cc.fact 53 (f := .glo "leaf_of") rfl), B_leaf_of⟩⟩,
    d_levels_below := ⟨⟨_, _, F_levels_below, He.glo_ok KX G (cc.fact 54 (f := .glo "levels_below") rfl), B_levels_below⟩⟩,
    d_skeleton := ⟨⟨_, _, F_skeleton, He.glo_ok KX G (cc.fact 55 (f := .glo "skeleton") rfl), B_skeleton⟩⟩,
    d_start_of := ⟨⟨_, _, F_start_of, He.glo_ok KX G (cc.fact 56 (f := .glo "start_of") rfl), B_start_of⟩⟩,
    d_step_below := ⟨⟨_, _, F_step_below, He.glo_ok KX G (cc.fact 57 (f := .glo "step_below") rfl), B_step_below⟩⟩,
    d_ways_within := ⟨⟨_, _, F_ways_within, He.glo_ok KX G (cc.fact 58 (f := .glo "ways_within") rfl), B_ways_within⟩⟩,
    k_Schema := clg_ok (T := ⟨K, mg⟩) KX G (cc.fact 59 (f := .glo "Schema") rfl) (cc.fact 60 (f := .cls "Schema") rfl),
    m_Schema := ⟨_, _, F_Schema___init__, He.glo_ok KX G (cc.fact 59 (f := .glo "Schema") rfl), He.mkr_ok (cc.fact 61 (f := .mkr "Schema") rfl), B_Schema___init__⟩ }
  exact ⟨fd_law, binds_one F_law (fun _ _ _ _ _ _ _ => rfl), fun base => G_law (T := ⟨K, mg⟩) t F_law⟩
end K14
set_option Elab.async false
set_option linter.all false
set_option maxRecDepth 100000
set_option maxHeartbeats 0
open PySem PySem.W PySem.Calls PyProof.Rows
theorem PySem.Challenge.cw_columnkin_k14_admissible_entries_holds : PySem.Challenge.rw_columnkin_k14_admissible_entries.Holds := by
  w_on; o_law
  refine HandSHeadRun.head_any (r := OpenLaw.row PySem.Challenge.rw_columnkin_k14_admissible_entries) (q := view (OpenLaw.row PySem.Challenge.rw_columnkin_k14_admissible_entries).prog [60]) (H := K14.hk) (ob := FR.obY 6 K14.hFa K14.hFn K14.hXs) (M := 9000) (loose := K14.loose) (d := HandSHeadRun.topDef (OpenLaw.row PySem.Challenge.rw_columnkin_k14_admissible_entries).prog 60) (kwd := []) FR.obY_eq
    (by kernel_rfl) (fun s => by kernel_rfl) K14.run (by kernel_rfl) (by kernel_rfl) (by kernel_rfl) (by rfl) (by first | assumption | decide +kernel) (by decide +kernel) ⟨rfl, rfl, rfl, rfl, rfl, by decide +kernel⟩ ?hw ?hc
  case hw => w_witness2
  case hc =>
    refine FR.law_fin (l := PySem.Challenge.rw_columnkin_k14_admissible_entries) (k := 18) rfl (by kernel_rfl) ⟨rfl, by decide, by decide⟩ K14.pure_law ?_
    intro w mg fa h Y G hmg0
    obtain ⟨K, KX, cc, cx⟩ := Y
    have hmg : mg ("law" : PySem.Str) = some (.ref fa) := by
      have e : (HandSHeadRun.topDef (OpenLaw.row PySem.Challenge.rw_columnkin_k14_admissible_entries).prog 60).name = ("law" : PySem.Str) := by kernel_rfl
      rw [← e]
      exact hmg0
    obtain ⟨fd, hb, hF⟩ := K14.facts (P := (PySem.Challenge.rw_columnkin_k14_admissible_entries).prog) (w := w) KX G hmg cc cx
    exact ⟨K, fd, KX, hb, fun base _ _ => hF base⟩
