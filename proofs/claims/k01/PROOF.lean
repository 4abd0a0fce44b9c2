import PyProof.Rows.All
import Wide.All
import OpenK.AllK
import Wide.FinOn
import HandS.ForMost
import HandS.ForExc
import HandS.Codes
import HandS.FStr
import HandS.Star
import HandS.Wide
import HandS.IsInst
import HandS.TupAny
import HandS.ExcIs
import HandS.Conv
import HandS.Flow
import HandS.NoneIn
import HandS.SetBool
import HandS.SetKeys
import HandS.Zip
import KE.KxIndex
import HandS.TupMul
import HandS.Head2
import HandS.HeadHook2
import HandS.HeadEnd
import HandS.Replace
import HandS.OwnEq
import HandS.Iter
import HandS.More
import HandS.Small
import KE.KStateDown
import HandS.Head0
import HandS.Head1
import PySem.Challenge.RW_columnkin_k01_no_schemas
set_option Elab.async false
set_option linter.all false
set_option maxRecDepth 100000
set_option maxHeartbeats 4000000
/-! ## Readings by value: plain data in the place of tracked addresses -/
namespace FR
open PySem PySem.Spec L2
set_option autoImplicit false

/-- plain data: lists, dicts, instances that nobody changes any more stand by value; those that are changed by their place in a store -/
inductive D where
  | non | bl (b : Bool) | int (i : Int) | str (x : Str) | ty (n : String)
  | tup (xs : List D) | lst (xs : List D) | dct (ks : List Str) (vs : List D)
  | ins (c : Str) (ns : List Str) (vs : List D) | loc (n : Nat) | glo (x : Str) | scr (xs : List Int) | exc (a : Addr)

/-- what stands at a place of the store -/
inductive O where
  | lst (xs : List D) | dct (ks : List Str) (vs : List D) | ins (c : Str) (ns : List Str) (vs : List D) | dead

/-- the abstract heap, the store, where its places stand -/
structure Wo where
  bt : List Addr
  mu : List O
  hid : Addr → Prop
  H : Hp

/-- the written part, what the module's names hold -/
structure Tx where
  K : PySem.W.Frag
  mg : Str → Option Value

def Live (w : Wo) (a : Addr) : Prop := w.hid a ∨ ∃ n : Nat, w.bt[n]? = some a ∧ ∃ o, w.mu[n]? = some o ∧ o ≠ .dead

variable {T : Tx}

mutual
def RelD (T : Tx) (w : Wo) : D → V → Prop
  | .non, v => v = .non
  | .bl b, v => v = .bl b
  | .int i, v => v = .int i
  | .str x, v => v = .str x
  | .ty n, v => v = .ty n
  | .tup ds, v => ∃ a vs, v = .ref a ∧ SqT T.K w.H a vs ∧ RelDs T w ds vs
  | .lst ds, v => ∃ a vs, v = .ref a ∧ w.H a = some (.lst vs) ∧ ¬ Live w a ∧ RelDs T w ds vs
  | .dct ks ds, v => ∃ a vs, v = .ref a ∧ Rd w.H a (.dK (ks.map Sum.inr |>.zip vs)) ∧ vs.length = ks.length ∧ ¬ Live w a ∧ RelDs T w ds vs
  | .ins c ns ds, v => ∃ a C dx vs, v = .ref a ∧ T.mg c = some (.ref C) ∧ w.H a = some (.ins C dx (ns.zip vs)) ∧ vs.length = ns.length ∧ ¬ Live w a ∧ RelDs T w ds vs
  | .loc n, v => ∃ a, v = .ref a ∧ w.bt[n]? = some a
  | .glo x, v => ∃ a, v = .ref a ∧ T.mg x = some (.ref a)
  | .exc a, v => v = .ref a
  | .scr ns, v => ∃ a, v = .ref a ∧ ((∃ o, w.H a = some (.frz o (.lst (ns.map V.int)))) ∨ SqL T.K (fun _ => none) a (ns.map V.int))
def RelDs (T : Tx) (w : Wo) : List D → List V → Prop
  | [], vs => vs = []
  | d :: ds, vs => ∃ v r, vs = v :: r ∧ RelD T w d v ∧ RelDs T w ds r
end

def RelOb (T : Tx) (w : Wo) (a : Addr) : O → Prop
  | .lst ds => ∃ vs, w.H a = some (.lst vs) ∧ RelDs T w ds vs
  | .dct ks ds => ∃ vs, w.H a = some (.dK (ks.map Sum.inr |>.zip vs)) ∧ vs.length = ks.length ∧ RelDs T w ds vs
  | .ins c ns ds => ∃ C dx vs, T.mg c = some (.ref C) ∧ w.H a = some (.ins C dx (ns.zip vs)) ∧ vs.length = ns.length ∧ RelDs T w ds vs
  | .dead => True

/-- what a hidden object may be -/
def Hd : HO → Prop
  | .tup _ => False
  | .frz _ _ => False
  | _ => True
structure Ok (T : Tx) (w : Wo) : Prop where
  hidT : ∀ a, w.hid a → ∃ o, w.H a = some o ∧ Hd o
  hidN : ∀ a ∈ w.bt, ¬ w.hid a
  len : w.mu.length = w.bt.length
  nd : w.bt.Nodup
  tr : ∀ a ∈ w.bt, w.H a ≠ none
  obj : ∀ (n : Nat) (o : O) (a : Addr), w.mu[n]? = some o → w.bt[n]? = some a → RelOb T w a o

/-- what stays as it is, unless it is live -/
def Stb (H : Hp) (a : Addr) : HO → Prop
  | .lst xs => H a = some (.lst xs)
  | .frz o u => H a = some (.frz o u)
  | .dK xs => Rd H a (.dK xs)
  | .tup xs => Rd H a (.tup xs)
  | .ins C dx fs => H a = some (.ins C dx fs)
  | _ => False

structure Ex0 (w w' : Wo) : Prop where
  pre : ∃ l, w'.bt = w.bt ++ l
  some_ : ∀ a, w.H a ≠ none → w'.H a ≠ none
  keep : ∀ a o, Stb w.H a o → ¬ Live w a → Stb w'.H a o
  live : ∀ a, w.H a ≠ none → Live w' a → Live w a
structure Ex (w w' : Wo) : Prop extends Ex0 w w' where
  hidE : w'.hid = w.hid
  hidK : ∀ a, w.hid a → w'.H a = w.H a

theorem Stb.ne {H : Hp} {a : Addr} {o : HO} (h : Stb H a o) : H a ≠ none := by
  intro e
  cases o <;> simp only [Stb, Rd, e] at h <;> first | exact h | (rcases h with h | ⟨_, h⟩ <;> exact absurd h (by simp)) | exact absurd h (by simp)

theorem Ex0.rfl' {w : Wo} : Ex0 w w := ⟨⟨[], by simp⟩, fun _ h => h, fun _ _ h _ => h, fun _ _ h => h⟩
theorem Ex.rfl' {w : Wo} : Ex w w := ⟨.rfl', rfl, fun _ _ => rfl⟩
theorem Ex0.trans {w w1 w2 : Wo} (a : Ex0 w w1) (b : Ex0 w1 w2) : Ex0 w w2 := by
  refine ⟨?_, fun x h => b.some_ x (a.some_ x h), fun x o h n => b.keep x o (a.keep x o h n) fun l => n (a.live x h.ne l), fun x h l => a.live x h (b.live x (a.some_ x h) l)⟩
  obtain ⟨l1, e1⟩ := a.pre
  obtain ⟨l2, e2⟩ := b.pre
  exact ⟨l1 ++ l2, by rw [e2, e1, List.append_assoc]⟩
theorem Ex.trans {w w1 w2 : Wo} (a : Ex w w1) (b : Ex w1 w2) : Ex w w2 :=
  ⟨a.toEx0.trans b.toEx0, b.hidE.trans a.hidE, fun x h => (b.hidK x (by rw [a.hidE]; exact h)).trans (a.hidK x h)⟩
theorem Ex0.bt {w w' : Wo} (e : Ex0 w w') {n : Nat} {a : Addr} (h : w.bt[n]? = some a) : w'.bt[n]? = some a := by
  obtain ⟨l, q⟩ := e.pre
  rw [q]
  have : n < w.bt.length := (List.getElem?_eq_some_iff.mp h).1
  rw [List.getElem?_append_left this]; exact h
theorem Ok.tup_free {w : Wo} (ok : Ok T w) {a : Addr} {xs : List V} (h : Rd w.H a (.tup xs)) : ¬ Live w a := by
  rintro (hh | ⟨n, hb, o, hm, hd⟩)
  · obtain ⟨o, e, hd⟩ := ok.hidT a hh
    rcases h with h | ⟨_, h⟩ <;> (rw [h] at e; cases e; exact hd)
  have q := ok.obj n o a hm hb
  cases o with
  | dead => exact hd rfl
  | lst ds => obtain ⟨vs, e, _⟩ := q; rcases h with h | ⟨_, h⟩ <;> rw [e] at h <;> cases h
  | dct ks ds => obtain ⟨vs, e, _⟩ := q; rcases h with h | ⟨_, h⟩ <;> rw [e] at h <;> cases h
  | ins c ns ds => obtain ⟨C, dx, vs, _, e, _⟩ := q; rcases h with h | ⟨_, h⟩ <;> rw [e] at h <;> cases h
theorem Ok.frz_free {w : Wo} (ok : Ok T w) {a : Addr} {o : Obj} {u : HO} (h : w.H a = some (.frz o u)) : ¬ Live w a := by
  rintro (hh | ⟨n, hb, ob, hm, hd⟩)
  · obtain ⟨o, e, hd⟩ := ok.hidT a hh
    rw [h] at e; cases e; exact hd
  have q := ok.obj n ob a hm hb
  cases ob with
  | dead => exact hd rfl
  | lst ds => obtain ⟨vs, e, _⟩ := q; rw [e] at h; cases h
  | dct ks ds => obtain ⟨vs, e, _⟩ := q; rw [e] at h; cases h
  | ins c ns ds => obtain ⟨C, dx, vs, _, e, _⟩ := q; rw [e] at h; cases h
theorem SqT.ex {w w' : Wo} (ok : Ok T w) (e : Ex0 w w') {a : Addr} {xs : List V} (h : SqT T.K w.H a xs) : SqT T.K w'.H a xs := by
  rcases h with h | h
  · exact .inl (e.keep a (.tup xs) h (ok.tup_free h))
  · exact .inr h

mutual
theorem RelD.ex {w w' : Wo} (ok : Ok T w) (e : Ex0 w w') : ∀ {d : D} {v : V}, RelD T w d v → RelD T w' d v
  | .non, _, h => by simpa only [RelD] using h
  | .bl _, _, h => by simpa only [RelD] using h
  | .int _, _, h => by simpa only [RelD] using h
  | .str _, _, h => by simpa only [RelD] using h
  | .ty _, _, h => by simpa only [RelD] using h
  | .tup ds, v, h => by
    simp only [RelD] at h ⊢
    obtain ⟨a, vs, h1, h2, h3⟩ := h
    exact ⟨a, vs, h1, SqT.ex ok e h2, RelDs.ex ok e h3⟩
  | .lst ds, v, h => by
    simp only [RelD] at h ⊢
    obtain ⟨a, vs, h1, h2, h3, h4⟩ := h
    exact ⟨a, vs, h1, e.keep a (.lst vs) h2 h3, fun l => h3 (e.live a (Stb.ne (o := .lst vs) h2) l), RelDs.ex ok e h4⟩
  | .dct ks ds, v, h => by
    simp only [RelD] at h ⊢
    obtain ⟨a, vs, h1, h2, hl, h3, h4⟩ := h
    exact ⟨a, vs, h1, e.keep a (.dK _) h2 h3, hl, fun l => h3 (e.live a (Stb.ne (o := .dK _) h2) l), RelDs.ex ok e h4⟩
  | .ins c ns ds, v, h => by
    simp only [RelD] at h ⊢
    obtain ⟨a, C, dx, vs, h1, hc, h2, hl, h3, h4⟩ := h
    exact ⟨a, C, dx, vs, h1, hc, e.keep a (.ins C dx _) h2 h3, hl, fun l => h3 (e.live a (by rw [h2]; simp) l), RelDs.ex ok e h4⟩
  | .loc n, v, h => by
    simp only [RelD] at h ⊢
    obtain ⟨a, h1, h2⟩ := h
    exact ⟨a, h1, e.bt h2⟩
  | .glo x, v, h => by simpa only [RelD] using h
  | .exc _, _, h => by simpa only [RelD] using h
  | .scr ns, v, h => by
    simp only [RelD] at h ⊢
    obtain ⟨a, h1, h2⟩ := h
    refine ⟨a, h1, ?_⟩
    rcases h2 with ⟨o, h2⟩ | h2
    · exact .inl ⟨o, e.keep a (.frz o _) h2 (ok.frz_free h2)⟩
    · exact .inr h2
theorem RelDs.ex {w w' : Wo} (ok : Ok T w) (e : Ex0 w w') : ∀ {ds : List D} {vs : List V}, RelDs T w ds vs → RelDs T w' ds vs
  | [], _, h => by simpa only [RelDs] using h
  | d :: ds, vs, h => by
    simp only [RelDs] at h ⊢
    obtain ⟨v, r, h1, h2, h3⟩ := h
    exact ⟨v, r, h1, RelD.ex ok e h2, RelDs.ex ok e h3⟩
end

theorem RelDs.length {w : Wo} : ∀ {ds : List D} {vs : List V}, RelDs T w ds vs → vs.length = ds.length
  | [], _, h => by simp only [RelDs] at h; subst h; rfl
  | d :: ds, vs, h => by
    simp only [RelDs] at h
    obtain ⟨v, r, rfl, _, h3⟩ := h
    simp [RelDs.length h3]
theorem RelDs.get {w : Wo} : ∀ {ds : List D} {vs : List V} {i : Nat} {d : D}, RelDs T w ds vs → ds[i]? = some d → ∃ v, vs[i]? = some v ∧ RelD T w d v
  | [], _, _, _, _, e => by simp at e
  | d :: ds, vs, 0, d', h, e => by
    simp only [RelDs] at h
    obtain ⟨v, r, rfl, h2, h3⟩ := h
    simp at e; subst e
    exact ⟨v, rfl, h2⟩
  | d :: ds, vs, i + 1, d', h, e => by
    simp only [RelDs] at h
    obtain ⟨v, r, rfl, h2, h3⟩ := h
    obtain ⟨u, hu, q⟩ := RelDs.get (i := i) h3 (by simpa using e)
    exact ⟨u, by simpa using hu, q⟩
theorem RelDs.append {w : Wo} : ∀ {ds es : List D} {vs us : List V}, RelDs T w ds vs → RelDs T w es us → RelDs T w (ds ++ es) (vs ++ us)
  | [], _, _, _, h, q => by simp only [RelDs] at h; subst h; exact q
  | d :: ds, es, vs, us, h, q => by
    simp only [RelDs] at h
    obtain ⟨v, r, rfl, h2, h3⟩ := h
    show RelDs T w (d :: (ds ++ es)) (v :: (r ++ us))
    simp only [RelDs]
    exact ⟨v, _, rfl, h2, RelDs.append h3 q⟩
theorem RelDs.cons {w : Wo} {d : D} {v : V} {ds : List D} {vs : List V} (h : RelD T w d v) (q : RelDs T w ds vs) : RelDs T w (d :: ds) (v :: vs) := by
  simp only [RelDs]; exact ⟨v, vs, rfl, h, q⟩
theorem RelDs.nil {w : Wo} : RelDs T w [] [] := by simp only [RelDs]

/-- the slots -/
def RelE (T : Tx) (w : Wo) (r : List (Option D)) (s : St) : Prop := r.length = s.length ∧ ∀ (i : Nat) (d : D), r[i]? = some (some d) → ∃ v, s[i]? = some (some v) ∧ RelD T w d v
theorem RelE.ex {w w' : Wo} {r : List (Option D)} {s : St} (ok : Ok T w) (e : Ex0 w w') (h : RelE T w r s) : RelE T w' r s :=
  ⟨h.1, fun i d q => let ⟨v, h1, h2⟩ := h.2 i d q; ⟨v, h1, h2.ex ok e⟩⟩
theorem RelE.set {w : Wo} {r : List (Option D)} {s : St} {d : D} {v : V} (i : Nat) (h : RelE T w r s) (q : RelD T w d v) : RelE T w (r.set i (some d)) (s.set i (some v)) := by
  refine ⟨by simp [h.1], fun j e hj => ?_⟩
  by_cases hij : j = i
  · subst hij
    rw [List.getElem?_set] at hj
    by_cases hl : j < r.length
    · simp [hl] at hj; subst hj
      exact ⟨v, by rw [List.getElem?_set]; simp [h.1 ▸ hl], q⟩
    · simp [hl] at hj
  · rw [List.getElem?_set_ne (Ne.symm hij)] at hj
    obtain ⟨u, h1, h2⟩ := h.2 j e hj
    exact ⟨u, by rw [List.getElem?_set_ne (Ne.symm hij)]; exact h1, h2⟩
theorem RelE.wipe {w : Wo} {r : List (Option D)} {s : St} (i : Nat) (h : RelE T w r s) : RelE T w (r.set i none) (s.set i none) := by
  refine ⟨by simp [h.1], fun j e hj => ?_⟩
  by_cases hij : j = i
  · subst hij
    rw [List.getElem?_set] at hj
    by_cases hl : j < r.length <;> simp [hl] at hj
  · rw [List.getElem?_set_ne (Ne.symm hij)] at hj
    obtain ⟨u, h1, h2⟩ := h.2 j e hj
    exact ⟨u, by rw [List.getElem?_set_ne (Ne.symm hij)]; exact h1, h2⟩

/-- results -/
inductive Rs (α : Type) where
  | ok (a : α) (m : List O) | ex (c : Str) (m : List O) | stk
abbrev Lc := List (Option D)
abbrev FE := Lc → List O → Rs D
abbrev FA := Lc → List O → Rs (List D)
abbrev FT := Lc → List O → Rs Bool
@[reducible] def Rs.bind {α β : Type} (r : Rs α) (k : α → List O → Rs β) : Rs β := match r with
  | .ok a m => k a m
  | .ex c m => .ex c m
  | .stk => .stk
inductive Fl where
  | nx (r : Lc) | rt (d : D) | bk (r : Lc) | ct (r : Lc)
inductive Rt where
  | ok (f : Fl) (m : List O) | ex (c : Str) (r : Lc) (m : List O) | stk
abbrev FS := Lc → List O → Rt

/-- the class of an exception, by its name -/
def ExV (T : Tx) (c : Str) (cv : Value) : Prop := T.mg c = some cv

def Post {α β : Type} (T : Tx) (R : Wo → α → β → Prop) (W : Str → Wo → Prop) (w : Wo) (r : Rs α) (Q : β → Hp → Prop) : Prop := match r with
  | .ok a m => ∀ w' b, Ex w w' → Ok T w' → w'.mu = m → R w' a b → Q b w'.H
  | .ex c m => ∀ w', Ex w w' → Ok T w' → w'.mu = m → W c w'
  | .stk => False
theorem Post.ex {α β : Type} {R : Wo → α → β → Prop} {W : Str → Wo → Prop} {w w1 : Wo} {r : Rs α} {Q : β → Hp → Prop} (h : Post T R W w r Q) (e : Ex w w1) : Post T R W w1 r Q := by
  cases r with
  | ok a m => exact fun w' b e' ok hm hr => h w' b (e.trans e') ok hm hr
  | ex c m => exact fun w' e' ok hm => h w' (e.trans e') ok hm
  | stk => exact h
def wx (T : Tx) (W : WX) (s : St) : Str → Wo → Prop := fun c w => ∀ cv, ExV T c cv → W cv none s w.H
/-- an expression's reading by value -/
def rd (T : Tx) (W : WX) (f : FE) : TE := fun s H Q => ∃ (w : Wo) (r : Lc), w.H = H ∧ Ok T w ∧ RelE T w r s ∧ Post T (RelD T) (wx T W s) w (f r w.mu) Q
def rdA (T : Tx) (W : WX) (f : FA) : TA := fun s H Q => ∃ (w : Wo) (r : Lc), w.H = H ∧ Ok T w ∧ RelE T w r s ∧ Post T (RelDs T) (wx T W s) w (f r w.mu) Q
def rdT (T : Tx) (W : WX) (f : FT) : TT := fun s H Q => ∃ (w : Wo) (r : Lc), w.H = H ∧ Ok T w ∧ RelE T w r s ∧ Post T (fun _ (a b : Bool) => a = b) (wx T W s) w (f r w.mu) Q

def PostS (T : Tx) (W : WX) (w : Wo) (r : Rt) (E : Ends) : Prop := match r with
  | .ok (.nx r) m => ∀ w' s', Ex w w' → Ok T w' → w'.mu = m → RelE T w' r s' → E.nx s' w'.H
  | .ok (.rt d) m => ∀ w' v, Ex w w' → Ok T w' → w'.mu = m → RelD T w' d v → E.rt v w'.H
  | .ok (.bk r) m => ∀ w' s', Ex w w' → Ok T w' → w'.mu = m → RelE T w' r s' → E.bk s' w'.H
  | .ok (.ct r) m => ∀ w' s', Ex w w' → Ok T w' → w'.mu = m → RelE T w' r s' → E.ct s' w'.H
  | .ex c r m => ∀ w' s', Ex w w' → Ok T w' → w'.mu = m → RelE T w' r s' → wx T W s' c w'
  | .stk => False
theorem PostS.ex {W : WX} {w w1 : Wo} {r : Rt} {E : Ends} (h : PostS T W w r E) (e : Ex w w1) : PostS T W w1 r E := by
  cases r with
  | ok f m => cases f with
    | nx r => exact fun w' b e' ok hm hr => h w' b (e.trans e') ok hm hr
    | rt r => exact fun w' b e' ok hm hr => h w' b (e.trans e') ok hm hr
    | bk r => exact fun w' b e' ok hm hr => h w' b (e.trans e') ok hm hr
    | ct r => exact fun w' b e' ok hm hr => h w' b (e.trans e') ok hm hr
  | ex c r m => exact fun w' s' e' ok hm hr => h w' s' (e.trans e') ok hm hr
  | stk => exact h
def rdS (T : Tx) (W : WX) (f : FS) : TS := fun E s H => ∃ (w : Wo) (r : Lc), w.H = H ∧ Ok T w ∧ RelE T w r s ∧ PostS T W w (f r w.mu) E

/-! ### consequence -/
section
variable {X : Cx}
theorem pe_imp {e : Expr} {t t' : TE} (h : PE X e t) (q : ∀ s H Q, t' s H Q → t s H Q) : PE X e t' := ⟨fun pins s σ H Q I hw => h.run pins s σ H Q I (q _ _ _ hw)⟩
theorem pt_imp {e : Expr} {t t' : TT} (h : PT X e t) (q : ∀ s H Q, t' s H Q → t s H Q) : PT X e t' := ⟨fun pins s σ H Q I hw => h.run pins s σ H Q I (q _ _ _ hw)⟩
theorem pw_imp {e : Expr} {t t' : TT} (h : PW X e t) (q : ∀ s H Q, t' s H Q → t s H Q) : PW X e t' := ⟨fun wh pins s σ H Q I hw => h.run wh pins s σ H Q I (q _ _ _ hw)⟩
theorem pa_imp {e : List Expr} {t t' : TA} (h : PA X e t) (q : ∀ s H Q, t' s H Q → t s H Q) : PA X e t' := ⟨fun pos pins s σ H Q I hw => h.run pos pins s σ H Q I (q _ _ _ hw)⟩
theorem ps_imp {e : Stmt} {t t' : TS} (h : PS X e t) (q : ∀ D s H, t' D s H → t D s H) : PS X e t' := ⟨fun pins s σ H D I hw => h.run pins s σ H D I (q _ _ _ hw)⟩
theorem pss_imp {e : List Stmt} {t t' : TS} (h : PSs X e t) (q : ∀ D s H, t' D s H → t D s H) : PSs X e t' := ⟨fun pins s σ H D I hw => h.run pins s σ H D I (q _ _ _ hw)⟩
end

/-- one step behind another: the general word -/
theorem go {α β γ δ : Type} {R : Wo → α → β → Prop} {R2 : Wo → γ → δ → Prop} {W : Str → Wo → Prop} {w : Wo} {r : Rs α} {k : α → List O → Rs γ} {Q : δ → Hp → Prop} {Z : β → Hp → Prop}
    (h : Post T R2 W w (r.bind k) Q) (hk : ∀ a w1 b, Ex w w1 → Ok T w1 → R w1 a b → Post T R2 W w1 (k a w1.mu) Q → Z b w1.H) : Post T R W w r Z := by
  cases r with
  | ok a m => exact fun w1 b e ok hm hr => hk a w1 b e ok hr (by subst hm; exact Post.ex h e)
  | ex c m => exact h
  | stk => exact h
theorem go_e {f : FE} {γ δ : Type} {R2 : Wo → γ → δ → Prop} {W : WX} {s : St} {w : Wo} {r : Lc} {k : D → List O → Rs γ} {Q : δ → Hp → Prop} {Z : V → Hp → Prop} (ok : Ok T w) (re : RelE T w r s)
    (h : Post T R2 (wx T W s) w ((f r w.mu).bind k) Q) (hk : ∀ a w1 b, Ex w w1 → Ok T w1 → RelE T w1 r s → RelD T w1 a b → Post T R2 (wx T W s) w1 (k a w1.mu) Q → Z b w1.H) : rd T W f s w.H Z :=
  ⟨w, r, rfl, ok, re, go h fun a w1 b e ok1 q h1 => hk a w1 b e ok1 (re.ex ok e.toEx0) q h1⟩
theorem go_a {f : FA} {γ δ : Type} {R2 : Wo → γ → δ → Prop} {W : WX} {s : St} {w : Wo} {r : Lc} {k : List D → List O → Rs γ} {Q : δ → Hp → Prop} {Z : List V → Hp → Prop} (ok : Ok T w) (re : RelE T w r s)
    (h : Post T R2 (wx T W s) w ((f r w.mu).bind k) Q) (hk : ∀ a w1 b, Ex w w1 → Ok T w1 → RelE T w1 r s → RelDs T w1 a b → Post T R2 (wx T W s) w1 (k a w1.mu) Q → Z b w1.H) : rdA T W f s w.H Z :=
  ⟨w, r, rfl, ok, re, go h fun a w1 b e ok1 q h1 => hk a w1 b e ok1 (re.ex ok e.toEx0) q h1⟩
theorem go_t {f : FT} {γ δ : Type} {R2 : Wo → γ → δ → Prop} {W : WX} {s : St} {w : Wo} {r : Lc} {k : Bool → List O → Rs γ} {Q : δ → Hp → Prop} {Z : Bool → Hp → Prop} (ok : Ok T w) (re : RelE T w r s)
    (h : Post T R2 (wx T W s) w ((f r w.mu).bind k) Q) (hk : ∀ a w1, Ex w w1 → Ok T w1 → RelE T w1 r s → Post T R2 (wx T W s) w1 (k a w1.mu) Q → Z a w1.H) : rdT T W f s w.H Z :=
  ⟨w, r, rfl, ok, re, go (R := fun _ (a b : Bool) => a = b) h fun a w1 b e ok1 q h1 => by subst q; exact hk a w1 e ok1 (re.ex ok e.toEx0) h1⟩
/-- the end of an expression without a change -/
theorem Post.now {α β : Type} {R : Wo → α → β → Prop} {W : Str → Wo → Prop} {w : Wo} {a : α} {b : β} {Q : β → Hp → Prop} (h : Post T R W w (.ok a w.mu) Q) (ok : Ok T w) (hr : R w a b) : Q b w.H :=
  h w b .rfl' ok rfl hr

/-! ### a new thing is laid -/
/-- laid at a free address, not in the store -/
def Wo.lay (w : Wo) (p : Addr) (o : HO) : Wo := { w with H := upd w.H p o }
theorem Rd.upd {H : Hp} {a p : Addr} {o u : HO} (h : a ≠ p) : Rd (upd H p o) a u ↔ Rd H a u := by
  unfold L2.Rd; rw [upd_ne h]
theorem Stb.upd {H : Hp} {a p : Addr} {o u : HO} (h : a ≠ p) (q : Stb H a u) : Stb (upd H p o) a u := by
  cases u <;> simp only [Stb] at q ⊢ <;> first | exact (Rd.upd h).mpr q | (rw [upd_ne h]; exact q)
theorem not_bt {w : Wo} (ok : Ok T w) {p : Addr} (h : w.H p = none) : p ∉ w.bt := fun hb => ok.tr p hb h
theorem not_hid {w : Wo} (ok : Ok T w) {p : Addr} (h : w.H p = none) : ¬ w.hid p := fun hb => by obtain ⟨o, e, _⟩ := ok.hidT p hb; rw [h] at e; cases e
theorem hid_ne {w : Wo} (ok : Ok T w) {p a : Addr} (h : w.H p = none) (ha : w.hid a) : a ≠ p := fun e => not_hid ok h (e ▸ ha)
theorem not_live {w : Wo} (ok : Ok T w) {p : Addr} (h : w.H p = none) : ¬ Live w p := by
  rintro (hh | ⟨n, hn, _⟩)
  · exact not_hid ok h hh
  · exact not_bt ok h (List.mem_of_getElem? hn)
theorem lay_ex {w : Wo} (ok : Ok T w) {p : Addr} {o : HO} (h : w.H p = none) : Ex w (w.lay p o) := by
  refine ⟨⟨⟨[], by simp [Wo.lay]⟩, fun a q => ?_, fun a u q _ => ?_, fun a _ q => q⟩, rfl, fun a ha => upd_ne (hid_ne ok h ha)⟩
  · show upd w.H p o a ≠ none
    unfold upd; split
    · simp
    · exact q
  · refine Stb.upd ?_ q
    rintro rfl
    exact q.ne h
theorem RelOb.ex {w w' : Wo} (ok : Ok T w) (e : Ex0 w w') {a : Addr} {o : O} (h : RelOb T w a o) (he : w'.H a = w.H a) : RelOb T w' a o := by
  cases o with
  | lst ds => obtain ⟨vs, h1, h2⟩ := h; exact ⟨vs, he.trans h1, h2.ex ok e⟩
  | dct ks ds => obtain ⟨vs, h1, hl, h2⟩ := h; exact ⟨vs, he.trans h1, hl, h2.ex ok e⟩
  | ins c ns ds => obtain ⟨C, dx, vs, hc, h1, hl, h2⟩ := h; exact ⟨C, dx, vs, hc, he.trans h1, hl, h2.ex ok e⟩
  | dead => trivial
theorem lay_ok {w : Wo} (ok : Ok T w) {p : Addr} {o : HO} (h : w.H p = none) : Ok T (w.lay p o) := by
  refine ⟨fun a ha => by obtain ⟨u, e, q⟩ := ok.hidT a ha; exact ⟨u, (upd_ne (hid_ne ok h ha)).trans e, q⟩, ok.hidN, ok.len, ok.nd, fun a ha => (lay_ex (o := o) ok h).some_ a (ok.tr a ha), fun n ob a h1 h2 => ?_⟩
  refine RelOb.ex ok (lay_ex ok h).toEx0 (ok.obj n ob a h1 h2) ?_
  exact upd_ne fun e => not_bt ok h (by rw [← e]; exact List.mem_of_getElem? h2)
/-- laid, and in the store -/
def Wo.new (w : Wo) (p : Addr) (o : HO) (u : O) : Wo := ⟨w.bt ++ [p], w.mu ++ [u], w.hid, upd w.H p o⟩
theorem new_ex {w : Wo} (ok : Ok T w) {p : Addr} {o : HO} {u : O} (h : w.H p = none) : Ex w (w.new p o u) := by
  have l := lay_ex (o := o) ok h
  refine ⟨⟨⟨[p], rfl⟩, l.some_, l.keep, fun a ha q => ?_⟩, rfl, l.hidK⟩
  rcases q with q | ⟨n, hn, ob, hm, hd⟩
  · exact .inl q
  refine .inr ?_
  have hn' : (w.bt ++ [p])[n]? = some a := hn
  have hm' : (w.mu ++ [u])[n]? = some ob := hm
  by_cases hl : n < w.bt.length
  · rw [List.getElem?_append_left hl] at hn'
    rw [List.getElem?_append_left (by rw [ok.len]; exact hl)] at hm'
    exact ⟨n, hn', ob, hm', hd⟩
  · rw [List.getElem?_append_right (by omega)] at hn'
    have : a = p := by
      cases hq : n - w.bt.length with
      | zero => rw [hq] at hn'; simpa using hn'.symm
      | succ k => rw [hq] at hn'; simp at hn'
    exact absurd (this ▸ h) ha
theorem new_ok {w : Wo} (ok : Ok T w) {p : Addr} {o : HO} {u : O} (h : w.H p = none) (hu : RelOb T (w.new p o u) p u) : Ok T (w.new p o u) := by
  have hx := new_ex (o := o) (u := u) ok h
  refine ⟨fun a ha => by obtain ⟨u, e, q⟩ := ok.hidT a ha; exact ⟨u, (upd_ne (hid_ne ok h ha)).trans e, q⟩, fun a ha => ?_, by simp [Wo.new, ok.len], ?_, fun a ha => ?_, fun n ob a h1 h2 => ?_⟩
  · rcases List.mem_append.mp (show a ∈ w.bt ++ [p] from ha) with q | q
    · exact ok.hidN a q
    · simp at q; subst q; exact not_hid ok h
  · show (w.bt ++ [p]).Nodup
    rw [List.nodup_append]
    exact ⟨ok.nd, by simp, fun a ha b hb => by simp at hb; subst hb; rintro rfl; exact not_bt ok h ha⟩
  · rcases List.mem_append.mp (show a ∈ w.bt ++ [p] from ha) with q | q
    · exact hx.some_ a (ok.tr a q)
    · simp at q; subst q
      show upd w.H a o a ≠ none
      rw [upd_same]; simp
  · have h1' : (w.mu ++ [u])[n]? = some ob := h1
    have h2' : (w.bt ++ [p])[n]? = some a := h2
    by_cases hl : n < w.bt.length
    · rw [List.getElem?_append_left hl] at h2'
      rw [List.getElem?_append_left (by rw [ok.len]; exact hl)] at h1'
      refine RelOb.ex ok hx.toEx0 (ok.obj n ob a h1' h2') ?_
      exact upd_ne fun e => not_bt ok h (by rw [← e]; exact List.mem_of_getElem? h2')
    · rw [List.getElem?_append_right (by omega)] at h2'
      rw [List.getElem?_append_right (by rw [ok.len]; omega), ok.len] at h1'
      cases hq : n - w.bt.length with
      | zero =>
        rw [hq] at h1' h2'
        simp at h1' h2'
        subst h1' h2'
        exact hu
      | succ k => rw [hq] at h2'; simp at h2'
/-- an object of the store is written -/
def Wo.put (w : Wo) (n : Nat) (a : Addr) (o : HO) (u : O) : Wo := ⟨w.bt, w.mu.set n u, w.hid, upd w.H a o⟩
theorem bt_inj {w : Wo} (ok : Ok T w) {n m : Nat} {a : Addr} (h : w.bt[n]? = some a) (q : w.bt[m]? = some a) : n = m := by
  obtain ⟨h1, e1⟩ := List.getElem?_eq_some_iff.mp h
  obtain ⟨h2, e2⟩ := List.getElem?_eq_some_iff.mp q
  exact (List.getElem_inj ok.nd).mp (e1.trans e2.symm)
theorem put_ex {w : Wo} (ok : Ok T w) {n : Nat} {a : Addr} {o : HO} {u v : O} (h : w.bt[n]? = some a) (hl : w.mu[n]? = some v) (hd : v ≠ .dead) : Ex w (w.put n a o u) := by
  have nh : ∀ b, w.hid b → b ≠ a := fun b hb e => ok.hidN a (List.mem_of_getElem? h) (e ▸ hb)
  refine ⟨⟨⟨[], by simp [Wo.put]⟩, fun b q => ?_, fun b x q nl => ?_, fun b hb q => ?_⟩, rfl, fun b hb => upd_ne (nh b hb)⟩
  · show upd w.H a o b ≠ none
    unfold upd; split
    · simp
    · exact q
  · refine Stb.upd ?_ q
    rintro rfl
    exact nl (.inr ⟨n, h, v, hl, hd⟩)
  · rcases q with q | ⟨m, h1, ob, h2, h3⟩
    · exact .inl q
    refine .inr ?_
    have h2' : (w.mu.set n u)[m]? = some ob := h2
    by_cases e : m = n
    · subst e
      exact ⟨m, h1, v, hl, hd⟩
    · rw [List.getElem?_set_ne (Ne.symm e)] at h2'
      exact ⟨m, h1, ob, h2', h3⟩
theorem put_ok {w : Wo} (ok : Ok T w) {n : Nat} {a : Addr} {o : HO} {u v : O} (h : w.bt[n]? = some a) (hl : w.mu[n]? = some v) (hd : v ≠ .dead) (hu : RelOb T (w.put n a o u) a u) : Ok T (w.put n a o u) := by
  have hx := put_ex (o := o) (u := u) ok h hl hd
  have nh : ∀ b, w.hid b → b ≠ a := fun b hb e => ok.hidN a (List.mem_of_getElem? h) (e ▸ hb)
  refine ⟨fun b hb => by obtain ⟨x, e, q⟩ := ok.hidT b hb; exact ⟨x, (upd_ne (nh b hb)).trans e, q⟩, ok.hidN, by simp [Wo.put, ok.len], ok.nd, fun b hb => hx.some_ b (ok.tr b hb), fun m ob b h1 h2 => ?_⟩
  have h1' : (w.mu.set n u)[m]? = some ob := h1
  have h2' : w.bt[m]? = some b := h2
  by_cases e : m = n
  · subst e
    rw [h] at h2'; cases h2'
    rw [List.getElem?_set] at h1'
    have hn : m < w.mu.length := (List.getElem?_eq_some_iff.mp hl).1
    simp [hn] at h1'
    subst h1'
    exact hu
  · rw [List.getElem?_set_ne (Ne.symm e)] at h1'
    refine RelOb.ex ok hx.toEx0 (ok.obj m ob b h1' h2') ?_
    exact upd_ne fun q => e (bt_inj ok (q ▸ h2') h)
/-- an object leaves the store: nobody changes it any more -/
def Wo.kill (w : Wo) (n : Nat) : Wo := { w with mu := w.mu.set n .dead }
theorem kill_ex {w : Wo} {n : Nat} : Ex w (w.kill n) := by
  refine ⟨⟨⟨[], by simp [Wo.kill]⟩, fun _ q => q, fun _ _ q _ => q, fun b hb q => ?_⟩, rfl, fun _ _ => rfl⟩
  rcases q with q | ⟨m, h1, ob, h2, h3⟩
  · exact .inl q
  refine .inr ?_
  have h2' : (w.mu.set n .dead)[m]? = some ob := h2
  by_cases e : m = n
  · subst e
    rw [List.getElem?_set] at h2'
    by_cases hn : m < w.mu.length
    · simp [hn] at h2'; exact absurd h2'.symm h3
    · simp [hn] at h2'
  · rw [List.getElem?_set_ne (Ne.symm e)] at h2'
    exact ⟨m, h1, ob, h2', h3⟩
theorem kill_ok {w : Wo} (ok : Ok T w) {n : Nat} : Ok T (w.kill n) := by
  refine ⟨ok.hidT, ok.hidN, by simp [Wo.kill, ok.len], ok.nd, ok.tr, fun m ob b h1 h2 => ?_⟩
  have h1' : (w.mu.set n .dead)[m]? = some ob := h1
  by_cases e : m = n
  · subst e
    rw [List.getElem?_set] at h1'
    by_cases hn : m < w.mu.length
    · simp [hn] at h1'; subst h1'; trivial
    · simp [hn] at h1'
  · rw [List.getElem?_set_ne (Ne.symm e)] at h1'
    exact RelOb.ex ok kill_ex.toEx0 (ok.obj m ob b h1' h2) rfl
theorem kill_dead {w : Wo} (ok : Ok T w) {n : Nat} {a : Addr} (h : w.bt[n]? = some a) : ¬ Live (w.kill n) a := by
  rintro (q | ⟨m, h1, ob, h2, h3⟩)
  · exact ok.hidN a (List.mem_of_getElem? h) q
  have e : m = n := bt_inj ok h1 h
  subst e
  have h2' : (w.mu.set m .dead)[m]? = some ob := h2
  rw [List.getElem?_set] at h2'
  by_cases hn : m < w.mu.length
  · simp [hn] at h2'; exact h3 h2'.symm
  · simp [hn] at h2'
/-! ### a private object: nothing else knows of it -/
/-- p is laid and hidden -/
def Wo.hide (w : Wo) (p : Addr) (o : HO) : Wo := { w with hid := fun a => a = p ∨ w.hid a, H := upd w.H p o }
theorem hide_ex {w : Wo} (ok : Ok T w) {p : Addr} {o : HO} (h : w.H p = none) : Ex0 w (w.hide p o) := by
  have l := lay_ex (o := o) ok h
  refine ⟨l.pre, l.some_, l.keep, fun a ha q => ?_⟩
  rcases q with (q | q) | q
  · subst q; exact absurd h ha
  · exact .inl q
  · exact .inr q
theorem hide_ok {w : Wo} (ok : Ok T w) {p : Addr} {o : HO} (h : w.H p = none) (hd : Hd o) : Ok T (w.hide p o) := by
  have hx := hide_ex (o := o) ok h
  refine ⟨fun a ha => ?_, fun a ha q => ?_, ok.len, ok.nd, fun a ha => hx.some_ a (ok.tr a ha), fun n ob a h1 h2 => ?_⟩
  · rcases ha with ha | ha
    · subst ha; exact ⟨o, upd_same, hd⟩
    · obtain ⟨u, e, q⟩ := ok.hidT a ha
      exact ⟨u, (upd_ne (hid_ne ok h ha)).trans e, q⟩
  · rcases q with q | q
    · subst q; exact not_bt ok h ha
    · exact ok.hidN a ha q
  · refine RelOb.ex ok hx (ok.obj n ob a h1 h2) ?_
    exact upd_ne fun e => not_bt ok h (by rw [← e]; exact List.mem_of_getElem? h2)
/-- a hidden object is written -/
theorem over_ex {w : Wo} {p : Addr} {o : HO} (h : w.hid p) : Ex0 w (w.lay p o) := by
  refine ⟨⟨[], by simp [Wo.lay]⟩, fun a q => ?_, fun a u q nl => ?_, fun a _ q => q⟩
  · show upd w.H p o a ≠ none
    unfold upd; split
    · simp
    · exact q
  · refine Stb.upd ?_ q
    rintro rfl
    exact nl (.inl h)
theorem over_ok {w : Wo} (ok : Ok T w) {p : Addr} {o : HO} (h : w.hid p) (hd : Hd o) : Ok T (w.lay p o) := by
  have hx := over_ex (o := o) h
  refine ⟨fun a ha => ?_, ok.hidN, ok.len, ok.nd, fun a ha => hx.some_ a (ok.tr a ha), fun n ob a h1 h2 => ?_⟩
  · by_cases e : a = p
    · subst e; exact ⟨o, upd_same, hd⟩
    · obtain ⟨u, e', q⟩ := ok.hidT a ha
      exact ⟨u, (upd_ne e).trans e', q⟩
  · refine RelOb.ex ok hx (ok.obj n ob a h1 h2) ?_
    exact upd_ne fun e => ok.hidN a (List.mem_of_getElem? h2) (e ▸ h)
/-- hidden no longer -/
def Wo.show_ (w : Wo) (hd : Addr → Prop) : Wo := { w with hid := hd }
theorem show_ex {w : Wo} {hd : Addr → Prop} (h : ∀ a, hd a → w.hid a) : Ex0 w (w.show_ hd) := by
  refine ⟨⟨[], by simp [Wo.show_]⟩, fun _ q => q, fun _ _ q _ => q, fun a _ q => ?_⟩
  rcases q with q | q
  · exact .inl (h a q)
  · exact .inr q
theorem show_ok {w : Wo} (ok : Ok T w) {hd : Addr → Prop} (h : ∀ a, hd a → w.hid a) : Ok T (w.show_ hd) :=
  ⟨fun a ha => ok.hidT a (h a ha), fun a ha q => ok.hidN a ha (h a q), ok.len, ok.nd, ok.tr, fun n ob a h1 h2 => RelOb.ex ok (show_ex h) (ok.obj n ob a h1 h2) rfl⟩
end FR
set_option Elab.async false
set_option linter.all false
set_option maxRecDepth 100000
set_option maxHeartbeats 4000000
/-! ## Expressions -/
namespace FR
open PySem PySem.Spec L2
set_option autoImplicit false

abbrev tx (X : Cx) : Tx := ⟨X.K, X.mg⟩
variable {X : Cx} {T : Tx} {W : WX} {f g h : FE} {fa : FA} {ft gt : FT} {a b c e : Expr} {es : List Expr} {pos : Pos} {k : Nat}

/-! ### store reads -/
@[reducible] def derefL (d : D) (m : List O) : Option (List D) := match d with
  | .lst xs => some xs
  | .loc n => match m[n]? with
    | some (.lst xs) => some xs
    | _ => none
  | _ => none
@[reducible] def derefS (d : D) (m : List O) : Option (List D) := match d with
  | .tup xs => some xs
  | .lst xs => some xs
  | .loc n => match m[n]? with
    | some (.lst xs) => some xs
    | _ => none
  | _ => none
theorem derefL_ok {w : Wo} {d : D} {v : V} {xs : List D} (ok : Ok T w) (r : RelD T w d v) (h : derefL d w.mu = some xs) : ∃ a vs, v = .ref a ∧ w.H a = some (.lst vs) ∧ RelDs T w xs vs := by
  unfold derefL at h
  split at h
  · cases h
    simp only [RelD] at r
    obtain ⟨a, vs, h1, h2, _, h3⟩ := r
    exact ⟨a, vs, h1, h2, h3⟩
  · split at h
    · cases h
      rename_i n _ _ hm
      simp only [RelD] at r
      obtain ⟨a, h1, h2⟩ := r
      obtain ⟨vs, h3, h4⟩ := ok.obj _ _ _ hm h2
      exact ⟨a, vs, h1, h3, h4⟩
    · cases h
  · cases h
theorem derefS_ok {w : Wo} {d : D} {v : V} {xs : List D} (ok : Ok T w) (r : RelD T w d v) (h : derefS d w.mu = some xs) : ∃ a vs, v = .ref a ∧ (SqL T.K w.H a vs ∨ SqT T.K w.H a vs) ∧ RelDs T w xs vs := by
  cases d with
  | tup ds =>
    cases h
    simp only [RelD] at r
    obtain ⟨a, vs, h1, h2, h3⟩ := r
    exact ⟨a, vs, h1, .inr h2, h3⟩
  | lst ds =>
    obtain ⟨a, vs, h1, h2, h3⟩ := derefL_ok (d := .lst ds) (xs := xs) ok r h
    exact ⟨a, vs, h1, .inl (SqL.of h2), h3⟩
  | loc n =>
    obtain ⟨a, vs, h1, h2, h3⟩ := derefL_ok (d := .loc n) (xs := xs) ok r h
    exact ⟨a, vs, h1, .inl (SqL.of h2), h3⟩
  | _ => cases h

/-! ### names, constants -/
@[reducible] def fVar (i : Nat) : FE := fun r m => match r[i]? with
  | some (some d) => .ok d m
  | _ => .stk
@[reducible] def fC (d : D) : FE := fun _ m => .ok d m
theorem v_var {i : Nat} {x : Str} (hN : X.N[i]? = some x := by rfl) (hv : Vis X.env.scope x := by first | exact Or.inl rfl | exact Or.inr (Or.inl rfl) | exact Or.inr (Or.inr rfl)) (hd : (x == ("__debug__" : Str)) = false := by decide)
    (hcd : (x == ("__classdict__" : Str)) = false := by decide) : PE X (.Name x pos) (rd (tx X) W (fVar i)) := by
  refine pe_imp (pe_var hN hv hd hcd) fun s H Q h => ?_
  obtain ⟨w, r, rfl, ok, re, h⟩ := h
  unfold fVar at h
  split at h
  · rename_i d e
    obtain ⟨v, h1, h2⟩ := re.2 i d e
    exact ⟨v, h1, h.now ok h2⟩
  · exact h.elim
theorem v_int {i : Int} {j} : PE X (.Constant (.int i) j pos) (rd (tx X) W (fC (.int i))) := pe_imp pe_int fun s H Q ⟨w, r, e, ok, re, h⟩ => by subst e; exact h.now ok (by simp only [RelD])
theorem v_bl {i : Bool} {j} : PE X (.Constant (.bool i) j pos) (rd (tx X) W (fC (.bl i))) := pe_imp pe_bl fun s H Q ⟨w, r, e, ok, re, h⟩ => by subst e; exact h.now ok (by simp only [RelD])
theorem v_non {j} : PE X (.Constant .none j pos) (rd (tx X) W (fC .non)) := pe_imp pe_non fun s H Q ⟨w, r, e, ok, re, h⟩ => by subst e; exact h.now ok (by simp only [RelD])
theorem v_str {i : Str} {j} : PE X (.Constant (.str i) j pos) (rd (tx X) W (fC (.str i))) := pe_imp pe_str fun s H Q ⟨w, r, e, ok, re, h⟩ => by subst e; exact h.now ok (by simp only [RelD])
/-- a module's constant -/
def GV (T : Tx) (x : Str) (d : D) : Prop := ∃ u v, T.mg x = some u ∧ RelV v u ∧ ∀ w, RelD T w d v
theorem v_glob {x : Str} {d : D} (hg : Gl X x) (gv : GV (tx X) x d) (hd : (x == ("__debug__" : Str)) = false := by decide) : PE X (.Name x pos) (rd (tx X) W (fC d)) := by
  obtain ⟨u, v, hm, rv, hr⟩ := gv
  exact pe_imp (pe_glob hg hm rv hd) fun s H Q ⟨w, r, e, ok, re, h⟩ => by subst e; exact h.now ok (hr w)
theorem v_bty {x : Str} {n : String} (hg : Gl X x) (hm : X.mg x = none) (hv : bootBuiltins x = some (.type n)) (hn : x ≠ "__name__" := by decide) (hd : (x == ("__debug__" : Str)) = false := by decide) :
    PE X (.Name x pos) (rd (tx X) W (fC (.ty n))) :=
  pe_imp (pe_bltn (v := .ty n) hg hm hv rfl hn hd) fun s H Q ⟨w, r, e, ok, re, h⟩ => by subst e; exact h.now ok (by simp only [RelD])

/-! ### operators -/
@[reducible] def fBin (o : D → D → List O → Rs D) (f g : FE) : FE := fun r m => (f r m).bind fun a m => (g r m).bind fun b m => o a b m
def OpS (T : Tx) (r : R2) (o : D → D → List O → Rs D) : Prop := ∀ (W : Str → Wo → Prop) (w : Wo) (d e : D) (v u : V) (Q : VK), Ok T w → RelD T w d v → RelD T w e u → Post T (RelD T) W w (o d e w.mu) Q → r v u w.H Q
theorem opS {r : R2} {o : D → D → List O → Rs D} (s : OpS T r o) : ∀ σ H Q, rd T W (fBin o f g) σ H Q → tOp r (rd T W f) (rd T W g) σ H Q := by
  rintro σ H Q ⟨w, l, rfl, ok, re, h⟩
  refine go_e ok re h fun a w1 b e1 ok1 re1 r1 h1 => ?_
  refine go_e ok1 re1 h1 fun a2 w2 b2 e2 ok2 re2 r2 h2 => ?_
  exact s _ w2 _ _ _ _ _ ok2 (r1.ex ok1 e2.toEx0) r2 h2
theorem v_bin {op : Operator} {r : R2} {o : D → D → List O → Rs D} (ho : OpR X (binaryOp op) r) (s : OpS (tx X) r o) (ha : PE X a (rd (tx X) W f)) (hb : PE X b (rd (tx X) W g)) : PE X (.BinOp a op b pos) (rd (tx X) W (fBin o f g)) :=
  pe_imp (pe_op ho ha hb) (opS s)
/-- a new tuple, a new list -/
theorem new_tup {W : Str → Wo → Prop} {w : Wo} {ds : List D} {vs : List V} {Q : VK} (ok : Ok T w) (r : RelDs T w ds vs) (h : Post T (RelD T) W w (.ok (.tup ds) w.mu) Q) (p : Addr) (hp : w.H p = none) : Q (.ref p) (upd w.H p (.tup vs)) :=
  h (w.lay p (.tup vs)) (.ref p) (lay_ex ok hp) (lay_ok ok hp) rfl (by simp only [RelD]; exact ⟨p, vs, rfl, SqT.of upd_same, r.ex ok (lay_ex ok hp).toEx0⟩)
theorem new_lst {W : Str → Wo → Prop} {w : Wo} {ds : List D} {vs : List V} {Q : VK} (ok : Ok T w) (r : RelDs T w ds vs) (h : Post T (RelD T) W w (.ok (.lst ds) w.mu) Q) (p : Addr) (hp : w.H p = none) : Q (.ref p) (upd w.H p (.lst vs)) :=
  h (w.lay p (.lst vs)) (.ref p) (lay_ex ok hp) (lay_ok ok hp) rfl (by simp only [RelD]; exact ⟨p, vs, rfl, upd_same, not_live ok hp, r.ex ok (lay_ex ok hp).toEx0⟩)
theorem new_loc {W : Str → Wo → Prop} {w : Wo} {ds : List D} {vs : List V} {Q : VK} (ok : Ok T w) (r : RelDs T w ds vs) (h : Post T (RelD T) W w (.ok (.loc w.mu.length) (w.mu ++ [.lst ds])) Q) (p : Addr) (hp : w.H p = none) : Q (.ref p) (upd w.H p (.lst vs)) :=
  h (w.new p (.lst vs) (.lst ds)) (.ref p) (new_ex ok hp) (new_ok ok hp ⟨vs, upd_same, r.ex ok (new_ex ok hp).toEx0⟩) rfl (by
    simp only [RelD]; refine ⟨p, rfl, ?_⟩
    show (w.bt ++ [p])[w.mu.length]? = some p
    rw [ok.len]; simp)

@[reducible] def gAdd : D → D → List O → Rs D := fun a b m => match a, b with
  | .int i, .int j => .ok (.int (i + j)) m
  | .str x, .str y => if x.length + y.length ≤ 16777216 then .ok (.str (x ++ y)) m else .stk
  | .tup xs, .tup ys => if xs.length + ys.length ≤ 16777216 then .ok (.tup (xs ++ ys)) m else .stk
  | .int i, .bl j => .ok (.int (i + PyProof.Rows.b2i j)) m
  | x, y => match derefL x m, derefL y m with
    | some xs, some ys => if xs.length + ys.length ≤ 16777216 then .ok (.lst (xs ++ ys)) m else .stk
    | _, _ => .stk
def rAddAll (K : PySem.W.Frag) : R2 := fun x y H Q => ((rI0 (fun i j => .int (i + j)) x y H Q ∨ (∃ i j, x = .str i ∧ y = .str j ∧ i.length + j.length ≤ sizeLine ∧ Q (.str (i ++ j)) H)) ∨ rCatA K x y H Q) ∨ ((∃ i k, x = .int i ∧ y = .bl k ∧ Q (.int (i + PyProof.Rows.b2i k)) H) ∨ rCat x y H Q)
theorem op_addAll : OpR X (binaryOp .Add) (rAddAll X.K) := OpR.or (OpR.or (OpR.or op_add op_add_str) op_catA) (OpR.or op_add_ib op_cat)
theorem RelDs.emp {w : Wo} {ds : List D} {vs : List V} (r : RelDs T w ds vs) : vs = [] ↔ ds = [] := by
  have := r.length
  constructor
  · rintro rfl; exact List.length_eq_zero_iff.mp this.symm
  · rintro rfl; exact List.length_eq_zero_iff.mp this
theorem s_add : OpS T (rAddAll T.K) gAdd := by
  intro W w d e v u Q ok r1 r2 h
  unfold gAdd at h
  split at h
  · simp only [RelD] at r1 r2; subst r1 r2
    exact .inl (.inl (.inl ⟨_, _, rfl, rfl, h.now ok (by simp only [RelD])⟩))
  · simp only [RelD] at r1 r2; subst r1 r2
    split at h
    · rename_i hl
      exact .inl (.inl (.inr ⟨_, _, rfl, rfl, by rw [sizeLine_eq]; exact hl, h.now ok (by simp only [RelD])⟩))
    · exact h.elim
  · split at h
    · rename_i hl
      simp only [RelD] at r1 r2
      obtain ⟨p, vs, rfl, h1, q1⟩ := r1
      obtain ⟨p2, vs2, rfl, h2, q2⟩ := r2
      refine .inl (.inr ⟨p, p2, vs, vs2, rfl, rfl, h1, h2, by rw [sizeLine_eq, q1.length, q2.length]; exact hl, fun e => ?_, fun _ e => ?_, fun _ _ => new_tup ok (q1.append q2) h⟩)
      · have := q1.emp.mp e; subst this
        exact h.now ok (by simp only [RelD]; exact ⟨p2, vs2, rfl, h2, q2⟩)
      · have := q2.emp.mp e; subst this
        exact h.now ok (by simp only [RelD]; exact ⟨p, vs, rfl, h1, by simpa using q1⟩)
    · exact h.elim
  · simp only [RelD] at r1 r2; subst r1 r2
    exact .inr (.inl ⟨_, _, rfl, rfl, h.now ok (by simp only [RelD])⟩)
  · split at h
    · rename_i xs ys e1 e2
      split at h
      · rename_i hl
        obtain ⟨a, vs, rfl, h1, q1⟩ := derefL_ok ok r1 e1
        obtain ⟨a2, vs2, rfl, h2, q2⟩ := derefL_ok ok r2 e2
        exact .inr (.inr ⟨a, a2, vs, vs2, rfl, rfl, h1, h2, by rw [sizeLine_eq, q1.length, q2.length]; exact hl, new_lst ok (q1.append q2) h⟩)
      · exact h.elim
    · exact h.elim
theorem v_add (ha : PE X a (rd (tx X) W f)) (hb : PE X b (rd (tx X) W g)) : PE X (.BinOp a .Add b pos) (rd (tx X) W (fBin gAdd f g)) := v_bin op_addAll s_add ha hb

/-- ints -/
@[reducible] def gI (c : Int → Int → Bool) (o : Int → Int → D) : D → D → List O → Rs D := fun a b m => match a, b with
  | .int i, .int j => if c i j = true then .ok (o i j) m else .stk
  | _, _ => .stk
theorem s_I {C : Int → Int → Prop} {c : Int → Int → Bool} {r : Int → Int → V} {o : Int → Int → D} (hc : ∀ i j, c i j = true → C i j) (ho : ∀ w i j, RelD T w (o i j) (r i j)) : OpS T (rI C r) (gI c o) := by
  intro W w d e v u Q ok r1 r2 h
  unfold gI at h
  split at h
  · simp only [RelD] at r1 r2; subst r1 r2
    split at h
    · rename_i q
      exact ⟨_, _, rfl, rfl, hc _ _ q, h.now ok (ho _ _ _)⟩
    · exact h.elim
  · exact h.elim
theorem s_I0 {r : Int → Int → V} {o : Int → Int → D} (ho : ∀ w i j, RelD T w (o i j) (r i j)) : OpS T (rI0 r) (gI (fun _ _ => true) o) := by
  intro W w d e v u Q ok r1 r2 h
  unfold gI at h
  split at h
  · simp only [RelD] at r1 r2; subst r1 r2
    exact ⟨_, _, rfl, rfl, h.now ok (ho _ _ _)⟩
  · exact h.elim
@[reducible] def gSub := gI (fun _ _ => true) fun i j => .int (i - j)
theorem v_sub (ha : PE X a (rd (tx X) W f)) (hb : PE X b (rd (tx X) W g)) : PE X (.BinOp a .Sub b pos) (rd (tx X) W (fBin gSub f g)) := v_bin op_sub (s_I0 fun _ _ _ => by simp only [RelD]) ha hb
@[reducible] def cMul (i j : Int) : Bool := (decide (-(2 ^ 64) < i) && decide (i < 2 ^ 64)) || (decide (-(2 ^ 64) < j) && decide (j < 2 ^ 64))
@[reducible] def gMulI := gI cMul fun i j => .int (i * j)
theorem v_mul (ha : PE X a (rd (tx X) W f)) (hb : PE X b (rd (tx X) W g)) : PE X (.BinOp a .Mult b pos) (rd (tx X) W (fBin gMulI f g)) :=
  v_bin op_mul (s_I (fun i j h => by simpa [cMul, CMul] using h) fun _ _ _ => by simp only [RelD]) ha hb
@[reducible] def gMod := gI (fun _ j => decide (0 < j)) fun i j => .int (i % j)
theorem v_mod (ha : PE X a (rd (tx X) W f)) (hb : PE X b (rd (tx X) W g)) : PE X (.BinOp a .Mod b pos) (rd (tx X) W (fBin gMod f g)) :=
  v_bin op_mod (s_I (fun i j h => of_decide_eq_true h) fun _ _ _ => by simp only [RelD]) ha hb
@[reducible] def gFdiv := gI (fun _ j => decide (0 < j ∧ j < 1073741824)) fun i j => .int (i / j)
theorem v_fdiv (ha : PE X a (rd (tx X) W f)) (hb : PE X b (rd (tx X) W g)) : PE X (.BinOp a .FloorDiv b pos) (rd (tx X) W (fBin gFdiv f g)) :=
  v_bin op_fdiv (s_I (fun i j h => by simpa [CDiv] using h) fun _ _ _ => by simp only [RelD]) ha hb
@[reducible] def gPow := gI (fun i j => decide (0 ≤ j ∧ j ≤ 1000000 ∧ i.natAbs < 2 ^ 64)) fun i j => .int (i ^ j.toNat)
theorem v_pow (ha : PE X a (rd (tx X) W f)) (hb : PE X b (rd (tx X) W g)) : PE X (.BinOp a .Pow b pos) (rd (tx X) W (fBin gPow f g)) :=
  v_bin op_pow (s_I (fun i j h => by simpa [CPow] using h) fun _ _ _ => by simp only [RelD]) ha hb
@[reducible] def gNeg : D → List O → Rs D := fun a m => match a with
  | .int i => .ok (.int (-i)) m
  | _ => .stk
@[reducible] def fUn (o : D → List O → Rs D) (f : FE) : FE := fun r m => (f r m).bind o
theorem v_neg (ha : PE X a (rd (tx X) W f)) : PE X (.UnaryOp .USub a pos) (rd (tx X) W (fUn gNeg f)) := by
  refine pe_imp (pe_un un_neg ha) ?_
  rintro σ H Q ⟨w, l, rfl, ok, re, h⟩
  refine go_e ok re h fun d w1 v e1 ok1 re1 r1 h1 => ?_
  unfold gNeg at h1
  split at h1
  · simp only [RelD] at r1; subst r1
    exact ⟨_, rfl, h1.now ok1 (by simp only [RelD])⟩
  · exact h1.elim

/-! ### comparisons -/
/-- a comparison, by values -/
def Cm (X : Cx) (op : CmpOp) (o : D → D → List O → Rs D) : Prop := ∃ r, OpR X (compareOp op) r ∧ OpS (tx X) r o
theorem v_cmp {op : CmpOp} {o : D → D → List O → Rs D} (hm : behindInMarks op b = false) (m : Cm X op o) (ha : PE X a (rd (tx X) W f)) (hb : PE X b (rd (tx X) W g)) :
    PE X (.Compare a [op] [b] pos) (rd (tx X) W (fBin o f g)) := let ⟨_, ho, s⟩ := m; pe_imp (pe_cmpR ho ha hb hm) (opS s)
@[reducible] def tVal (f : FE) : FT := fun r m => (f r m).bind fun d m => match d with
  | .bl z => .ok z m
  | _ => .stk
theorem tvalS : ∀ σ H Q, rdT T W (tVal f) σ H Q → rd T W f σ H fun x H' => ∃ k, x = .bl k ∧ Q k H' := by
  rintro σ H Q ⟨w, l, rfl, ok, re, h⟩
  refine go_e ok re h fun d w1 v e1 ok1 re1 r1 h1 => ?_
  split at h1
  · simp only [RelD] at r1; subst r1
    exact ⟨_, rfl, h1.now ok1 rfl⟩
  · exact h1.elim
theorem t_cmp {op : CmpOp} {o : D → D → List O → Rs D} (hm : behindInMarks op b = false) (m : Cm X op o) (ha : PE X a (rd (tx X) W f)) (hb : PE X b (rd (tx X) W g)) :
    PT X (.Compare a [op] [b] pos) (rdT (tx X) W (tVal (fBin o f g))) := let ⟨_, ho, s⟩ := m; pt_imp (pt_cmpR ho ha hb hm) fun σ H Q h => opS s σ H _ (tvalS σ H Q h)
@[reducible] def gLt := gI (fun _ _ => true) fun i j => .bl (decide (i < j))
@[reducible] def gLe := gI (fun _ _ => true) fun i j => .bl (decide (i ≤ j))
@[reducible] def gGt := gI (fun _ _ => true) fun i j => .bl (decide (j < i))
@[reducible] def gGe := gI (fun _ _ => true) fun i j => .bl (decide (j ≤ i))
theorem cm_lt : Cm X .Lt gLt := ⟨_, op_lt, s_I0 fun _ _ _ => by simp only [RelD]⟩
theorem cm_le : Cm X .LtE gLe := ⟨_, op_le, s_I0 fun _ _ _ => by simp only [RelD]⟩
theorem cm_gt : Cm X .Gt gGt := ⟨_, op_gt, s_I0 fun _ _ _ => by simp only [RelD]⟩
theorem cm_ge : Cm X .GtE gGe := ⟨_, op_ge, s_I0 fun _ _ _ => by simp only [RelD]⟩
/-- a op b op' c -/
@[reducible] def fChain (o o' : D → D → List O → Rs D) (f g h : FE) : FE := fun r m => (f r m).bind fun a m => (g r m).bind fun b m => (o a b m).bind fun z m => match z with
  | .bl true => (h r m).bind fun c m => o' b c m
  | .bl false => .ok (.bl false) m
  | _ => .stk
theorem chainS {r r' : R2} {o o' : D → D → List O → Rs D} (s : OpS T r o) (s' : OpS T r' o') : ∀ σ H Q, rd T W (fChain o o' f g h) σ H Q → tChain r r' (rd T W f) (rd T W g) (rd T W h) σ H Q := by
  rintro σ H Q ⟨w, l, rfl, ok, re, hh⟩
  refine go_e ok re hh fun a w1 x e1 ok1 re1 r1 h1 => ?_
  refine go_e ok1 re1 h1 fun b w2 y e2 ok2 re2 r2 h2 => ?_
  refine s (wx T W σ) w2 a b x y _ ok2 (r1.ex ok1 e2.toEx0) r2 (go h2 fun z w3 v3 e3 ok3 r3 h3 => ?_)
  have r2' := r2.ex ok2 e3.toEx0
  have re3 := re2.ex ok2 e3.toEx0
  split at h3
  · simp only [RelD] at r3; subst r3
    refine ⟨true, rfl, ?_⟩
    simp only [if_true]
    refine go_e ok3 re3 h3 fun c w4 z4 e4 ok4 re4 r4 h4 => ?_
    exact s' _ w4 _ _ _ _ _ ok4 (r2'.ex ok3 e4.toEx0) r4 h4
  · simp only [RelD] at r3; subst r3
    exact ⟨false, rfl, by simp only [Bool.false_eq_true, if_false]; exact h3.now ok3 (by simp only [RelD])⟩
  · exact h3.elim
theorem v_chain {op op' : CmpOp} {o o' : D → D → List O → Rs D} (hm : lastMarks [op, op'] [b, c] = false) (m : Cm X op o) (m' : Cm X op' o') (ha : PE X a (rd (tx X) W f)) (hb : PE X b (rd (tx X) W g)) (hc : PE X c (rd (tx X) W h)) :
    PE X (.Compare a [op, op'] [b, c] pos) (rd (tx X) W (fChain o o' f g h)) := let ⟨_, ho, s⟩ := m; let ⟨_, ho', s'⟩ := m'; pe_imp (pe_chain ho ho' ha hb hc hm) (chainS s s')
theorem t_chain {op op' : CmpOp} {o o' : D → D → List O → Rs D} (hm : lastMarks [op, op'] [b, c] = false) (m : Cm X op o) (m' : Cm X op' o') (ha : PE X a (rd (tx X) W f)) (hb : PE X b (rd (tx X) W g)) (hc : PE X c (rd (tx X) W h)) :
    PT X (.Compare a [op, op'] [b, c] pos) (rdT (tx X) W (tVal (fChain o o' f g h))) := let ⟨_, ho, s⟩ := m; let ⟨_, ho', s'⟩ := m'; pt_imp (pt_chain ho ho' ha hb hc hm) fun σ H Q h => chainS s s' σ H _ (tvalS σ H Q h)

/-! ### == and != of data -/
mutual
def toPy : D → Option PyData
  | .non => some .none
  | .bl b => some (.bool b)
  | .int i => some (.int i)
  | .str x => some (.str x)
  | .tup xs => (toPys xs).map .tuple
  | .lst xs => (toPys xs).map .list
  | _ => none
def toPys : List D → Option (List PyData)
  | [] => some []
  | x :: xs => match toPy x, toPys xs with
    | some p, some ps => some (p :: ps)
    | _, _ => none
end
mutual
theorem toPy_ok {w : Wo} : ∀ {d : D} {v : V} {p : PyData}, RelD T w d v → toPy d = some p → Dp T.K w.H v p
  | .non, v, p, r, h => by simp only [RelD] at r; simp only [toPy, Option.some.injEq] at h; subst r h; exact .non
  | .bl _, v, p, r, h => by simp only [RelD] at r; simp only [toPy, Option.some.injEq] at h; subst r h; exact .bl _
  | .int _, v, p, r, h => by simp only [RelD] at r; simp only [toPy, Option.some.injEq] at h; subst r h; exact .int _
  | .str _, v, p, r, h => by simp only [RelD] at r; simp only [toPy, Option.some.injEq] at h; subst r h; exact .str _
  | .tup xs, v, p, r, h => by
    simp only [RelD] at r
    obtain ⟨a, vs, rfl, h1, h2⟩ := r
    simp only [toPy, Option.map_eq_some_iff] at h
    obtain ⟨ps, e, rfl⟩ := h
    exact .tup h1 (toPys_ok h2 e)
  | .lst xs, v, p, r, h => by
    simp only [RelD] at r
    obtain ⟨a, vs, rfl, h1, _, h2⟩ := r
    simp only [toPy, Option.map_eq_some_iff] at h
    obtain ⟨ps, e, rfl⟩ := h
    exact .lst (SqL.of h1) (toPys_ok h2 e)
  | .ty _, _, _, _, h => by simp [toPy] at h
  | .dct _ _, _, _, _, h => by simp [toPy] at h
  | .ins _ _ _, _, _, _, h => by simp [toPy] at h
  | .loc _, _, _, _, h => by simp [toPy] at h
  | .glo _, _, _, _, h => by simp [toPy] at h
  | .scr _, _, _, _, h => by simp [toPy] at h
  | .exc _, _, _, _, h => by simp [toPy] at h
theorem toPys_ok {w : Wo} : ∀ {ds : List D} {vs : List V} {ps : List PyData}, RelDs T w ds vs → toPys ds = some ps → DpAll T.K w.H vs ps
  | [], vs, ps, r, h => by simp only [RelDs] at r; simp only [toPys, Option.some.injEq] at h; subst r h; exact .nil
  | d :: ds, vs, ps, r, h => by
    simp only [RelDs] at r
    obtain ⟨v, l, rfl, h1, h2⟩ := r
    simp only [toPys] at h
    split at h
    · rename_i p ps' e1 e2
      cases h
      exact .cons (toPy_ok h1 e1) (toPys_ok h2 e2)
    · cases h
end
@[reducible] def gEqW (n : Bool) : D → D → List O → Rs D := fun a b m => match toPy a, toPy b with
  | some p, some q => if (SeqAt.shaped p && SeqAt.shaped q) = true then .ok (.bl (if n then !PyData.eqv p q else PyData.eqv p q)) m else .stk
  | _, _ => .stk
@[reducible] def gEq := gEqW false
@[reducible] def gNe := gEqW true
theorem s_eq : OpS T (rEqD T.K) gEq := by
  intro W w d e v u Q ok r1 r2 h
  unfold gEq gEqW at h
  split at h
  · rename_i p q e1 e2
    split at h
    · rename_i hs
      rw [Bool.and_eq_true] at hs
      exact ⟨p, q, toPy_ok r1 e1, toPy_ok r2 e2, hs.1, hs.2, h.now ok (by simp [RelD])⟩
    · exact h.elim
  · exact h.elim
theorem s_ne : OpS T (rNeD T.K) gNe := by
  intro W w d e v u Q ok r1 r2 h
  unfold gNe gEqW at h
  split at h
  · rename_i p q e1 e2
    split at h
    · rename_i hs
      rw [Bool.and_eq_true] at hs
      exact ⟨p, q, toPy_ok r1 e1, toPy_ok r2 e2, hs.1, hs.2, h.now ok (by simp [RelD])⟩
    · exact h.elim
  · exact h.elim
theorem cm_eq (hr : Room k X.A) : Cm X .Eq gEq := ⟨_, op_eqD hr.units, s_eq⟩
theorem cm_ne (hr : Room k X.A) : Cm X .NotEq gNe := ⟨_, op_neD hr.units, s_ne⟩

/-! ### is None, is of types -/
@[reducible] def isNon : D → Bool
  | .non => true
  | _ => false
@[reducible] def gIsW (n : Bool) : D → D → List O → Rs D := fun a b m => match b with
  | .non => .ok (.bl (if n then !isNon a else isNon a)) m
  | .ty y => match a with
    | .ty x => .ok (.bl (if n then !decide (x = y) else decide (x = y))) m
    | _ => .stk
  | _ => .stk
theorem isNon_val {w : Wo} {d : D} {v : V} (r : RelD T w d v) : decide (v = .non) = isNon d := by
  cases d <;> simp only [RelD] at r
  case non => subst r; rfl
  all_goals refine decide_eq_false ?_
  all_goals first
    | (subst r; simp)
    | (obtain ⟨_, _, e, _⟩ := r; subst e; simp)
    | (obtain ⟨_, e, _⟩ := r; subst e; simp)
    | (obtain ⟨_, _, _, _, e, _⟩ := r; subst e; simp)
@[reducible] def gIs := gIsW false
@[reducible] def gIsNot := gIsW true
theorem cm_is : Cm X .Is gIs := by
  refine ⟨_, OpR.or op_isN op_isTyB, fun W w d e v u Q ok r1 r2 h => ?_⟩
  unfold gIs gIsW at h
  split at h
  · simp only [RelD] at r2; subst r2
    refine .inl ⟨rfl, ?_⟩
    rw [isNon_val r1]
    exact h.now ok (by simp [RelD])
  · split at h
    · simp only [RelD] at r1 r2; subst r1 r2
      exact .inr ⟨_, _, rfl, rfl, h.now ok (by simp [RelD])⟩
    · exact h.elim
  · exact h.elim
theorem cm_isNot : Cm X .IsNot gIsNot := by
  refine ⟨_, OpR.or op_notN op_notTyB, fun W w d e v u Q ok r1 r2 h => ?_⟩
  unfold gIsNot gIsW at h
  split at h
  · simp only [RelD] at r2; subst r2
    refine .inl ⟨rfl, ?_⟩
    rw [isNon_val r1]
    exact h.now ok (by simp [RelD])
  · split at h
    · simp only [RelD] at r1 r2; subst r1 r2
      exact .inr ⟨_, _, rfl, rfl, h.now ok (by simp [RelD])⟩
    · exact h.elim
  · exact h.elim

/-! ### in: a sign in a text, a flat value in a list or tuple -/
@[reducible] def flatD : D → Bool
  | .non => true
  | .bl _ => true
  | .int _ => true
  | .str _ => true
  | _ => false
@[reducible] def eqF : D → D → Bool
  | .non, .non => true
  | .bl a, .bl b => a == b
  | .bl a, .int b => (if a then 1 else 0) == b
  | .int a, .bl b => a == (if b then 1 else 0)
  | .int a, .int b => a == b
  | .str a, .str b => a == b
  | _, _ => false
theorem flat_val {w : Wo} {d : D} {v : V} (r : RelD T w d v) (h : flatD d = true) : flatV v = true := by
  cases d <;> simp only [RelD] at r <;> first | (subst r; rfl) | cases h
theorem eqF_val {w : Wo} {d e : D} {v u : V} (r : RelD T w d v) (q : RelD T w e u) (h : flatD d = true) (h2 : flatD e = true) : eqF d e = eqV v u := by
  cases d <;> simp only [RelD] at r <;> first | (subst r) | cases h
  all_goals (cases e <;> simp only [RelD] at q <;> first | (subst q; rfl) | cases h2)
theorem inV_val {w : Wo} {d : D} {v : V} (r : RelD T w d v) (h : flatD d = true) : ∀ {ds : List D} {vs : List V}, RelDs T w ds vs → ds.all flatD = true → vs.all flatV = true ∧ inV v vs = ds.any fun y => eqF y d
  | [], vs, q, _ => by simp only [RelDs] at q; subst q; exact ⟨rfl, rfl⟩
  | e :: ds, vs, q, hf => by
    simp only [RelDs] at q
    obtain ⟨u, l, rfl, h1, h2⟩ := q
    rw [List.all_cons, Bool.and_eq_true] at hf
    obtain ⟨i1, i2⟩ := inV_val r h h2 hf.2
    refine ⟨by rw [List.all_cons, flat_val h1 hf.1, i1]; rfl, ?_⟩
    unfold inV at i2 ⊢
    rw [List.any_cons, List.any_cons, i2, eqF_val h1 r hf.1 h]
@[reducible] def gInW (n : Bool) : D → D → List O → Rs D := fun a b m => match a, b with
  | .str x, .str z => if x.cps.size = 1 then .ok (.bl (if n then !decide (x.cps.getD 0 0 ∈ z.cps.toList) else decide (x.cps.getD 0 0 ∈ z.cps.toList))) m else .stk
  | x, y => match derefS y m with
    | some ys => if (flatD x && ys.all flatD) = true then .ok (.bl (if n then !(ys.any fun y => eqF y x) else ys.any fun y => eqF y x)) m else .stk
    | none => .stk
theorem sign_of {x : Str} (h : x.cps.size = 1) : x = ⟨#[x.cps.getD 0 0]⟩ := by
  obtain ⟨⟨l⟩⟩ := x
  match l, h with
  | [c], _ => rfl
@[reducible] def gIn := gInW false
@[reducible] def gNotIn := gInW true
theorem cm_in : Cm X .In gIn := by
  refine ⟨_, OpR.or op_in_sign op_in_seq, fun W w d e v u Q ok r1 r2 h => ?_⟩
  unfold gIn gInW at h
  split at h
  · split at h
    · rename_i hz
      simp only [RelD] at r1 r2; subst r1 r2
      exact .inl ⟨_, _, by rw [sign_of hz], rfl, h.now ok (by simp [RelD])⟩
    · exact h.elim
  · split at h
    · rename_i ys e1
      split at h
      · rename_i hf
        rw [Bool.and_eq_true] at hf
        obtain ⟨p, vs, rfl, h1, h2⟩ := derefS_ok ok r2 e1
        obtain ⟨i1, i2⟩ := inV_val r1 hf.1 h2 hf.2
        refine .inr ⟨p, vs, rfl, h1, flat_val r1 hf.1, i1, ?_⟩
        simp only [Bool.false_eq_true, if_false]
        rw [i2]
        exact h.now ok (by simp [RelD])
      · exact h.elim
    · exact h.elim
theorem cm_notIn : Cm X .NotIn gNotIn := by
  refine ⟨_, OpR.or op_notIn_sign op_notIn_seq, fun W w d e v u Q ok r1 r2 h => ?_⟩
  unfold gNotIn gInW at h
  split at h
  · split at h
    · rename_i hz
      simp only [RelD] at r1 r2; subst r1 r2
      exact .inl ⟨_, _, by rw [sign_of hz], rfl, h.now ok (by simp [RelD])⟩
    · exact h.elim
  · split at h
    · rename_i ys e1
      split at h
      · rename_i hf
        rw [Bool.and_eq_true] at hf
        obtain ⟨p, vs, rfl, h1, h2⟩ := derefS_ok ok r2 e1
        obtain ⟨i1, i2⟩ := inV_val r1 hf.1 h2 hf.2
        refine .inr ⟨p, vs, rfl, h1, flat_val r1 hf.1, i1, ?_⟩
        simp only [if_true]
        rw [i2]
        exact h.now ok (by simp [RelD])
      · exact h.elim
    · exact h.elim
end FR
set_option Elab.async false
set_option linter.all false
set_option maxRecDepth 100000
set_option maxHeartbeats 4000000
/-! ## Tests, displays, items, built-ins, methods -/
namespace FR
open PySem PySem.Spec L2
set_option autoImplicit false
variable {X : Cx} {T : Tx} {W : WX} {f g h : FE} {fa : FA} {ft gt : FT} {a b c e o : Expr} {es rest : List Expr} {pos : Pos} {k : Nat}

/-! ### and, or, not, a choice -/
@[reducible] def fAnd (f g : FE) : FE := fun r m => (f r m).bind fun d m => match d with
  | .bl true => g r m
  | .bl false => .ok (.bl false) m
  | _ => .stk
@[reducible] def fOr (f g : FE) : FE := fun r m => (f r m).bind fun d m => match d with
  | .bl true => .ok (.bl true) m
  | .bl false => g r m
  | _ => .stk
theorem v_one {op} (ha : PE X a (rd (tx X) W f)) : PE X (.BoolOp op [a] pos) (rd (tx X) W f) := pe_one ha
theorem v_and (ha : PE X a (rd (tx X) W f)) (hb : PE X (.BoolOp .And (b :: rest) pos) (rd (tx X) W g)) : PE X (.BoolOp .And (a :: b :: rest) pos) (rd (tx X) W (fAnd f g)) := by
  refine pe_imp (pe_and ha hb) ?_
  rintro σ H Q ⟨w, l, rfl, ok, re, h⟩
  refine go_e ok re h fun d w1 v e1 ok1 re1 r1 h1 => ?_
  split at h1
  · simp only [RelD] at r1; subst r1
    refine ⟨true, rfl, ?_⟩
    simp only [if_true]
    exact ⟨w1, l, rfl, ok1, re1, h1⟩
  · simp only [RelD] at r1; subst r1
    refine ⟨false, rfl, ?_⟩
    simp only [Bool.false_eq_true, if_false]
    exact h1.now ok1 (by simp only [RelD])
  · exact h1.elim
theorem v_or (ha : PE X a (rd (tx X) W f)) (hb : PE X (.BoolOp .Or (b :: rest) pos) (rd (tx X) W g)) : PE X (.BoolOp .Or (a :: b :: rest) pos) (rd (tx X) W (fOr f g)) := by
  refine pe_imp (pe_or ha hb) ?_
  rintro σ H Q ⟨w, l, rfl, ok, re, h⟩
  refine go_e ok re h fun d w1 v e1 ok1 re1 r1 h1 => ?_
  split at h1
  · simp only [RelD] at r1; subst r1
    refine ⟨true, rfl, ?_⟩
    simp only [if_true]
    exact h1.now ok1 (by simp only [RelD])
  · simp only [RelD] at r1; subst r1
    refine ⟨false, rfl, ?_⟩
    simp only [Bool.false_eq_true, if_false]
    exact ⟨w1, l, rfl, ok1, re1, h1⟩
  · exact h1.elim

/-! ### tests -/
/-- an expression whose value is a bool -/
theorem t_val (he : PE X e (rd (tx X) W f)) (h : ∀ whole, isTrue e X.env whole = (do let v ← whole; standAt e.pos; holding [v] (truthy v)) := by intro _; rfl) : PT X e (rdT (tx X) W (tVal f)) := by
  refine pt_imp (pt_val he h) fun σ H Q q => ?_
  exact tvalS σ H Q q
/-- truth of any value -/
@[reducible] def truD (d : D) (m : List O) : Option Bool := match d with
  | .non => some false
  | .bl z => some z
  | .int i => some (i != 0)
  | .str x => if x.length ≤ 16777216 then some ((x.length : Int) != 0) else none
  | d => match derefS d m with
    | some xs => some (!xs.isEmpty)
    | none => none
@[reducible] def tTru (f : FE) : FT := fun r m => (f r m).bind fun d m => match truD d m with
  | some z => .ok z m
  | none => .stk
theorem RelDs.isEmpty {w : Wo} {ds : List D} {vs : List V} (r : RelDs T w ds vs) : vs.isEmpty = ds.isEmpty := by
  have := r.length
  cases ds <;> cases vs <;> first | rfl | simp at this
theorem truD_ok {w : Wo} {d : D} {v : V} {z : Bool} (ok : Ok T w) (r : RelD T w d v) (h : truD d w.mu = some z) : TruV T.K v w.H z := by
  have seq : derefS d w.mu ≠ none → ∀ z, (match derefS d w.mu with | some xs => some (!xs.isEmpty) | none => none) = some z → TruV T.K v w.H z := by
    intro hn z hz
    split at hz
    · rename_i xs e
      cases hz
      obtain ⟨a, vs, rfl, h1, h2⟩ := derefS_ok ok r e
      rcases h1 with h1 | h1
      · exact .inl ⟨vs, h1, by rw [h2.isEmpty]⟩
      · exact .inr (.inl ⟨vs, h1, by rw [h2.isEmpty]⟩)
    · cases hz
  cases d with
  | non => simp only [RelD] at r; subst r; cases h; rfl
  | bl _ => simp only [RelD] at r; subst r; cases h; rfl
  | int _ => simp only [RelD] at r; subst r; cases h; rfl
  | str x =>
    simp only [RelD] at r; subst r
    have h' : (if x.length ≤ 16777216 then some ((x.length : Int) != 0) else none) = some z := h
    by_cases hl : x.length ≤ 16777216
    · rw [if_pos hl] at h'; cases h'; exact ⟨by rw [sizeLine_eq]; exact hl, rfl⟩
    · rw [if_neg hl] at h'; cases h'
  | tup xs => exact seq (by simp [derefS]) z h
  | lst xs => exact seq (by simp [derefS]) z h
  | loc n =>
    have h' : (match derefS (.loc n) w.mu with | some xs => some (!xs.isEmpty) | none => none) = some z := h
    exact seq (by intro q; rw [q] at h'; cases h') z h'
  | _ => cases h
theorem t_tru (he : PE X e (rd (tx X) W f)) (h : ∀ whole, isTrue e X.env whole = (do let v ← whole; standAt e.pos; holding [v] (truthy v)) := by intro _; rfl) : PT X e (rdT (tx X) W (tTru f)) := by
  refine pt_imp (pt_truth he h) ?_
  rintro σ H Q ⟨w, l, rfl, ok, re, h⟩
  refine go_e ok re h fun d w1 v e1 ok1 re1 r1 h1 => ?_
  split at h1
  · rename_i z ez
    exact ⟨z, truD_ok ok1 r1 ez, h1.now ok1 rfl⟩
  · exact h1.elim
@[reducible] def tNot_ (f : FT) : FT := fun r m => (f r m).bind fun z m => .ok (!z) m
@[reducible] def tAnd_ (f g : FT) : FT := fun r m => (f r m).bind fun z m => if z = true then g r m else .ok false m
@[reducible] def tOr_ (f g : FT) : FT := fun r m => (f r m).bind fun z m => if z = true then .ok true m else g r m
theorem t_not (h : PT X a (rdT (tx X) W ft)) : PT X (.UnaryOp .Not a pos) (rdT (tx X) W (tNot_ ft)) := by
  refine pt_imp (pt_not h) ?_
  rintro σ H Q ⟨w, l, rfl, ok, re, h⟩
  exact go_t ok re h fun z w1 e1 ok1 re1 h1 => h1.now ok1 rfl
theorem w_and1 (h : PT X a (rdT (tx X) W ft)) : PW X (.BoolOp .And [a] pos) (rdT (tx X) W ft) := pw_and1 h
theorem w_or1 (h : PT X a (rdT (tx X) W ft)) : PW X (.BoolOp .Or [a] pos) (rdT (tx X) W ft) := pw_or1 h
theorem w_and (ha : PT X a (rdT (tx X) W ft)) (hb : PW X (.BoolOp .And (b :: rest) pos) (rdT (tx X) W gt)) : PW X (.BoolOp .And (a :: b :: rest) pos) (rdT (tx X) W (tAnd_ ft gt)) := by
  refine pw_imp (pw_and ha hb) ?_
  rintro σ H Q ⟨w, l, rfl, ok, re, h⟩
  refine go_t ok re h fun z w1 e1 ok1 re1 h1 => ?_
  cases z with
  | true => simp only [if_true] at h1 ⊢; exact ⟨w1, l, rfl, ok1, re1, h1⟩
  | false => simp only [Bool.false_eq_true, if_false] at h1 ⊢; exact h1.now ok1 rfl
theorem w_or (ha : PT X a (rdT (tx X) W ft)) (hb : PW X (.BoolOp .Or (b :: rest) pos) (rdT (tx X) W gt)) : PW X (.BoolOp .Or (a :: b :: rest) pos) (rdT (tx X) W (tOr_ ft gt)) := by
  refine pw_imp (pw_or ha hb) ?_
  rintro σ H Q ⟨w, l, rfl, ok, re, h⟩
  refine go_t ok re h fun z w1 e1 ok1 re1 h1 => ?_
  cases z with
  | true => simp only [if_true] at h1 ⊢; exact h1.now ok1 rfl
  | false => simp only [Bool.false_eq_true, if_false] at h1 ⊢; exact ⟨w1, l, rfl, ok1, re1, h1⟩
theorem t_w (h : PW X a (rdT (tx X) W ft)) : PT X a (rdT (tx X) W ft) := h.pt
/-- not of a bool, as a value -/
@[reducible] def gNot : D → List O → Rs D := fun d m => match d with
  | .bl z => .ok (.bl (!z)) m
  | _ => .stk
theorem v_not (ha : PE X a (rd (tx X) W f)) : PE X (.UnaryOp .Not a pos) (rd (tx X) W (fUn gNot f)) := by
  refine pe_imp (pe_not ha) ?_
  rintro σ H Q ⟨w, l, rfl, ok, re, h⟩
  refine go_e ok re h fun d w1 v e1 ok1 re1 r1 h1 => ?_
  unfold gNot at h1
  split at h1
  · simp only [RelD] at r1; subst r1
    exact ⟨_, rfl, h1.now ok1 (by simp only [RelD])⟩
  · exact h1.elim
@[reducible] def fIf (t : FT) (f g : FE) : FE := fun r m => (t r m).bind fun z m => if z = true then f r m else g r m
theorem v_if (hc : PT X c (rdT (tx X) W ft)) (ha : PE X a (rd (tx X) W f)) (hb : PE X b (rd (tx X) W g)) : PE X (.IfExp c a b pos) (rd (tx X) W (fIf ft f g)) := by
  refine pe_imp (pe_ifExp hc ha hb) ?_
  rintro σ H Q ⟨w, l, rfl, ok, re, h⟩
  refine go_t ok re h fun z w1 e1 ok1 re1 h1 => ?_
  cases z with
  | true => simp only [if_true] at h1 ⊢; exact ⟨w1, l, rfl, ok1, re1, h1⟩
  | false => simp only [Bool.false_eq_true, if_false] at h1 ⊢; exact ⟨w1, l, rfl, ok1, re1, h1⟩

/-! ### arguments, displays -/
@[reducible] def aNil : FA := fun _ m => .ok [] m
@[reducible] def aCons (f : FE) (fa : FA) : FA := fun r m => (f r m).bind fun d m => (fa r m).bind fun ds m => .ok (d :: ds) m
@[reducible] def aStar (f : FE) (fa : FA) : FA := fun r m => (f r m).bind fun d m => match derefS d m with
  | some xs => (fa r m).bind fun ds m => .ok (xs ++ ds) m
  | none => .stk
theorem a_nil : PA X [] (rdA (tx X) W aNil) := by
  refine pa_imp pa_nil ?_
  rintro σ H Q ⟨w, l, rfl, ok, re, h⟩
  exact h.now ok .nil
theorem a_cons (ha : PE X e (rd (tx X) W f)) (hr : PA X es (rdA (tx X) W fa)) (hs : starEach (e :: es) X.env = (false, eval e X.env) :: starEach es X.env := by rfl) : PA X (e :: es) (rdA (tx X) W (aCons f fa)) := by
  refine pa_imp (pa_cons ha hr hs) ?_
  rintro σ H Q ⟨w, l, rfl, ok, re, h⟩
  refine go_e ok re h fun d w1 v e1 ok1 re1 r1 h1 => ?_
  refine go_a ok1 re1 h1 fun ds w2 vs e2 ok2 re2 r2 h2 => ?_
  exact h2.now ok2 (.cons (r1.ex ok1 e2.toEx0) r2)
theorem a_star {p : Pos} (ha : PE X e (rd (tx X) W f)) (hr : PA X es (rdA (tx X) W fa)) (hs : starEach (.Starred e p :: es) X.env = (true, eval e X.env) :: starEach es X.env := by rfl) : PA X (.Starred e p :: es) (rdA (tx X) W (aStar f fa)) := by
  refine pa_imp (StX.pa_star ha hr hs) ?_
  rintro σ H Q ⟨w, l, rfl, ok, re, h⟩
  refine go_e ok re h fun d w1 v e1 ok1 re1 r1 h1 => ?_
  split at h1
  · rename_i xs ex
    obtain ⟨p, vs, rfl, q1, q2⟩ := derefS_ok ok1 r1 ex
    refine ⟨p, vs, rfl, q1.symm, ?_⟩
    refine go_a ok1 re1 h1 fun ds w2 us e2 ok2 re2 r2 h2 => ?_
    exact h2.now ok2 ((q2.ex ok1 e2.toEx0).append r2)
  · exact h1.elim
@[reducible] def fTup (fa : FA) : FE := fun r m => (fa r m).bind fun ds m => if ds.length ≤ 16777216 then .ok (.tup ds) m else .stk
@[reducible] def fLst (fa : FA) : FE := fun r m => (fa r m).bind fun ds m => if ds.length ≤ 16777216 then .ok (.lst ds) m else .stk
@[reducible] def fNew (fa : FA) : FE := fun r m => (fa r m).bind fun ds m => if ds.length ≤ 16777216 then .ok (.loc m.length) (m ++ [.lst ds]) else .stk
theorem v_tup {x1} (h : PA X es (rdA (tx X) W fa)) : PE X (.Tuple es x1 pos) (rd (tx X) W (fTup fa)) := by
  refine pe_imp (pe_tup h) ?_
  rintro σ H Q ⟨w, l, rfl, ok, re, h⟩
  refine go_a ok re h fun ds w1 vs e1 ok1 re1 r1 h1 => ?_
  split at h1
  · rename_i hl
    exact ⟨by rw [sizeLine_eq, r1.length]; exact hl, new_tup ok1 r1 h1⟩
  · exact h1.elim
theorem v_lst (h : PA X es (rdA (tx X) W fa)) : PE X (.List es pos) (rd (tx X) W (fLst fa)) := by
  refine pe_imp (pe_lst h) ?_
  rintro σ H Q ⟨w, l, rfl, ok, re, h⟩
  refine go_a ok re h fun ds w1 vs e1 ok1 re1 r1 h1 => ?_
  split at h1
  · rename_i hl
    exact ⟨by rw [sizeLine_eq, r1.length]; exact hl, new_lst ok1 r1 h1⟩
  · exact h1.elim
theorem v_new (h : PA X es (rdA (tx X) W fa)) : PE X (.List es pos) (rd (tx X) W (fNew fa)) := by
  refine pe_imp (pe_lst h) ?_
  rintro σ H Q ⟨w, l, rfl, ok, re, h⟩
  refine go_a ok re h fun ds w1 vs e1 ok1 re1 r1 h1 => ?_
  split at h1
  · rename_i hl
    exact ⟨by rw [sizeLine_eq, r1.length]; exact hl, new_loc ok1 r1 h1⟩
  · exact h1.elim
/-- a list of the store is left to itself: it changes no more -/
@[reducible] def gFrz : D → List O → Rs D := fun d m => match d with
  | .loc n => match m[n]? with
    | some (.lst xs) => .ok (.lst xs) (m.set n .dead)
    | some (.dct ks xs) => .ok (.dct ks xs) (m.set n .dead)
    | some (.ins c ns xs) => .ok (.ins c ns xs) (m.set n .dead)
    | _ => .stk
  | d => .ok d m
theorem frzS {w : Wo} {d : D} {v : V} {W : Str → Wo → Prop} {Q : VK} (ok : Ok T w) (r : RelD T w d v) (h : Post T (RelD T) W w (gFrz d w.mu) Q) : Q v w.H := by
  unfold gFrz at h
  split at h
  · rename_i n
    simp only [RelD] at r
    obtain ⟨a, rfl, hb⟩ := r
    have kx : Ex w (w.kill n) := kill_ex
    split at h
    · rename_i xs hm
      obtain ⟨vs, h1, h2⟩ := ok.obj _ _ _ hm hb
      exact h (w.kill n) (.ref a) kx (kill_ok ok) rfl (by simp only [RelD]; exact ⟨a, vs, rfl, h1, kill_dead ok hb, h2.ex ok kx.toEx0⟩)
    · rename_i ks xs hm
      obtain ⟨vs, h1, hl, h2⟩ := ok.obj _ _ _ hm hb
      exact h (w.kill n) (.ref a) kx (kill_ok ok) rfl (by simp only [RelD]; exact ⟨a, vs, rfl, .inl h1, hl, kill_dead ok hb, h2.ex ok kx.toEx0⟩)
    · rename_i c ns xs hm
      obtain ⟨C, dx, vs, hc, h1, hl, h2⟩ := ok.obj _ _ _ hm hb
      exact h (w.kill n) (.ref a) kx (kill_ok ok) rfl (by simp only [RelD]; exact ⟨a, C, dx, vs, rfl, hc, h1, hl, kill_dead ok hb, h2.ex ok kx.toEx0⟩)
    · exact h.elim
  · exact h.now ok r
@[reducible] def fFrz (f : FE) : FE := fUn gFrz f
theorem v_frz (h : PE X e (rd (tx X) W f)) : PE X e (rd (tx X) W (fFrz f)) := by
  refine pe_imp h ?_
  rintro σ H Q ⟨w, l, rfl, ok, re, h⟩
  exact go_e ok re h fun d w1 v e1 ok1 re1 r1 h1 => frzS ok1 r1 h1

/-! ### items -/
@[reducible] def gIx : D → D → List O → Rs D := fun d i m => match d, i with
  | .str z, .int i => if z.length ≤ 16777216 then match atI z.cps.toList i with
      | some c => .ok (.str ⟨#[c]⟩) m
      | none => .stk
    else .stk
  | .scr ns, .int i => match atI ns i with
    | some n => .ok (.int n) m
    | none => .stk
  | d, .int i => match derefS d m with
    | some xs => match atI xs i with
      | some x => .ok x m
      | none => .stk
    | none => .stk
  | _, _ => .stk
theorem atI_val {w : Wo} {ds : List D} {vs : List V} {i : Int} {d : D} (r : RelDs T w ds vs) (h : atI ds i = some d) : ∃ v, atI vs i = some v ∧ RelD T w d v := by
  unfold atI at h ⊢
  rw [r.length]
  cases e : ixN ds.length i with
  | none => rw [e] at h; cases h
  | some j => rw [e] at h; exact r.get h
theorem v_ix (ha : PE X a (rd (tx X) W f)) (hb : PE X b (rd (tx X) W g)) (hs : PlainIx b := by exact fun _ _ => rfl) : PE X (.Subscript a b pos) (rd (tx X) W (fBin gIx f g)) := by
  refine pe_imp (pe_ix ix_seq ha hb hs) (opS fun W w d i v u Q ok r1 r2 h => ?_)
  unfold gIx at h
  split at h
  · split at h
    · rename_i hl
      split at h
      · rename_i c hc
        simp only [RelD] at r1 r2; subst r1 r2
        exact .inr (.inr ⟨_, _, _, rfl, rfl, by rw [sizeLine_eq]; exact hl, hc, h.now ok (by simp only [RelD])⟩)
      · exact h.elim
    · exact h.elim
  · rename_i ns i
    split at h
    · rename_i n hn
      simp only [RelD] at r1 r2; subst r2
      obtain ⟨p, rfl, q⟩ := r1
      refine .inl ⟨p, ns.map V.int, i, .int n, rfl, rfl, ?_, ?_, h.now ok (by simp only [RelD])⟩
      · rcases q with ⟨o, q⟩ | (q | q)
        · exact .inl (.inr ⟨o, q⟩)
        · rcases q with q | ⟨_, q⟩ <;> cases q
        · exact .inr q
      · unfold atI at hn ⊢
        rw [List.length_map]
        cases e : ixN ns.length i with
        | none => rw [e] at hn; cases hn
        | some j => rw [e] at hn; simp only [Option.bind_some] at hn ⊢; rw [List.getElem?_map, hn]; rfl
    · exact h.elim
  · split at h
    · rename_i xs ex
      split at h
      · rename_i x hx
        simp only [RelD] at r2; subst r2
        obtain ⟨p, vs, rfl, q1, q2⟩ := derefS_ok ok r1 ex
        obtain ⟨y, hy, ry⟩ := atI_val q2 hx
        rcases q1 with q1 | q1
        · exact .inl ⟨p, vs, _, y, rfl, rfl, q1, hy, h.now ok ry⟩
        · exact .inr (.inl ⟨p, vs, _, y, rfl, rfl, q1, hy, h.now ok ry⟩)
      · exact h.elim
    · exact h.elim
  · exact h.elim

/-! ### slices -/
abbrev FP := Lc → List O → Rs (Option Int)
def rdP (T : Tx) (W : WX) (f : FP) : TO := fun s H Q => ∃ (w : Wo) (r : Lc), w.H = H ∧ Ok T w ∧ RelE T w r s ∧ Post T (fun _ (a b : Option Int) => a = b) (wx T W s) w (f r w.mu) Q
theorem po_imp {e : Option Expr} {t t' : TO} (h : PO X e t) (q : ∀ s H Q, t' s H Q → t s H Q) : PO X e t' := ⟨fun pins s σ H Q I hw => h.run pins s σ H Q I (q _ _ _ hw)⟩
@[reducible] def pNo : FP := fun _ m => .ok none m
@[reducible] def pSo (f : FE) : FP := fun r m => (f r m).bind fun d m => match d with
  | .int i => .ok (some i) m
  | _ => .stk
theorem p_no : PO X none (rdP (tx X) W pNo) := by
  refine po_imp po_none ?_
  rintro σ H Q ⟨w, l, rfl, ok, re, h⟩
  exact h.now ok rfl
theorem p_so (h : PE X e (rd (tx X) W f)) : PO X (some e) (rdP (tx X) W (pSo f)) := by
  refine po_imp (po_some h) ?_
  rintro σ H Q ⟨w, l, rfl, ok, re, h⟩
  refine go_e ok re h fun d w1 v e1 ok1 re1 r1 h1 => ?_
  split at h1
  · simp only [RelD] at r1; subst r1
    exact ⟨_, rfl, h1.now ok1 rfl⟩
  · exact h1.elim
def cutD {α : Type} (xs : List α) (lo hi : Option Int) : List α := (xs.drop (HT.sIx xs.length 0 lo)).take (HT.sIx xs.length xs.length hi - HT.sIx xs.length 0 lo)
theorem RelDs.drop {w : Wo} : ∀ {ds : List D} {vs : List V} (n : Nat), RelDs T w ds vs → RelDs T w (ds.drop n) (vs.drop n)
  | ds, vs, 0, h => by simpa using h
  | [], vs, n + 1, h => by simp only [RelDs] at h; subst h; simp [RelDs]
  | d :: ds, vs, n + 1, h => by
    simp only [RelDs] at h
    obtain ⟨v, l, rfl, h1, h2⟩ := h
    exact RelDs.drop n h2
theorem RelDs.take {w : Wo} : ∀ {ds : List D} {vs : List V} (n : Nat), RelDs T w ds vs → RelDs T w (ds.take n) (vs.take n)
  | ds, vs, 0, h => by simp [RelDs]
  | [], vs, n + 1, h => by simp only [RelDs] at h; subst h; simp [RelDs]
  | d :: ds, vs, n + 1, h => by
    simp only [RelDs] at h
    obtain ⟨v, l, rfl, h1, h2⟩ := h
    exact RelDs.cons h1 (RelDs.take n h2)
theorem RelDs.cut {w : Wo} {ds : List D} {vs : List V} (r : RelDs T w ds vs) (lo hi : Option Int) : RelDs T w (cutD ds lo hi) (cutV vs lo hi) := by
  unfold cutD cutV
  rw [r.length]
  exact (r.drop _).take _
@[reducible] def gSl (d : D) (lo hi : Option Int) (m : List O) : Rs D := match d with
  | .str z => if z.length ≤ 16777216 then .ok (.str (cutS z lo hi)) m else .stk
  | .tup xs => .ok (.tup (cutD xs lo hi)) m
  | d => match derefL d m with
    | some xs => .ok (.lst (cutD xs lo hi)) m
    | none => .stk
@[reducible] def fSl (f : FE) (lo hi : FP) : FE := fun r m => (f r m).bind fun d m => (lo r m).bind fun l m => (hi r m).bind fun u m => gSl d l u m
theorem v_sl {lo hi : Option Expr} {p2 : Pos} {fl fu : FP} (ha : PE X e (rd (tx X) W f)) (hl : PO X lo (rdP (tx X) W fl)) (hu : PO X hi (rdP (tx X) W fu)) : PE X (.Subscript e (.Slice lo hi none p2) pos) (rd (tx X) W (fSl f fl fu)) := by
  refine pe_imp (pe_slice (SlR.or (SlR.or sl_tupA sl_list) sl_str) ha hl hu) ?_
  rintro σ H Q ⟨w, l, rfl, ok, re, h⟩
  refine go_e ok re h fun d w1 v e1 ok1 re1 r1 h1 => ?_
  refine ⟨w1, l, rfl, ok1, re1, go (R := fun _ (a b : Option Int) => a = b) h1 fun lo w2 b2 e2 ok2 q2 h2 => ?_⟩
  subst q2
  have re2 := re1.ex ok1 e2.toEx0
  refine ⟨w2, l, rfl, ok2, re2, go (R := fun _ (a b : Option Int) => a = b) h2 fun hi w3 b3 e3 ok3 q3 h3 => ?_⟩
  subst q3
  have r3 := (r1.ex ok1 e2.toEx0).ex ok2 e3.toEx0
  unfold gSl at h3
  split at h3
  · split at h3
    · rename_i hz
      simp only [RelD] at r3; subst r3
      exact .inr ⟨_, rfl, by rw [sizeLine_eq]; exact hz, h3.now ok3 (by simp only [RelD])⟩
    · exact h3.elim
  · rename_i xs
    simp only [RelD] at r3
    obtain ⟨p, vs, rfl, q1, q2⟩ := r3
    refine .inl (.inl ⟨p, vs, rfl, q1, fun ⟨z1, z2⟩ => ?_, fun _ => new_tup ok3 (q2.cut lo hi) h3⟩)
    have hcut : cutD xs lo hi = xs := by
      unfold cutD
      rw [q2.length] at z1 z2
      rw [z1, z2]; simp
    rw [hcut] at h3
    exact h3.now ok3 (by simp only [RelD]; exact ⟨p, vs, rfl, q1, q2⟩)
  · split at h3
    · rename_i xs ex
      obtain ⟨p, vs, rfl, q1, q2⟩ := derefL_ok ok3 r3 ex
      exact .inl (.inr ⟨p, vs, rfl, SqL.of q1, new_lst ok3 (q2.cut lo hi) h3⟩)
    · exact h3.elim

/-! ### built-ins, by values -/
def CallS (T : Tx) (r : List V → Hp → VK → Prop) (o : List D → List O → Rs D) : Prop := ∀ (W : Str → Wo → Prop) (w : Wo) (ds : List D) (vs : List V) (Q : VK), Ok T w → RelDs T w ds vs → Post T (RelD T) W w (o ds w.mu) Q → r vs w.H Q
def Cb (X : Cx) (v : Value) (o : List D → List O → Rs D) : Prop := ∃ r, CallR X v r ∧ CallS (tx X) r o
@[reducible] def fCB (o : List D → List O → Rs D) (fa : FA) : FE := fun r m => (fa r m).bind o
theorem callS {r : List V → Hp → VK → Prop} {o : List D → List O → Rs D} (s : CallS T r o) : ∀ σ H Q, rd T W (fCB o fa) σ H Q → tCB r (rdA T W fa) σ H Q := by
  rintro σ H Q ⟨w, l, rfl, ok, re, h⟩
  exact go_a ok re h fun ds w1 vs e1 ok1 re1 r1 h1 => s _ w1 _ _ _ ok1 r1 h1
theorem v_blt {x : Str} {p : Pos} {id : String} {o : List D → List O → Rs D} (m : Cb X (.builtin id) o) (hm : X.mg x = none) (hv : bootBuiltins x = some (.builtin id)) (ha : PA X (e :: es) (rdA (tx X) W fa)) (hg : Gl X x := by rfl)
    (hn : x ≠ "__name__" := by decide) (hdb : (x == ("__debug__" : Str)) = false := by decide)
    (he : starEach (e :: es) X.env = (false, eval e X.env) :: starEach es X.env := by rfl) (hpl : (backTo pos (starEach es X.env)).any (·.1) = false := by rfl) :
    PE X (.Call (.Name x p) (e :: es) [] pos) (rd (tx X) W (fCB o fa)) := let ⟨_, hc, s⟩ := m; pe_imp (pe_callB hc hg hm hv ha hn hdb he hpl) (callS s)
theorem v_typ {x : Str} {p : Pos} {id : String} {o : List D → List O → Rs D} (m : Cb X (.type id) o) (hm : X.mg x = none) (hv : bootBuiltins x = some (.type id)) (ha : PA X (e :: es) (rdA (tx X) W fa)) (hg : Gl X x := by rfl)
    (hn : x ≠ "__name__" := by decide) (hdb : (x == ("__debug__" : Str)) = false := by decide)
    (he : starEach (e :: es) X.env = (false, eval e X.env) :: starEach es X.env := by rfl) (hpl : (backTo pos (starEach es X.env)).any (·.1) = false := by rfl) :
    PE X (.Call (.Name x p) (e :: es) [] pos) (rd (tx X) W (fCB o fa)) := let ⟨_, hc, s⟩ := m; pe_imp (pe_callTy hc hg hm hv ha hn hdb he hpl) (callS s)
theorem RelDs.one {w : Wo} {d : D} {vs : List V} (r : RelDs T w [d] vs) : ∃ v, vs = [v] ∧ RelD T w d v := by
  simp only [RelDs] at r
  obtain ⟨v, l, rfl, h, rfl⟩ := r
  exact ⟨v, rfl, h⟩
theorem RelDs.two {w : Wo} {d e : D} {vs : List V} (r : RelDs T w [d, e] vs) : ∃ v u, vs = [v, u] ∧ RelD T w d v ∧ RelD T w e u := by
  simp only [RelDs] at r
  obtain ⟨v, l, rfl, h, u, l2, rfl, h2, rfl⟩ := r
  exact ⟨v, u, rfl, h, h2⟩
theorem scr_sq {w : Wo} {ns : List Int} {v : V} (r : RelD T w (.scr ns) v) : ∃ p, v = .ref p ∧ SqL T.K w.H p (ns.map V.int) := by
  simp only [RelD] at r
  obtain ⟨p, rfl, q⟩ := r
  refine ⟨p, rfl, ?_⟩
  rcases q with ⟨o, q⟩ | (q | q)
  · exact .inl (.inr ⟨o, q⟩)
  · rcases q with q | ⟨_, q⟩ <;> cases q
  · exact .inr q
@[reducible] def bLen : List D → List O → Rs D := fun ds m => match ds with
  | [.str x] => if x.length ≤ 16777216 then .ok (.int x.length) m else .stk
  | [.scr ns] => .ok (.int ns.length) m
  | [d] => match derefS d m with
    | some xs => .ok (.int xs.length) m
    | none => .stk
  | _ => .stk
theorem cb_len : Cb X (.builtin "len") bLen := by
  refine ⟨_, call_len, fun W w ds vs Q ok r h => ?_⟩
  unfold bLen at h
  split at h
  · split at h
    · rename_i hl
      replace r := r.one; obtain ⟨v, rfl, r⟩ := r
      simp only [RelD] at r; subst r
      exact ⟨_, _, rfl, ⟨by rw [sizeLine_eq]; exact hl, rfl⟩, h.now ok (by simp only [RelD])⟩
    · exact h.elim
  · replace r := r.one; obtain ⟨v, rfl, r⟩ := r
    obtain ⟨p, rfl, q⟩ := scr_sq r
    exact ⟨_, _, rfl, .inl ⟨_, q, rfl⟩, h.now ok (by simp [RelD])⟩
  · split at h
    · rename_i xs ex
      replace r := r.one; obtain ⟨v, rfl, r⟩ := r
      obtain ⟨p, vs, rfl, q1, q2⟩ := derefS_ok ok r ex
      refine ⟨_, vs.length, rfl, ?_, h.now ok (by simp only [RelD]; rw [q2.length])⟩
      rcases q1 with q1 | q1
      · exact .inl ⟨_, q1, rfl⟩
      · exact .inr ⟨_, q1, rfl⟩
    · exact h.elim
  · exact h.elim
@[reducible] def bInt : List D → List O → Rs D := fun ds m => match ds with
  | [.int i] => .ok (.int i) m
  | [.bl z] => .ok (.int (if z then 1 else 0)) m
  | _ => .stk
theorem cb_int : Cb X (.type "int") bInt := by
  refine ⟨_, call_int1, fun W w ds vs Q ok r h => ?_⟩
  unfold bInt at h
  split at h
  · replace r := r.one; obtain ⟨v, rfl, r⟩ := r
    simp only [RelD] at r; subst r
    exact .inl ⟨_, rfl, h.now ok (by simp only [RelD])⟩
  · replace r := r.one; obtain ⟨v, rfl, r⟩ := r
    simp only [RelD] at r; subst r
    exact .inr ⟨_, rfl, h.now ok (by simp only [RelD])⟩
  · exact h.elim
@[reducible] def bAbs : List D → List O → Rs D := fun ds m => match ds with
  | [.int i] => .ok (.int (if i < 0 then -i else i)) m
  | _ => .stk
theorem cb_abs : Cb X (.builtin "abs") bAbs := by
  refine ⟨_, call_abs, fun W w ds vs Q ok r h => ?_⟩
  unfold bAbs at h
  split at h
  · replace r := r.one; obtain ⟨v, rfl, r⟩ := r
    simp only [RelD] at r; subst r
    exact ⟨_, rfl, h.now ok (by simp only [RelD])⟩
  · exact h.elim
@[reducible] def bTuple : List D → List O → Rs D := fun ds m => match ds with
  | [.tup xs] => .ok (.tup xs) m
  | [d] => match derefL d m with
    | some xs => .ok (.tup xs) m
    | none => .stk
  | _ => .stk
theorem cb_tuple : Cb X (.type "tuple") bTuple := by
  refine ⟨_, call_tuple_of, fun W w ds vs Q ok r h => ?_⟩
  unfold bTuple at h
  split at h
  · replace r := r.one; obtain ⟨v, rfl, r⟩ := r
    have r' := r
    simp only [RelD] at r
    obtain ⟨p, us, rfl, q1, q2⟩ := r
    exact ⟨p, us, rfl, .inr ⟨q1, h.now ok r'⟩⟩
  · split at h
    · rename_i xs ex
      replace r := r.one; obtain ⟨v, rfl, r⟩ := r
      obtain ⟨p, us, rfl, q1, q2⟩ := derefL_ok ok r ex
      exact ⟨p, us, rfl, .inl ⟨SqL.of q1, new_tup ok q2 h⟩⟩
    · exact h.elim
  · exact h.elim
@[reducible] def bList : List D → List O → Rs D := fun ds m => match ds with
  | [d] => match derefS d m with
    | some xs => .ok (.lst xs) m
    | none => .stk
  | _ => .stk
@[reducible] def bListN : List D → List O → Rs D := fun ds m => match ds with
  | [d] => match derefS d m with
    | some xs => .ok (.loc m.length) (m ++ [.lst xs])
    | none => .stk
  | _ => .stk
theorem cb_list : Cb X (.type "list") bList := by
  refine ⟨_, call_list_of, fun W w ds vs Q ok r h => ?_⟩
  unfold bList at h
  split at h
  · split at h
    · rename_i xs ex
      replace r := r.one; obtain ⟨v, rfl, r⟩ := r
      obtain ⟨p, us, rfl, q1, q2⟩ := derefS_ok ok r ex
      exact ⟨p, us, rfl, q1, new_lst ok q2 h⟩
    · exact h.elim
  · exact h.elim
theorem cb_listN : Cb X (.type "list") bListN := by
  refine ⟨_, call_list_of, fun W w ds vs Q ok r h => ?_⟩
  unfold bListN at h
  split at h
  · split at h
    · rename_i xs ex
      replace r := r.one; obtain ⟨v, rfl, r⟩ := r
      obtain ⟨p, us, rfl, q1, q2⟩ := derefS_ok ok r ex
      exact ⟨p, us, rfl, q1, new_loc ok q2 h⟩
    · exact h.elim
  · exact h.elim
/-- a list of ints, of bools -/
@[reducible] def intsD : List D → Option (List Int)
  | [] => some []
  | .int i :: ds => (intsD ds).map (i :: ·)
  | _ => none
@[reducible] def blsD : List D → Option (List Bool)
  | [] => some []
  | .bl i :: ds => (blsD ds).map (i :: ·)
  | _ => none
theorem intsD_val {w : Wo} : ∀ {ds : List D} {vs : List V} {ns : List Int}, RelDs T w ds vs → intsD ds = some ns → vs = ns.map V.int
  | [], vs, ns, r, h => by simp only [RelDs] at r; cases h; exact r
  | d :: ds, vs, ns, r, h => by
    simp only [RelDs] at r
    obtain ⟨v, l, rfl, h1, h2⟩ := r
    cases d <;> simp only [intsD, reduceCtorEq] at h
    rw [Option.map_eq_some_iff] at h
    obtain ⟨ms, e, rfl⟩ := h
    simp only [RelD] at h1
    rw [h1, intsD_val h2 e]; rfl
theorem blsD_val {w : Wo} : ∀ {ds : List D} {vs : List V} {ns : List Bool}, RelDs T w ds vs → blsD ds = some ns → vs = ns.map V.bl
  | [], vs, ns, r, h => by simp only [RelDs] at r; cases h; exact r
  | d :: ds, vs, ns, r, h => by
    simp only [RelDs] at r
    obtain ⟨v, l, rfl, h1, h2⟩ := r
    cases d <;> simp only [blsD, reduceCtorEq] at h
    rw [Option.map_eq_some_iff] at h
    obtain ⟨ms, e, rfl⟩ := h
    simp only [RelD] at h1
    rw [h1, blsD_val h2 e]; rfl
@[reducible] def bOvI (o : List Int → Option D) : List D → List O → Rs D := fun ds m => match ds with
  | [d] => match derefL d m with
    | some xs => match intsD xs with
      | some ns => match o ns with
        | some z => .ok z m
        | none => .stk
      | none => .stk
    | none => .stk
  | _ => .stk
@[reducible] def bOvB (o : List Bool → D) : List D → List O → Rs D := fun ds m => match ds with
  | [d] => match derefL d m with
    | some xs => match blsD xs with
      | some ns => .ok (o ns) m
      | none => .stk
    | none => .stk
  | _ => .stk
@[reducible] def bSum := bOvI fun ns => some (.int ns.sum)
theorem cb_sum (hc : X.calm = true) : Cb X (.builtin "sum") bSum := by
  refine ⟨_, cr_sum hc, fun W w ds vs Q ok r h => ?_⟩
  unfold bSum bOvI at h
  split at h
  · split at h
    · rename_i xs ex
      split at h
      · rename_i ns en
        replace r := r.one; obtain ⟨v, rfl, r⟩ := r
        obtain ⟨p, us, rfl, q1, q2⟩ := derefL_ok ok r ex
        have := intsD_val q2 en; subst this
        exact ⟨p, ns, rfl, SqL.of q1, h.now ok (by simp only [RelD])⟩
      · exact h.elim
    · exact h.elim
  · exact h.elim
@[reducible] def bAll := bOvB fun ns => .bl (ns.all id)
@[reducible] def bAny := bOvB fun ns => .bl (ns.any id)
theorem cb_all (hc : X.calm = true) : Cb X (.builtin "all") bAll := by
  refine ⟨_, cr_all hc, fun W w ds vs Q ok r h => ?_⟩
  unfold bAll bOvB at h
  split at h
  · split at h
    · rename_i xs ex
      split at h
      · rename_i ns en
        replace r := r.one; obtain ⟨v, rfl, r⟩ := r
        obtain ⟨p, us, rfl, q1, q2⟩ := derefL_ok ok r ex
        have := blsD_val q2 en; subst this
        exact ⟨p, ns, rfl, SqL.of q1, h.now ok (by simp only [RelD])⟩
      · exact h.elim
    · exact h.elim
  · exact h.elim
theorem cb_any (hc : X.calm = true) : Cb X (.builtin "any") bAny := by
  refine ⟨_, cr_any hc, fun W w ds vs Q ok r h => ?_⟩
  unfold bAny bOvB at h
  split at h
  · split at h
    · rename_i xs ex
      split at h
      · rename_i ns en
        replace r := r.one; obtain ⟨v, rfl, r⟩ := r
        obtain ⟨p, us, rfl, q1, q2⟩ := derefL_ok ok r ex
        have := blsD_val q2 en; subst this
        exact ⟨p, ns, rfl, SqL.of q1, h.now ok (by simp only [RelD])⟩
      · exact h.elim
    · exact h.elim
  · exact h.elim
/-! ### types -/
@[reducible] def tyD (d : D) (m : List O) : Option String := match d with
  | .non => some "NoneType"
  | .bl _ => some "bool"
  | .int _ => some "int"
  | .str _ => some "str"
  | .tup _ => some "tuple"
  | .lst _ => some "list"
  | .dct _ _ => some "dict"
  | .loc n => match m[n]? with
    | some (.lst _) => some "list"
    | some (.dct _ _) => some "dict"
    | _ => none
  | _ => none
theorem tyD_tyx {w : Wo} {d : D} {v : V} {t : String} (ok : Ok T w) (r : RelD T w d v) (h : tyD d w.mu = some t) : TyX T.K w.H v (.type t) := by
  cases d <;> simp only [tyD, Option.some.injEq, reduceCtorEq] at h
  case non => subst h; simp only [RelD] at r; subst r; exact .base .non
  case bl => subst h; simp only [RelD] at r; subst r; exact .base (.bl _)
  case int => subst h; simp only [RelD] at r; subst r; exact .base (.int _)
  case str => subst h; simp only [RelD] at r; subst r; exact .base (.str _)
  case tup =>
    subst h; simp only [RelD] at r
    obtain ⟨a, vs, rfl, q, _⟩ := r
    rcases q with (q | ⟨o, q⟩) | ⟨o, its, n, q, c, _⟩
    · exact .base (.tup q)
    · exact .fTuple q
    · exact .kTuple q c
  case lst =>
    subst h; simp only [RelD] at r
    obtain ⟨a, vs, rfl, q, _⟩ := r
    exact .base (.lst q)
  case dct =>
    subst h; simp only [RelD] at r
    obtain ⟨a, vs, rfl, q, _⟩ := r
    rcases q with q | ⟨o, q⟩
    · exact .base (.dK q)
    · exact .fDict q
  case loc n =>
    simp only [RelD] at r
    obtain ⟨a, rfl, hb⟩ := r
    split at h
    · rename_i hm; cases h
      obtain ⟨vs, q, _⟩ := ok.obj _ _ _ hm hb
      exact .base (.lst q)
    · rename_i hm; cases h
      obtain ⟨vs, q, _⟩ := ok.obj _ _ _ hm hb
      exact .base (.dK q)
    · cases h
@[reducible] def bIsi : List D → List O → Rs D := fun ds m => match ds with
  | [d, .ty c] => match tyD d m with
    | some t => match kitB t c with
      | some z => .ok (.bl z) m
      | none => .stk
    | none => .stk
  | _ => .stk
theorem cb_isi : Cb X (.builtin "isinstance") bIsi := by
  refine ⟨_, call_isi, fun W w ds vs Q ok r h => ?_⟩
  unfold bIsi at h
  split at h
  · split at h
    · rename_i t et
      split at h
      · rename_i z ez
        obtain ⟨v, u, rfl, r1, r2⟩ := r.two
        simp only [RelD] at r2; subst r2
        exact ⟨v, _, _, _, z, rfl, .ty _, tyD_tyx ok r1 et, kit_ty ez, h.now ok (by simp only [RelD])⟩
      · exact h.elim
    · exact h.elim
  · exact h.elim
@[reducible] def bType : List D → List O → Rs D := fun ds m => match ds with
  | [.dct _ _] => .stk
  | [d] => match tyD d m with
    | some t => .ok (.ty t) m
    | none => .stk
  | _ => .stk
theorem cb_type : Cb X (.type "type") bType := by
  refine ⟨_, call_type1, fun W w ds vs Q ok r h => ?_⟩
  unfold bType at h
  split at h
  · exact h.elim
  · split at h
    · rename_i d nd _ t et
      replace r := r.one; obtain ⟨v, rfl, r⟩ := r
      refine ⟨v, t, rfl, ?_, h.now ok (by simp only [RelD])⟩
      cases d <;> simp only [tyD, Option.some.injEq, reduceCtorEq] at et
      case non => subst et; simp only [RelD] at r; subst r; exact .non
      case bl => subst et; simp only [RelD] at r; subst r; exact .bl _
      case int => subst et; simp only [RelD] at r; subst r; exact .int _
      case str => subst et; simp only [RelD] at r; subst r; exact .str _
      case tup =>
        subst et; simp only [RelD] at r
        obtain ⟨a, vs, rfl, q, _⟩ := r
        exact .tup q
      case lst =>
        subst et; simp only [RelD] at r
        obtain ⟨a, vs, rfl, q, _⟩ := r
        exact .lst (SqL.of q)
      case dct => exact absurd rfl (nd _ _)
      case loc n =>
        simp only [RelD] at r
        obtain ⟨a, rfl, hb⟩ := r
        split at et
        · rename_i hm; cases et
          obtain ⟨vs, q, _⟩ := ok.obj _ _ _ hm hb
          exact .lst (SqL.of q)
        · rename_i hm; cases et
          obtain ⟨vs, q, _⟩ := ok.obj _ _ _ hm hb
          exact .dK q
        · cases et
    · exact h.elim
  · exact h.elim
end FR
set_option Elab.async false
set_option linter.all false
set_option maxRecDepth 100000
set_option maxHeartbeats 4000000
/-! ## Targets, loops, comprehensions, methods of lists and texts, statements -/
namespace FR
open PySem PySem.Spec L2
set_option autoImplicit false
variable {X : Cx} {T : Tx} {W : WX} {f g h : FE} {fa : FA} {ft gt : FT} {a b c e o tg iter : Expr} {es rest : List Expr} {pos : Pos} {k : Nat}

/-! ### targets -/
inductive Pt where
  | nm (i : Nat) | tp (is : List Nat)
@[reducible] def setAll : Lc → List Nat → List D → Lc
  | r, i :: is, d :: ds => setAll (r.set i (some d)) is ds
  | r, _, _ => r
@[reducible] def asg : Pt → D → Lc → Option Lc
  | .nm i, d, r => some (r.set i (some d))
  | .tp is, .tup ds, r => if ds.length = is.length then some (setAll r is ds) else none
  | .tp is, .lst ds, r => if ds.length = is.length then some (setAll r is ds) else none
  | _, _, _ => none
@[reducible] def gNames : List Nat → TGs
  | [] => gNil
  | i :: is => gCons (gName i) (gNames is)
@[reducible] def gOf (K : PySem.W.Frag) : Pt → TG
  | .nm i => gName i
  | .tp is => fun v s H Q => gTup K is.length (gNames is) v s H Q ∨ gUnl K is.length (gNames is) v s H Q
theorem pg_or {t t' : TG} (h : PG X e t) (h' : PG X e t') : PG X e (fun v s H Q => t v s H Q ∨ t' v s H Q) := ⟨fun pins s σ H v u Q I r hw => hw.elim (h.run pins s σ H v u Q I r) (h'.run pins s σ H v u Q I r)⟩
def setAllV : St → List Nat → List V → St
  | s, i :: is, v :: vs => setAllV (s.set i (some v)) is vs
  | s, _, _ => s
theorem gNames_ok : ∀ {is : List Nat} {vs : List V} {s : St} {H : Hp} {Q : St → Hp → Prop}, vs.length = is.length → Q (setAllV s is vs) H → gNames is vs s H Q
  | [], [], _, _, _, _, h => ⟨rfl, h⟩
  | i :: is, v :: vs, s, H, Q, hl, h => ⟨v, vs, rfl, gNames_ok (is := is) (by simpa using hl) h⟩
  | [], _ :: _, _, _, _, hl, _ => by simp at hl
  | _ :: _, [], _, _, _, hl, _ => by simp at hl
theorem RelE.setAll {w : Wo} : ∀ {is : List Nat} {r : Lc} {s : St} {ds : List D} {vs : List V}, RelE T w r s → RelDs T w ds vs → RelE T w (setAll r is ds) (setAllV s is vs)
  | [], _, _, ds, vs, h, q => by cases ds <;> exact h
  | i :: is, r, s, [], vs, h, q => by simp only [RelDs] at q; subst q; exact h
  | i :: is, r, s, d :: ds, vs, h, q => by
    simp only [RelDs] at q
    obtain ⟨v, l, rfl, h1, h2⟩ := q
    exact RelE.setAll (is := is) (h.set i h1) h2
@[reducible] def Pt.slots : Pt → List Nat
  | .nm i => [i]
  | .tp is => is
theorem wipe_get (s : St) : ∀ (vs : List Nat) (j : Nat), (wipe s vs)[j]? = if j ∈ vs then (if j < s.length then some none else none) else s[j]?
  | [], j => by simp [wipe]
  | v :: vs, j => by
    unfold wipe
    rw [List.getElem?_set, wipe_length]
    by_cases e : v = j
    · subst e; simp
    · rw [if_neg e, wipe_get s vs j]
      have : (j ∈ v :: vs) = (j ∈ vs) := by simp [Ne.symm e]
      simp only [this]
theorem wipe_set {s : St} {vs : List Nat} {i : Nat} {x : Option V} (h : i ∈ vs) : wipe (s.set i x) vs = wipe s vs := by
  apply List.ext_getElem?
  intro j
  rw [wipe_get, wipe_get, List.length_set]
  split
  · rfl
  · rename_i hj
    rw [List.getElem?_set_ne (by rintro rfl; exact hj h)]
theorem wipe_setAll : ∀ {is : List Nat} {s : St} {vs : List V} {ws : List Nat}, (∀ i ∈ is, i ∈ ws) → wipe (setAllV s is vs) ws = wipe s ws
  | [], _, vs, _, _ => by cases vs <;> rfl
  | i :: is, s, [], ws, _ => rfl
  | i :: is, s, v :: vs, ws, h => by
    show wipe (setAllV (s.set i (some v)) is vs) ws = wipe s ws
    rw [wipe_setAll (is := is) fun j hj => h j (List.mem_cons_of_mem _ hj), wipe_set (h i List.mem_cons_self)]
theorem wipe_wipe {s : St} {vs : List Nat} : wipe (wipe s vs) vs = wipe s vs := by
  apply List.ext_getElem?
  intro j
  rw [wipe_get, wipe_get, wipe_length]
  split <;> rfl
theorem gOf_ok {w : Wo} {p : Pt} {d : D} {v : V} {r r' : Lc} {s : St} (ok : Ok T w) (re : RelE T w r s) (rd : RelD T w d v) (h : asg p d r = some r') :
    ∃ s', RelE T w r' s' ∧ (∀ vs, (∀ i ∈ p.slots, i ∈ vs) → wipe s' vs = wipe s vs) ∧ ∀ Q : St → Hp → Prop, Q s' w.H → gOf T.K p v s w.H Q := by
  unfold asg at h
  split at h
  · cases h
    rename_i i
    exact ⟨_, re.set i rd, fun vs hv => wipe_set (hv i (by simp [Pt.slots])), fun Q q => q⟩
  · rename_i is ds
    split at h
    · rename_i hl
      cases h
      simp only [RelD] at rd
      obtain ⟨p, us, rfl, q1, q2⟩ := rd
      refine ⟨setAllV s is us, re.setAll q2, fun vs hv => wipe_setAll hv, fun Q q => .inl ⟨p, us, rfl, q1, by rw [q2.length, hl], gNames_ok (by rw [q2.length, hl]) q⟩⟩
    · cases h
  · rename_i is ds
    split at h
    · rename_i hl
      cases h
      simp only [RelD] at rd
      obtain ⟨p, us, rfl, q1, _, q2⟩ := rd
      refine ⟨setAllV s is us, re.setAll q2, fun vs hv => wipe_setAll hv, fun Q q => .inr ⟨p, us, rfl, SqL.of q1, by rw [q2.length, hl], gNames_ok (by rw [q2.length, hl]) q⟩⟩
    · cases h
  · cases h

/-! ### what is walked -/
def IterOk (T : Tx) (J : It) (w0 : Wo) (ds : List D) : Prop := ∀ w, Ex0 w0 w → Ok T w →
  (∀ i d, ds[i]? = some d → J.go i w.H ∧ ∀ x H', J.yld i w.H x H' → ∃ w', Ex w w' ∧ Ok T w' ∧ w'.mu = w.mu ∧ w'.H = H' ∧ RelD T w' d x) ∧ ∀ i, ds.length ≤ i → J.stop i w.H
theorem yld_same {w : Wo} {H' : Hp} {d : D} {x : V} (ok : Ok T w) (e : H' = w.H) (r : RelD T w d x) : ∃ w', Ex w w' ∧ Ok T w' ∧ w'.mu = w.mu ∧ w'.H = H' ∧ RelD T w' d x := ⟨w, .rfl', ok, rfl, e.symm, r⟩
abbrev FI := Lc → List O → Rs (List D)
def rdI (T : Tx) (W : WX) (f : FI) : TI := fun s H R => ∃ (w : Wo) (r : Lc), w.H = H ∧ Ok T w ∧ RelE T w r s ∧ match f r w.mu with
  | .ok ds m => ∀ w' J, Ex w w' → Ok T w' → w'.mu = m → IterOk T J w' ds → R J w'.H
  | .ex c m => ∀ w', Ex w w' → Ok T w' → w'.mu = m → wx T W s c w'
  | .stk => False
theorem pi_imp {t t' : TI} (h : PI X tg e t) (q : ∀ s H R, t' s H R → t s H R) : PI X tg e t' := ⟨fun pins s σ H Q I hw => h.run pins s σ H Q I (q _ _ _ hw)⟩
theorem pi_or {t t' : TI} (h : PI X tg e t) (h' : PI X tg e t') : PI X tg e (fun s H R => t s H R ∨ t' s H R) := ⟨fun pins s σ H Q I hw => hw.elim (h.run pins s σ H Q I) (h'.run pins s σ H Q I)⟩
@[reducible] def iSeq (f : FE) : FI := fun r m => (f r m).bind fun d m => match d with
  | .lst xs => .ok xs m
  | .tup xs => .ok xs m
  | _ => .stk
theorem iter_lst {w0 : Wo} {p : Addr} {vs : List V} {ds : List D} (ok0 : Ok T w0) (h : w0.H p = some (.lst vs)) (nl : ¬ Live w0 p) (r : RelDs T w0 ds vs) : IterOk T (Itl T.K p) w0 ds := by
  intro w ex ok
  have hp : w.H p = some (.lst vs) := ex.keep p (.lst vs) h nl
  have r' := r.ex ok0 ex
  refine ⟨fun i d hd => ?_, fun i hi => ⟨vs, SqL.of hp, by rw [r.length]; exact hi⟩⟩
  obtain ⟨v, hv, rv⟩ := r'.get hd
  refine ⟨⟨vs, v, SqL.of hp, hv⟩, fun x H' y => yld_same ok y.1 ?_⟩
  have := y.2 vs (SqL.of hp)
  rw [hv] at this; cases this; exact rv
theorem iter_tup {w0 : Wo} {p : Addr} {vs : List V} {ds : List D} (ok0 : Ok T w0) (h : SqT T.K w0.H p vs) (r : RelDs T w0 ds vs) : IterOk T (Itt T.K p) w0 ds := by
  intro w ex ok
  have hp := SqT.ex ok0 ex h
  have r' := r.ex ok0 ex
  refine ⟨fun i d hd => ?_, fun i hi => ⟨vs, hp, by rw [r.length]; exact hi⟩⟩
  obtain ⟨v, hv, rv⟩ := r'.get hd
  refine ⟨⟨vs, v, hp, hv⟩, fun x H' y => yld_same ok y.1 ?_⟩
  have := y.2 vs hp
  rw [hv] at this; cases this; exact rv
theorem i_seq (he : PE X e (rd (tx X) W f)) : PI X tg e (rdI (tx X) W (iSeq f)) := by
  refine pi_imp (pi_or (pi_list he) (pi_tup he)) ?_
  rintro σ H R ⟨w, l, rfl, ok, re, h⟩
  have hf : f l w.mu = f l w.mu := rfl
  cases e1 : f l w.mu with
  | stk => rw [iSeq, e1] at h; exact h.elim
  | ex c m =>
    rw [iSeq, e1] at h
    exact .inl ⟨w, l, rfl, ok, re, by rw [e1]; exact h⟩
  | ok d m =>
    rw [iSeq, e1] at h
    simp only [Rs.bind] at h
    cases d with
    | lst xs =>
      refine .inl ⟨w, l, rfl, ok, re, ?_⟩
      rw [e1]
      intro w1 v ex ok1 hm r1
      simp only [RelD] at r1
      obtain ⟨p, vs, rfl, q1, q2, q3⟩ := r1
      exact ⟨p, rfl, ⟨vs, SqL.of q1⟩, h w1 _ ex ok1 hm (iter_lst ok1 q1 q2 q3)⟩
    | tup xs =>
      refine .inr ⟨w, l, rfl, ok, re, ?_⟩
      rw [e1]
      intro w1 v ex ok1 hm r1
      simp only [RelD] at r1
      obtain ⟨p, vs, rfl, q1, q3⟩ := r1
      exact ⟨p, rfl, ⟨vs, q1⟩, h w1 _ ex ok1 hm (iter_tup ok1 q1 q3)⟩
    | _ => exact h.elim
@[reducible] def rangeD (i j : Int) : List D := (List.range (j - i).toNat).map fun k => D.int (i + (k : Nat))
theorem iter_rng {w0 : Wo} {i j : Int} : IterOk T (Itr i (j - i).toNat) w0 (rangeD i j) := by
  intro w ex ok
  refine ⟨fun n d hd => ?_, fun n hn => by simpa [Itr, rangeD] using hn⟩
  unfold rangeD at hd
  rw [List.getElem?_map] at hd
  by_cases hl : n < (j - i).toNat
  · rw [List.getElem?_range hl] at hd
    cases hd
    exact ⟨hl, fun x H' y => yld_same ok y.1 (by simp only [RelD]; exact y.2)⟩
  · rw [List.getElem?_eq_none (by simpa using hl)] at hd; cases hd
@[reducible] def iR1 (fa : FA) : FI := fun r m => (fa r m).bind fun ds m => match ds with
  | [.int j] => if -(2 ^ 62) ≤ j ∧ j < 2 ^ 62 then .ok (rangeD 0 j) m else .stk
  | _ => .stk
@[reducible] def iR2 (fa : FA) : FI := fun r m => (fa r m).bind fun ds m => match ds with
  | [.int i, .int j] => if -(2 ^ 62) ≤ i ∧ i < 2 ^ 62 ∧ -(2 ^ 62) ≤ j ∧ j < 2 ^ 62 then .ok (rangeD i j) m else .stk
  | _ => .stk
theorem go_i {fi : FI} {k : List D → List O → Rs (List D)} {s : St} {w : Wo} {r : Lc} {R : It → Hp → Prop} {Z : List V → Hp → Prop} (ok : Ok T w) (re : RelE T w r s)
    (h : match (fi r w.mu).bind k with
      | .ok ds m => ∀ w' J, Ex w w' → Ok T w' → w'.mu = m → IterOk T J w' ds → R J w'.H
      | .ex c m => ∀ w', Ex w w' → Ok T w' → w'.mu = m → wx T W s c w'
      | .stk => False) (hk : ∀ ds w1 vs, Ex w w1 → Ok T w1 → RelE T w1 r s → RelDs T w1 ds vs → (match k ds w1.mu with
      | .ok ds m => ∀ w' J, Ex w1 w' → Ok T w' → w'.mu = m → IterOk T J w' ds → R J w'.H
      | .ex c m => ∀ w', Ex w1 w' → Ok T w' → w'.mu = m → wx T W s c w'
      | .stk => False) → Z vs w1.H) : rdA T W fi s w.H Z := by
  refine ⟨w, r, rfl, ok, re, ?_⟩
  cases e : fi r w.mu with
  | stk => rw [e] at h; exact h
  | ex c m => rw [e] at h; exact h
  | ok ds m =>
    rw [e] at h
    intro w1 vs ex ok1 hm r1
    subst hm
    refine hk ds w1 vs ex ok1 (re.ex ok ex.toEx0) r1 ?_
    simp only [Rs.bind] at h
    revert h
    cases k ds w1.mu with
    | stk => exact fun h => h
    | ex c m => exact fun h w' e' ok' hm => h w' (ex.trans e') ok' hm
    | ok ds m => exact fun h w' J e' ok' hm => h w' J (ex.trans e') ok' hm
theorem i_r1 {p : Pos} (hm : X.mg "range" = none) (ha : PA X [a] (rdA (tx X) W fa)) (hg : Gl X "range" := by rfl) (hs : starEach [a] X.env = [(false, eval a X.env)] := by rfl) : PI X tg (.Call (.Name "range" p) [a] [] pos) (rdI (tx X) W (iR1 fa)) := by
  refine pi_imp (pi_range1 hg hm ha hs) ?_
  rintro σ H R ⟨w, l, rfl, ok, re, h⟩
  refine go_i (fi := fa) ok re h fun ds w1 vs e1 ok1 re1 r1 h1 => ?_
  split at h1
  · rename_i j m hq
    split at hq
    · rename_i j
      split at hq
      · rename_i hb
        cases hq
        replace r1 := r1.one
        obtain ⟨v, rfl, r1⟩ := r1
        simp only [RelD] at r1; subst r1
        refine ⟨j, rfl, hb.1, hb.2, ?_⟩
        have q := h1 w1 (Itr 0 (j - 0).toNat) .rfl' ok1 rfl iter_rng
        rw [Int.sub_zero] at q
        exact q
      · cases hq
    · cases hq
  · rename_i hq
    split at hq
    · split at hq <;> cases hq
    · cases hq
  · exact h1.elim
theorem i_r2 {p : Pos} (hm : X.mg "range" = none) (ha : PA X [a, b] (rdA (tx X) W fa)) (hg : Gl X "range" := by rfl) (hs : starEach [a, b] X.env = [(false, eval a X.env), (false, eval b X.env)] := by rfl) (hs2 : starEach [b] X.env = [(false, eval b X.env)] := by rfl) : PI X tg (.Call (.Name "range" p) [a, b] [] pos) (rdI (tx X) W (iR2 fa)) := by
  refine pi_imp (pi_range2 hg hm ha hs hs2) ?_
  rintro σ H R ⟨w, l, rfl, ok, re, h⟩
  refine go_i (fi := fa) ok re h fun ds w1 vs e1 ok1 re1 r1 h1 => ?_
  split at h1
  · rename_i j m hq
    split at hq
    · rename_i i j
      split at hq
      · rename_i hb
        cases hq
        replace r1 := r1.two
        obtain ⟨v, u, rfl, r1, r2⟩ := r1
        simp only [RelD] at r1 r2; subst r1 r2
        exact ⟨i, j, rfl, hb, h1 w1 (Itr i (j - i).toNat) .rfl' ok1 rfl iter_rng⟩
      · cases hq
    · cases hq
  · rename_i hq
    split at hq
    · split at hq <;> cases hq
    · cases hq
  · exact h1.elim
@[reducible] def iStrD (f : FE) : FI := fun r m => (f r m).bind fun d m => match d with
  | .str x => .ok (x.cps.toList.map fun c => .str ⟨#[c]⟩) m
  | _ => .stk

/-! ### list comprehensions -/
@[reducible] def wipeL (r : Lc) : List Nat → Lc
  | [] => r
  | v :: vs => (wipeL r vs).set v none
theorem RelE.wipes {w : Wo} {r : Lc} {s : St} (h : RelE T w r s) : ∀ vs : List Nat, RelE T w (wipeL r vs) (L2.wipe s vs)
  | [] => h
  | v :: vs => RelE.wipe v (RelE.wipes h vs)
@[reducible] def compL (p : Pt) (t : FT) (f : FE) (r : Lc) : List D → List O → Rs (List D)
  | [], m => .ok [] m
  | d :: ds, m => match asg p d r with
    | none => .stk
    | some r1 => match t r1 m with
      | .ok true m => match f r1 m with
        | .ok y m => (compL p t f r ds m).bind fun ys m => .ok (y :: ys) m
        | _ => .stk
      | .ok false m => compL p t f r ds m
      | _ => .stk
@[reducible] def fLc (vs : List Nat) (p : Pt) (fi : FI) (t : FT) (f : FE) : FE := fun r m => (fi r m).bind fun ds m => if ds.length ≤ 16777215 then (compL p t f (wipeL r vs) ds m).bind fun ys m => .ok (.lst ys) m else .stk
def W0 : WX := fun _ _ _ _ => False
@[reducible] def tTrue : FT := fun _ m => .ok true m
theorem ts_nil : PTs X [] (rdT (tx X) W tTrue) := ⟨fun pins s σ H Q I hw => pts_nil.run pins s σ H Q I (by
  obtain ⟨w, r, rfl, ok, re, h⟩ := hw
  exact h.now ok rfl)⟩
theorem ts_one (h : PT X c (rdT (tx X) W ft)) : PTs X [c] (rdT (tx X) W ft) := pts_one h
theorem compL_no {p : Pt} {t : FT} {f : FE} {r : Lc} : ∀ {ds : List D} {m m' : List O} {c : Str}, compL p t f r ds m ≠ .ex c m'
  | [], _, _, _, h => by cases h
  | d :: ds, m, m', c, h => by
    simp only [compL] at h
    split at h
    · cases h
    · split at h
      · split at h
        · rename_i y m2 _
          cases e : compL p t f r ds m2 with
          | ok ys m3 => rw [e] at h; cases h
          | ex c m3 => exact compL_no e
          | stk => rw [e] at h; cases h
        · cases h
      · exact compL_no h
      · cases h
theorem lc_sem {vs : List Nat} {p : Pt} {fi : FI} (hp : ∀ i ∈ p.slots, i ∈ vs) : ∀ σ H Q, rd T W (fLc vs p fi ft f) σ H Q → tLc (rdI T W fi) (gOf T.K p) (rdT T W0 ft) (rd T W0 f) vs σ H Q := by
  rintro σ H Q ⟨w, l, rfl, ok, re, h⟩
  refine ⟨w, l, rfl, ok, re, ?_⟩
  cases e1 : fi l w.mu with
  | stk => rw [fLc, e1] at h; exact h
  | ex c m => rw [fLc, e1] at h; exact h
  | ok ds m =>
  rw [fLc, e1] at h
  simp only [Rs.bind] at h
  split at h
  case isFalse => exact h.elim
  rename_i hlen
  intro w1 J ex1 ok1 hm it A0 hD
  subst hm
  -- the list that is made is hidden
  have hx : Ex0 w1 (w1.hide A0 (.lst [])) := hide_ex ok1 hD
  have hok : Ok T (w1.hide A0 (.lst [])) := hide_ok ok1 hD trivial
  have re1 := re.ex ok ex1.toEx0
  refine ⟨fun i m H => m = ds.length - i ∧ i ≤ ds.length ∧ ∃ (w2 : Wo) (acc : List D) (av : List V), w2.H = H ∧ Ok T w2 ∧ Ex0 w1 w2 ∧ w2.hid = (fun a => a = A0 ∨ w1.hid a) ∧ (∀ a, w1.hid a → w2.H a = w1.H a) ∧
      w2.H A0 = some (.lst av) ∧ RelDs T w2 acc av ∧ acc.length ≤ i ∧
      Post T (RelD T) (wx T W σ) w ((compL p ft f (wipeL l vs) (ds.drop i) w2.mu).bind fun ys m => .ok (.lst (acc ++ ys)) m) Q,
    ⟨ds.length, by simp, Nat.zero_le _, w1.hide A0 (.lst []), [], [], rfl, hok, hx, rfl, fun a ha => upd_ne (hid_ne ok1 hD ha), upd_same, .nil, Nat.le_refl _, ?_⟩, ?_⟩
  · simp only [List.drop_zero, List.nil_append]; exact h
  rintro i m H ⟨rfl, hi, w2, acc, av, rfl, ok2, x2, hid2, hk2, hD2, ra, hacc, hpost⟩
  obtain ⟨go_, stop_⟩ := it w2 x2 ok2
  have re2 := re1.ex ok1 x2
  by_cases hlt : i < ds.length
  · right
    obtain ⟨d, hd⟩ : ∃ d, ds[i]? = some d := ⟨ds[i], by simp [hlt]⟩
    obtain ⟨hgo, hy⟩ := go_ i d hd
    have hdrop : ds.drop i = d :: ds.drop (i + 1) := by
      rw [List.drop_eq_getElem_cons hlt]
      have : ds[i] = d := by rw [List.getElem?_eq_getElem hlt] at hd; exact Option.some.inj hd
      rw [this]
    refine ⟨hgo, fun H' => ∃ (w3 : Wo) (acc : List FR.D) (av : List V), w3.H = H' ∧ Ok T w3 ∧ Ex0 w1 w3 ∧ w3.hid = (fun a => a = A0 ∨ w1.hid a) ∧ (∀ a, w1.hid a → w3.H a = w1.H a) ∧
      w3.H A0 = some (.lst av) ∧ RelDs T w3 acc av ∧ acc.length ≤ i + 1 ∧
      Post T (RelD T) (wx T W σ) w ((compL p ft f (wipeL l vs) (ds.drop (i + 1)) w3.mu).bind fun ys m => .ok (.lst (acc ++ ys)) m) Q,
      fun H' q => ⟨ds.length - (i + 1), by omega, rfl, hlt, q⟩, fun x H' hyl => ?_⟩
    obtain ⟨wb, xb, okb, hmu, rfl, rx⟩ := hy x H' hyl
    have x2b : Ex0 w1 wb := x2.trans xb.toEx0
    have hid2b : wb.hid = (fun a => a = A0 ∨ w1.hid a) := xb.hidE.trans hid2
    have hk2b : ∀ a, w1.hid a → wb.H a = w1.H a := fun a ha => (xb.hidK a (by rw [hid2]; exact .inr ha)).trans (hk2 a ha)
    have hD2b : wb.H A0 = some (.lst av) := (xb.hidK A0 (by rw [hid2]; exact .inl rfl)).trans hD2
    have rab : RelDs T wb acc av := ra.ex ok2 xb.toEx0
    have re2b := re2.ex ok2 xb.toEx0
    rw [← hmu] at hpost
    rw [hdrop] at hpost
    simp only [compL] at hpost
    cases ea : asg p d (wipeL l vs) with
    | none => rw [ea] at hpost; exact hpost.elim
    | some r1 =>
    rw [ea] at hpost
    simp only at hpost
    obtain ⟨s', re', hw, hg⟩ := gOf_ok okb (re2b.wipes vs) rx ea
    refine hg _ ⟨by rw [hw vs hp, wipe_wipe], ?_⟩
    refine ⟨wb, r1, rfl, okb, re', ?_⟩
    cases et : ft r1 wb.mu with
    | stk => rw [et] at hpost; exact hpost.elim
    | ex c m3 => rw [et] at hpost; exact hpost.elim
    | ok z m3 =>
    rw [et] at hpost
    intro w3 z' e3 ok3 hm3 hz
    subst hz
    subst hm3
    have x3 : Ex0 w1 w3 := x2b.trans e3.toEx0
    have hid3 : w3.hid = fun a => a = A0 ∨ w1.hid a := e3.hidE.trans hid2b
    have hk3 : ∀ a, w1.hid a → w3.H a = w1.H a := fun a ha => (e3.hidK a (by rw [hid2b]; exact .inr ha)).trans (hk2b a ha)
    have hD3 : w3.H A0 = some (.lst av) := (e3.hidK A0 (by rw [hid2b]; exact .inl rfl)).trans hD2b
    have ra3 := rab.ex okb e3.toEx0
    cases z with
    | false =>
      simp only [Bool.false_eq_true, if_false]
      exact ⟨w3, acc, av, rfl, ok3, x3, hid3, hk3, hD3, ra3, by omega, hpost⟩
    | true =>
      simp only [if_true]
      refine ⟨w3, r1, rfl, ok3, re'.ex okb e3.toEx0, ?_⟩
      simp only at hpost
      cases ef : f r1 w3.mu with
      | stk => rw [ef] at hpost; exact hpost.elim
      | ex c m4 => rw [ef] at hpost; exact hpost.elim
      | ok y m4 =>
      rw [ef] at hpost
      intro w4 v e4 ok4 hm4 rv
      subst hm4
      have hid4 : w4.hid = fun a => a = A0 ∨ w1.hid a := e4.hidE.trans hid3
      have hh4 : w4.hid A0 := by rw [hid4]; exact .inl rfl
      have hk4 : ∀ a, w1.hid a → w4.H a = w1.H a := fun a ha => (e4.hidK a (by rw [hid3]; exact .inr ha)).trans (hk3 a ha)
      have hD4 : w4.H A0 = some (.lst av) := (e4.hidK A0 (by rw [hid3]; exact .inl rfl)).trans hD3
      have ra4 := ra3.ex ok3 e4.toEx0
      refine ⟨av, hD4, by rw [sizeLine_eq, ra4.length]; omega, ?_⟩
      have x5 : Ex0 w4 (w4.lay A0 (.lst (av ++ [v]))) := over_ex hh4
      refine ⟨w4.lay A0 (.lst (av ++ [v])), acc ++ [y], av ++ [v], rfl, over_ok ok4 hh4 trivial, (x3.trans e4.toEx0).trans x5, hid4, fun a ha => ?_, upd_same, (ra4.append (.cons rv .nil)).ex ok4 x5, by simp; omega, ?_⟩
      · exact (upd_ne (hid_ne ok1 hD ha)).trans (hk4 a ha)
      · have hb : ((compL p ft f (wipeL l vs) (ds.drop (i + 1)) w4.mu).bind fun ys m => Rs.ok (y :: ys) m).bind (fun ys m => Rs.ok (FR.D.lst (acc ++ ys)) m) = (compL p ft f (wipeL l vs) (ds.drop (i + 1)) w4.mu).bind fun ys m => Rs.ok (FR.D.lst (acc ++ [y] ++ ys)) m := by
          cases compL p ft f (wipeL l vs) (ds.drop (i + 1)) w4.mu with
          | ok ys m => simp [Rs.bind]
          | ex c m => rfl
          | stk => rfl
        simp only at hpost
        rw [hb] at hpost
        exact hpost
  · left
    have e : i = ds.length := by omega
    subst e
    refine ⟨stop_ _ (Nat.le_refl _), ?_⟩
    rw [List.drop_length] at hpost
    simp only [compL, Rs.bind, List.append_nil] at hpost
    -- hidden no longer
    have hs : ∀ a, w1.hid a → w2.hid a := fun a ha => by rw [hid2]; exact .inr ha
    have x6 : Ex0 w2 (w2.show_ w1.hid) := show_ex hs
    have ok6 : Ok T (w2.show_ w1.hid) := show_ok ok2 hs
    have ex6 : Ex w1 (w2.show_ w1.hid) := ⟨x2.trans x6, rfl, hk2⟩
    refine hpost (w2.show_ w1.hid) (.ref A0) (ex1.trans ex6) ok6 rfl ?_
    simp only [RelD]
    refine ⟨A0, av, rfl, hD2, ?_, ra.ex ok2 x6⟩
    rintro (q | ⟨n, hn, _⟩)
    · exact not_hid ok1 hD q
    · exact ok2.hidN A0 (List.mem_of_getElem? hn) (by rw [hid2]; exact .inl rfl)
theorem v_lc {ifs : List Expr} {scope : Scope} {own : List (Str × Nat)} {p : Pt} {fi : FI} (hp : (p.slots.all fun i => (own.map (·.2)).contains i) = true) (hc : X.calm = true) (hN : X.N.Nodup) (hi : PI X tg iter (rdI (tx X) W fi)) (ok : BlkOk X.N X.env.scope scope own)
    (hg : ∀ (s : Shared) (H : Hp) (C : Addr) (cl : List (Str × Addr)) (fp : List Addr), PG (X.blk s H scope (compEnvC scope cl C X.env) fp) tg (gOf X.K p))
    (ht : ∀ (s : Shared) (H : Hp) (C : Addr) (cl : List (Str × Addr)) (fp : List Addr), PTs (X.blk s H scope (compEnvC scope cl C X.env) fp) ifs (rdT (tx X) W0 ft))
    (he : ∀ (s : Shared) (H : Hp) (C : Addr) (cl : List (Str × Addr)) (fp : List Addr), PE (X.blk s H scope (compEnvC scope cl C X.env) fp) e (rd (tx X) W0 f)) (hs : ∀ x, foldedSetIterable iter X.env x = pure x := by intro _; rfl) :
    PE X (.ListComp e [⟨tg, iter, ifs, 0⟩] scope pos) (rd (tx X) W (fLc (own.map (·.2)) p fi ft f)) :=
  pe_imp (pe_lc hc hN hi ok hg ht he hs) (lc_sem fun i hi => by
    have := List.all_eq_true.mp hp i hi
    simpa using this)
end FR
set_option Elab.async false
set_option linter.all false
set_option maxRecDepth 100000
set_option maxHeartbeats 4000000
/-! ## Statements, calls, exceptions, functions -/
namespace FR
open PySem PySem.Spec L2
set_option autoImplicit false
variable {X : Cx} {T : Tx} {W : WX} {f g h : FE} {fa : FA} {ft gt : FT} {a b c e o tg iter : Expr} {es rest : List Expr} {pos : Pos} {k : Nat} {st0 : Stmt} {sts : List Stmt} {m m' : FS}

@[reducible] def Rs.sq {α : Type} (x : Rs α) (r : Lc) (k : α → List O → Rt) : Rt := match x with
  | .ok a m => k a m
  | .ex c m => .ex c r m
  | .stk => .stk
theorem go_s {E : Ends} {s : St} {w : Wo} {r : Lc} {k : D → List O → Rt} {Z : V → Hp → Prop} (ok : Ok T w) (re : RelE T w r s) (h : PostS T W w ((f r w.mu).sq r k) E)
    (hk : ∀ a w1 b, Ex w w1 → Ok T w1 → RelE T w1 r s → RelD T w1 a b → PostS T W w1 (k a w1.mu) E → Z b w1.H) : rd T W f s w.H Z := by
  refine ⟨w, r, rfl, ok, re, ?_⟩
  cases e : f r w.mu with
  | stk => rw [e] at h; exact h
  | ex c m => rw [e] at h; exact fun w' x ok' hm => h w' s x ok' hm (re.ex ok x.toEx0)
  | ok a m =>
    rw [e] at h
    intro w1 b x ok1 hm hr
    subst hm
    exact hk a w1 b x ok1 (re.ex ok x.toEx0) hr (PostS.ex h x)
theorem go_st {E : Ends} {s : St} {w : Wo} {r : Lc} {k : Bool → List O → Rt} {Z : Bool → Hp → Prop} (ok : Ok T w) (re : RelE T w r s) (h : PostS T W w ((ft r w.mu).sq r k) E)
    (hk : ∀ a w1, Ex w w1 → Ok T w1 → RelE T w1 r s → PostS T W w1 (k a w1.mu) E → Z a w1.H) : rdT T W ft s w.H Z := by
  refine ⟨w, r, rfl, ok, re, ?_⟩
  cases e : ft r w.mu with
  | stk => rw [e] at h; exact h
  | ex c m => rw [e] at h; exact fun w' x ok' hm => h w' s x ok' hm (re.ex ok x.toEx0)
  | ok a m =>
    rw [e] at h
    intro w1 b x ok1 hm hr
    subst hr
    subst hm
    exact hk a w1 x ok1 (re.ex ok x.toEx0) (PostS.ex h x)
theorem PostS.nxt {E : Ends} {w : Wo} {r : Lc} {s : St} (h : PostS T W w (.ok (.nx r) w.mu) E) (ok : Ok T w) (re : RelE T w r s) : E.nx s w.H := h w s .rfl' ok rfl re

/-! ### simple statements -/
@[reducible] def sSet (i : Nat) (f : FE) : FS := fun r m => (f r m).sq r fun d m => .ok (.nx (r.set i (some d))) m
@[reducible] def sAsg (p : Pt) (f : FE) : FS := fun r m => (f r m).sq r fun d m => match asg p d r with
  | some r' => .ok (.nx r') m
  | none => .stk
@[reducible] def sRet (f : FE) : FS := fun r m => (f r m).sq r fun d m => .ok (.rt d) m
@[reducible] def sExp (f : FE) : FS := fun r m => (f r m).sq r fun _ m => .ok (.nx r) m
@[reducible] def sIf (t : FT) (a b : FS) : FS := fun r m => (t r m).sq r fun z m => if z = true then a r m else b r m
@[reducible] def sNx : FS := fun r m => .ok (.nx r) m
@[reducible] def sBk : FS := fun r m => .ok (.bk r) m
@[reducible] def sCt : FS := fun r m => .ok (.ct r) m
@[reducible] def sRetN : FS := fun _ m => .ok (.rt .non) m
def sSeq (a b : FS) : FS := fun r m => match a r m with
  | .ok (.nx r) m => b r m
  | x => x
theorem s_set {i : Nat} {x : Str} {p' : Pos} (hN : X.N.Nodup) (he : PE X e (rd (tx X) W f)) (hi : X.N[i]? = some x := by rfl) (hx : Loc X.env.scope x := by first | exact .inl rfl | exact .inr rfl) (hs : swapsWith e (some (.Name x p')) pos.line X.env = pure false := by rfl)
    (hf : X.fn x = true ∨ X.env.scope.names.lookup x = some .local := by first | exact .inl rfl | exact .inr rfl) : PS X (.Assign [.Name x p'] e pos) (rdS (tx X) W (sSet i f)) := by
  refine ps_imp (ps_set hN hi hx he hs hf) ?_
  rintro E s H ⟨w, r, rfl, ok, re, h⟩
  exact go_s ok re h fun d w1 v x ok1 re1 r1 h1 => h1.nxt ok1 (re1.set i r1)
theorem s_setLc {i : Nat} {y : Str} {py spos : Pos} {ifs : List Expr} {scope : Scope} {own : List (Str × Nat)} {p : Pt} {fi : FI} (hp : (p.slots.all fun i => (own.map (·.2)).contains i) = true) (hc : X.calm = true) (hN : X.N.Nodup)
    (hsw : swapsWith (.ListComp e [⟨tg, iter, ifs, 0⟩] scope pos) (some (.Name y py)) spos.line X.env = pure true) (hi : PI X tg iter (rdI (tx X) W fi)) (ok : BlkOk X.N X.env.scope scope own)
    (hg : ∀ (s : Shared) (H : Hp) (C : Addr) (cl : List (Str × Addr)) (fp : List Addr), PG (X.blk s H scope (compEnvC scope cl C X.env) fp) tg (gOf X.K p))
    (ht : ∀ (s : Shared) (H : Hp) (C : Addr) (cl : List (Str × Addr)) (fp : List Addr), PTs (X.blk s H scope (compEnvC scope cl C X.env) fp) ifs (rdT (tx X) W0 ft))
    (he : ∀ (s : Shared) (H : Hp) (C : Addr) (cl : List (Str × Addr)) (fp : List Addr), PE (X.blk s H scope (compEnvC scope cl C X.env) fp) e (rd (tx X) W0 f)) (hy : X.N[i]? = some y := by rfl) (hyl : X.env.scope.names.lookup y = some .local := by rfl)
    (hs : ∀ x, foldedSetIterable iter X.env x = pure x := by intro _; rfl) :
    PS X (.Assign [.Name y py] (.ListComp e [⟨tg, iter, ifs, 0⟩] scope pos) spos) (rdS (tx X) W (sSet i (fLc (own.map (·.2)) p fi ft f))) := by
  refine ps_imp (ps_setLc hc hN hy hyl hsw hi ok hg ht he hs) ?_
  rintro E s H ⟨w, r, rfl, ok, re, h⟩
  exact lc_sem (fun i hi => by
    have := List.all_eq_true.mp hp i hi
    simpa using this) _ _ _ (go_s ok re h fun d w1 v x ok1 re1 r1 h1 => h1.nxt ok1 (re1.set i r1))
theorem s_asg {p : Pt} (he : PE X e (rd (tx X) W f)) (hg : PG X tg (gOf X.K p)) (hs : swapsWithSole [tg] e pos.line X.env = pure false := by rfl) (hw : swappedStores [tg] e X.env = pure none := by rfl)
    (h1 : (assignEach [tg] X.env).map (·.2) = [assign tg X.env] := by rfl) : PS X (.Assign [tg] e pos) (rdS (tx X) W (sAsg p f)) := by
  refine ps_imp (ps_asg he hg hs hw h1) ?_
  rintro E s H ⟨w, r, rfl, ok, re, h⟩
  refine go_s ok re h fun d w1 v x ok1 re1 r1 h1 => ?_
  split at h1
  · rename_i r' ha
    obtain ⟨s', re', _, hq⟩ := gOf_ok ok1 re1 r1 ha
    exact hq _ (h1.nxt ok1 re')
  · exact h1.elim
theorem s_ret (he : PE X e (rd (tx X) W f)) : PS X (.Return (some e) pos) (rdS (tx X) W (sRet f)) := by
  refine ps_imp (ps_ret he) ?_
  rintro E s H ⟨w, r, rfl, ok, re, h⟩
  exact go_s ok re h fun d w1 v x ok1 re1 r1 h1 => h1 w1 v .rfl' ok1 rfl r1
theorem s_retN : PS X (.Return none pos) (rdS (tx X) W sRetN) := by
  refine ps_imp ps_retN ?_
  rintro E s H ⟨w, r, rfl, ok, re, h⟩
  exact h w .non .rfl' ok rfl (by simp only [RelD])
theorem s_exp (he : PE X e (rd (tx X) W f)) (hs : swapsWith e none pos.line X.env = pure false := by rfl) : PS X (.Expr e pos) (rdS (tx X) W (sExp f)) := by
  refine ps_imp (ps_expr he hs) ?_
  rintro E s H ⟨w, r, rfl, ok, re, h⟩
  exact go_s ok re h fun d w1 v x ok1 re1 r1 h1 => h1.nxt ok1 re1
theorem s_doc {x j} {p' : Pos} : PS X (.Expr (.Constant (.str x) j p') pos) (rdS (tx X) W sNx) := by
  refine ps_imp ps_doc ?_
  rintro E s H ⟨w, r, rfl, ok, re, h⟩
  exact h.nxt ok re
theorem s_if {A B : List Stmt} (hc : PT X c (rdT (tx X) W ft)) (ha : PSs X A (rdS (tx X) W m)) (hb : PSs X B (rdS (tx X) W m')) : PS X (.If c A B pos) (rdS (tx X) W (sIf ft m m')) := by
  refine ps_imp (ps_if hc ha hb) ?_
  rintro E s H ⟨w, r, rfl, ok, re, h⟩
  refine go_st ok re h fun z w1 x ok1 re1 h1 => ?_
  cases z with
  | true => simp only [if_true] at h1 ⊢; exact ⟨w1, r, rfl, ok1, re1, h1⟩
  | false => simp only [Bool.false_eq_true, if_false] at h1 ⊢; exact ⟨w1, r, rfl, ok1, re1, h1⟩
theorem s_pass : PS X (.Pass pos) (rdS (tx X) W sNx) := by
  refine ps_imp ps_pass ?_
  rintro E s H ⟨w, r, rfl, ok, re, h⟩
  exact h.nxt ok re
theorem s_bk : PS X (.Break pos) (rdS (tx X) W sBk) := by
  refine ps_imp ps_break ?_
  rintro E s H ⟨w, r, rfl, ok, re, h⟩
  exact h w s .rfl' ok rfl re
theorem s_ct : PS X (.Continue pos) (rdS (tx X) W sCt) := by
  refine ps_imp ps_continue ?_
  rintro E s H ⟨w, r, rfl, ok, re, h⟩
  exact h w s .rfl' ok rfl re
theorem ss_nil : PSs X [] (rdS (tx X) W sNx) := by
  refine pss_imp pss_nil ?_
  rintro E s H ⟨w, r, rfl, ok, re, h⟩
  exact h.nxt ok re
theorem ss_one (h : PS X st0 (rdS (tx X) W m)) : PSs X [st0] (rdS (tx X) W m) := pss_one h
theorem ss_cons (h1 : PS X st0 (rdS (tx X) W m)) (h2 : PSs X sts (rdS (tx X) W m')) : PSs X (st0 :: sts) (rdS (tx X) W (sSeq m m')) := by
  refine pss_imp (pss_cons h1 h2) ?_
  rintro E s H ⟨w, r, rfl, ok, re, h⟩
  refine ⟨w, r, rfl, ok, re, ?_⟩
  unfold sSeq at h
  cases e : m r w.mu with
  | stk => rw [e] at h; exact h
  | ex c r' mm => rw [e] at h; exact h
  | ok fl mm =>
    rw [e] at h
    cases fl with
    | nx r' =>
      intro w' s' x ok' hm re'
      subst hm
      exact ⟨w', r', rfl, ok', re', PostS.ex h x⟩
    | rt d => exact h
    | bk r' => exact h
    | ct r' => exact h

/-! ### for -/
@[reducible] def forL (p : Pt) (body : FS) : List D → FS
  | [], r, m => .ok (.nx r) m
  | d :: ds, r, m => match asg p d r with
    | none => .stk
    | some r1 => match body r1 m with
      | .ok (.nx r2) m => forL p body ds r2 m
      | .ok (.ct r2) m => forL p body ds r2 m
      | .ok (.bk r2) m => .ok (.nx r2) m
      | .ok (.rt d) m => .ok (.rt d) m
      | .ex c r m => .ex c r m
      | .stk => .stk
@[reducible] def sFor (p : Pt) (fi : FI) (body : FS) : FS := fun r m => (fi r m).sq r fun ds m => forL p body ds r m
theorem s_for {p : Pt} {fi : FI} {body : List Stmt} (hp : PassesOwn (model X.prog X.w) X.A X.env X.xe) (hc : X.calm = true) (hi : PI X tg iter (rdI (tx X) W fi)) (hg : PG X tg (gOf X.K p)) (hb : PSs X body (rdS (tx X) W m)) (hs : ∀ x, foldedSetIterable iter X.env x = pure x := by intro _; rfl) :
    PS X (.For tg iter body [] pos) (rdS (tx X) W (sFor p fi m)) := by
  refine ps_imp (ps_for hp hc hi hg hb hs) ?_
  rintro E s H ⟨w, r, rfl, ok, re, h⟩
  refine ⟨w, r, rfl, ok, re, ?_⟩
  unfold sFor at h
  cases e : fi r w.mu with
  | stk => rw [e] at h; exact h
  | ex c mm => rw [e] at h; exact fun w' x ok' hm => h w' s x ok' hm (re.ex ok x.toEx0)
  | ok ds mm =>
  rw [e] at h
  intro w0 J x0 ok0 hm it
  subst hm
  have h0 : PostS (tx X) W w0 (forL p m ds r w0.mu) E := PostS.ex h x0
  have Wd : ∀ i m' s' H', (m' = ds.length - i ∧ i ≤ ds.length ∧ ∃ (w : Wo) (r : Lc), w.H = H' ∧ Ok (tx X) w ∧ Ex w0 w ∧ RelE (tx X) w r s' ∧ PostS (tx X) W w (forL p m (ds.drop i) r w.mu) E) → True := fun _ _ _ _ _ => trivial
  refine ⟨fun i m' s' H' => m' = ds.length - i ∧ i ≤ ds.length ∧ ∃ (w : Wo) (r : Lc), w.H = H' ∧ Ok (tx X) w ∧ Ex w0 w ∧ RelE (tx X) w r s' ∧ PostS (tx X) W w (forL p m (ds.drop i) r w.mu) E,
    ⟨ds.length, by simp, Nat.zero_le _, w0, r, rfl, ok0, .rfl', re.ex ok x0.toEx0, by simpa using h0⟩, ?_⟩
  rintro i m' s' H' ⟨rfl, hi', w1, r1, rfl, ok1, x1, re1, hpost⟩
  obtain ⟨go_, stop_⟩ := it w1 x1.toEx0 ok1
  by_cases hlt : i < ds.length
  · right
    obtain ⟨d, hd⟩ : ∃ d, ds[i]? = some d := ⟨ds[i], by simp [hlt]⟩
    obtain ⟨hgo, hy⟩ := go_ i d hd
    have hdrop : ds.drop i = d :: ds.drop (i + 1) := by
      rw [List.drop_eq_getElem_cons hlt]
      have : ds[i] = d := by rw [List.getElem?_eq_getElem hlt] at hd; exact Option.some.inj hd
      rw [this]
    refine ⟨hgo, fun s' H' => ∃ (w : Wo) (r : Lc), w.H = H' ∧ Ok (tx X) w ∧ Ex w0 w ∧ RelE (tx X) w r s' ∧ PostS (tx X) W w (forL p m (ds.drop (i + 1)) r w.mu) E,
      fun s' H' q => ⟨ds.length - (i + 1), by omega, rfl, hlt, q⟩, fun v H' hyl => ?_⟩
    obtain ⟨wb, xb, okb, hmu, rfl, rv⟩ := hy v H' hyl
    have reb := re1.ex ok1 xb.toEx0
    have x1b := x1.trans xb
    rw [← hmu] at hpost
    replace hpost := PostS.ex hpost xb
    rw [hdrop] at hpost
    simp only [forL] at hpost
    cases ea : asg p d r1 with
    | none => rw [ea] at hpost; exact hpost.elim
    | some r2 =>
    rw [ea] at hpost
    simp only at hpost
    obtain ⟨s2, re2, _, hq⟩ := gOf_ok okb reb rv ea
    refine hq _ ⟨wb, r2, rfl, okb, re2, ?_⟩
    cases eb : m r2 wb.mu with
    | stk => rw [eb] at hpost; exact hpost
    | ex c r' mm => rw [eb] at hpost; exact hpost
    | ok fl mm =>
      rw [eb] at hpost
      cases fl with
      | nx r3 => exact fun w3 s3 x3 ok3 hm3 re3 => by subst hm3; exact ⟨w3, r3, rfl, ok3, x1b.trans x3, re3, PostS.ex hpost x3⟩
      | ct r3 => exact fun w3 s3 x3 ok3 hm3 re3 => by subst hm3; exact ⟨w3, r3, rfl, ok3, x1b.trans x3, re3, PostS.ex hpost x3⟩
      | bk r3 => exact hpost
      | rt d => exact hpost
  · left
    have e : i = ds.length := by omega
    subst e
    rw [List.drop_length] at hpost
    exact ⟨stop_ _ (Nat.le_refl _), hpost.nxt ok1 re1⟩

/-! ### stores to lists -/
@[reducible] def gPut (o i d : D) (m : List O) : Option (List O) := match o, i with
  | .loc n, .int k => match m[n]? with
    | some (.lst xs) => match ixN xs.length k with
      | some j => some (m.set n (.lst (xs.set j d)))
      | none => none
    | _ => none
  | _, _ => none
@[reducible] def sPut (fo fi f : FE) : FS := fun r m => (f r m).sq r fun d m => (fo r m).sq r fun o m => (fi r m).sq r fun i m => match gPut o i d m with
  | some m => .ok (.nx r) m
  | none => .stk
theorem RelDs.set {w : Wo} {d : D} {v : V} (r : RelD T w d v) : ∀ {ds : List D} {vs : List V} (i : Nat), RelDs T w ds vs → RelDs T w (ds.set i d) (vs.set i v)
  | [], vs, i, h => by simp only [RelDs] at h; subst h; simp [RelDs]
  | e :: ds, vs, 0, h => by
    simp only [RelDs] at h
    obtain ⟨u, l, rfl, h1, h2⟩ := h
    exact RelDs.cons r h2
  | e :: ds, vs, i + 1, h => by
    simp only [RelDs] at h
    obtain ⟨u, l, rfl, h1, h2⟩ := h
    exact RelDs.cons h1 (RelDs.set r i h2)
theorem put_lst {w : Wo} {n : Nat} {a : Addr} {xs : List D} {ds : List D} {vs : List V} (ok : Ok T w) (hb : w.bt[n]? = some a) (hm : w.mu[n]? = some (.lst xs)) (r : RelDs T w ds vs) :
    Ex w (w.put n a (.lst vs) (.lst ds)) ∧ Ok T (w.put n a (.lst vs) (.lst ds)) := by
  have x : Ex w (w.put n a (.lst vs) (.lst ds)) := put_ex ok hb hm (by simp)
  exact ⟨x, put_ok ok hb hm (by simp) ⟨vs, upd_same, r.ex ok x.toEx0⟩⟩
theorem s_put {o' : Expr} {i : Expr} {p' : Pos} {fo fi : FE} (ho : PE X o' (rd (tx X) W fo)) (hi : PE X i (rd (tx X) W fi)) (he : PE X e (rd (tx X) W f))
    (ha : ∀ v, assign (.Subscript o' i p') X.env v = (do
      let ov ← holding [v] (eval o' X.env)
      let iv ← holding [v, ov] (eval i X.env)
      standAt p'
      holding [v, ov, iv] (setItem ov iv v)
      release [v, ov, iv] []) := by intro _; rfl)
    (hs : swapsWithSole [.Subscript o' i p'] e pos.line X.env = pure false := by rfl) (hw : swappedStores [.Subscript o' i p'] e X.env = pure none := by rfl)
    (h1 : (assignEach [.Subscript o' i p'] X.env).map (·.2) = [assign (.Subscript o' i p') X.env] := by rfl) :
    PS X (.Assign [.Subscript o' i p'] e pos) (rdS (tx X) W (sPut fo fi f)) := by
  refine ps_imp (ps_asg he (pg_sub ho hi set_list ha) hs hw h1) ?_
  rintro E s H ⟨w, r, rfl, ok, re, h⟩
  refine go_s ok re h fun d w1 v x1 ok1 re1 r1 h1 => ?_
  refine go_s ok1 re1 h1 fun o w2 ov x2 ok2 re2 r2 h2 => ?_
  refine go_s ok2 re2 h2 fun i w3 iv x3 ok3 re3 r3 h3 => ?_
  split at h3
  · rename_i mm hg
    unfold gPut at hg
    split at hg
    · split at hg
      · split at hg
        · rename_i n kk _ xs hm _ j hj
          cases hg
          simp only [RelD] at r3; subst r3
          have ro := r2.ex ok2 x3.toEx0
          simp only [RelD] at ro
          obtain ⟨p, rfl, hb⟩ := ro
          have rv := (r1.ex ok1 x2.toEx0).ex ok2 x3.toEx0
          obtain ⟨vs, hv, rvs⟩ := ok3.obj _ _ _ hm hb
          obtain ⟨x4, ok4⟩ := put_lst ok3 hb hm (rvs.set rv j)
          refine ⟨p, vs, kk, j, rfl, rfl, hv, by rw [rvs.length]; exact hj, ?_⟩
          exact h3 _ _ x4 ok4 rfl (re3.ex ok3 x4.toEx0)
        · cases hg
      · cases hg
    · cases hg
  · exact h3.elim

/-! ### methods of lists and texts -/
@[reducible] def fApp (fo : FE) (fa : FA) : FE := fun r m => (fo r m).bind fun o m => match derefL o m with
  | none => .stk
  | some _ => (fa r m).bind fun ds m => match o, ds with
    | .loc n, [d] => match m[n]? with
      | some (.lst xs) => if xs.length < 16777216 then .ok .non (m.set n (.lst (xs ++ [d]))) else .stk
      | _ => .stk
    | _, _ => .stk
@[reducible] def fExt (fo : FE) (fa : FA) : FE := fun r m => (fo r m).bind fun o m => match derefL o m with
  | none => .stk
  | some _ => (fa r m).bind fun ds m => match o, ds with
    | .loc n, [d] => match m[n]?, derefL d m with
      | some (.lst xs), some ys => if xs.length + ys.length ≤ 16777216 then .ok .non (m.set n (.lst (xs ++ ys))) else .stk
      | _, _ => .stk
    | _, _ => .stk
theorem tyV_lst {w : Wo} {d : D} {v : V} {xs : List D} (ok : Ok T w) (r : RelD T w d v) (h : derefL d w.mu = some xs) : tyV T.K "list" v w.H := by
  obtain ⟨a, vs, rfl, h1, _⟩ := derefL_ok ok r h
  exact .inl ⟨rfl, vs, SqL.of h1⟩
theorem v_app {apos cpos : Pos} {fo : FE} (ho : PE X o (rd (tx X) W fo)) (ha : PA X (e :: es) (rdA (tx X) W fa))
    (hbase : attributeBase o "append" X.env (eval o X.env) = eval o X.env := by rfl)
    (hfew : ((backTo cpos (starEach (e :: es) X.env)).all (fun x => !x.1) && (backToKw cpos (keywordEach [] X.env)).all (fun x => x.1.isSome)
      && decide ((e :: es).length + ([] : List Keyword).length + (if ([] : List Keyword).isEmpty then 0 else 1) < 30)) = true := by rfl)
    (hline : (apos.endLine == cpos.line) = true := by rfl) (hs : starEach (e :: es) X.env = (false, eval e X.env) :: starEach es X.env := by rfl) (hplain : (backTo cpos (starEach es X.env)).any (·.1) = false := by rfl) :
    PE X (.Call (.Attribute o "append" apos) (e :: es) [] cpos) (rd (tx X) W (fApp fo fa)) := by
  refine pe_imp (pe_bm PySem.F.plainAttrs_list PySem.F.slot_list_append PySem.F.type_list_append mt_append ho ha hbase hfew hline hs hplain) ?_
  rintro σ H Q ⟨w, l, rfl, ok, re, h⟩
  refine go_e ok re h fun d w1 v e1 ok1 re1 r1 h1 => ?_
  split at h1
  · exact h1.elim
  · rename_i xs0 hx0
    refine ⟨tyV_lst ok1 r1 hx0, ?_⟩
    refine go_a ok1 re1 h1 fun ds w2 vs e2 ok2 re2 r2 h2 => ?_
    split at h2
    · split at h2
      · split at h2
        · rename_i n y _ xs hm hl
          have r1' := r1.ex ok1 e2.toEx0
          simp only [RelD] at r1'
          obtain ⟨p, rfl, hb⟩ := r1'
          replace r2 := r2.one
          obtain ⟨u, rfl, r2⟩ := r2
          obtain ⟨us, hv, rvs⟩ := ok2.obj _ _ _ hm hb
          obtain ⟨x4, ok4⟩ := put_lst ok2 hb hm (rvs.append (.cons r2 .nil))
          exact ⟨p, us, u, rfl, rfl, hv, by rw [sizeLine_eq, rvs.length]; exact hl, h2 _ _ x4 ok4 rfl (by simp only [RelD])⟩
        · exact h2.elim
      · exact h2.elim
    · exact h2.elim
theorem v_ext {apos cpos : Pos} {fo : FE} (ho : PE X o (rd (tx X) W fo)) (ha : PA X (e :: es) (rdA (tx X) W fa))
    (hbase : attributeBase o "extend" X.env (eval o X.env) = eval o X.env := by rfl)
    (hfew : ((backTo cpos (starEach (e :: es) X.env)).all (fun x => !x.1) && (backToKw cpos (keywordEach [] X.env)).all (fun x => x.1.isSome)
      && decide ((e :: es).length + ([] : List Keyword).length + (if ([] : List Keyword).isEmpty then 0 else 1) < 30)) = true := by rfl)
    (hline : (apos.endLine == cpos.line) = true := by rfl) (hs : starEach (e :: es) X.env = (false, eval e X.env) :: starEach es X.env := by rfl) (hplain : (backTo cpos (starEach es X.env)).any (·.1) = false := by rfl) :
    PE X (.Call (.Attribute o "extend" apos) (e :: es) [] cpos) (rd (tx X) W (fExt fo fa)) := by
  refine pe_imp (pe_bm PySem.F.plainAttrs_list PySem.F.slot_list_extend PySem.F.type_list_extend mt_extend ho ha hbase hfew hline hs hplain) ?_
  rintro σ H Q ⟨w, l, rfl, ok, re, h⟩
  refine go_e ok re h fun d w1 v e1 ok1 re1 r1 h1 => ?_
  split at h1
  · exact h1.elim
  · rename_i xs0 hx0
    refine ⟨tyV_lst ok1 r1 hx0, ?_⟩
    refine go_a ok1 re1 h1 fun ds w2 vs e2 ok2 re2 r2 h2 => ?_
    split at h2
    · split at h2
      · split at h2
        · rename_i n y _ _ xs ys hm hy hl
          have r1' := r1.ex ok1 e2.toEx0
          simp only [RelD] at r1'
          obtain ⟨p, rfl, hb⟩ := r1'
          replace r2 := r2.one
          obtain ⟨u, rfl, r2⟩ := r2
          obtain ⟨us, hv, rvs⟩ := ok2.obj _ _ _ hm hb
          obtain ⟨q, zs, rfl, hz, rzs⟩ := derefL_ok ok2 r2 hy
          obtain ⟨x4, ok4⟩ := put_lst ok2 hb hm (rvs.append rzs)
          exact ⟨p, q, us, zs, rfl, rfl, hv, hz, by rw [sizeLine_eq, rvs.length, rzs.length]; exact hl, h2 _ _ x4 ok4 rfl (by simp only [RelD])⟩
        · exact h2.elim
      · exact h2.elim
    · exact h2.elim
@[reducible] def strsD : List D → Option (List Str)
  | [] => some []
  | .str i :: ds => (strsD ds).map (i :: ·)
  | _ => none
theorem strsD_val {w : Wo} : ∀ {ds : List D} {vs : List V} {ns : List Str}, RelDs T w ds vs → strsD ds = some ns → vs = ns.map V.str
  | [], vs, ns, r, h => by simp only [RelDs] at r; cases h; exact r
  | d :: ds, vs, ns, r, h => by
    simp only [RelDs] at r
    obtain ⟨v, l, rfl, h1, h2⟩ := r
    cases d <;> simp only [strsD, reduceCtorEq] at h
    rw [Option.map_eq_some_iff] at h
    obtain ⟨ms, e, rfl⟩ := h
    simp only [RelD] at h1
    rw [h1, strsD_val h2 e]; rfl
@[reducible] def fJoin (fo f : FE) : FE := fun r m => (fo r m).bind fun o m => match o with
  | .str x => (f r m).bind fun d m => match derefS d m with
    | some xs => match strsD xs with
      | some ys => if (ys.map (·.length)).sum + ys.length * x.length ≤ 16777216 then .ok (.str (Txt.join x ys)) m else .stk
      | none => .stk
    | none => .stk
  | _ => .stk
theorem v_join {apos : Pos} {fo : FE} (ho : PE X o (rd (tx X) W fo)) (he : PE X e (rd (tx X) W f))
    (hs : starEach [e] X.env = [(false, eval e X.env)] := by rfl) (hbase : attributeBase o "join" X.env (eval o X.env) = eval o X.env := by rfl) (hline : (apos.endLine == pos.line) = true := by rfl) :
    PE X (.Call (.Attribute o "join" apos) [e] [] pos) (rd (tx X) W (fJoin fo f)) := by
  refine pe_imp (pe_m1 PySem.F.slot_str_join PySem.F.type_str_join mt_join ho he hs hbase hline) ?_
  rintro σ H Q ⟨w, l, rfl, ok, re, h⟩
  refine go_e ok re h fun d w1 v e1 ok1 re1 r1 h1 => ?_
  split at h1
  · rename_i x
    simp only [RelD] at r1; subst r1
    refine ⟨⟨x, rfl⟩, ?_⟩
    refine go_e ok1 re1 h1 fun d2 w2 v2 e2 ok2 re2 r2 h2 => ?_
    split at h2
    · rename_i xs hx
      split at h2
      · rename_i ys hy
        split at h2
        · rename_i hl
          obtain ⟨q, zs, rfl, hz, rzs⟩ := derefS_ok ok2 r2 hx
          have := strsD_val rzs hy; subst this
          exact ⟨x, q, ys, rfl, rfl, hz, hl, h2.now ok2 (by simp only [RelD])⟩
        · exact h2.elim
      · exact h2.elim
    · exact h2.elim
  · exact h1.elim

/-! ### f-strings of texts -/
@[reducible] def gFmt : D → List O → Rs D := fun d m => match d with
  | .str x => if x.length ≤ 16777216 then .ok (.str x) m else .stk
  | _ => .stk
theorem v_fmt (he : PE X e (rd (tx X) W f)) : PE X (.FormattedValue e (-1) none pos) (rd (tx X) W (fUn gFmt f)) := by
  refine pe_imp (pe_fmt he) ?_
  rintro σ H Q ⟨w, l, rfl, ok, re, h⟩
  refine go_e ok re h fun d w1 v e1 ok1 re1 r1 h1 => ?_
  unfold gFmt at h1
  split at h1
  · split at h1
    · rename_i x hl
      simp only [RelD] at r1; subst r1
      exact .inl ⟨x, rfl, by rw [sizeLine_eq]; exact hl, h1.now ok1 (by simp only [RelD])⟩
    · exact h1.elim
  · exact h1.elim
@[reducible] def jsL : List FE → Str → Lc → List O → Rs Str
  | [], acc, _, m => .ok acc m
  | f :: fs, acc, r, m => (f r m).bind fun d m => match d with
    | .str y => if (acc ++ y).length ≤ 16777216 then jsL fs (acc ++ y) r m else .stk
    | _ => .stk
@[reducible] def fJs (fs : List FE) : FE := fun r m => (jsL fs Str.empty r m).bind fun x m => .ok (.str x) m
theorem js_sem : ∀ {fs : List FE} {acc : Str} {s : St} {w : Wo} {r : Lc} {Q : Str → Hp → Prop} {k : Str → List O → Rs D} {Q' : VK}, Ok T w → RelE T w r s →
    Post T (RelD T) (wx T W s) w ((jsL fs acc r w.mu).bind k) Q' → (∀ x w1, Ex w w1 → Ok T w1 → Post T (RelD T) (wx T W s) w1 (k x w1.mu) Q' → Q x w1.H) → tJs (fs.map (rd T W)) acc s w.H Q
  | [], acc, s, w, r, Q, k, Q', ok, re, h, hk => hk acc w .rfl' ok h
  | f :: fs, acc, s, w, r, Q, k, Q', ok, re, h, hk => by
    show rd T W f s w.H _
    simp only [jsL] at h
    have h' : Post T (RelD T) (wx T W s) w ((f r w.mu).bind fun d m => (match d with
      | .str y => if (acc ++ y).length ≤ 16777216 then jsL fs (acc ++ y) r m else .stk
      | _ => .stk : Rs Str).bind k) Q' := by
      cases e : f r w.mu with
      | ok d m => rw [e] at h; exact h
      | ex c m => rw [e] at h; exact h
      | stk => rw [e] at h; exact h
    refine go_e ok re h' fun d w1 v e1 ok1 re1 r1 h1 => ?_
    split at h1
    · rename_i y
      simp only [RelD] at r1; subst r1
      split at h1
      · rename_i hl
        exact ⟨y, rfl, by rw [sizeLine_eq]; exact hl, js_sem (fs := fs) ok1 re1 h1 fun x w2 x2 ok2 h2 => hk x w2 (e1.trans x2) ok2 h2⟩
      · exact h1.elim
    · exact h1.elim
theorem v_js {v1 v2 : Expr} {fs : List FE} (h : PJ X (v1 :: v2 :: rest) (fs.map (rd (tx X) W))) : PE X (.JoinedStr (v1 :: v2 :: rest) pos) (rd (tx X) W (fJs fs)) := by
  refine pe_imp (pe_joined h) ?_
  rintro σ H Q ⟨w, l, rfl, ok, re, h⟩
  exact js_sem ok re h fun x w1 x1 ok1 h1 => h1.now ok1 (by simp only [RelD])
theorem j_nil : PJ X [] (([] : List FE).map (rd (tx X) W)) := .nil
theorem j_cons {fs : List FE} (h : PE X e (rd (tx X) W f)) (r : PJ X es (fs.map (rd (tx X) W))) : PJ X (e :: es) ((f :: fs).map (rd (tx X) W)) := .cons h r

/-! ### calls of the program's own functions -/
def spF (T : Tx) (n : Nat) (o : List D → List O → Rs D) : Sp := fun vs H Q E => ∃ (w : Wo) (ds : List D), w.H = H ∧ Ok T w ∧ RelDs T w ds vs ∧ ds.length = n ∧ Post T (RelD T) (fun c w' => ∀ cv, ExV T c cv → E cv none w'.H) w (o ds w.mu) Q
/-- a function of the program stands under the name x: it gives what o gives -/
structure FnG (P : Program) (w : World) (T : Tx) (base : Heap) (x : Str) (k n : Nat) (o : List D → List O → Rs D) : Prop where
  ex : ∃ (f : Addr) (fd : FuncData) (ps : List Str), FnOk P w T.K T.mg base (L2.CX P w) k f fd ps (spF T n o) ∧ T.mg x = some (.ref f) ∧ PySem.W.keepIn T.K (.ref f) = true ∧ Binds T.K fd ps []
theorem FnG.mono {P : Program} {w : World} {base : Heap} {x : Str} {k k' n : Nat} {o : List D → List O → Rs D} (F : FnG P w T base x k n o) (h : k ≤ k') : FnG P w T base x k' n o := by
  obtain ⟨f, fd, ps, h1, h2⟩ := F.ex
  exact ⟨f, fd, ps, h1.mono h, h2⟩
/-- another word for what it gives -/
theorem FnG.imp {P : Program} {w : World} {base : Heap} {x : Str} {k n : Nat} {o o' : List D → List O → Rs D} (F : FnG P w T base x k n o) (h : ∀ ds m, ds.length = n → o' ds m = .stk ∨ o' ds m = o ds m) : FnG P w T base x k n o' := by
  obtain ⟨f, fd, ps, h1, h2⟩ := F.ex
  refine ⟨f, fd, ps, h1.imp fun vs H Q E ⟨w, ds, e, ok, r, hl, q⟩ => ⟨w, ds, e, ok, r, hl, ?_⟩, h2⟩
  rcases h ds w.mu hl with z | z
  · rw [z] at q; exact q.elim
  · rw [← z]; exact q
theorem v_call {x : Str} {p : Pos} {n : Nat} {oo : List D → List O → Rs D} (F : FnG X.prog X.w (tx X) X.base x k n oo) (hr : Room k X.A) (tk : Takes X W) (ha : PA X (e :: es) (rdA (tx X) W fa)) (hn : ∀ r m, ∀ ds m', fa r m = .ok ds m' → ds.length = n) (hg : Gl X x := by rfl)
    (hdb : (x == ("__debug__" : Str)) = false := by decide) (he : starEach (e :: es) X.env = (false, eval e X.env) :: starEach es X.env := by rfl) (hpl : (backTo pos (starEach es X.env)).any (·.1) = false := by rfl) :
    PE X (.Call (.Name x p) (e :: es) [] pos) (rd (tx X) W (fCB oo fa)) := by
  obtain ⟨f, fd, ps, hF, hm, hk, hb⟩ := F.ex
  refine pe_imp (pe_callS hF hr hg hm hk hb (E := fun σ => WE W σ) (fun σ => passAt tk σ) ha hdb he hpl) ?_
  rintro σ H Q ⟨w, l, rfl, ok, re, h⟩
  refine ⟨w, l, rfl, ok, re, ?_⟩
  cases e1 : fa l w.mu with
  | stk => rw [fCB, e1] at h; exact h
  | ex c mm => rw [fCB, e1] at h; exact h
  | ok ds mm =>
    rw [fCB, e1] at h
    intro w1 vs x1 ok1 hm1 r1
    subst hm1
    exact ⟨w1, ds, rfl, ok1, r1, hn _ _ _ _ e1, Post.ex h x1⟩
/-- a function's body -/
@[reducible] def runF (n : Nat) (body : FS) : List D → List O → Rs D := fun ds m => match body (ds.map some ++ List.replicate (n - ds.length) none) m with
  | .ok (.nx _) m => .ok .non m
  | .ok (.rt d) m => .ok d m
  | .ok _ _ => .stk
  | .ex c _ m => .ex c m
  | .stk => .stk
theorem RelE_start {w : Wo} {N : List Str} {ds : List D} {vs : List V} (r : RelDs T w ds vs) : RelE T w (ds.map some ++ List.replicate (N.length - ds.length) none) (L2.start N vs) := by
  unfold L2.start
  rw [r.length]
  refine ⟨by simp [r.length], fun i d h => ?_⟩
  by_cases hi : i < ds.length
  · rw [List.getElem?_append_left (by simpa using hi), List.getElem?_map] at h
    cases e : ds[i]? with
    | none => rw [e] at h; cases h
    | some d' =>
      rw [e] at h; cases h
      obtain ⟨v, hv, q⟩ := r.get e
      exact ⟨v, by rw [List.getElem?_append_left (by simp [r.length, hi]), List.getElem?_map, hv]; rfl, q⟩
  · rw [List.getElem?_append_right (by simpa using hi), List.getElem?_replicate] at h
    split at h <;> cases h
abbrev WF (E : XK) : WX := fun cls d _ H => E cls d H
theorem run_sem {n : Nat} {N : List Str} {body : FS} {vs : List V} {H : Hp} {Q : VK} {E : XK} (hN : N.length = n) {kk : Nat} (h : spF T kk (runF n body) vs H Q E) :
    rdS T (WF E) body { nx := fun _ H' => Q .non H', rt := Q } (start N vs) H := by
  obtain ⟨w, ds, rfl, ok, r, hl, q⟩ := h
  refine ⟨w, ds.map some ++ List.replicate (N.length - ds.length) none, rfl, ok, RelE_start r, ?_⟩
  unfold runF at q
  rw [hN]
  cases e : body (ds.map some ++ List.replicate (n - ds.length) none) w.mu with
  | stk => rw [e] at q; exact q
  | ex c r' mm => rw [e] at q; exact fun w' s' x ok' hm _ => q w' x ok' hm
  | ok fl mm =>
    rw [e] at q
    cases fl with
    | nx r' => exact fun w' s' x ok' hm _ => q w' .non x ok' hm (by simp only [RelD])
    | rt d => exact q
    | bk r' => exact q.elim
    | ct r' => exact q.elim
/-- the context of a function's body -/
abbrev cxF (P : Program) (w : World) (T : Tx) (base : Heap) (N : List Str) (qual : Str) (sc : Scope) (f : Addr) (cdv : Value) (A : Around) (outer : List Env) (s : Shared) (H : Hp) (E : XK) : Cx :=
  cxOf (L2.CX P w) P w T.K T.mg base N qual sc f cdv A outer s H E
theorem fn_rule {P : Program} {w : World} {base : Heap} {x qual : Str} {st : Stmt} {f : Addr} {fd : FuncData} {N ps : List Str} {body : FS} (F : L2.Fun T.K x qual st f fd) (S : FnScope N ps (defScope st))
    (hb : ∀ (cdv : Value) (A : Around) (outer : List Env) (s : Shared) (H : Hp) (E : XK), Room k (A.deeper (PyProof.Rows.envOfC qual (defScope st) s.heap.objs.size f cdv)) →
      PSs (cxF P w T base N qual (defScope st) f cdv A outer s H E) (defBody st) (rdS T (WF E) body)) :
    FnOk P w T.K T.mg base (L2.CX P w) (k + 1) f fd ps (spF T ps.length (runF N.length body)) :=
  F.okX S (fun vs H Q E ⟨w, ds, _, _, r, hl, _⟩ => by rw [r.length]; exact hl) fun cdv A outer s H vs Q E hr h => ⟨_, hb cdv A outer s H E hr, run_sem rfl h⟩
theorem fn_zero {P : Program} {w : World} {base : Heap} {f : Addr} {fd : FuncData} {ps : List Str} {n : Nat} : FnOk P w T.K T.mg base (L2.CX P w) k f fd ps (spF T n fun _ _ => .stk) :=
  ⟨fun vs H Q E ⟨w, ds, _, _, _, _, q⟩ => q.elim, fun A outer s H args us vs Q E hr e0 hb r ⟨w, ds, _, _, _, _, q⟩ => q.elim⟩

/-! ### raise -/
@[reducible] def sRaise (c : Str) : FS := fun r m => .ex c r m
/-- an exception's class over ValueError, without a maker of its own -/
structure ExOk (T : Tx) (x : Str) (C : Addr) : Prop where
  gC : T.mg x = some (.ref C)
  ex : PySem.W.excIn T.K C [.type "ValueError", .type "Exception", .type "BaseException", .type "object"] "ValueError.__new__" = true
  kC : PySem.W.keepIn T.K (.ref C) = true
  sB : PySem.W.subIn T.K (.ref C) (.type "BaseException") = some true
  tC : PySem.W.typeIn T.K (.ref C) = some (.type "type")
theorem s_raise {x mm : Str} {j : Nat} {p p2 p3 : Pos} {C : Addr} (hc : X.calm = true) (tk : Takes X W) (E : ExOk (tx X) x C) (hg : Gl X x := by rfl) (hdb : (x == ("__debug__" : Str)) = false := by decide) :
    PS X (.Raise (some (.Call (.Name x p) [.Constant (.str mm) j p2] [] p3)) none pos) (rdS (tx X) W (sRaise x)) := by
  refine ps_imp (ps_raise hc tk (pmk_own PySem.F.excBase_ValueError E.ex E.gC E.kC (raises_own E.sB E.tC) hg hdb)) ?_
  rintro En s H ⟨w, r, rfl, ok, re, h⟩
  exact h w s .rfl' ok rfl re _ E.gC

end FR
set_option Elab.async false
set_option linter.all false
set_option maxRecDepth 100000
set_option maxHeartbeats 4000000
/-! ## len of a set comprehension of texts; attributes; making; try -/
namespace FR
open PySem PySem.Spec L2
set_option autoImplicit false

/-! ### the set comprehension -/
section
variable {X : Cx}
/-- one turn of a set comprehension over keys -/
abbrev KcTurn (P : Program) (w : World) (J : It) (g : TG) (tt : TT) (te : TE) (vs : List Nat) (s : L2.St) (a : Addr) (Done : Hp → Prop) (V : Nat → Nat → Hp → Prop) (i m : Nat) (H : Hp) : Prop :=
  (J.stop i H ∧ Done H) ∨ (J.go i H ∧ ∃ Next : Hp → Prop, (∀ H', Next H' → ∃ m', m' < m ∧ V (i + 1) m' H') ∧ ∀ x H', J.yld i H x H' → g x (L2.wipe s vs) H' fun s2 H2 => L2.wipe s2 vs = L2.wipe s vs ∧ tt s2 H2 fun z H3 =>
    if z = true then te s2 H3 fun y H4 => ∃ (c : Key) (S : Key → Bool) (n : Nat), y = kV c ∧ H4 a = some (SetK P w a S n) ∧ n + 1 < scanBound ∧ Next (upd H4 a (SetK P w a (fun j => S j || decide (j = c)) (if S c = true then n else n + 1))) else Next H3)
def tKc (P : Program) (w : World) (wi : TI) (g : TG) (tt : TT) (te : TE) (vs : List Nat) : TE := fun s H Q => wi s H fun J H1 => ∀ a, H1 a = none →
  ∃ V : Nat → Nat → Hp → Prop, (∃ m, V 0 m (upd H1 a (SetK P w a (fun _ => false) 0))) ∧ ∀ i m H, V i m H → KcTurn P w J g tt te vs s a (fun H => Q (.ref a) H) V i m H
theorem pe_kc {elt tg iter : Expr} {ifs : List Expr} {scope : Scope} {own : List (PySem.Str × Nat)} {pos : Pos} {wi : TI} {g : TG} {tt : TT} {te : TE} (calm : X.calm = true) (nodup : X.N.Nodup) (walks : PI X tg iter wi) (blk : BlkOk X.N X.env.scope scope own)
    (target : ∀ s H C cl fp, PG (X.blk s H scope (compEnvC scope cl C X.env) fp) tg g) (tests : ∀ s H C cl fp, PTs (X.blk s H scope (compEnvC scope cl C X.env) fp) ifs tt)
    (elem : ∀ s H C cl fp, PE (X.blk s H scope (compEnvC scope cl C X.env) fp) elt te) (plain : ∀ x, foldedSetIterable iter X.env x = pure x := by intro _; rfl) :
    PE X (.SetComp elt [⟨tg, iter, ifs, 0⟩] scope pos) (tKc X.prog X.w wi g tt te (own.map (·.2))) := by
  refine ⟨fun pins s0 sg H0 Q I0 h0 => ?_⟩
  rw [PpSet.eval_SetComp]
  have bound : ∀ y ∈ scope.names, y.2 = .free → ∃ c, X.env.cells.lookup y.1 = some c := fun y hy hf =>
    (blk.free y hy hf).elim (fun k => I0.ok.has _ (.inl k)) fun k => I0.ok.has _ (.inr k)
  refine wpAny_comprehension_free (use := none) rfl plain (closure_ok bound) blk.kind (fun y hy hf => by rw [blk.uniq y hy, hf]) (thn (walks.run pins s0 sg H0 _ I0 h0) fun _ _ h1 => thn h1 fun itv sa ha => ?_)
  obtain ⟨it, fp, tn, J, Ha, rfl, Ia, Tn, sta, fpa, q⟩ := ha
  refine PpSet.newSet_ok (newEnv_comp ?_)
  obtain ⟨a, ea⟩ : ∃ a, sa.heap.objs.size = a := ⟨_, rfl⟩
  rw [ea]
  have fresh : Ha a = none := Ia.hok.fresh (Nat.le_of_eq ea)
  obtain ⟨V, ⟨m0, v0⟩, turn⟩ := q a fresh
  obtain ⟨sb, esb⟩ : ∃ sb : Shared, sb = { sa with heap := sa.heap.push { cls := .type "set", dict := none, data := .set #[] 0 (.fresh 0 0 (!X.w.params.followText "set-order")) } } := ⟨_, rfl⟩
  rw [← esb]
  have hsb : sb.heap = sa.heap.push { cls := .type "set", dict := none, data := .set #[] 0 (.fresh 0 0 (!X.w.params.followText "set-order")) } := by rw [esb]
  have Ib : Inv X pins sg (upd Ha a (SetK X.prog X.w a (fun _ => false) 0)) sb := by
    have r : sb.heap.SetOf (mixKind X.prog X.w) a (fun _ => false) 0 := by
      rw [hsb, ← ea]
      exact ⟨_, #[], 0, _, Heap.get?_push_size _ rfl, ⟨rfl, rfl, rfl⟩, rfl, fun _ z => by simp at z, fun _ => by simp, by decide, by rfl, rfl⟩
    have k := Ia.laid (h' := sb.heap) (t' := sa.toks) (fun b o e => by rw [hsb]; exact Heap.get?_push_of_some _ e) (Nat.le_of_eq ea) (setK_new r)
    rw [esb] at k ⊢
    exact k
  obtain ⟨Hb, eHb⟩ : ∃ Hb, Hb = upd Ha a (SetK X.prog X.w a (fun _ => false) 0) := ⟨_, rfl⟩
  rw [← eHb] at Ib v0
  have young : ∀ b ∈ fp, b < sa.heap.objs.size := fun b hb => let ⟨_, e, _⟩ := Tn.obj _ _ sta b hb; Heap.lt_size e
  have fpb : ∀ b ∈ fp, FpOk X pins Hb b ∧ b < sb.heap.objs.size := fun b hb => by
    have lt := young b hb
    exact ⟨⟨by rw [eHb, upd_ne (by rw [← ea]; exact Nat.ne_of_lt lt)]; exact (fpa b hb).1, (fpa b hb).2⟩, by rw [hsb, Heap.size_push]; exact Nat.lt_succ_of_lt lt⟩
  have stb : tn 0 sb.heap := Tn.keep _ _ _ sta fun b _ o e => by rw [hsb]; exact Heap.get?_push_of_some _ e
  have Ic := block_start Ib blk nodup fpb
  obtain ⟨L, eL⟩ : ∃ L, sb.heap.objs.size = L := ⟨_, rfl⟩
  obtain ⟨cl, ecl⟩ : ∃ cl, cellsFrom (sb.heap.objs.size + 1) scope.names (cloFrom X.env.cells scope.names []) = cl := ⟨_, rfl⟩
  have tg1 := target sb Hb sb.heap.objs.size cl fp
  have tt1 := tests sb Hb sb.heap.objs.size cl fp
  have te1 := elem sb Hb sb.heap.objs.size cl fp
  show codeAny _ _ (.compStart (.SetComp elt [⟨tg, iter, ifs, 0⟩] scope pos) 0 (.ref it) (.ref a) (compEnvC scope (cellsFrom (sb.heap.objs.size + 1) scope.names (cloFrom X.env.cells scope.names [])) sb.heap.objs.size X.env)) (compPost (model X.prog X.w) X.A X.xe none (EP X pins sg Q) (.ref a) sb.heap.objs.size) { sb with heap := pushCells (sb.heap.push { cls := .type "dict", data := .dict #[] }) scope.names }
  rw [ecl] at Ic ⊢
  obtain ⟨ce, ece⟩ : ∃ ce, compEnvC scope cl sb.heap.objs.size X.env = ce := ⟨_, rfl⟩
  have lce : ce.locals = sb.heap.objs.size := by rw [← ece]; rfl
  rw [ece] at Ic tg1 tt1 te1 ⊢
  obtain ⟨sc, esc⟩ : ∃ sc : Shared, sc = { sb with heap := pushCells (sb.heap.push { cls := .type "dict", data := .dict #[] }) scope.names } := ⟨_, rfl⟩
  rw [← esc] at Ic ⊢
  have stc : tn 0 sc.heap := Tn.keep _ _ _ stb fun b _ o e => by rw [esc]; exact pushCells_keeps _ _ _ _ (Heap.get?_push_of_some _ e)
  have own_fp : ∀ {s1 : L2.St} {H1 : Hp} {z : Shared}, Inv (X.blk sb Hb scope ce fp) [] s1 H1 z → (∀ b ∈ fp, H1 b = none) → ∀ b ∈ fp, FpOk (X.blk sb Hb scope ce fp) [] H1 b := fun {s1 H1 z} J1 hn b hb =>
    ⟨hn b hb, (J1.ok.exf b hb).1, J1.ok.exfs b hb, .inl hb, fun x c e => (J1.ok.exf b hb).2 x c e, fun p hp => absurd (show p ∈ ([] : List (Addr × Obj)) ++ [] from hp) (by simp)⟩
  have all : codeAny (model X.prog X.w) X.A (.compLoop (.SetComp elt [⟨tg, iter, ifs, 0⟩] scope pos) 0 (.ref it) (.ref a) ce) (compPost (model X.prog X.w) X.A X.xe none (EP X pins sg Q) (.ref a) sb.heap.objs.size) sc := by
    refine PpSet.compLoopS_any (fun n z => ∃ i H1, Inv (X.blk sb Hb scope ce fp) [] (L2.wipe sg (own.map (·.2))) H1 z ∧ tn i z.heap ∧ (∀ b ∈ fp, H1 b = none) ∧ V i n H1) (fun n z hz => ?_) m0 ⟨0, Hb, Ic, stc, fun b hb => (fpb b hb).1.1, v0⟩
    obtain ⟨i, H1, I1, st1, n1, w1⟩ := hz
    rcases turn i n H1 w1 with ⟨stop, done⟩ | ⟨go, Next, hNext, step⟩
    · refine thnF (Tn.done (X.blk sb Hb scope ce fp) rfl rfl rfl calm i [] z _ H1 (fun _ _ => False) I1 (own_fp I1 n1) st1 stop) fun r z2 hr => ?_
      obtain ⟨rfl, I2⟩ := hr
      have I3 : Inv X pins sg H1 z2 := Ib.call' (ch := fp) I2.os I2.base I2.hok I2.bare fun b hb => let k := (fpb b hb).1; ⟨k.2.2.2.1, k.2.1, k.2.2.2.2.1, k.2.2.2.2.2⟩
      have free : H1 sb.heap.objs.size = none := by have k : H1 ce.locals = none := I2.free; rw [lce] at k; exact k
      obtain ⟨mm, hns, _⟩ := I2.loc
      have hns : z2.heap.Ns ce.locals mm := hns
      rw [lce] at hns
      obtain ⟨f0, f1, f2, f3, f4, f5⟩ := Ib.fpOk (Nat.le_refl _) free
      exact ⟨mm, hns, fun h'' sm => ⟨.ref a, H1, I3.turned (t' := z2.toks) (fun b o hb e => (sm.2 b hb).trans e) f0 f1 f3 f4 f5, rfl, done⟩⟩
    · refine thnF (Tn.item (X.blk sb Hb scope ce fp) rfl rfl rfl calm i [] z _ H1 (fun _ _ => False) I1 (own_fp I1 n1) st1 go) fun r z2 hr => ?_
      obtain ⟨u, rfl, h2⟩ := hr
      refine thnF h2 fun _ z3 ⟨x, H3, I3, r3, y3, st3, n3⟩ => ?_
      have I4 := I3.pinned (own_fp I3 n3) (Tn.obj _ _ st3)
      refine thnF (tg1.run _ z3 _ H3 x u _ I4 r3 (step x H3 y3)) fun _ z5 ⟨s5, H5, I5, hw5, q5⟩ => ?_
      refine thnF (tt1.run _ z5 s5 H5 _ I5 q5) fun zb z6 ⟨H6, I6, q6⟩ => ?_
      have close : ∀ {z' : Shared} {H' : Hp}, Inv (X.blk sb Hb scope ce fp) ([] ++ pinsAt fp z3.heap) s5 H' z' → Next H' → ∃ m, m < n ∧ ∃ i H1, Inv (X.blk sb Hb scope ce fp) [] (L2.wipe sg (own.map (·.2))) H1 z' ∧ tn i z'.heap ∧ (∀ b ∈ fp, H1 b = none) ∧ V i m H1 := fun {z' H'} I' nx => by
        obtain ⟨m', lt, w'⟩ := hNext H' nx
        have pinned : ∀ b ∈ fp, ∀ o, z3.heap.get? b = some o → z'.heap.get? b = some o ∧ H' b = none := fun b hb o e => let k := I'.pin (b, o) (List.mem_append_right _ (List.mem_append_right _ (mem_pinsAt hb e))); ⟨k.1, k.2.1⟩
        refine ⟨m', lt, i + 1, H', I'.unpinned (pins := []) |>.weak (by rw [← hw5, L2.wipe_length]) fun j v e => ?_, Tn.keep _ _ _ st3 fun b hb o e => (pinned b hb o e).1, fun b hb => ?_, w'⟩
        · rw [← hw5] at e
          exact (wipe_some e).1
        · obtain ⟨o, e, _⟩ := Tn.obj _ _ st3 b hb
          exact (pinned b hb o e).2
      cases zb with
      | false =>
        simp only [Bool.false_eq_true, if_false] at q6 ⊢
        exact close I6 q6
      | true =>
        simp only [if_true] at q6 ⊢
        refine thnF (te1.run _ z6 s5 H6 _ I6 q6) fun uv z7 ⟨yv, H7, I7, r7, c, S, nn, ey, ha7, room, nx⟩ => ?_
        have add := mt_saddK (X := X.blk sb Hb scope ce fp) _ z7 s5 H7 (.ref a) [yv] (.ref a) [uv] (fun v H' => Next H') I7 rfl (.cons r7 .nil) ⟨a, c, S, nn, rfl, by rw [ey], ha7, room, nx⟩
        exact thnF add fun _ z8 ⟨_, H8, I8, _, q8⟩ => close I8 q8
  exact PpSet.codeAny_compStart_set all (Tn.self X.A 0 _ _ _ stc all)
/-- len of it -/
theorem call_lenK : CallR X (.builtin "len") (fun xs H Q => ∃ a S n, xs = [.ref a] ∧ H a = some (SetK X.prog X.w a S n) ∧ Q (.int (n : Nat)) H) := by
  intro pins s sg H xs us Q I r h
  obtain ⟨a, S, n, rfl, ha, q⟩ := h
  obtain ⟨u, rfl, rfl⟩ := vals1 r
  obtain ⟨o, es, ep, t, ho, hx, hd, _, _, hz, hf, hn⟩ := setK_get I ha
  exact call_len_set ho hx hd hf (by have : (scanBound : Nat) = 4096 := rfl; omega) ⟨.int (n : Nat), H, I.tok _, ⟨_, by rw [hn]⟩, q⟩
end

variable {X : Cx} {T : Tx} {W : WX} {f g h : FE} {fa : FA} {ft gt : FT} {a b c e o tg iter : Expr} {es rest : List Expr} {pos : Pos} {k : Nat} {st0 : Stmt} {sts : List Stmt} {m m' : FS}
/-- how many there are, each once -/
@[reducible] def setN : List Str → List Str → Nat
  | [], seen => seen.length
  | x :: xs, seen => if x ∈ seen then setN xs seen else setN xs (x :: seen)
@[reducible] def fLenSet (vs : List Nat) (p : Pt) (fi : FI) (t : FT) (f : FE) : FE := fun r m => (fi r m).bind fun ds m => if ds.length ≤ 4000 then (compL p t f (wipeL r vs) ds m).bind fun ys m => match strsD ys with
  | some xs => .ok (.int (setN xs [] : Nat)) m
  | none => .stk
  else .stk
theorem strsD_cons {d : D} {ds : List D} {ys : List Str} (h : strsD (d :: ds) = some ys) : ∃ x xs, d = .str x ∧ strsD ds = some xs ∧ ys = x :: xs := by
  cases d <;> simp only [strsD, reduceCtorEq] at h
  rw [Option.map_eq_some_iff] at h
  obtain ⟨ms, e, rfl⟩ := h
  exact ⟨_, ms, rfl, e, rfl⟩
theorem sc_sem {P : Program} {w' : World} {vs : List Nat} {p : Pt} {fi : FI} (hp : ∀ i ∈ p.slots, i ∈ vs) : ∀ s H Q, rd T W (fLenSet vs p fi ft f) s H Q →
    tKc P w' (rdI T W fi) (gOf T.K p) (rdT T W0 ft) (rd T W0 f) vs s H fun x H1 => ∃ a S n, [x] = [V.ref a] ∧ H1 a = some (SetK P w' a S n) ∧ Q (.int (n : Nat)) H1 := by
  rintro sg H Q ⟨w, l, rfl, ok, re, h⟩
  refine ⟨w, l, rfl, ok, re, ?_⟩
  cases e1 : fi l w.mu with
  | stk => rw [fLenSet, e1] at h; exact h
  | ex c m => rw [fLenSet, e1] at h; exact h
  | ok ds m =>
  rw [fLenSet, e1] at h
  simp only [Rs.bind] at h
  split at h
  case isFalse => exact h.elim
  rename_i hlen
  intro w1 J ex1 ok1 hm it A0 hD
  subst hm
  have re1 := re.ex ok ex1.toEx0
  have hx : Ex0 w1 (w1.hide A0 (SetK P w' A0 (fun _ => false) 0)) := hide_ex ok1 hD
  have hok : Ok T (w1.hide A0 (SetK P w' A0 (fun _ => false) 0)) := hide_ok ok1 hD trivial
  -- what is kept behind i turns: the seen texts
  let Inv_ : Nat → Hp → Prop := fun i H' => ∃ (w2 : Wo) (seen : List Str) (S : Key → Bool), w2.H = H' ∧ Ok T w2 ∧ Ex0 w1 w2 ∧ w2.hid = (fun a => a = A0 ∨ w1.hid a) ∧ (∀ a, w1.hid a → w2.H a = w1.H a) ∧
    w2.H A0 = some (SetK P w' A0 S seen.length) ∧ (∀ x : Str, S (.inr x) = decide (x ∈ seen)) ∧ seen.length ≤ i ∧
    Post T (RelD T) (wx T W sg) w ((compL p ft f (wipeL l vs) (ds.drop i) w2.mu).bind fun ys m => match strsD ys with
      | some xs => .ok (.int (setN xs seen : Nat)) m
      | none => .stk) Q
  refine ⟨fun i m H' => m = ds.length - i ∧ i ≤ ds.length ∧ Inv_ i H', ⟨ds.length, by simp, Nat.zero_le _, w1.hide A0 (SetK P w' A0 (fun _ => false) 0), [], fun _ => false, rfl, hok, hx, rfl, fun a ha => upd_ne (hid_ne ok1 hD ha), upd_same, fun x => by simp, Nat.le_refl _, ?_⟩, ?_⟩
  · simp only [List.drop_zero]; exact h
  rintro i m H' ⟨rfl, hi, w2, seen, S, rfl, ok2, x2, hid2, hk2, hD2, hS, hseen, hpost⟩
  obtain ⟨go_, stop_⟩ := it w2 x2 ok2
  have re2 := re1.ex ok1 x2
  by_cases hlt : i < ds.length
  · right
    obtain ⟨d, hd⟩ : ∃ d, ds[i]? = some d := ⟨ds[i], by simp [hlt]⟩
    obtain ⟨hgo, hy⟩ := go_ i d hd
    have hdrop : ds.drop i = d :: ds.drop (i + 1) := by
      rw [List.drop_eq_getElem_cons hlt]
      have : ds[i] = d := by rw [List.getElem?_eq_getElem hlt] at hd; exact Option.some.inj hd
      rw [this]
    refine ⟨hgo, Inv_ (i + 1), fun H' q => ⟨ds.length - (i + 1), by omega, rfl, hlt, q⟩, fun x H' hyl => ?_⟩
    obtain ⟨wb, xb, okb, hmu, rfl, rx⟩ := hy x H' hyl
    have x2b : Ex0 w1 wb := x2.trans xb.toEx0
    have hid2b : wb.hid = (fun a => a = A0 ∨ w1.hid a) := xb.hidE.trans hid2
    have hk2b : ∀ a, w1.hid a → wb.H a = w1.H a := fun a ha => (xb.hidK a (by rw [hid2]; exact .inr ha)).trans (hk2 a ha)
    have hD2b : wb.H A0 = some (SetK P w' A0 S seen.length) := (xb.hidK A0 (by rw [hid2]; exact .inl rfl)).trans hD2
    have re2b := re2.ex ok2 xb.toEx0
    rw [← hmu] at hpost
    rw [hdrop] at hpost
    simp only [compL] at hpost
    cases ea : asg p d (wipeL l vs) with
    | none => rw [ea] at hpost; exact hpost.elim
    | some r1 =>
    rw [ea] at hpost
    simp only at hpost
    obtain ⟨s', re', hw, hg⟩ := gOf_ok okb (re2b.wipes vs) rx ea
    refine hg _ ⟨by rw [hw vs hp, wipe_wipe], ?_⟩
    refine ⟨wb, r1, rfl, okb, re', ?_⟩
    cases et : ft r1 wb.mu with
    | stk => rw [et] at hpost; exact hpost.elim
    | ex c m3 => rw [et] at hpost; exact hpost.elim
    | ok z m3 =>
    rw [et] at hpost
    intro w3 z' e3 ok3 hm3 hz
    subst hz
    subst hm3
    have x3 : Ex0 w1 w3 := x2b.trans e3.toEx0
    have hid3 : w3.hid = fun a => a = A0 ∨ w1.hid a := e3.hidE.trans hid2b
    have hk3 : ∀ a, w1.hid a → w3.H a = w1.H a := fun a ha => (e3.hidK a (by rw [hid2b]; exact .inr ha)).trans (hk2b a ha)
    have hD3 : w3.H A0 = some (SetK P w' A0 S seen.length) := (e3.hidK A0 (by rw [hid2b]; exact .inl rfl)).trans hD2b
    cases z with
    | false =>
      simp only [Bool.false_eq_true, if_false]
      exact ⟨w3, seen, S, rfl, ok3, x3, hid3, hk3, hD3, hS, by omega, hpost⟩
    | true =>
      simp only [if_true]
      refine ⟨w3, r1, rfl, ok3, re'.ex okb e3.toEx0, ?_⟩
      simp only at hpost
      cases ef : f r1 w3.mu with
      | stk => rw [ef] at hpost; exact hpost.elim
      | ex c m4 => rw [ef] at hpost; exact hpost.elim
      | ok y m4 =>
      rw [ef] at hpost
      intro w4 v e4 ok4 hm4 rv
      subst hm4
      have hid4 : w4.hid = fun a => a = A0 ∨ w1.hid a := e4.hidE.trans hid3
      have hh4 : w4.hid A0 := by rw [hid4]; exact .inl rfl
      have hk4 : ∀ a, w1.hid a → w4.H a = w1.H a := fun a ha => (e4.hidK a (by rw [hid3]; exact .inr ha)).trans (hk3 a ha)
      have hD4 : w4.H A0 = some (SetK P w' A0 S seen.length) := (e4.hidK A0 (by rw [hid3]; exact .inl rfl)).trans hD3
      simp only at hpost
      cases ec : compL p ft f (wipeL l vs) (ds.drop (i + 1)) w4.mu with
      | stk => rw [ec] at hpost; exact hpost.elim
      | ex c m5 => exact absurd ec compL_no
      | ok ys m5 =>
      rw [ec] at hpost
      simp only [Rs.bind] at hpost
      cases es : strsD (y :: ys) with
      | none => rw [es] at hpost; exact hpost.elim
      | some zs =>
      rw [es] at hpost
      obtain ⟨t, ts, rfl, hts, rfl⟩ := strsD_cons es
      simp only [RelD] at rv
      subst rv
      refine ⟨.inr t, S, seen.length, rfl, hD4, by have : (scanBound : Nat) = 4096 := rfl; omega, ?_⟩
      have x5 : ∀ o, Ex0 w4 (w4.lay A0 o) := fun o => over_ex hh4
      by_cases hin : t ∈ seen
      · have hSt : S (.inr t) = true := by rw [hS]; exact decide_eq_true hin
        rw [if_pos hSt]
        refine ⟨w4.lay A0 (SetK P w' A0 (fun j => S j || decide (j = .inr t)) seen.length), seen, fun j => S j || decide (j = .inr t), rfl, over_ok ok4 hh4 trivial, (x3.trans e4.toEx0).trans (x5 _), hid4, fun a ha => (upd_ne (hid_ne ok1 hD ha)).trans (hk4 a ha), upd_same, fun x => ?_, by omega, ?_⟩
        · show (S (.inr x) || decide ((Sum.inr x : Key) = .inr t)) = _
          rw [hS]
          by_cases hxt : x = t
          · subst hxt; simp [hin]
          · simp [hxt]
        · have hc : compL p ft f (wipeL l vs) (ds.drop (i + 1)) (w4.lay A0 (SetK P w' A0 (fun j => S j || decide (j = .inr t)) seen.length)).mu = .ok ys m5 := ec
          rw [hc]
          simp only [Rs.bind, hts]
          simp only [setN, hin, if_true] at hpost
          exact hpost
      · have hSt : S (.inr t) = false := by rw [hS]; exact decide_eq_false hin
        rw [if_neg (by rw [hSt]; simp)]
        refine ⟨w4.lay A0 (SetK P w' A0 (fun j => S j || decide (j = .inr t)) (seen.length + 1)), t :: seen, fun j => S j || decide (j = .inr t), rfl, over_ok ok4 hh4 trivial, (x3.trans e4.toEx0).trans (x5 _), hid4, fun a ha => (upd_ne (hid_ne ok1 hD ha)).trans (hk4 a ha), upd_same, fun x => ?_, by simp; omega, ?_⟩
        · show (S (.inr x) || decide ((Sum.inr x : Key) = .inr t)) = _
          rw [hS]
          by_cases hxt : x = t
          · subst hxt; simp
          · simp [hxt]
        · have hc : compL p ft f (wipeL l vs) (ds.drop (i + 1)) (w4.lay A0 (SetK P w' A0 (fun j => S j || decide (j = .inr t)) (seen.length + 1))).mu = .ok ys m5 := ec
          rw [hc]
          simp only [Rs.bind, hts]
          simp only [setN, hin, if_false] at hpost
          exact hpost
  · left
    have e : i = ds.length := by omega
    subst e
    refine ⟨stop_ _ (Nat.le_refl _), A0, S, seen.length, rfl, hD2, ?_⟩
    rw [List.drop_length] at hpost
    simp only [compL, Rs.bind, strsD, setN] at hpost
    have hs : ∀ a, w1.hid a → w2.hid a := fun a ha => by rw [hid2]; exact .inr ha
    have x6 : Ex0 w2 (w2.show_ w1.hid) := show_ex hs
    have ex6 : Ex w1 (w2.show_ w1.hid) := ⟨x2.trans x6, rfl, hk2⟩
    exact hpost (w2.show_ w1.hid) (.int (seen.length : Nat)) (ex1.trans ex6) (show_ok ok2 hs) rfl (by simp only [RelD])
theorem v_lenSet {x : Str} {p1 p2 : Pos} {elt : Expr} {ifs : List Expr} {scope : Scope} {own : List (Str × Nat)} {p : Pt} {fi : FI} (hp : (p.slots.all fun i => (own.map (·.2)).contains i) = true) (hm : X.mg x = none) (hv : bootBuiltins x = some (.builtin "len")) (hc : X.calm = true) (hN : X.N.Nodup) (hi : PI X tg iter (rdI (tx X) W fi)) (ok : BlkOk X.N X.env.scope scope own)
    (hg : ∀ s H C cl fp, PG (X.blk s H scope (compEnvC scope cl C X.env) fp) tg (gOf X.K p)) (ht : ∀ s H C cl fp, PTs (X.blk s H scope (compEnvC scope cl C X.env) fp) ifs (rdT (tx X) W0 ft))
    (he : ∀ s H C cl fp, PE (X.blk s H scope (compEnvC scope cl C X.env) fp) elt (rd (tx X) W0 f)) (hgl : Gl X x := by rfl) (hs : ∀ x, foldedSetIterable iter X.env x = pure x := by intro _; rfl)
    (hn : x ≠ "__name__" := by decide) (hdb : (x == ("__debug__" : Str)) = false := by decide)
    (hse : starEach [.SetComp elt [⟨tg, iter, ifs, 0⟩] scope p2] X.env = (false, eval (.SetComp elt [⟨tg, iter, ifs, 0⟩] scope p2) X.env) :: starEach [] X.env := by rfl) (hpl : (backTo pos (starEach [] X.env)).any (·.1) = false := by rfl) :
    PE X (.Call (.Name x p1) [.SetComp elt [⟨tg, iter, ifs, 0⟩] scope p2] [] pos) (rd (tx X) W (fLenSet (own.map (·.2)) p fi ft f)) := by
  refine pe_imp (pe_callB call_lenK hgl hm hv (pa_cons (pe_kc hc hN hi ok hg ht he hs) pa_nil hse) hn hdb hse hpl) fun s H Q q => ?_
  exact sc_sem (fun i hi => by have := List.all_eq_true.mp hp i hi; simpa using this) s H Q q
end FR
set_option Elab.async false
set_option linter.all false
set_option maxRecDepth 100000
set_option maxHeartbeats 4000000
/-! ## Attributes, making, methods, try -/
namespace FR
open PySem PySem.Spec L2
set_option autoImplicit false
variable {X : Cx} {T : Tx} {W : WX} {f g h : FE} {fa : FA} {ft gt : FT} {a b c e o tg iter : Expr} {es rest : List Expr} {pos : Pos} {k : Nat} {st0 : Stmt} {sts : List Stmt} {m m' : FS}

/-! ### attributes -/
@[reducible] def lookD : List Str → List D → Str → Option D
  | n :: ns, v :: vs, x => if x = n then some v else lookD ns vs x
  | _, _, _ => none
theorem lookD_val {w : Wo} {x : Str} : ∀ {ns : List Str} {ds : List D} {vs : List V} {d : D}, RelDs T w ds vs → lookD ns ds x = some d → ∃ v, (ns.zip vs).lookup x = some v ∧ RelD T w d v
  | [], ds, vs, d, r, h => by simp [lookD] at h
  | n :: ns, [], vs, d, r, h => by simp [lookD] at h
  | n :: ns, e :: ds, vs, d, r, h => by
    simp only [RelDs] at r
    obtain ⟨v, l, rfl, h1, h2⟩ := r
    simp only [lookD] at h
    by_cases q : x = n
    · subst q
      rw [if_pos rfl] at h
      cases h
      exact ⟨v, by simp [List.lookup], h1⟩
    · rw [if_neg q] at h
      obtain ⟨u, hu, ru⟩ := lookD_val h2 h
      refine ⟨u, ?_, ru⟩
      have : (x == n) = false := by simpa using q
      simp [List.lookup, this, hu]
@[reducible] def gFld (c x : Str) : D → List O → Rs D := fun d m => match d with
  | .ins c' ns vs => if c' = c then match lookD ns vs x with
    | some v => .ok v m
    | none => .stk
    else .stk
  | .loc n => match m[n]? with
    | some (.ins c' ns vs) => if c' = c then match lookD ns vs x with
      | some v => .ok v m
      | none => .stk
      else .stk
    | _ => .stk
  | _ => .stk
/-- a class of the program -/
structure ClG (T : Tx) (c : Str) (C : Addr) : Prop where
  g : T.mg c = some (.ref C)
  cl : Cls T.K C
theorem v_fld {c x : Str} {C : Addr} (cg : ClG (tx X) c C) (na : NoAttr X.K C x) (he : PE X e (rd (tx X) W f)) (hb : attributeBase e x X.env (eval e X.env) = eval e X.env := by rfl) :
    PE X (.Attribute e x pos) (rd (tx X) W (fUn (gFld c x) f)) := by
  refine pe_imp (pe_fld he hb) ?_
  rintro σ H Q ⟨w, l, rfl, ok, re, h⟩
  refine go_e ok re h fun d w1 v e1 ok1 re1 r1 h1 => ?_
  unfold gFld at h1
  split at h1
  · rename_i c' ns vs
    split at h1
    · rename_i hc; subst hc
      split at h1
      · rename_i dv hl
        simp only [RelD] at r1
        obtain ⟨p, C', dx, us, rfl, hg, hH, hlen, nl, rr⟩ := r1
        have : C' = C := by have q := hg.symm.trans cg.g; cases q; rfl
        subst this
        obtain ⟨u, hu, ru⟩ := lookD_val rr hl
        exact ⟨p, C', dx, _, u, rfl, hH, cg.cl, na, hu, h1.now ok1 ru⟩
      · exact h1.elim
    · exact h1.elim
  · split at h1
    · rename_i n _ c' ns vs hm
      split at h1
      · rename_i hc; subst hc
        split at h1
        · rename_i dv hl
          simp only [RelD] at r1
          obtain ⟨p, rfl, hb⟩ := r1
          obtain ⟨C', dx, us, hg, hH, hlen, rr⟩ := ok1.obj _ _ _ hm hb
          have : C' = C := by have q := hg.symm.trans cg.g; cases q; rfl
          subst this
          obtain ⟨u, hu, ru⟩ := lookD_val rr hl
          exact ⟨p, C', dx, _, u, rfl, hH, cg.cl, na, hu, h1.now ok1 ru⟩
        · exact h1.elim
      · exact h1.elim
    · exact h1.elim
  · exact h1.elim
@[reducible] def putNs (x : Str) : List Str → List Str
  | [] => [x]
  | n :: ns => if n = x then n :: ns else n :: putNs x ns
@[reducible] def putVs {α : Type} (x : Str) (d : α) : List Str → List α → List α
  | n :: ns, v :: vs => if n = x then d :: vs else v :: putVs x d ns vs
  | _, _ => [d]
theorem put_zip {x : Str} {v : V} : ∀ {ns : List Str} {vs : List V}, vs.length = ns.length → putF x v (ns.zip vs) = (putNs x ns).zip (putVs x v ns vs) ∧ (putVs x v ns vs).length = (putNs x ns).length
  | [], [], _ => ⟨rfl, rfl⟩
  | n :: ns, u :: vs, h => by
    obtain ⟨i1, i2⟩ := put_zip (x := x) (v := v) (ns := ns) (vs := vs) (by simpa using h)
    by_cases q : n = x
    · refine ⟨?_, ?_⟩
      · show putF x v ((n, u) :: ns.zip vs) = _
        unfold putF
        rw [if_pos q]; simp [putNs, putVs, q]
      · simp [putNs, putVs, q]; simpa using h
    · refine ⟨?_, ?_⟩
      · show putF x v ((n, u) :: ns.zip vs) = _
        unfold putF
        rw [if_neg q, i1]; simp [putNs, putVs, q]
      · simp [putNs, putVs, q, i2]
  | [], _ :: _, h => by simp at h
  | _ :: _, [], h => by simp at h
theorem putVs_rel {w : Wo} {x : Str} {d : D} {v : V} (r : RelD T w d v) : ∀ {ns : List Str} {ds : List D} {vs : List V}, RelDs T w ds vs → RelDs T w (putVs x d ns ds) (putVs x v ns vs)
  | [], ds, vs, h => by
    have : putVs x d [] ds = [d] := by cases ds <;> rfl
    have h2 : putVs x v [] vs = [v] := by cases vs <;> rfl
    rw [this, h2]; exact .cons r .nil
  | n :: ns, [], vs, h => by simp only [RelDs] at h; subst h; exact .cons r .nil
  | n :: ns, e :: ds, vs, h => by
    simp only [RelDs] at h
    obtain ⟨u, l, rfl, h1, h2⟩ := h
    simp only [putVs]
    by_cases q : n = x
    · rw [if_pos q, if_pos q]; exact .cons r h2
    · rw [if_neg q, if_neg q]; exact .cons h1 (putVs_rel r h2)
@[reducible] def gPutF (c x : Str) (o d : D) (m : List O) : Option (List O) := match o with
  | .loc n => match m[n]? with
    | some (.ins c' ns vs) => if c' = c ∧ ns.length < 1000 then some (m.set n (.ins c (putNs x ns) (putVs x d ns vs))) else none
    | _ => none
  | _ => none
@[reducible] def sFldS (c x : Str) (fo f : FE) : FS := fun r m => (f r m).sq r fun d m => (fo r m).sq r fun o m => match gPutF c x o d m with
  | some m => .ok (.nx r) m
  | none => .stk
theorem s_fld {c x : Str} {C : Addr} {p' : Pos} {fo : FE} (cg : ClG (tx X) c C) (na : NoAttr X.K C x) (ho : PE X o (rd (tx X) W fo)) (he : PE X e (rd (tx X) W f)) (hs : swapsWith e (some (.Attribute o x p')) pos.line X.env = pure false := by rfl) :
    PS X (.Assign [.Attribute o x p'] e pos) (rdS (tx X) W (sFldS c x fo f)) := by
  refine ps_imp (ps_fld ho he hs) ?_
  rintro E s H ⟨w, r, rfl, ok, re, h⟩
  refine go_s ok re h fun d w1 v x1 ok1 re1 r1 h1 => ?_
  refine go_s ok1 re1 h1 fun od w2 ov x2 ok2 re2 r2 h2 => ?_
  split at h2
  · rename_i mm hg
    unfold gPutF at hg
    split at hg
    · split at hg
      · split at hg
        · rename_i n _ c' ns vs hm hc
          cases hg
          obtain ⟨hc, hlen⟩ := hc
          subst hc
          simp only [RelD] at r2
          obtain ⟨p, rfl, hb⟩ := r2
          obtain ⟨C', dx, us, hgC, hH, hl, rr⟩ := ok2.obj _ _ _ hm hb
          have : C' = C := by have q := hgC.symm.trans cg.g; cases q; rfl
          subst this
          have rv := r1.ex ok1 x2.toEx0
          obtain ⟨z1, z2⟩ := put_zip (x := x) (v := v) hl
          refine ⟨p, C', dx, _, rfl, hH, cg.cl, na, by simp [hl]; exact hlen, ?_⟩
          rw [z1]
          have xx : Ex w2 (w2.put n p (.ins C' dx ((putNs x ns).zip (putVs x v ns us))) (.ins c' (putNs x ns) (putVs x d ns vs))) := put_ex ok2 hb hm (by simp)
          have okk : Ok (tx X) (w2.put n p (.ins C' dx ((putNs x ns).zip (putVs x v ns us))) (.ins c' (putNs x ns) (putVs x d ns vs))) := put_ok ok2 hb hm (by simp) ⟨C', dx, putVs x v ns us, hgC, upd_same, z2, (putVs_rel rv rr).ex ok2 xx.toEx0⟩
          exact h2 _ _ xx okk rfl (re2.ex ok2 xx.toEx0)
        · cases hg
      · cases hg
    · cases hg
  · exact h2.elim

/-! ### a new instance -/
/-- the class c of the program is made by its __init__, which gives what o gives -/
structure MkG (P : Program) (w : World) (T : Tx) (base : Heap) (c : Str) (k n : Nat) (o : List D → List O → Rs D) : Prop where
  ex : ∃ (C f : Addr) (fd : FuncData) (ps : List Str), FnOk P w T.K T.mg base (L2.CX P w) k f fd ps (spF T (n + 1) o) ∧ T.mg c = some (.ref C) ∧ Mk T.K C f ∧ Binds T.K fd ps []
theorem run_mkS {CX : CXT} {C f : Addr} {fd : FuncData} {ps : List Str} {sp : Sp} {E : L2.St → XK} {pins : List (Addr × Obj)} {sg : L2.St} {H : Hp} {s : Shared} {Q : VK} {us : List Value} {vs : List V} (mk : Mk X.K C f) (F : FnOk X.prog X.w X.K X.mg X.base CX k f fd ps sp) (room : Room (k + 1) X.A) (bi : Binds X.K fd ps [])
    (out : PassesAt CX X sg (E sg)) (I : Inv X pins sg H s) (r : Vals vs us) (h : ∀ x dx, H x = none → H dx = none → dx ≠ x → sp (.ref x :: vs) (upd (upd H dx (.own x)) x (.ins C dx [])) (fun v H2 => v = .non ∧ Q (.ref x) H2) (E sg)) :
    wpAny (model X.prog X.w) X.A (call (.ref C) us) (EP X pins sg Q) X.xe s := by
  have q := h (s.heap.objs.size + 1) s.heap.objs.size (I.hok.fresh (Nat.le_succ _)) (I.hok.fresh (Nat.le_refl _)) (Nat.ne_of_lt (Nat.lt_succ_self _))
  have J := Inv.made (C := C) I
  have rr : Vals (V.ref (s.heap.objs.size + 1) :: vs) (Value.ref (s.heap.objs.size + 1) :: us) := .cons rfl r
  have len : (Value.ref (s.heap.objs.size + 1) :: us).length = ps.length := by rw [← rr.length]; exact F.len _ _ _ _ q
  have b := bi _ (Value.ref (s.heap.objs.size + 1) :: us) J.kIn (by rw [List.append_nil]; exact len)
  rw [List.append_nil] at b
  have body := F.run _ X.stack _ _ ⟨Value.ref (s.heap.objs.size + 1) :: us, []⟩ _ _ _ (E sg) (room.make C us []) (J.env0.make C us []) b rr q
  refine wpAny_call (make_map (f := f) I.kIn mk.makes mk.init (beq_iff_eq.mp mk.fn) (codeAny_mono body fun res s' hres => ?_))
  match res, hres with
  | .error e, hres => exact out pins _ _ e s' J hres
  | .ok (.ret u), hres =>
    obtain ⟨v, H', K', rv, ev, qq⟩ := J.after hres
    subst ev
    exact ⟨rv, V.ref (s.heap.objs.size + 1), H', K', rfl, qq⟩
  | .ok .next, hres => exact hres.elim
  | .ok .brk, hres => exact hres.elim
  | .ok .cont, hres => exact hres.elim
def tMkS (C : Addr) (sp : Sp) (E : L2.St → XK) (t : TA) : TE := fun sg H Q => t sg H fun vs H1 => ∀ x dx, H1 x = none → H1 dx = none → dx ≠ x → sp (.ref x :: vs) (upd (upd H1 dx (.own x)) x (.ins C dx [])) (fun v H2 => v = .non ∧ Q (.ref x) H2) (E sg)
theorem pe_mkS {CX : CXT} {C f : Addr} {fd : FuncData} {ps : List Str} {sp : Sp} {E : L2.St → XK} {x : Str} {p : Pos} {t : TA} (mk : Mk X.K C f) (F : FnOk X.prog X.w X.K X.mg X.base CX k f fd ps sp) (room : Room (k + 1) X.A) (hg : Gl X x) (hm : X.mg x = some (.ref C)) (bi : Binds X.K fd ps []) (out : ∀ sg, PassesAt CX X sg (E sg)) (ha : PA X (e :: es) t)
    (hdb : (x == ("__debug__" : Str)) = false := by decide) (he : starEach (e :: es) X.env = (false, eval e X.env) :: starEach es X.env := by rfl) (hpl : (backTo pos (starEach es X.env)).any (·.1) = false := by rfl) :
    PE X (.Call (.Name x p) (e :: es) [] pos) (tMkS C sp E t) :=
  ⟨fun pins s sg H Q I h => wpAny_Call_Name_kw (ld_glob I hg hm (PySem.W.callWith_K (h₀ := X.base) I.ok.mod.kin mk.kp (thn (ha.run pos pins s sg H _ I h) fun us s1 ⟨vs, H1, I1, r, q⟩ => ⟨I1.kIn, run_mkS mk F room bi (out sg) I1 r q⟩) he hpl) hdb)⟩
@[reducible] def fMake (c : Str) (o : List D → List O → Rs D) (fa : FA) : FE := fun r m => (fa r m).bind fun ds m => match o (.loc m.length :: ds) (m ++ [.ins c [] []]) with
  | .ok .non m' => .ok (.loc m.length) m'
  | .ok _ _ => .stk
  | .ex c m' => .ex c m'
  | .stk => .stk
theorem v_make {x : Str} {p : Pos} {n : Nat} {oo : List D → List O → Rs D} (F : MkG X.prog X.w (tx X) X.base x k n oo) (hr : Room (k + 1) X.A) (tk : Takes X W) (ha : PA X (e :: es) (rdA (tx X) W fa)) (hn : ∀ r m, ∀ ds m', fa r m = .ok ds m' → ds.length = n) (hg : Gl X x := by rfl)
    (hdb : (x == ("__debug__" : Str)) = false := by decide) (he : starEach (e :: es) X.env = (false, eval e X.env) :: starEach es X.env := by rfl) (hpl : (backTo pos (starEach es X.env)).any (·.1) = false := by rfl) :
    PE X (.Call (.Name x p) (e :: es) [] pos) (rd (tx X) W (fMake x oo fa)) := by
  obtain ⟨C, f, fd, ps, hF, hm, hk, hb⟩ := F.ex
  refine pe_imp (pe_mkS hk hF hr hg hm hb (E := fun σ => WE W σ) (fun σ => passAt tk σ) ha hdb he hpl) ?_
  rintro σ H Q ⟨w, l, rfl, ok, re, h⟩
  refine ⟨w, l, rfl, ok, re, ?_⟩
  cases e1 : fa l w.mu with
  | stk => rw [fMake, e1] at h; exact h
  | ex c mm => rw [fMake, e1] at h; exact h
  | ok ds mm =>
    rw [fMake, e1] at h
    intro w1 vs x1 ok1 hm1 r1
    subst hm1
    simp only [Rs.bind] at h
    intro a dx ha hdx hne
    -- the own dict, then the instance
    have xa : Ex w1 (w1.lay dx (.own a)) := lay_ex ok1 hdx
    have oka : Ok (tx X) (w1.lay dx (.own a)) := lay_ok ok1 hdx
    have fra : (w1.lay dx (.own a)).H a = none := by
      show upd w1.H dx (.own a) a = none
      rw [upd_ne (Ne.symm hne)]; exact ha
    have hu : RelOb (tx X) ((w1.lay dx (.own a)).new a (.ins C dx []) (.ins x [] [])) a (.ins x [] []) := ⟨C, dx, [], hm, upd_same, rfl, .nil⟩
    have xb : Ex (w1.lay dx (.own a)) ((w1.lay dx (.own a)).new a (.ins C dx []) (.ins x [] [])) := new_ex oka fra
    have okb : Ok (tx X) ((w1.lay dx (.own a)).new a (.ins C dx []) (.ins x [] [])) := new_ok oka fra hu
    have hbt : ((w1.lay dx (.own a)).new a (.ins C dx []) (.ins x [] [])).bt[w1.mu.length]? = some a := by
      show (w1.bt ++ [a])[w1.mu.length]? = some a
      rw [ok1.len]; simp
    refine ⟨_, .loc w1.mu.length :: ds, rfl, okb, .cons ?_ (((r1.ex ok1 xa.toEx0)).ex oka xb.toEx0), by simp [hn _ _ _ _ e1], ?_⟩
    · simp only [RelD]; exact ⟨a, rfl, hbt⟩
    · have xab := x1.trans (xa.trans xb)
      show Post (tx X) (RelD (tx X)) _ _ (oo (.loc w1.mu.length :: ds) (w1.mu ++ [.ins x [] []])) _
      cases eo : oo (.loc w1.mu.length :: ds) (w1.mu ++ [.ins x [] []]) with
      | stk => rw [eo] at h; exact h
      | ex c m' => rw [eo] at h; exact fun w' e' ok' hm' => h w' (xab.trans e') ok' hm'
      | ok d m' =>
        rw [eo] at h
        intro w' v e' ok' hm' rv
        cases d <;> first | exact h.elim | skip
        simp only [RelD] at rv
        exact ⟨rv, h w' (.ref a) (xab.trans e') ok' hm' (by simp only [RelD]; exact ⟨a, rfl, e'.bt hbt⟩)⟩

/-! ### an own method -/
/-- the method x of the class c gives what o gives (of the object and n arguments) -/
structure MtG (P : Program) (w : World) (T : Tx) (base : Heap) (c x : Str) (k n : Nat) (o : List D → List O → Rs D) : Prop where
  ex : ∃ (C f : Addr) (fd : FuncData) (ps : List Str), FnOk P w T.K T.mg base (L2.CX P w) k f fd ps (spF T (n + 1) o) ∧ ClG T c C ∧ Meth T.K C x f ∧ Binds T.K fd ps []
@[reducible] def isIns (c x : Str) (d : D) (m : List O) : Bool := match d with
  | .ins c' ns _ => decide (c' = c) && !ns.contains x
  | .loc n => match m[n]? with
    | some (.ins c' ns _) => decide (c' = c) && !ns.contains x
    | _ => false
  | _ => false
theorem lookup_none {x : Str} : ∀ {ns : List Str} {vs : List V}, ns.contains x = false → (ns.zip vs).lookup x = none
  | [], vs, _ => by simp
  | n :: ns, [], _ => by simp
  | n :: ns, v :: vs, h => by
    simp only [List.contains_cons, Bool.or_eq_false_iff] at h
    simp [List.lookup, h.1, lookup_none h.2]
theorem isIns_ok {w : Wo} {c x : Str} {C : Addr} {d : D} {v : V} (cg : ClG T c C) (ok : Ok T w) (r : RelD T w d v) (h : isIns c x d w.mu = true) : ∃ p dx fs, v = .ref p ∧ w.H p = some (.ins C dx fs) ∧ fs.lookup x = none := by
  unfold isIns at h
  split at h
  · rw [Bool.and_eq_true] at h
    simp only [RelD] at r
    obtain ⟨p, C', dx, us, rfl, hg, hH, hlen, nl, rr⟩ := r
    rw [of_decide_eq_true h.1] at hg
    have : C' = C := by have q := hg.symm.trans cg.g; cases q; rfl
    subst this
    exact ⟨p, dx, _, rfl, hH, lookup_none (by simpa using h.2)⟩
  · split at h
    · rename_i hm
      rw [Bool.and_eq_true] at h
      simp only [RelD] at r
      obtain ⟨p, rfl, hb⟩ := r
      obtain ⟨C', dx, us, hg, hH, hlen, rr⟩ := ok.obj _ _ _ hm hb
      rw [of_decide_eq_true h.1] at hg
      have : C' = C := by have q := hg.symm.trans cg.g; cases q; rfl
      subst this
      exact ⟨p, dx, _, rfl, hH, lookup_none (by simpa using h.2)⟩
    · cases h
  · cases h
def tMtS (C : Addr) (x : Str) (sp : Sp) (E : L2.St → XK) (ta : TE) (t : TA) : TE := fun sg H Q => ta sg H fun v H1 => ∃ p dx fs, v = .ref p ∧ H1 p = some (.ins C dx fs) ∧ fs.lookup x = none ∧ t sg H1 fun vs H2 => sp (v :: vs) H2 Q (E sg)
theorem pe_mtS {CX : CXT} {C f : Addr} {fd : FuncData} {ps : List Str} {sp : Sp} {E : L2.St → XK} {x : Str} {apos : Pos} {ta : TE} {t : TA} {pl : Sem Bool} (ho : PE X o ta) (cl : Cls X.K C) (hm : Meth X.K C x f) (F : FnOk X.prog X.w X.K X.mg X.base CX k f fd ps sp) (room : Room k X.A) (bi : Binds X.K fd ps []) (out : ∀ sg, PassesAt CX X sg (E sg)) (ha : PA X (e :: es) t)
    (hst : starEach (e :: es) X.env = (false, eval e X.env) :: starEach es X.env := by rfl) (hpl : (backTo pos (starEach es X.env)).any (·.1) = false := by rfl)
    (ht : eval (.Call (.Attribute o x apos) (e :: es) [] pos) X.env = (do
      let ov ← eval o X.env
      standAt apos.atName
      let (f, first) ← holding [ov] (getMethod ov x pl)
      callWith pos f first (backTo pos (starEach (e :: es) X.env)) (backToKw pos (keywordEach [] X.env))) := by rfl) :
    PE X (.Call (.Attribute o x apos) (e :: es) [] pos) (tMtS C x sp E ta t) := by
  refine ⟨fun pins s sg H Q I h => PySem.W.methodCall_KW (pl := pl) (thn (ho.run pins s sg H _ I h) fun u s1 ⟨v, H1, I1, rv, p, dx, fs, ev, ep, hl, q⟩ => ?_) ht⟩
  subst ev
  obtain rfl : u = Value.ref p := rv
  exact getmeth_ok I1 ep cl hm hl (PySem.W.callWith_K (first := [.ref p]) (h₀ := X.base) I.ok.mod.kin hm.kp (thn (ha.run pos pins s1 sg H1 _ I1 q) fun us s2 ⟨vs, H2, I2, r, q2⟩ => ⟨I2.kIn, run_fnS (us := .ref p :: us) (vs := .ref p :: vs) F room bi (out sg) I2 (.cons rfl r) q2⟩) hst hpl)
@[reducible] def fMeth (c x : Str) (o : List D → List O → Rs D) (fo : FE) (fa : FA) : FE := fun r m => (fo r m).bind fun d m => if isIns c x d m = true then (fa r m).bind fun ds m => o (d :: ds) m else .stk
theorem v_meth {c x : Str} {apos : Pos} {n : Nat} {oo : List D → List O → Rs D} {fo : FE} {pl : Sem Bool} (F : MtG X.prog X.w (tx X) X.base c x k n oo) (hr : Room k X.A) (tk : Takes X W) (ho : PE X o (rd (tx X) W fo)) (ha : PA X (e :: es) (rdA (tx X) W fa)) (hn : ∀ r m, ∀ ds m', fa r m = .ok ds m' → ds.length = n)
    (hst : starEach (e :: es) X.env = (false, eval e X.env) :: starEach es X.env := by rfl) (hpl : (backTo pos (starEach es X.env)).any (·.1) = false := by rfl)
    (ht : eval (.Call (.Attribute o x apos) (e :: es) [] pos) X.env = (do
      let ov ← eval o X.env
      standAt apos.atName
      let (f, first) ← holding [ov] (getMethod ov x pl)
      callWith pos f first (backTo pos (starEach (e :: es) X.env)) (backToKw pos (keywordEach [] X.env))) := by rfl) :
    PE X (.Call (.Attribute o x apos) (e :: es) [] pos) (rd (tx X) W (fMeth c x oo fo fa)) := by
  obtain ⟨C, f, fd, ps, hF, cg, hm, hb⟩ := F.ex
  refine pe_imp (pe_mtS ho cg.cl hm hF hr hb (E := fun σ => WE W σ) (fun σ => passAt tk σ) ha hst hpl ht) ?_
  rintro σ H Q ⟨w, l, rfl, ok, re, h⟩
  refine go_e ok re h fun d w1 v x1 ok1 re1 r1 h1 => ?_
  split at h1
  · rename_i hi
    obtain ⟨p, dx, fs, rfl, hH, hl⟩ := isIns_ok cg ok1 r1 hi
    refine ⟨p, dx, fs, rfl, hH, hl, w1, l, rfl, ok1, re1, ?_⟩
    cases e1 : fa l w1.mu with
    | stk => rw [e1] at h1; exact h1
    | ex c mm => rw [e1] at h1; exact h1
    | ok ds mm =>
      rw [e1] at h1
      intro w2 vs x2 ok2 hm2 r2
      subst hm2
      exact ⟨w2, d :: ds, rfl, ok2, .cons (r1.ex ok1 x2.toEx0) r2, by simp [hn _ _ _ _ e1], Post.ex h1 x2⟩
  · exact h1.elim

/-! ### try .. except one class of the program -/
@[reducible] def noex : Rt → Rt
  | .ex _ _ _ => .stk
  | x => x
@[reducible] def sTry (c : Str) (body suite : FS) : FS := fun r m => match body r m with
  | .ex c' r' m' => if c' = c then noex (suite r' m') else .stk
  | x => x
/-- what stays of a suite's end: the name of the error is gone -/
@[reducible] def gone (i : Nat) : Rt → Rt
  | .ok (.nx r) m => .ok (.nx (r.set i none)) m
  | .ok (.bk r) m => .ok (.bk (r.set i none)) m
  | .ok (.ct r) m => .ok (.ct (r.set i none)) m
  | x => x
/-- the error's own class, its address within the suite -/
structure ExAt (T : Tx) (c : Str) (C : Addr) : Prop where
  gC : T.mg c = some (.ref C)
  me : PySem.W.exmOne T.K (.ref C) (.ref C) = some true
theorem s_try {x : Str} {c : Addr} {body suite : List Stmt} {b0 : Stmt} {np p' : Pos} {mb ms : FS} (hs : X.stack = X.env :: X.outer) (hf : X.env.frame = some X.env.locals) (E : ExAt (tx X) x c) (tk : Takes X W)
    (hb : ∀ (W : WX) (pn : List (Addr × Obj)) (xe : Value → Shared → Prop), Takes (X.tr pn xe) W → PassesOwn (model X.prog X.w) X.A X.env xe → PSs (X.tr pn xe) body (rdS (tx X) W mb))
    (hsu : ∀ (a : Addr) (oe : Obj) (pn : List (Addr × Obj)), Zc (.ref c) none oe → (∃ vs, oe.data = .fields vs) → PSs (X.suite a ((a, oe) :: pn)) (b0 :: suite) (rdS (tx X) W0 ms)) (hg : Gl X x := by rfl) (hdb : (x == ("__debug__" : Str)) = false := by decide) :
    PS X (.Try body [.ExceptHandler (some (.Name x np)) none (b0 :: suite) p'] [] [] pos) (rdS (tx X) W (sTry x mb ms)) := by
  refine ps_imp (ps_try_only (Wout := W) (c := .ref c) (tb := fun W => rdS (tx X) W mb) (ts := fun a cls d => fun D s H => cls = .ref c ∧ d = none ∧ rdS (tx X) W0 ms D s H) hs hf ⟨hg, hdb, .inl E.gC⟩ tk hb (fun a oe cls d pn hz hd => ?_)) ?_
  · refine ⟨fun pins s σ H D I ⟨h1, h2, h3⟩ => ?_⟩
    subst h1 h2
    exact (hsu a oe pn hz hd).run pins s σ H D I h3
  rintro En s H ⟨w, r, rfl, ok, re, h⟩
  refine ⟨w, r, rfl, ok, re, ?_⟩
  unfold sTry at h
  cases e : mb r w.mu with
  | stk => rw [e] at h; exact h
  | ok fl mm => rw [e] at h; cases fl <;> exact h
  | ex c' r' mm =>
    rw [e] at h
    simp only at h
    split at h
    · rename_i hc
      subst hc
      intro w1 s1 x1 ok1 hm re1 cv hcv
      subst hm
      have : cv = .ref c := by have := E.gC; rw [ExV] at hcv; rw [hcv] at this; exact Option.some.inj this
      subst this
      refine ⟨true, E.me, fun _ a _ => ⟨rfl, rfl, w1, r', rfl, ok1, re1, ?_⟩, fun q => nomatch q⟩
      have hp := PostS.ex h x1
      -- nothing leaves the suite
      cases em : ms r' w1.mu with
      | stk => rw [em] at hp; exact hp
      | ok fl m2 => rw [em] at hp; cases fl <;> exact hp
      | ex c2 r2 m2 => rw [em] at hp; exact hp.elim
    · exact h.elim
/-- .. as n: within the suite slot i is the error at a; M: what comes of the suite, whatever a is -/
theorem s_tryAs {x n : Str} {i : Nat} {c : Addr} {body suite : List Stmt} {b0 : Stmt} {np p' : Pos} {mb M : FS} {ms : Addr → FS} (hs : X.stack = X.env :: X.outer) (hf : X.env.frame = some X.env.locals) (hN : X.N.Nodup) (E : ExAt (tx X) x c) (tk : Takes X W)
    (hb : ∀ (W : WX) (pn : List (Addr × Obj)) (xe : Value → Shared → Prop), Takes (X.tr pn xe) W → PassesOwn (model X.prog X.w) X.A X.env xe → PSs (X.tr pn xe) body (rdS (tx X) W mb))
    (hsu : ∀ (a : Addr) (oe : Obj) (pn : List (Addr × Obj)), Zc (.ref c) none oe → (∃ vs, oe.data = .fields vs) → PSs (X.suite a ((a, oe) :: pn)) (b0 :: suite) (rdS (tx X) W0 (ms a)))
    (hM : ∀ a r m, i < r.length → gone i (noex (ms a (r.set i (some (.exc a))) m)) = M r m ∨ M r m = .stk) (hi : X.N[i]? = some n := by rfl) (hln : X.env.kindOf n = some .local := by rfl) (hg : Gl X x := by rfl) (hdb : (x == ("__debug__" : Str)) = false := by decide) :
    PS X (.Try body [.ExceptHandler (some (.Name x np)) (some n) (b0 :: suite) p'] [] [] pos) (rdS (tx X) W (sTry x mb (fun r m => if i < r.length then M r m else .stk))) := by
  refine ps_imp (ps_try_as (i := i) (Wout := W) (c := .ref c) (tb := fun W => rdS (tx X) W mb) (ts := fun a cls d => fun D s H => cls = .ref c ∧ d = none ∧ rdS (tx X) W0 (ms a) D s H) hs hf hN hi hln ⟨hg, hdb, .inl E.gC⟩ tk hb (fun a oe cls d pn hz hd => ?_)) ?_
  · refine ⟨fun pins s σ H D I ⟨h1, h2, h3⟩ => ?_⟩
    subst h1 h2
    exact (hsu a oe pn hz hd).run pins s σ H D I h3
  rintro En s H ⟨w, r, rfl, ok, re, h⟩
  refine ⟨w, r, rfl, ok, re, ?_⟩
  unfold sTry at h
  cases e : mb r w.mu with
  | stk => rw [e] at h; exact h
  | ok fl mm => rw [e] at h; cases fl <;> exact h
  | ex c' r' mm =>
    rw [e] at h
    simp only at h
    split at h
    · rename_i hc
      subst hc
      intro w1 s1 x1 ok1 hm re1 cv hcv
      subst hm
      have : cv = .ref c := by have := E.gC; rw [ExV] at hcv; rw [hcv] at this; exact Option.some.inj this
      subst this
      refine ⟨true, E.me, fun _ a _ => ?_, fun q => nomatch q⟩
      have hp := PostS.ex h x1
      by_cases hlen' : i < r'.length
      · rw [if_pos hlen'] at hp
        have re2 : RelE (tx X) w1 (r'.set i (some (.exc a))) (s1.set i (some (.ref a))) := re1.set i (by simp only [RelD])
        refine ⟨rfl, rfl, w1, r'.set i (some (.exc a)), rfl, ok1, re2, ?_⟩
        rcases hM a r' w1.mu hlen' with q | q
        · rw [← q] at hp
          cases em : ms a (r'.set i (some (.exc a))) w1.mu with
          | stk => rw [em] at hp; exact hp
          | ex c2 r2 m2 => rw [em] at hp; exact hp.elim
          | ok fl m2 =>
            rw [em] at hp
            cases fl with
            | nx r3 => exact fun w3 s3 x3 ok3 hm3 re3 => hp w3 _ x3 ok3 hm3 (re3.wipe i)
            | bk r3 => exact fun w3 s3 x3 ok3 hm3 re3 => hp w3 _ x3 ok3 hm3 (re3.wipe i)
            | ct r3 => exact fun w3 s3 x3 ok3 hm3 re3 => hp w3 _ x3 ok3 hm3 (re3.wipe i)
            | rt d => exact hp
        · rw [q] at hp; exact hp.elim
      · rw [if_neg hlen'] at hp; exact hp.elim
    · exact h.elim
/-- isinstance(e, C), e the error that the suite holds, C above its class -/
@[reducible] def bIsE (a : Addr) (c : D) : List D → List O → Rs D := fun ds m => match ds, c with
  | [.exc x, .glo y], .glo z => if x = a ∧ y = z then .ok (.bl true) m else .stk
  | [.exc x, .ty y], .ty z => if x = a ∧ y = z then .ok (.bl true) m else .stk
  | _, _ => .stk
theorem cb_isE {a C : Addr} {oe : Obj} {pn : List (Addr × Obj)} {c : D} (E : ExcC X.K C) (hz : Zc (.ref C) none oe) (hd : ∃ vs, oe.data = .fields vs)
    (hk : match c with
      | .glo z => ∃ b, X.mg z = some (.ref b) ∧ PySem.W.kitOne X.K (.ref C) (.ref b) = some true
      | .ty z => PySem.W.kitOne X.K (.ref C) (.type z) = some true
      | _ => False) : Cb (X.suite a ((a, oe) :: pn)) (.builtin "isinstance") (bIsE a c) := by
  refine ⟨_, call_isE E hz hd, fun W w ds vs Q ok r h => ?_⟩
  unfold bIsE at h
  split at h
  · split at h
    · rename_i hq
      obtain ⟨rfl, rfl⟩ := hq
      obtain ⟨v, u, rfl, r1, r2⟩ := r.two
      simp only [RelD] at r1 r2
      obtain ⟨b, hb, hk⟩ := hk
      obtain ⟨b2, rfl, hb2⟩ := r2
      have : b2 = b := by have q : some (Value.ref b2) = some (Value.ref b) := hb2.symm.trans hb; cases q; rfl
      subst this r1
      exact ⟨.ref b2, .ref b2, true, rfl, fun u hu => hu, hk, h.now ok (by simp only [RelD])⟩
    · exact h.elim
  · split at h
    · rename_i hq
      obtain ⟨rfl, rfl⟩ := hq
      obtain ⟨v, u, rfl, r1, r2⟩ := r.two
      simp only [RelD] at r1 r2
      subst r1 r2
      exact ⟨.ty _, .type _, true, rfl, fun u hu => hu, hk, h.now ok (by simp only [RelD])⟩
    · exact h.elim
  · exact h.elim
theorem gv_ref {x : Str} {a : Addr} (h : T.mg x = some (.ref a)) : GV T x (.glo x) := ⟨_, .ref a, h, rfl, fun w => by simp only [RelD]; exact ⟨a, rfl, h⟩⟩
theorem tk0 : Takes X W0 := takes0
/-! ### how many arguments -/
def ALen (fa : FA) (n : Nat) : Prop := ∀ r m, ∀ ds m', fa r m = .ok ds m' → ds.length = n
theorem al_nil : ALen aNil 0 := fun r m ds m' h => by cases h; rfl
theorem al_cons {n : Nat} (h : ALen fa n) : ALen (aCons f fa) (n + 1) := fun r m ds m' e => by
  simp only [aCons] at e
  cases e1 : f r m with
  | stk => rw [e1] at e; cases e
  | ex c mm => rw [e1] at e; cases e
  | ok d mm =>
    rw [e1] at e
    simp only [Rs.bind] at e
    cases e2 : fa r mm with
    | stk => rw [e2] at e; cases e
    | ex c m2 => rw [e2] at e; cases e
    | ok ds' m2 =>
      rw [e2] at e
      cases e
      simp [h _ _ _ _ e2]
/-! ### a def of the program, by its name -/
structure Df (T : Tx) (x : Str) (st : Stmt) (ps : List Str) : Prop where
  ex : ∃ (f : Addr) (fd : FuncData), L2.Fun T.K x x st f fd ∧ T.mg x = some (.ref f) ∧ Binds T.K fd ps []
theorem g_rule {P : Program} {w : World} {base : Heap} {x : Str} {st : Stmt} {N ps : List Str} {body : FS} {n nn : Nat} (d : Df T x st ps) (S : FnScope N ps (defScope st)) (hn : ps.length = n) (hnn : N.length = nn)
    (hb : ∀ (f : Addr) (cdv : Value) (A : Around) (outer : List Env) (s : Shared) (H : Hp) (E : XK), Room k (A.deeper (PyProof.Rows.envOfC x (defScope st) s.heap.objs.size f cdv)) →
      PSs (cxF P w T base N x (defScope st) f cdv A outer s H E) (defBody st) (rdS T (WF E) body)) : FnG P w T base x (k + 1) n (runF nn body) := by
  obtain ⟨f, fd, F, hm, b⟩ := d.ex
  subst hn hnn
  exact ⟨f, fd, ps, fn_rule F S (hb f), hm, F.kp, b⟩
end FR
set_option Elab.async false
set_option linter.all false
set_option maxRecDepth 100000
set_option maxHeartbeats 4000000
/-! ## Further words -/
namespace FR
open PySem PySem.Spec L2
set_option autoImplicit false
variable {X : Cx} {T : Tx} {W : WX} {f g h : FE} {fa : FA} {ft gt : FT} {a b c e o tg iter : Expr} {es rest : List Expr} {pos : Pos} {k : Nat} {st0 : Stmt} {sts : List Stmt} {m m' : FS}

/-! ### products -/
theorem op_mulStr : OpR X (binaryOp .Mult) (fun x y H Q => ∃ z i, x = .str z ∧ y = .int i ∧ z.length ≤ 16 ∧ 0 ≤ i ∧ i ≤ 1048576 ∧ Q (.str (Txt.mul z i)) H) := by
  intro pins s sg H x y v u Q I rx ry h
  obtain ⟨z, i, rfl, rfl, h1, h2, h3, q⟩ := h
  obtain ⟨t, rfl⟩ := rx
  obtain ⟨t', rfl⟩ := ry
  exact PySem.W.KXi.mul rfl h1 (by omega) (by omega) fun t2 k2 _ _ => ⟨.str _, H, I.tok _, ⟨_, rfl⟩, q⟩
@[reducible] def gMul : D → D → List O → Rs D := fun a b m => match a, b with
  | .int i, .int j => if cMul i j = true then .ok (.int (i * j)) m else .stk
  | .str z, .int i => if z.length ≤ 16 ∧ 0 ≤ i ∧ i ≤ 1048576 then .ok (.str (Txt.mul z i)) m else .stk
  | .tup xs, .int i => if xs ≠ [] ∧ 2 ≤ i ∧ i ≤ 1000 ∧ xs.length ≤ 1000 then .ok (.tup (List.replicate i.toNat xs).flatten) m else .stk
  | .lst xs, .int i => if i < 1000000 ∧ -1000000 < i ∧ xs.length * i.toNat ≤ 16777216 then .ok (.lst (List.replicate i.toNat xs).flatten) m else .stk
  | _, _ => .stk
theorem RelDs.rep {w : Wo} {ds : List D} {vs : List V} (r : RelDs T w ds vs) : ∀ n : Nat, RelDs T w (List.replicate n ds).flatten (List.replicate n vs).flatten
  | 0 => .nil
  | n + 1 => by
    rw [List.replicate_succ, List.replicate_succ, List.flatten_cons, List.flatten_cons]
    exact r.append (RelDs.rep r n)
theorem v_mulA (ha : PE X a (rd (tx X) W f)) (hb : PE X b (rd (tx X) W g)) : PE X (.BinOp a .Mult b pos) (rd (tx X) W (fBin gMul f g)) := by
  refine v_bin (OpR.or (OpR.or (OpR.or op_mul op_mulStr) op_repT) op_rep) (fun W w d e v u Q ok r1 r2 h => ?_) ha hb
  unfold gMul at h
  split at h
  · split at h
    · rename_i q
      simp only [RelD] at r1 r2; subst r1 r2
      exact .inl (.inl (.inl ⟨_, _, rfl, rfl, by simpa [cMul, CMul] using q, h.now ok (by simp only [RelD])⟩))
    · exact h.elim
  · split at h
    · rename_i q
      simp only [RelD] at r1 r2; subst r1 r2
      exact .inl (.inl (.inr ⟨_, _, rfl, rfl, q.1, q.2.1, q.2.2, h.now ok (by simp only [RelD])⟩))
    · exact h.elim
  · split at h
    · rename_i xs i q
      simp only [RelD] at r1 r2; subst r2
      obtain ⟨p, vs, rfl, q1, q2⟩ := r1
      exact .inl (.inr ⟨p, i, vs, rfl, rfl, q1, fun e => q.1 (q2.emp.mp e), q.2.1, q.2.2.1, by rw [q2.length]; exact q.2.2.2, new_tup ok (q2.rep _) h⟩)
    · exact h.elim
  · split at h
    · rename_i xs i q
      simp only [RelD] at r1 r2; subst r2
      obtain ⟨p, vs, rfl, q1, _, q2⟩ := r1
      exact .inr ⟨p, i, vs, rfl, rfl, q1, by omega, by omega, by rw [q2.length, sizeLine_eq]; exact q.2.2, new_lst ok (q2.rep _) h⟩
    · exact h.elim
  · exact h.elim

/-! ### what is walked: a list, a tuple, a text -/
@[reducible] def chD (x : Str) : List D := x.cps.toList.map fun c => .str ⟨#[c]⟩
@[reducible] def iAll (f : FE) : FI := fun r m => (f r m).bind fun d m => match d with
  | .lst xs => .ok xs m
  | .tup xs => .ok xs m
  | .str x => .ok (chD x) m
  | _ => .stk
theorem iter_str {w0 : Wo} {x : Str} : IterOk T (Its x) w0 (chD x) := by
  intro w ex ok
  unfold chD
  refine ⟨fun n d hd => ?_, fun n hn => ?_⟩
  · rw [List.getElem?_map] at hd
    cases e : x.cps.toList[n]? with
    | none => rw [e] at hd; cases hd
    | some c =>
      rw [e] at hd
      cases hd
      have e' : x.cps[n]? = some c := by simpa using e
      have hl := (Array.getElem?_eq_some_iff.mp e').1
      refine ⟨?_, fun v H' y => ?_⟩
      · first | exact ⟨c, e'⟩ | exact hl | (show n < x.length; exact hl)
      · obtain ⟨y1, y2⟩ := y
        refine yld_same ok y1 ?_
        simp only [RelD]
        first | (obtain ⟨c', h1, h2⟩ := y2; rw [e'] at h1; cases h1; exact h2) | (rw [e'] at y2; simpa using y2) | simpa [e'] using y2
  · have hl : x.cps.size ≤ n := by simpa using hn
    first | exact hl | (show x.length ≤ n; exact hl)
theorem i_all (he : PE X e (rd (tx X) W f)) : PI X tg e (rdI (tx X) W (iAll f)) := by
  refine pi_imp (pi_or (pi_or (pi_list he) (pi_tup he)) (pi_str he)) ?_
  rintro σ H R ⟨w, l, rfl, ok, re, h⟩
  cases e1 : f l w.mu with
  | stk => rw [iAll, e1] at h; exact h.elim
  | ex c m =>
    rw [iAll, e1] at h
    exact .inl (.inl ⟨w, l, rfl, ok, re, by rw [e1]; exact h⟩)
  | ok d m =>
    rw [iAll, e1] at h
    simp only [Rs.bind] at h
    cases d with
    | lst xs =>
      refine .inl (.inl ⟨w, l, rfl, ok, re, ?_⟩)
      rw [e1]
      intro w1 v ex ok1 hm r1
      simp only [RelD] at r1
      obtain ⟨p, vs, rfl, q1, q2, q3⟩ := r1
      exact ⟨p, rfl, ⟨vs, SqL.of q1⟩, h w1 _ ex ok1 hm (iter_lst ok1 q1 q2 q3)⟩
    | tup xs =>
      refine .inl (.inr ⟨w, l, rfl, ok, re, ?_⟩)
      rw [e1]
      intro w1 v ex ok1 hm r1
      simp only [RelD] at r1
      obtain ⟨p, vs, rfl, q1, q3⟩ := r1
      exact ⟨p, rfl, ⟨vs, q1⟩, h w1 _ ex ok1 hm (iter_tup ok1 q1 q3)⟩
    | str x =>
      refine .inr ⟨w, l, rfl, ok, re, ?_⟩
      rw [e1]
      intro w1 v ex ok1 hm r1
      simp only [RelD] at r1
      subst r1
      exact ⟨x, rfl, h w1 _ ex ok1 hm iter_str⟩
    | _ => exact h.elim

/-! ### targets, short -/
theorem g_nm {i : Nat} {x : Str} (nd : X.N.Nodup) (hi : X.N[i]? = some x := by rfl) (hx : Loc X.env.scope x := by first | exact .inl rfl | exact .inr rfl) (hf : X.fn x = true ∨ X.env.scope.names.lookup x = some .local := by first | exact .inl rfl | exact .inr rfl) : PG X (.Name x pos) (gOf X.K (.nm i)) := pg_name nd hi hx hf
theorem gs_nil : PGs X [] (gNames []) := pgs_nil
theorem gs_cons {i : Nat} {is : List Nat} (h : PG X e (gOf X.K (.nm i))) (r : PGs X es (gNames is)) (hs : (assignEach (e :: es) X.env).map (·.2) = assign e X.env :: (assignEach es X.env).map (·.2) := by rfl) : PGs X (e :: es) (gNames (i :: is)) := pgs_cons h r hs
theorem g_tp {k : Nat} {is : List Nat} (hc : X.calm = true) (h : PGs X es (gNames is)) (hn : (assignEach es X.env).length = is.length := by rfl) (hst : (assignEach es X.env).findIdx? (·.1) = none := by rfl) : PG X (.Tuple es k pos) (gOf X.K (.tp is)) := pg_or (pg_tup hc h hn hst) (pg_unl hc h hn hst)
/-! ### zip of two tuples, two lists -/
@[reducible] def zipD (xs ys : List D) : List D := List.zipWith (fun a b => D.tup [a, b]) xs ys
@[reducible] def iZip (fa : FA) : FI := fun r m => (fa r m).bind fun ds m => match ds with
  | [.tup xs, .tup ys] => .ok (zipD xs ys) m
  | [.lst xs, .lst ys] => .ok (zipD xs ys) m
  | _ => .stk
theorem zipD_get {xs ys : List D} {i : Nat} {d : D} (h : (zipD xs ys)[i]? = some d) : ∃ a b, xs[i]? = some a ∧ ys[i]? = some b ∧ d = .tup [a, b] := by
  unfold zipD at h
  rw [List.getElem?_zipWith] at h
  cases ea : xs[i]? with
  | none => rw [ea] at h; simp at h
  | some a =>
    cases eb : ys[i]? with
    | none => rw [ea, eb] at h; simp at h
    | some b =>
      rw [ea, eb] at h
      simp at h
      exact ⟨a, b, rfl, rfl, h.symm⟩
theorem pair_ok {w : Wo} {t : Addr} {x y : V} {a b : D} (ok : Ok T w) (ht : w.H t = none) (ra : RelD T w a x) (rb : RelD T w b y) : ∃ w', Ex w w' ∧ Ok T w' ∧ w'.mu = w.mu ∧ w'.H = upd w.H t (.tup [x, y]) ∧ RelD T w' (.tup [a, b]) (.ref t) := by
  have e := lay_ex (o := .tup [x, y]) ok ht
  refine ⟨w.lay t (.tup [x, y]), e, lay_ok ok ht, rfl, rfl, ?_⟩
  simp only [RelD]
  exact ⟨t, [x, y], rfl, .inl (.inl upd_same), .cons (ra.ex ok e.toEx0) (.cons (rb.ex ok e.toEx0) .nil)⟩
theorem iter_zipT {w0 : Wo} {p q : Addr} {vs us : List V} {xs ys : List D} (ok0 : Ok T w0) (hp : SqT T.K w0.H p vs) (hq : SqT T.K w0.H q us) (rx : RelDs T w0 xs vs) (ry : RelDs T w0 ys us) : IterOk T (RZ.ItzT T.K p q) w0 (zipD xs ys) := by
  intro w ex ok
  have hp := SqT.ex ok0 ex hp
  have hq := SqT.ex ok0 ex hq
  have rx := rx.ex ok0 ex
  have ry := ry.ex ok0 ex
  refine ⟨fun i d hd => ?_, fun i hi => ⟨vs, us, hp, hq, ?_⟩⟩
  · obtain ⟨a, b, ea, eb, rfl⟩ := zipD_get hd
    obtain ⟨v, hv, rv⟩ := rx.get ea
    obtain ⟨u, hu, ru⟩ := ry.get eb
    refine ⟨⟨vs, us, v, u, hp, hq, hv, hu⟩, fun x H' y => ?_⟩
    obtain ⟨t, x', y', rfl, ht, rfl, f1, f2⟩ := y
    have g1 := f1 vs hp
    have g2 := f2 us hq
    rw [hv] at g1; cases g1
    rw [hu] at g2; cases g2
    exact pair_ok ok ht rv ru
  · rw [rx.length, ry.length]
    simp [zipD] at hi
    omega
theorem iter_zipL {w0 : Wo} {p q : Addr} {vs us : List V} {xs ys : List D} (ok0 : Ok T w0) (hp : w0.H p = some (.lst vs)) (np : ¬ Live w0 p) (hq : w0.H q = some (.lst us)) (nq : ¬ Live w0 q) (rx : RelDs T w0 xs vs) (ry : RelDs T w0 ys us) : IterOk T (Itz T.K p q) w0 (zipD xs ys) := by
  intro w ex ok
  have hp : SqL T.K w.H p vs := SqL.of (ex.keep p (.lst vs) hp np)
  have hq : SqL T.K w.H q us := SqL.of (ex.keep q (.lst us) hq nq)
  have rx := rx.ex ok0 ex
  have ry := ry.ex ok0 ex
  refine ⟨fun i d hd => ?_, fun i hi => ⟨vs, us, hp, hq, ?_⟩⟩
  · obtain ⟨a, b, ea, eb, rfl⟩ := zipD_get hd
    obtain ⟨v, hv, rv⟩ := rx.get ea
    obtain ⟨u, hu, ru⟩ := ry.get eb
    refine ⟨⟨vs, us, v, u, hp, hq, hv, hu⟩, fun x H' y => ?_⟩
    obtain ⟨t, x', y', rfl, ht, rfl, f1, f2⟩ := y
    have g1 := f1 vs hp
    have g2 := f2 us hq
    rw [hv] at g1; cases g1
    rw [hu] at g2; cases g2
    exact pair_ok ok ht rv ru
  · rw [rx.length, ry.length]
    simp [zipD] at hi
    omega
theorem i_zip {p tpos : Pos} {elts : List Expr} {kk : Nat} (hm : X.mg "zip" = none) (ha : PA X [a, b] (rdA (tx X) W fa)) (hg : Gl X "zip" := by rfl) (hs : starEach [a, b] X.env = (false, eval a X.env) :: starEach [b] X.env := by rfl) (hpl : (backTo pos (starEach [b] X.env)).any (·.1) = false := by rfl) :
    PI X (.Tuple elts kk tpos) (.Call (.Name "zip" p) [a, b] [] pos) (rdI (tx X) W (iZip fa)) := by
  refine pi_imp (RZ.pi_zipA hg hm ha hs hpl) ?_
  rintro σ H R ⟨w, l, rfl, ok, re, h⟩
  refine go_i (fi := fa) ok re h fun ds w1 vs e1 ok1 re1 r1 h1 => ?_
  split at h1
  · rename_i j m hq
    split at hq
    · cases hq
      replace r1 := r1.two
      obtain ⟨v, u, rfl, r1, r2⟩ := r1
      simp only [RelD] at r1 r2
      obtain ⟨p1, vs, rfl, a1, a2⟩ := r1
      obtain ⟨p2, us, rfl, b1, b2⟩ := r2
      exact ⟨p1, p2, vs, us, rfl, .inr ⟨a1, b1, h1 w1 _ .rfl' ok1 rfl (iter_zipT ok1 a1 b1 a2 b2)⟩⟩
    · cases hq
      replace r1 := r1.two
      obtain ⟨v, u, rfl, r1, r2⟩ := r1
      simp only [RelD] at r1 r2
      obtain ⟨p1, vs, rfl, a1, a2, a3⟩ := r1
      obtain ⟨p2, us, rfl, b1, b2, b3⟩ := r2
      exact ⟨p1, p2, vs, us, rfl, .inl ⟨SqL.of a1, SqL.of b1, h1 w1 _ .rfl' ok1 rfl (iter_zipL ok1 a1 a2 b1 b2 a3 b3)⟩⟩
    · cases hq
  · rename_i hq
    split at hq
    · cases hq
    · cases hq
    · cases hq
  · exact h1.elim
/-! ### what a walk may leave unread: nothing is promised there -/
theorem s_stk : PS X st0 (rdS (tx X) W fun _ _ => .stk) := ⟨fun pins s σ H D I ⟨w, r, _, _, _, h⟩ => h.elim⟩
theorem v_stk : PE X e (rd (tx X) W fun _ _ => .stk) := ⟨fun pins s σ H Q I ⟨w, r, _, _, _, h⟩ => h.elim⟩
/-! ### list.index -/
@[reducible] def fIdx (fo f : FE) : FE := fun r m => (fo r m).bind fun o m => match derefL o m with
  | none => .stk
  | some _ => (f r m).bind fun d m => match derefL o m with
    | some xs => if (flatD d && xs.all flatD) = true then match xs.findIdx? (fun y => eqF y d) with
      | some j => .ok (.int (j : Nat)) m
      | none => .stk
      else .stk
    | none => .stk
theorem v_idx {apos cpos : Pos} {fo : FE} (ho : PE X o (rd (tx X) W fo)) (ha : PE X e (rd (tx X) W f))
    (hbase : attributeBase o "index" X.env (eval o X.env) = eval o X.env := by rfl)
    (hfew : ((backTo cpos (starEach [e] X.env)).all (fun x => !x.1) && (backToKw cpos (keywordEach [] X.env)).all (fun x => x.1.isSome)
      && decide (([e] : List Expr).length + ([] : List Keyword).length + (if ([] : List Keyword).isEmpty then 0 else 1) < 30)) = true := by rfl)
    (hline : (apos.endLine == cpos.line) = true := by rfl) (hs : starEach [e] X.env = (false, eval e X.env) :: starEach [] X.env := by rfl) (hplain : (backTo cpos (starEach [] X.env)).any (·.1) = false := by rfl) :
    PE X (.Call (.Attribute o "index" apos) [e] [] cpos) (rd (tx X) W (fIdx fo f)) := by
  refine pe_imp (pe_bm PySem.F.plainAttrs_list PySem.F.slot_list_index PySem.F.type_list_index mt_index ho (a_cons ha a_nil (hs := hs)) hbase hfew hline hs hplain) ?_
  rintro σ H Q ⟨w, l, rfl, ok, re, h⟩
  refine go_e ok re h fun d w1 v e1 ok1 re1 r1 h1 => ?_
  split at h1
  · exact h1.elim
  · rename_i xs0 hx0
    refine ⟨tyV_lst ok1 r1 hx0, ?_⟩
    have h1' : Post (tx X) (RelD (tx X)) (wx (tx X) W σ) w1 (((aCons f aNil) l w1.mu).bind fun ds m => match ds with
      | [d'] => (match derefL d m with
        | some xs => if (flatD d' && xs.all flatD) = true then match xs.findIdx? (fun y => eqF y d') with
          | some j => .ok (.int (j : Nat)) m
          | none => .stk
          else .stk
        | none => .stk)
      | _ => .stk) Q := by
      cases ef : f l w1.mu with
      | stk => rw [ef] at h1; exact h1.elim
      | ex c mm => rw [ef] at h1; simp only [aCons, ef, Rs.bind] at h1 ⊢; exact h1
      | ok a mm => rw [ef] at h1; simp only [aCons, aNil, ef, Rs.bind] at h1 ⊢; exact h1
    refine go_a ok1 re1 h1' fun ds w2 vs e2 ok2 re2 r2 h2 => ?_
    split at h2
    · rename_i d'
      split at h2
      · rename_i xs hx
        split at h2
        · rename_i hfl
          split at h2
          · rename_i j hj
            rw [Bool.and_eq_true] at hfl
            replace r2 := r2.one
            obtain ⟨u, rfl, r2⟩ := r2
            obtain ⟨q, zs, rfl, hz, rzs⟩ := derefL_ok ok2 (r1.ex ok1 e2.toEx0) hx
            obtain ⟨hlt, hz1, hz2⟩ := List.findIdx?_eq_some_iff_getElem.mp hj
            obtain ⟨i1, _⟩ := inV_val r2 hfl.1 rzs hfl.2
            have hgd : xs[j]? = some xs[j] := List.getElem?_eq_getElem hlt
            obtain ⟨z, hzz, rz⟩ := rzs.get hgd
            have fl : ∀ y ∈ xs, flatD y = true := fun y hy => List.all_eq_true.mp hfl.2 y hy
            refine ⟨q, zs, u, j, z, rfl, rfl, SqL.of hz, flat_val r2 hfl.1, i1, hzz, ?_, fun k z' hk hz' => ?_, h2.now ok2 (by simp only [RelD])⟩
            · rw [← eqF_val rz r2 (fl _ (List.getElem_mem hlt)) hfl.1]; exact hz1
            · have hkl : k < xs.length := by omega
              have hgk : xs[k]? = some xs[k] := List.getElem?_eq_getElem hkl
              obtain ⟨z2, hz2', rz2⟩ := rzs.get hgk
              rw [hz'] at hz2'
              cases hz2'
              rw [← eqF_val rz2 r2 (fl _ (List.getElem_mem hkl)) hfl.1]
              simpa using hz2 k hk
          · exact h2.elim
        · exact h2.elim
      · exact h2.elim
    · exact h2.elim
/-! ### a list of the store told as a value from here on -/
@[reducible] def sFroz (i : Nat) (f : FS) : FS := fun r m => match r[i]? with
  | some (some (.loc n)) => (match m[n]? with
    | some (.lst xs) => f (r.set i (some (.lst xs))) (m.set n .dead)
    | _ => .stk)
  | _ => .stk
theorem s_froz {i : Nat} (h : PS X st0 (rdS (tx X) W m)) : PS X st0 (rdS (tx X) W (sFroz i m)) := by
  refine ps_imp h ?_
  rintro E s H ⟨w, r, rfl, ok, re, q⟩
  unfold sFroz at q
  split at q
  · rename_i n hn
    split at q
    · rename_i xs hm
      obtain ⟨v, hv, rv⟩ := re.2 i _ hn
      simp only [RelD] at rv
      obtain ⟨a, rfl, hb⟩ := rv
      obtain ⟨vs, h1, h2⟩ := ok.obj _ _ _ hm hb
      have kx : Ex w (w.kill n) := kill_ex
      have re1 := re.ex ok kx.toEx0
      refine ⟨w.kill n, r.set i (some (.lst xs)), rfl, kill_ok ok, ⟨by rw [List.length_set]; exact re1.1, fun j d hj => ?_⟩, PostS.ex q kx⟩
      by_cases e : j = i
      · subst e
        rw [List.getElem?_set] at hj
        by_cases hl : j < r.length
        · simp [hl] at hj
          subst hj
          exact ⟨_, hv, by simp only [RelD]; exact ⟨a, vs, rfl, h1, kill_dead ok hb, h2.ex ok kx.toEx0⟩⟩
        · simp [hl] at hj
      · rw [List.getElem?_set_ne (Ne.symm e)] at hj
        exact re1.2 j d hj
    · exact q.elim
  · exact q.elim
end FR
set_option Elab.async false
set_option linter.all false
set_option maxRecDepth 100000
set_option maxHeartbeats 4000000
/-! ## The head: constants, more facts, the end -/
namespace FR
open PySem PySem.Spec L2
set_option autoImplicit false
mutual
def okD (K : PySem.W.Frag) : D → Value → Bool
  | .non, .none => true
  | .bl b, .bool c => b == c
  | .int i, .int j _ => decide (i = j)
  | .str x, .str y _ => decide (x = y)
  | .tup ds, .ref a => (match K.lookup a with
    | some ob => (match ob.cls, ob.data with
      | .type c, .seq its _ => (decide (c = "tuple") && decide (its.size ≤ sizeLine)) && okDs K ds its.toList
      | _, _ => false)
    | none => false)
  | _, _ => false
def okDs (K : PySem.W.Frag) : List D → List Value → Bool
  | [], us => us.isEmpty
  | d :: ds, us => (match us with
    | u :: us => okD K d u && okDs K ds us
    | [] => false)
end
theorem ands {a b : Bool} (h : (a && b) = true) : a = true ∧ b = true := Bool.and_eq_true_iff.mp h
mutual
theorem okD_rel {T : Tx} : ∀ (d : D) (u : Value), okD T.K d u = true → ∃ v, RelV v u ∧ ∀ w, RelD T w d v
  | .non, u, h => by
    cases u <;> first | exact ⟨.non, rfl, fun w => rfl⟩ | (simp [okD] at h)
  | .bl b, u, h => by
    cases u with
    | bool c =>
      have e : b = c := by simpa [okD] using h
      subst e
      exact ⟨.bl b, rfl, fun w => rfl⟩
    | _ => simp [okD] at h
  | .int i, u, h => by
    cases u with
    | int j t =>
      have e : i = j := by simpa [okD] using h
      subst e
      exact ⟨.int i, ⟨t, rfl⟩, fun w => rfl⟩
    | _ => simp [okD] at h
  | .str x, u, h => by
    cases u with
    | str y t =>
      have e : x = y := by simpa [okD] using h
      subst e
      exact ⟨.str x, ⟨t, rfl⟩, fun w => rfl⟩
    | _ => simp [okD] at h
  | .tup ds, u, h => by
    cases u with
    | ref a =>
      unfold okD at h
      cases e : T.K.lookup a with
      | none => rw [e] at h; cases h
      | some ob =>
        rw [e] at h
        obtain ⟨oc, od, dt, sl⟩ := ob
        cases oc with
        | type c =>
          cases dt with
          | seq its n =>
            obtain ⟨h1, h2⟩ := ands (show ((decide (c = "tuple") && decide (its.size ≤ sizeLine)) && okDs T.K ds its.toList) = true from h)
            obtain ⟨h3, h4⟩ := ands h1
            obtain ⟨vs, r, q⟩ := okDs_rel ds its.toList h2
            exact ⟨.ref a, rfl, fun w => ⟨a, vs, rfl, .inr ⟨_, its, n, e, congrArg Value.type (of_decide_eq_true h3), rfl, of_decide_eq_true h4, r⟩, q w⟩⟩
          | _ => cases h
        | _ => cases h
    | _ => simp [okD] at h
  | .ty n, u, h => by simp [okD] at h
  | .lst ds, u, h => by simp [okD] at h
  | .dct a b, u, h => by simp [okD] at h
  | .ins a b c, u, h => by simp [okD] at h
  | .loc a, u, h => by simp [okD] at h
  | .glo a, u, h => by simp [okD] at h
  | .scr a, u, h => by simp [okD] at h
  | .exc a, u, h => by simp [okD] at h
theorem okDs_rel {T : Tx} : ∀ (ds : List D) (us : List Value), okDs T.K ds us = true → ∃ vs, Vals vs us ∧ ∀ w, RelDs T w ds vs
  | [], us, h => by
    cases us with
    | nil => exact ⟨[], .nil, fun w => rfl⟩
    | cons _ _ => simp [okDs] at h
  | d :: ds, us, h => by
    cases us with
    | nil => simp [okDs] at h
    | cons u us =>
      unfold okDs at h
      obtain ⟨h1, h2⟩ := ands h
      obtain ⟨v, r, q⟩ := okD_rel d u h1
      obtain ⟨vs, rs, qs⟩ := okDs_rel ds us h2
      exact ⟨v :: vs, .cons r rs, fun w => ⟨v, vs, rfl, q w, qs w⟩⟩
end
/-- more facts of the written part -/
inductive Fx where
  | con (x : Str) (d : D)
  | xc (x : Str)
  | kit (x y : Str) (b : Bool)
  | kitT (x : Str) (n : String) (b : Bool)
  | kitF (n : String) (x : Str) (b : Bool)
  | nsub (n : String) (x : Str)
  | ic (x : Str)
def sameO (a b : Option (Option Value)) : Bool := decide (a = b)
def sameB (a : Option Bool) (b : Bool) : Bool := match a with
  | some c => c == b
  | none => false
theorem sameB_ok {a : Option Bool} {b : Bool} (h : sameB a b = true) : a = some b := by
  cases a with
  | none => cases h
  | some c => have e : c = b := by simpa [sameB] using h
              rw [e]
def conB (K : PySem.W.Frag) (x : Str) (d : D) : Bool := match PySem.W.nsIn K mainGlobals x with
  | some (some u) => okD K d u
  | _ => false
def xcB (K : PySem.W.Frag) (D : Addr) : Bool := (sameO (PySem.W.findIn K (.ref D) "__getattribute__") (some (some (.builtin "BaseException.__getattribute__"))) && sameO (PySem.W.findIn K (.ref D) "__getattr__") (some none)) &&
    ((sameB (PySem.W.subIn K (.ref D) (.type "BaseException")) true && PySem.W.hasDictIn K D) &&
    ((sameO (PySem.W.findIn K (.ref D) "__class__") (some (some (.builtin "object.__class__"))) && sameO (PySem.W.specialIn K (.builtin "object.__class__") "__get__") (some (some (.builtin "getset_descriptor.__get__")))) &&
    (sameB (PySem.W.takesIn K (.builtin "object.__class__")) true && sameB (PySem.W.mroIn K D (.type "object")) true)))
def icB (K : PySem.W.Frag) (D : Addr) : Bool :=
  (sameO (PySem.W.findIn K (.ref D) "__class__") (some (some (.builtin "object.__class__"))) && sameO (PySem.W.specialIn K (.builtin "object.__class__") "__get__") (some (some (.builtin "getset_descriptor.__get__")))) &&
    (sameB (PySem.W.takesIn K (.builtin "object.__class__")) true && sameB (PySem.W.mroIn K D (.type "object")) true)
/-- what isinstance asks of an own class -/
structure IcG (T : Tx) (C : Addr) : Prop where
  ha : PySem.W.findIn T.K (.ref C) "__class__" = some (some (.builtin "object.__class__"))
  hn : PySem.W.specialIn T.K (.builtin "object.__class__") "__get__" = some (some (.builtin "getset_descriptor.__get__"))
  ht : PySem.W.takesIn T.K (.builtin "object.__class__") = some true
  hm : PySem.W.mroIn T.K C (.type "object") = some true
def Fx.ok (K : PySem.W.Frag) : Fx → Bool
  | .con x d => conB K x d
  | .xc x => xcB K (He.ga K x)
  | .kit x y b => sameB (PySem.W.kitOne K (.ref (He.ga K x)) (.ref (He.ga K y))) b
  | .kitT x n b => sameB (PySem.W.kitOne K (.ref (He.ga K x)) (.type n)) b
  | .kitF n x b => sameB (PySem.W.kitOne K (.type n) (.ref (He.ga K x))) b
  | .nsub n x => sameB (PySem.W.subIn K (.type n) (.ref (He.ga K x))) false
  | .ic x => icB K (He.ga K x)
section
variable {T : Tx} {h : Heap}
theorem con_ok (X : T.K.In h) (G : h.Ns mainGlobals T.mg) {x : Str} {d : D} (c : (Fx.con x d).ok T.K = true) : GV T x d := by
  have c : conB T.K x d = true := c
  unfold conB at c
  cases e : PySem.W.nsIn T.K mainGlobals x with
  | none => rw [e] at c; cases c
  | some o =>
    cases o with
    | none => rw [e] at c; cases c
    | some u =>
      rw [e] at c
      obtain ⟨v, r, q⟩ := okD_rel d u c
      exact ⟨u, v, PySem.W.mg_of X G e, r, q⟩
theorem xc_ok {x : Str} (c : (Fx.xc x).ok T.K = true) : ExcC T.K (He.ga T.K x) := by
  have c : xcB T.K (He.ga T.K x) = true := c
  unfold xcB at c
  obtain ⟨c1, c⟩ := ands c
  obtain ⟨c2, c⟩ := ands c
  obtain ⟨c3, c4⟩ := ands c
  exact ⟨of_decide_eq_true (ands c1).1, of_decide_eq_true (ands c1).2, sameB_ok (ands c2).1, (ands c2).2, of_decide_eq_true (ands c3).1, of_decide_eq_true (ands c3).2, sameB_ok (ands c4).1, sameB_ok (ands c4).2⟩
theorem kit_ok {x y : Str} {b : Bool} (c : (Fx.kit x y b).ok T.K = true) : PySem.W.kitOne T.K (.ref (He.ga T.K x)) (.ref (He.ga T.K y)) = some b := sameB_ok c
theorem kitT_ok {x : Str} {n : String} {b : Bool} (c : (Fx.kitT x n b).ok T.K = true) : PySem.W.kitOne T.K (.ref (He.ga T.K x)) (.type n) = some b := sameB_ok c
theorem kitF_ok {x : Str} {n : String} {b : Bool} (c : (Fx.kitF n x b).ok T.K = true) : PySem.W.kitOne T.K (.type n) (.ref (He.ga T.K x)) = some b := sameB_ok c
theorem nsub_ok {x : Str} {n : String} (c : (Fx.nsub n x).ok T.K = true) : PySem.W.subIn T.K (.type n) (.ref (He.ga T.K x)) = some false := sameB_ok c
theorem ic_ok {x : Str} (c : (Fx.ic x).ok T.K = true) : IcG T (He.ga T.K x) := by
  have c : icB T.K (He.ga T.K x) = true := c
  unfold icB at c
  obtain ⟨c1, c2⟩ := ands c
  exact ⟨of_decide_eq_true (ands c1).1, of_decide_eq_true (ands c1).2, sameB_ok (ands c2).1, sameB_ok (ands c2).2⟩
theorem clg_ok (X : T.K.In h) (G : h.Ns mainGlobals T.mg) {x : Str} (g : (He.Fa.glo x).ok T.K = true) (c : (He.Fa.cls x).ok T.K = true) : ClG T x (He.ga T.K x) := ⟨He.glo_ok X G g, He.cls_ok c⟩
theorem exok_ok (X : T.K.In h) (G : h.Ns mainGlobals T.mg) {x : Str} (g : (He.Fa.glo x).ok T.K = true) (c : (He.Fa.exc x).ok T.K = true) : ExOk T x (He.ga T.K x) := by
  obtain ⟨a, b, d, e⟩ := He.exc_ok c
  exact ⟨He.glo_ok X G g, a, b, d, e⟩
theorem exat_ok (X : T.K.In h) (G : h.Ns mainGlobals T.mg) {x : Str} (g : (He.Fa.glo x).ok T.K = true) (c : (He.Fa.exm x x true).ok T.K = true) : ExAt T x (He.ga T.K x) := ⟨He.glo_ok X G g, He.exm_ok c⟩
end
theorem funOf {K : PySem.W.Frag} {x q : Str} {st : Stmt} {f : Addr} {fd : FuncData} (F : FunD K x q (defArgs st) (defBody st) (defScope st) [] [] f fd) : L2.Fun K x q st f fd := by
  obtain ⟨oc, od, dV, kV, doc, pm, an, cdv, ct, osl, e, l, c, hd, hk⟩ := F.ex
  have z : dV = .none := by
    rcases hd with ⟨_, z⟩ | ⟨z, _⟩
    · exact z
    · exact absurd rfl z
  subst z
  exact ⟨⟨oc, od, kV, doc, pm, an, cdv, ct, osl, e, l, c⟩, F.kp⟩
theorem binds_one {K : PySem.W.Frag} {x q : Str} {st : Stmt} {f : Addr} {fd : FuncData} (F : L2.Fun K x q st f fd)
    (h : ∀ (kV doc pm : Value) (an : Option Addr) (cdv ct : Value) (u : Value), bindArgs (PySem.W.fnOf x q (defArgs st) (defBody st) (defScope st) .none kV doc pm an cdv ct) ⟨[u], []⟩ = pure [(("script" : Str), u)]) (s : Shared) (u : Value) : BindsTo s fd ⟨[u], []⟩ [("script", u)] := by
  obtain ⟨oc, od, kV, doc, pm, an, cdv, ct, osl, e, _, _⟩ := F.ex
  subst e
  exact .of_eq (h kV doc pm an cdv ct u)
/-! ### the Hook -/
def hookY (n : Nat) (fa : List He.Fa) (fn : List He.DefD) (xs : List Fx) : PySem.W.Hook where
  α := He.AlD × Bool
  obs := fun s => (He.obsD fa fn (He.frG s.heap.get? (He.asD s.heap.get? n)), xs.all fun z => z.ok (He.frG s.heap.get? (He.asD s.heap.get? n)))
  val := fun _ => (He.valD fn, true)
  says := fun _ h => ∃ K : PySem.W.Frag, K.In h ∧ He.SaysD fa fn K ∧ (xs.all fun z => z.ok K) = true
  of := fun _ _ e => ⟨_, He.frG_in, congrArg (fun z : He.AlD × Bool => z.1) e, congrArg (fun z : He.AlD × Bool => z.2) e⟩
  keeps := fun _ _ _ ⟨K, hK, c⟩ k => ⟨K, PySem.W.Frag.In.keeps hK k, c⟩
def obY (n : Nat) (fa : List He.Fa) (fn : List He.DefD) (xs : List Fx) (s : PySem.W.SharedT) : He.AlD × Bool :=
  (He.obsD fa fn (He.frG (HandSHeadRun.getT s) (He.asD (HandSHeadRun.getT s) n)), xs.all fun z => z.ok (He.frG (HandSHeadRun.getT s) (He.asD (HandSHeadRun.getT s) n)))
theorem obY_eq {n : Nat} {fa : List He.Fa} {fn : List He.DefD} {xs : List Fx} (s : PySem.W.SharedT) : obY n fa fn xs s = (hookY n fa fn xs).obs s.abs := by
  have e : HandSHeadRun.getT s = s.abs.heap.get? := funext (HandSHeadRun.getT_eq s)
  unfold obY
  rw [e]
  rfl
/-! ### the end -/
theorem law_fin {l : PySem.W.OpenLaw} {k : Nat} {q : Program} {loose : List Str} {XP : (Str → Option Value) → Heap → Prop} {YP : World → Heap → Prop} {d : DefRec} {o : List D → List O → Rs D}
    (hn : l.most = some 63) (hdf : d.params.defaults = []) (hr : Room k callerA) (ho : ∀ ns : List Int, ns.length ≤ 63 → ∃ m, o [.scr ns] [] = .ok (.bl true) m)
    (F : ∀ (w : World) (mg : Str → Option Value) (fa : Addr) (h : Heap), YP w h → h.Ns mainGlobals mg → mg d.name = some (.ref fa) →
      ∃ (K : PySem.W.Frag) (fd : FuncData), K.In h ∧ (∀ (s : Shared) (u : Value), BindsTo s fd ⟨[u], []⟩ [("script", u)]) ∧ ∀ base : Heap, K.In base → base.Ns mainGlobals mg → FnOk l.prog w K mg base (L2.CX l.prog w) k fa fd ["script"] (spF ⟨K, mg⟩ 1 o)) :
    PySem.W.WalkO q loose XP YP l.row.toRowW d [] (fun f vs => PySem.call f vs) := by
  apply Att.attach_call hn hdf
  intro w s0 sh mg mb fa ob pm cd doc a vs ns G Y g1 g2 g3 g4 g5 g6 g7 g8
  obtain ⟨K, fd, KX, hb, hF⟩ := F w mg fa _ Y G.T.g g4
  refine law_call (sp := spF ⟨K, mg⟩ 1 o) (k := k) (CX := L2.CX l.prog w) KX G.T.g G.T.b G.T.builtins G.T.nolimit g8 g5 g6 (Nat.le_trans g7 (by decide)) hr hF hb (fun H hO hS => ?_) fun H e s' hc => ?_
  · obtain ⟨m, hm⟩ := ho ns g7
    refine ⟨⟨[], [], fun _ => False, H⟩, [.scr ns], rfl, ⟨?_, ?_, rfl, List.nodup_nil, ?_, ?_⟩, ⟨_, _, rfl, ⟨a, rfl, ?_⟩, rfl⟩, rfl, ?_⟩
    · intro b hb; exact hb.elim
    · intro b hb; cases hb
    · intro b hb; cases hb
    · intro n oo b hb; simp at hb
    · rcases hS with hR | hK
      · left
        rcases hO a with z | ⟨o1, xs, z⟩
        · rcases hR with z2 | ⟨o2, z2⟩
          · rw [z] at z2; cases z2
          · rw [z] at z2; cases z2
        · rcases hR with z2 | ⟨o2, z2⟩
          · rw [z] at z2; cases z2
          · exact ⟨o2, z2⟩
      · exact .inr (.inr hK)
    · rw [hm]
      intro w' b _ _ _ hr'
      exact hr'
  · obtain ⟨a, B, H', cls, dd, _, _, _, _, _, _, _, hz⟩ := hc
    exact hz
end FR
set_option Elab.async false
set_option linter.all false
set_option maxRecDepth 100000
set_option maxHeartbeats 4000000
/-! ## while, places of places, own len and ==, texts' index -/
namespace FR
open PySem PySem.Spec L2
set_option autoImplicit false
variable {X : Cx} {T : Tx} {W : WX} {f g h : FE} {fa : FA} {ft gt : FT} {a b c e o tg iter : Expr} {es rest : List Expr} {pos : Pos} {k : Nat} {st0 : Stmt} {sts : List Stmt} {m m' : FS}

/-! ### while -/
@[reducible] def wTurn (k : FS) : Rt → Rt
  | .ok (.nx r) m => k r m
  | .ok (.ct r) m => k r m
  | .ok (.bk r) m => .ok (.nx r) m
  | x => x
def whileL (t : FT) (body : FS) : Nat → FS
  | 0 => fun _ _ => .stk
  | n + 1 => fun r m => (t r m).sq r fun z m => if z = true then wTurn (whileL t body n) (body r m) else .ok (.nx r) m
theorem s_while (N : Nat) {body : List Stmt} (hp : PassesOwn (model X.prog X.w) X.A X.env X.xe) (hc : PT X c (rdT (tx X) W ft)) (hb : PSs X body (rdS (tx X) W m)) : PS X (.While c body [] pos) (rdS (tx X) W (whileL ft m N)) := by
  refine ps_imp (ps_while hp hc hb) ?_
  rintro E s H ⟨w, r, rfl, ok, re, h⟩
  refine ⟨fun k s' H' => ∃ (w : Wo) (r : Lc), w.H = H' ∧ Ok (tx X) w ∧ RelE (tx X) w r s' ∧ PostS (tx X) W w (whileL ft m k r w.mu) E, ⟨N, w, r, rfl, ok, re, h⟩, ?_⟩
  rintro k s' H' ⟨w1, r1, rfl, ok1, re1, h1⟩
  cases k with
  | zero => exact h1.elim
  | succ k =>
    refine go_st ok1 re1 h1 fun z w2 x2 ok2 re2 h2 => ?_
    cases z with
    | false =>
      simp only [Bool.false_eq_true, if_false] at h2 ⊢
      exact h2.nxt ok2 re2
    | true =>
      simp only [if_true] at h2 ⊢
      refine ⟨fun s' H' => ∃ (w : Wo) (r : Lc), w.H = H' ∧ Ok (tx X) w ∧ RelE (tx X) w r s' ∧ PostS (tx X) W w (whileL ft m k r w.mu) E, fun s' H' q => ⟨k, Nat.lt_succ_self k, q⟩, w2, r1, rfl, ok2, re2, ?_⟩
      cases eb : m r1 w2.mu with
      | stk => rw [eb] at h2; exact h2
      | ex c r' mm => rw [eb] at h2; exact h2
      | ok fl mm =>
        rw [eb] at h2
        cases fl with
        | nx r3 => exact fun w3 s3 x3 ok3 hm3 re3 => by subst hm3; exact ⟨w3, r3, rfl, ok3, re3, PostS.ex h2 x3⟩
        | ct r3 => exact fun w3 s3 x3 ok3 hm3 re3 => by subst hm3; exact ⟨w3, r3, rfl, ok3, re3, PostS.ex h2 x3⟩
        | bk r3 => exact h2
        | rt d => exact h2

/-! ### o[i] op= e -/
theorem get_list : PGet X (fun o i H Q => ∃ p xs k z, o = .ref p ∧ i = .int k ∧ SqL X.K H p xs ∧ atI xs k = some z ∧ Q z H) := by
  intro pins s σ H o i ov iv Q I ro ri h
  obtain ⟨p, xs, i, z, rfl, rfl, hq, he, q⟩ := h
  cases ro
  obtain ⟨t, rfl⟩ := ri
  obtain ⟨its, r, pl, hz⟩ := I.list hq
  obtain ⟨j, h1, h2, h3, h4, h5⟩ := atI_get he
  obtain ⟨w, ew, rw'⟩ := r.get h2
  have hl := r.length
  have hn := line63
  have fin : EP X pins σ Q w s := ⟨z, H, I, rw', q⟩
  by_cases h0 : 0 ≤ i
  · have hj : i.toNat = j := by
      rw [seqIndex_of h0 h5] at h1
      exact Option.some.inj h1
    exact PySem.wpAny_getItem_list (Q := fun r s' => EP X pins σ Q r s') pl.isList h0 (by omega) (x := w) (by rw [hj]; simpa using ew) fin
  · have hj : (i + (its.toArray.size : Int)).toNat = j := by
      rw [seqIndex_neg (by omega) h4] at h1
      rw [List.size_toArray, ← hl]
      exact Option.some.inj h1
    exact PySem.wpAny_getItem_list_neg (Q := fun r s' => EP X pins σ Q r s') pl.isList (x := w) (by omega) (by rw [List.size_toArray] <;> omega) (by omega) (by rw [hj]; simpa using ew) fin
@[reducible] def gIxL : D → D → List O → Rs D := fun d i m => match i with
  | .int i => match derefL d m with
    | some xs => match atI xs i with
      | some x => .ok x m
      | none => .stk
    | none => .stk
  | _ => .stk
@[reducible] def sAugS (g : D → D → List O → Rs D) (fo fi f : FE) : FS := fun r m => (fo r m).sq r fun o m => (fi r m).sq r fun i m => (gIxL o i m).sq r fun x m => (f r m).sq r fun y m => (g x y m).sq r fun z m => match gPut o i z m with
  | some m => .ok (.nx r) m
  | none => .stk
theorem s_augAdd {i : Expr} {tpos : Pos} {fo fi : FE} (ho : PE X o (rd (tx X) W fo)) (hi : PE X i (rd (tx X) W fi)) (he : PE X e (rd (tx X) W f))
    (ha : ∀ ov iv new, augStore i ov iv new = (do holding [new, ov, iv] (setItem ov iv new); release [new, ov, iv] []; pure .next) := by intros; rfl) :
    PS X (.AugAssign (.Subscript o i tpos) .Add e pos) (rdS (tx X) W (sAugS (gI (fun _ _ => true) fun i j => .int (i + j)) fo fi f)) := by
  refine ps_imp (ps_augS ho hi get_list he ip_add set_list ha) ?_
  rintro E s H ⟨w, r, rfl, ok, re, h⟩
  refine go_s ok re h fun o w1 ov x1 ok1 re1 r1 h1 => ?_
  refine go_s ok1 re1 h1 fun i w2 iv x2 ok2 re2 r2 h2 => ?_
  cases eg : gIxL o i w2.mu with
  | stk => rw [eg] at h2; exact h2.elim
  | ex c mm =>
    exfalso
    unfold gIxL at eg
    split at eg
    · split at eg
      · split at eg <;> cases eg
      · cases eg
    · cases eg
  | ok x mm =>
  rw [eg] at h2
  have eg' := eg
  unfold gIxL at eg'
  split at eg'
  case h_2 => cases eg'
  rename_i kk
  split at eg'
  case h_2 => cases eg'
  rename_i xs hx
  split at eg'
  case h_2 => cases eg'
  rename_i x' hat
  cases eg'
  have r1' := r1.ex ok1 x2.toEx0
  obtain ⟨p, vs, rfl, hp, rvs⟩ := derefL_ok ok2 r1' hx
  obtain ⟨xv, hxv, rxv⟩ := atI_val rvs hat
  have r2c := r2
  simp only [RelD] at r2; subst r2
  refine ⟨p, vs, kk, xv, rfl, rfl, SqL.of hp, hxv, ?_⟩
  refine go_s ok2 re2 h2 fun y w3 yv x3 ok3 re3 r3 h3 => ?_
  have rx3 := rxv.ex ok2 x3.toEx0
  have ro3 := r1'.ex ok2 x3.toEx0
  cases x with
  | int i =>
    cases y with
    | int j =>
      simp only [RelD] at rx3 r3
      subst rx3 r3
      refine ⟨i, j, rfl, rfl, ?_⟩
      have h3' : PostS (tx X) W w3 (match gPut o (.int kk) (.int (i + j)) w3.mu with
        | some m => .ok (.nx r) m
        | none => .stk) E := h3
      split at h3'
      · rename_i mm hg
        unfold gPut at hg
        split at hg
        · rename_i n k2 hk2
          split at hg
          · rename_i ys hm
            split at hg
            · rename_i j2 hj2
              cases hg
              cases hk2
              simp only [RelD] at ro3
              obtain ⟨p', ep, hb⟩ := ro3
              cases ep
              obtain ⟨us, hv, rus⟩ := ok3.obj _ _ _ hm hb
              have rz : RelD (tx X) w3 (.int (i + j)) (.int (i + j)) := by simp only [RelD]
              obtain ⟨x4, ok4⟩ := put_lst ok3 hb hm (rus.set rz j2)
              exact ⟨p, us, kk, j2, rfl, rfl, hv, by rw [rus.length]; exact hj2, h3' _ _ x4 ok4 rfl (re3.ex ok3 x4.toEx0)⟩
            · cases hg
          · cases hg
        · cases hg
      · exact h3'.elim
    | _ => exact h3.elim
  | _ => exact h3.elim

/-! ### a list and the lists in it are left to themselves -/
@[reducible] def frzs : List D → List O → Option (List D × List O)
  | [], m => some ([], m)
  | d :: ds, m => match gFrz d m with
    | .ok d' m' => (match frzs ds m' with
      | some (ds', m2) => some (d' :: ds', m2)
      | none => none)
    | _ => none
theorem frz_one {w : Wo} {d d' : D} {v : V} {m' : List O} (ok : Ok T w) (r : RelD T w d v) (h : gFrz d w.mu = .ok d' m') : ∃ w', Ex w w' ∧ Ok T w' ∧ w'.mu = m' ∧ w'.H = w.H ∧ RelD T w' d' v := by
  unfold gFrz at h
  split at h
  · rename_i n
    simp only [RelD] at r
    obtain ⟨a, rfl, hb⟩ := r
    have kx : Ex w (w.kill n) := kill_ex
    split at h
    · rename_i xs hm
      cases h
      obtain ⟨vs, h1, h2⟩ := ok.obj _ _ _ hm hb
      exact ⟨w.kill n, kx, kill_ok ok, rfl, rfl, by simp only [RelD]; exact ⟨a, vs, rfl, h1, kill_dead ok hb, h2.ex ok kx.toEx0⟩⟩
    · rename_i ks xs hm
      cases h
      obtain ⟨vs, h1, hl, h2⟩ := ok.obj _ _ _ hm hb
      exact ⟨w.kill n, kx, kill_ok ok, rfl, rfl, by simp only [RelD]; exact ⟨a, vs, rfl, .inl h1, hl, kill_dead ok hb, h2.ex ok kx.toEx0⟩⟩
    · rename_i c ns xs hm
      cases h
      obtain ⟨C, dx, vs, hc, h1, hl, h2⟩ := ok.obj _ _ _ hm hb
      exact ⟨w.kill n, kx, kill_ok ok, rfl, rfl, by simp only [RelD]; exact ⟨a, C, dx, vs, rfl, hc, h1, hl, kill_dead ok hb, h2.ex ok kx.toEx0⟩⟩
    · cases h
  · cases h
    exact ⟨w, .rfl', ok, rfl, rfl, r⟩
theorem frzs_ok : ∀ {ds ds' : List D} {w : Wo} {vs : List V} {m' : List O}, Ok T w → RelDs T w ds vs → frzs ds w.mu = some (ds', m') → ∃ w', Ex w w' ∧ Ok T w' ∧ w'.mu = m' ∧ w'.H = w.H ∧ RelDs T w' ds' vs
  | [], ds', w, vs, m', ok, r, h => by
    simp only [frzs] at h
    cases h
    exact ⟨w, .rfl', ok, rfl, rfl, r⟩
  | d :: ds, ds', w, vs, m', ok, r, h => by
    simp only [frzs] at h
    simp only [RelDs] at r
    obtain ⟨v, l, rfl, r1, r2⟩ := r
    cases e1 : gFrz d w.mu with
    | stk => rw [e1] at h; cases h
    | ex c m => rw [e1] at h; cases h
    | ok d1 m1 =>
      rw [e1] at h
      simp only at h
      obtain ⟨w1, x1, ok1, hm1, hH1, q1⟩ := frz_one ok r1 e1
      subst hm1
      cases e2 : frzs ds w1.mu with
      | none => rw [e2] at h; cases h
      | some p =>
        obtain ⟨ds2, m2⟩ := p
        rw [e2] at h
        cases h
        obtain ⟨w2, x2, ok2, hm2, hH2, q2⟩ := frzs_ok ok1 (r2.ex ok x1.toEx0) e2
        exact ⟨w2, x1.trans x2, ok2, hm2, hH2.trans hH1, .cons (q1.ex ok1 x2.toEx0) q2⟩
@[reducible] def gFrz2 : D → List O → Rs D := fun d m => match gFrz d m with
  | .ok (.lst ds) m => (match frzs ds m with
    | some (ds', m) => .ok (.lst ds') m
    | none => .stk)
  | _ => .stk
theorem v_frz2 (h : PE X e (rd (tx X) W f)) : PE X e (rd (tx X) W (fUn gFrz2 f)) := by
  refine pe_imp h ?_
  rintro σ H Q ⟨w, l, rfl, ok, re, h⟩
  refine go_e ok re h fun d w1 v e1 ok1 re1 r1 h1 => ?_
  unfold gFrz2 at h1
  split at h1
  · rename_i ds m hq
    split at h1
    · rename_i ds' m2 hs
      obtain ⟨w2, x2, ok2, hm2, hH2, q2⟩ := frz_one ok1 r1 hq
      subst hm2
      simp only [RelD] at q2
      obtain ⟨p, vs, rfl, a1, a2, a3⟩ := q2
      obtain ⟨w3, x3, ok3, hm3, hH3, q3⟩ := frzs_ok ok2 a3 hs
      have := h1 w3 (.ref p) (x2.trans x3) ok3 hm3 (by simp only [RelD]; exact ⟨p, vs, rfl, x3.keep p (.lst vs) a1 a2, fun l => a2 (x3.live p (by rw [a1]; simp) l), q3⟩)
      rw [hH3, hH2] at this
      exact this
    · exact h1.elim
  · exact h1.elim

/-! ### text.index(text) -/
@[reducible] def fSIdx (fo f : FE) : FE := fun r m => (fo r m).bind fun o m => match o with
  | .str x => (f r m).bind fun d m => match d with
    | .str y => (match Builtin.Str.occurrences x y 0 x.length 1 with
      | i :: _ => .ok (.int (i : Nat)) m
      | [] => .stk)
    | _ => .stk
  | _ => .stk
theorem v_sidx {apos : Pos} {fo : FE} (ho : PE X o (rd (tx X) W fo)) (he : PE X e (rd (tx X) W f))
    (hs : starEach [e] X.env = [(false, eval e X.env)] := by rfl) (hbase : attributeBase o "index" X.env (eval o X.env) = eval o X.env := by rfl) (hline : (apos.endLine == pos.line) = true := by rfl) :
    PE X (.Call (.Attribute o "index" apos) [e] [] pos) (rd (tx X) W (fSIdx fo f)) := by
  refine pe_imp (pe_m1 PySem.F.slot_str_index PySem.F.type_str_index mt_sindex ho he hs hbase hline) ?_
  rintro σ H Q ⟨w, l, rfl, ok, re, h⟩
  refine go_e ok re h fun d w1 v e1 ok1 re1 r1 h1 => ?_
  split at h1
  · rename_i x
    simp only [RelD] at r1; subst r1
    refine ⟨⟨x, rfl⟩, ?_⟩
    refine go_e ok1 re1 h1 fun d2 w2 v2 e2 ok2 re2 r2 h2 => ?_
    split at h2
    · rename_i y
      split at h2
      · rename_i i rest hq
        simp only [RelD] at r2; subst r2
        exact ⟨x, y, i, rest, rfl, rfl, hq, h2.now ok2 (by simp only [RelD])⟩
      · exact h2.elim
    · exact h2.elim
  · exact h1.elim
end FR
set_option Elab.async false
set_option linter.all false
set_option maxRecDepth 100000
set_option maxHeartbeats 4000000
/-! ## len of an own object -/
namespace FR
open PySem PySem.Spec L2
set_option autoImplicit false
variable {X : Cx} {T : Tx} {W : WX} {f g h : FE} {fa : FA} {ft gt : FT} {a b c e o tg iter : Expr} {es rest : List Expr} {pos : Pos} {k : Nat} {st0 : Stmt} {sts : List Stmt} {m m' : FS}

theorem env0_in1 {pins : List (Addr × Obj)} {s : Shared} {σ : St} {H : Hp} (I : Inv X pins σ H s) : Env0 X.prog X.w X.K X.mg X.base X.A.in1 X.stack s H :=
  ⟨I.env0.frames, I.env0.mod, I.env0.bs, I.env0.bsz, I.env0.funs, I.env0.frf, I.env0.hok, I.env0.bare⟩
def rLenO (T : Tx) (C : Addr) (oo : List D → List O → Rs D) : List V → Hp → VK → Prop := fun xs H Q => ∃ p dx fs, xs = [.ref p] ∧ H p = some (.ins C dx fs) ∧ spF T 1 oo [.ref p] H (fun v H' => ∃ n : Int, v = .int n ∧ 0 ≤ n ∧ n < 2 ^ 63 ∧ Q (.int n) H') (fun _ _ _ => False)
theorem call_lenO {C fa' : Addr} {fd : FuncData} {ps : List Str} {oo : List D → List O → Rs D} (F : FnOk X.prog X.w X.K X.mg X.base (L2.CX X.prog X.w) k fa' fd ps (spF (tx X) 1 oo)) (hm : Meth X.K C "__len__" fa') (hb : Binds X.K fd ps []) (hr : Room (k + 1) X.A) :
    CallR X (.builtin "len") (rLenO (tx X) C oo) := by
  intro pins s σ H xs us Q I r h
  obtain ⟨p, dx, fs, rfl, hp, hsp⟩ := h
  have hl := F.len _ _ _ _ hsp
  obtain ⟨u, rfl, rx⟩ := vals1 r
  cases rx
  obtain ⟨mA, J, _⟩ := ins_get I.hok hp
  obtain ⟨od, J, _⟩ := J.look
  obtain ⟨m, hF⟩ := I.fr
  refine PySem.W.len_K hF I.ok.mod.kin J hm.at_ hm.fn ?_
  have r2 : Vals [V.ref p] [Value.ref p] := .cons rfl .nil
  refine wpAny_call (codeAny_mono (F.run X.A.in1 X.stack s H ⟨[.ref p], []⟩ [.ref p] [.ref p] _ _ hr.in1 (env0_in1 I) (by
    have := hb s [.ref p] I.kIn (by simpa using hl)
    simpa using this) r2 hsp) fun r s' hq => ?_)
  cases r with
  | error e =>
    obtain ⟨a, B, H', cls, d, _, _, _, _, _, _, _, hE⟩ := hq
    exact hE.elim
  | ok fl =>
    cases fl with
    | ret w =>
      obtain ⟨z, H', I', rz, n, rfl, h0, h1, q⟩ := I.after hq
      obtain ⟨t, rfl⟩ := rz
      exact ⟨⟨h0, h1⟩, .int n, H', I'.tok _, ⟨_, rfl⟩, q⟩
    | next => exact False.elim hq
    | brk => exact False.elim hq
    | cont => exact False.elim hq
@[reducible] def fLenO (c : Str) (oo : List D → List O → Rs D) (f : FE) : FE := fun r m => (f r m).bind fun d m => if isIns c "__len__" d m = true then (match oo [d] m with
  | .ok (.int n) m => if 0 ≤ n ∧ n < 4611686018427387904 then .ok (.int n) m else .stk
  | _ => .stk) else .stk
theorem v_lenO {c : Str} {p : Pos} {oo : List D → List O → Rs D} (F : MtG X.prog X.w (tx X) X.base c "__len__" k 0 oo) (hr : Room (k + 1) X.A) (hm : X.mg "len" = none) (he : PE X e (rd (tx X) W f)) (hg : Gl X "len" := by rfl)
    (hst : starEach [e] X.env = (false, eval e X.env) :: starEach [] X.env := by rfl) (hpl : (backTo pos (starEach ([] : List Expr) X.env)).any (·.1) = false := by rfl) :
    PE X (.Call (.Name "len" p) [e] [] pos) (rd (tx X) W (fLenO c oo f)) := by
  obtain ⟨C, fa', fd, ps, hF, cg, hmt, hb⟩ := F.ex
  refine pe_imp (pe_callB (call_lenO hF hmt hb hr) hg hm PySem.boot_len (a_cons he a_nil (hs := hst)) (he := hst) (hpl := hpl)) ?_
  rintro σ H Q ⟨w, l, rfl, ok, re, h⟩
  have h' : Post (tx X) (RelD (tx X)) (wx (tx X) W σ) w (((aCons f aNil) l w.mu).bind fun ds m => match ds with
    | [d] => (if isIns c "__len__" d m = true then (match oo [d] m with
      | .ok (.int n) m => if 0 ≤ n ∧ n < 4611686018427387904 then .ok (.int n) m else .stk
      | _ => .stk) else .stk)
    | _ => .stk) Q := by
    cases ef : f l w.mu with
    | stk => simp only [fLenO, ef, Rs.bind] at h; exact h.elim
    | ex c mm => simp only [fLenO, aCons, ef, Rs.bind] at h ⊢; exact h
    | ok a mm => simp only [fLenO, aCons, aNil, ef, Rs.bind] at h ⊢; exact h
  refine go_a ok re h' fun ds w1 vs e1 ok1 re1 r1 h1 => ?_
  split at h1
  · rename_i d
    split at h1
    · rename_i hi
      replace r1 := r1.one
      obtain ⟨v, rfl, r1⟩ := r1
      obtain ⟨p, dx, fs, rfl, hH, hl⟩ := isIns_ok cg ok1 r1 hi
      refine ⟨p, dx, fs, rfl, hH, w1, [d], rfl, ok1, .cons r1 .nil, rfl, ?_⟩
      cases eo : oo [d] w1.mu with
      | stk => rw [eo] at h1; exact h1
      | ex c mm => rw [eo] at h1; exact h1.elim
      | ok z mm =>
        rw [eo] at h1
        cases z with
        | int n =>
          simp only at h1
          split at h1
          · rename_i hn
            intro w2 v2 x2 ok2 hm2 r2
            simp only [RelD] at r2; subst r2
            exact ⟨n, rfl, hn.1, by omega, h1 w2 (.int n) x2 ok2 hm2 (by simp only [RelD])⟩
          · exact h1.elim
        | _ => exact h1.elim
    · exact h1.elim
  · exact h1.elim
/-! ### min of a list of ints -/
@[reducible] def minI : Int → List Int → Int
  | x, [] => x
  | x, y :: ys => minI (if y < x then y else x) ys
theorem minI_le : ∀ (ys : List Int) (x : Int), minI x ys ≤ x ∧ (∀ y ∈ ys, minI x ys ≤ y) ∧ (minI x ys = x ∨ minI x ys ∈ ys)
  | [], x => ⟨Int.le_refl _, fun _ h => by simp at h, .inl rfl⟩
  | z :: ys, x => by
    show minI (if z < x then z else x) ys ≤ x ∧ (∀ y ∈ z :: ys, minI (if z < x then z else x) ys ≤ y) ∧ (minI (if z < x then z else x) ys = x ∨ minI (if z < x then z else x) ys ∈ z :: ys)
    obtain ⟨h1, h2, h3⟩ := minI_le ys (if z < x then z else x)
    by_cases q : z < x
    · rw [if_pos q] at h1 h2 h3 ⊢
      refine ⟨by omega, fun y hy => ?_, ?_⟩
      · rcases List.mem_cons.mp hy with e | e
        · subst e; exact h1
        · exact h2 y e
      · rcases h3 with e | e
        · exact .inr (by rw [e]; exact List.mem_cons_self)
        · exact .inr (List.mem_cons_of_mem _ e)
    · rw [if_neg q] at h1 h2 h3 ⊢
      refine ⟨h1, fun y hy => ?_, ?_⟩
      · rcases List.mem_cons.mp hy with e | e
        · subst e; omega
        · exact h2 y e
      · rcases h3 with e | e
        · exact .inl e
        · exact .inr (List.mem_cons_of_mem _ e)
@[reducible] def bMin := bOvI fun ns => match ns with
  | [] => none
  | n :: ns => some (.int (minI n ns))
theorem cb_min (hc : X.calm = true) : Cb X (.builtin "min") bMin := by
  refine ⟨_, cr_min hc, fun W w ds vs Q ok r h => ?_⟩
  unfold bMin bOvI at h
  split at h
  · split at h
    · rename_i xs ex
      split at h
      · rename_i ns en
        split at h
        · rename_i z hz
          cases ns with
          | nil => cases hz
          | cons n ns' =>
            cases hz
            replace r := r.one; obtain ⟨v, rfl, r⟩ := r
            obtain ⟨p, us, rfl, q1, q2⟩ := derefL_ok ok r ex
            have := intsD_val q2 en; subst this
            obtain ⟨h1, h2, h3⟩ := minI_le ns' n
            refine ⟨p, n :: ns', rfl, SqL.of q1, by simp, fun m hm hle => ?_⟩
            have e : m = minI n ns' := by
              have a1 : m ≤ minI n ns' := by
                rcases h3 with e | e
                · rw [e]; exact hle n List.mem_cons_self
                · exact hle _ (List.mem_cons_of_mem _ e)
              have a2 : minI n ns' ≤ m := by
                rcases List.mem_cons.mp hm with e | e
                · subst e; exact h1
                · exact h2 m e
              omega
            rw [e]
            exact h.now ok (by simp only [RelD])
        · exact h.elim
      · exact h.elim
    · exact h.elim
  · exact h.elim
end FR
set_option Elab.async false
set_option linter.all false
set_option maxRecDepth 100000
set_option maxHeartbeats 4000000
/-! ## A call by itself: values alone go in and come out, the store outside stays as it is -/
namespace FR
open PySem PySem.Spec L2
set_option autoImplicit false
variable {T : Tx}
mutual
def noLoc : D → Bool
  | .loc _ => false
  | .tup xs => noLocs xs
  | .lst xs => noLocs xs
  | .dct _ xs => noLocs xs
  | .ins _ _ xs => noLocs xs
  | _ => true
def noLocs : List D → Bool
  | [] => true
  | x :: xs => noLoc x && noLocs xs
end
mutual
theorem RelD.mv {w w' : Wo} (hH : w'.H = w.H) (hl : ∀ a, Live w' a → Live w a) : ∀ {d : D} {v : V}, noLoc d = true → RelD T w d v → RelD T w' d v
  | .non, _, _, h => by simpa only [RelD] using h
  | .bl _, _, _, h => by simpa only [RelD] using h
  | .int _, _, _, h => by simpa only [RelD] using h
  | .str _, _, _, h => by simpa only [RelD] using h
  | .ty _, _, _, h => by simpa only [RelD] using h
  | .tup ds, v, n, h => by
    simp only [RelD] at h ⊢
    obtain ⟨a, vs, h1, h2, h3⟩ := h
    exact ⟨a, vs, h1, by rw [hH]; exact h2, RelDs.mv hH hl n h3⟩
  | .lst ds, v, n, h => by
    simp only [RelD] at h ⊢
    obtain ⟨a, vs, h1, h2, h3, h4⟩ := h
    exact ⟨a, vs, h1, by rw [hH]; exact h2, fun l => h3 (hl a l), RelDs.mv hH hl n h4⟩
  | .dct ks ds, v, n, h => by
    simp only [RelD] at h ⊢
    obtain ⟨a, vs, h1, h2, hlen, h3, h4⟩ := h
    exact ⟨a, vs, h1, by rw [hH]; exact h2, hlen, fun l => h3 (hl a l), RelDs.mv hH hl n h4⟩
  | .ins c ns ds, v, n, h => by
    simp only [RelD] at h ⊢
    obtain ⟨a, C, dx, vs, h1, hc, h2, hlen, h3, h4⟩ := h
    exact ⟨a, C, dx, vs, h1, hc, by rw [hH]; exact h2, hlen, fun l => h3 (hl a l), RelDs.mv hH hl n h4⟩
  | .loc _, _, n, _ => by simp [noLoc] at n
  | .glo x, v, _, h => by simpa only [RelD] using h
  | .exc _, _, _, h => by simpa only [RelD] using h
  | .scr ns, v, _, h => by
    simp only [RelD] at h ⊢
    rw [hH]; exact h
theorem RelDs.mv {w w' : Wo} (hH : w'.H = w.H) (hl : ∀ a, Live w' a → Live w a) : ∀ {ds : List D} {vs : List V}, noLocs ds = true → RelDs T w ds vs → RelDs T w' ds vs
  | [], _, _, h => by simpa only [RelDs] using h
  | d :: ds, vs, n, h => by
    simp only [RelDs] at h ⊢
    simp only [noLocs, Bool.and_eq_true] at n
    obtain ⟨v, r, h1, h2, h3⟩ := h
    exact ⟨v, r, h1, RelD.mv hH hl n.1 h2, RelDs.mv hH hl n.2 h3⟩
end
/-- the world of a call by itself -/
def Wo.inn (w : Wo) : Wo := ⟨[], [], fun a => Live w a, w.H⟩
theorem inn_live {w : Wo} {a : Addr} : Live w.inn a ↔ Live w a := by
  constructor
  · rintro (h | ⟨n, h, _⟩)
    · exact h
    · simp [Wo.inn] at h
  · exact fun h => .inl h
theorem inn_ok {w : Wo} (ok : Ok T w) : Ok T w.inn := by
  refine ⟨fun a ha => ?_, fun a h => by simp [Wo.inn] at h, rfl, List.nodup_nil, fun a h => by simp [Wo.inn] at h, fun n o a h => by simp [Wo.inn] at h⟩
  rcases ha with h | ⟨n, hb, o, hm, hd⟩
  · exact ok.hidT a h
  · have q := ok.obj n o a hm hb
    cases o with
    | dead => exact absurd rfl hd
    | lst ds => obtain ⟨vs, e, _⟩ := q; exact ⟨_, e, trivial⟩
    | dct ks ds => obtain ⟨vs, e, _⟩ := q; exact ⟨_, e, trivial⟩
    | ins c ns ds => obtain ⟨C, dx, vs, _, e, _⟩ := q; exact ⟨_, e, trivial⟩
/-- back from it -/
def Wo.out (w w0 : Wo) : Wo := ⟨w.bt, w.mu, w.hid, w0.H⟩
theorem out_live {w w0 : Wo} {a : Addr} : Live (w.out w0) a ↔ Live w a := Iff.rfl
theorem out_ex {w w0 : Wo} (x : Ex w.inn w0) : Ex w (w.out w0) :=
  ⟨⟨⟨[], by simp [Wo.out]⟩, fun a h => x.some_ a h, fun a o h n => x.keep a o h fun l => n (inn_live.mp l), fun a _ l => l⟩, rfl, fun a h => x.hidK a (.inl h)⟩
theorem out_ok {w w0 : Wo} (ok : Ok T w) (x : Ex w.inn w0) : Ok T (w.out w0) := by
  refine ⟨fun a ha => ?_, ok.hidN, ok.len, ok.nd, fun a ha => x.some_ a (ok.tr a ha), fun n o a hm hb => ?_⟩
  · obtain ⟨o, e, hd⟩ := ok.hidT a ha
    exact ⟨o, (x.hidK a (.inl ha)).trans e, hd⟩
  · by_cases hd : o = .dead
    · subst hd; trivial
    · exact RelOb.ex ok (out_ex x).toEx0 (ok.obj n o a hm hb) (x.hidK a (.inr ⟨n, hb, o, hm, hd⟩))
def iso (o : List D → List O → Rs D) : List D → List O → Rs D := fun ds m => if noLocs ds = true then (match o ds [] with
  | .ok d _ => if noLoc d = true then .ok d m else .stk
  | .ex c _ => .ex c m
  | .stk => .stk) else .stk
theorem spF_iso {n : Nat} {o : List D → List O → Rs D} : ∀ vs H Q E, spF T n (iso o) vs H Q E → spF T n o vs H Q E := by
  rintro vs H Q E ⟨w, ds, rfl, ok, r, hl, q⟩
  unfold iso at q
  split at q
  case isFalse => exact q.elim
  rename_i hn
  refine ⟨w.inn, ds, rfl, inn_ok ok, RelDs.mv (w := w) (w' := w.inn) rfl (fun a h => inn_live.mp h) hn r, hl, ?_⟩
  show Post T (RelD T) _ w.inn (o ds []) Q
  cases e : o ds [] with
  | stk => rw [e] at q; exact q
  | ex c mm =>
    rw [e] at q
    intro w0 x0 ok0 _
    exact q (w.out w0) (out_ex x0) (out_ok ok x0) rfl
  | ok d mm =>
    rw [e] at q
    simp only at q
    split at q
    case isFalse => exact q.elim
    rename_i hd
    intro w0 v x0 ok0 _ rv
    refine q (w.out w0) v (out_ex x0) (out_ok ok x0) rfl (RelD.mv (w := w0) (w' := w.out w0) rfl (fun a h => ?_) hd rv)
    refine .inl ?_
    rw [x0.hidE]
    exact out_live.mp h
theorem FnG.iso {P : Program} {w : World} {base : Heap} {x : Str} {k n : Nat} {o : List D → List O → Rs D} (F : FnG P w T base x k n o) : FnG P w T base x k n (FR.iso o) := by
  obtain ⟨f, fd, ps, h1, h2⟩ := F.ex
  exact ⟨f, fd, ps, h1.imp spF_iso, h2⟩
end FR
set_option Elab.async false
set_option linter.all false
set_option maxRecDepth 100000
set_option maxHeartbeats 4000000
/-! ## dicts whose keys are texts; insert, enumerate -/
namespace FR
open PySem PySem.Spec L2
set_option autoImplicit false
variable {X : Cx} {T : Tx} {W : WX} {f g h : FE} {fa : FA} {ft gt : FT} {a b c e o tg iter : Expr} {es rest : List Expr} {pos : Pos} {k : Nat} {st0 : Stmt} {sts : List Stmt} {m m' : FS}

theorem pe_or {t t' : TE} (h : PE X e t) (h' : PE X e t') : PE X e (fun s H Q => t s H Q ∨ t' s H Q) := ⟨fun pins s σ H Q I hw => hw.elim (h.run pins s σ H Q I) (h'.run pins s σ H Q I)⟩
theorem callr_or {v : Value} {r r' : List V → Hp → VK → Prop} (h : CallR X v r) (h' : CallR X v r') : CallR X v (fun xs H Q => r xs H Q ∨ r' xs H Q) := fun pins s σ H xs us Q I rv hw => hw.elim (h pins s σ H xs us Q I rv) (h' pins s σ H xs us Q I rv)
/-! ### what a dict holds -/
@[reducible] def derefD (d : D) (m : List O) : Option (List Str × List D) := match d with
  | .dct ks vs => some (ks, vs)
  | .loc n => match m[n]? with
    | some (.dct ks vs) => some (ks, vs)
    | _ => none
  | _ => none
@[reducible] def kz (ks : List Str) (vs : List V) : List (Key × V) := (ks.map Sum.inr).zip vs
theorem derefD_ok {w : Wo} {d : D} {v : V} {ks : List Str} {ds : List D} (ok : Ok T w) (r : RelD T w d v) (h : derefD d w.mu = some (ks, ds)) :
    ∃ a vs, v = .ref a ∧ Rd w.H a (.dK (kz ks vs)) ∧ vs.length = ks.length ∧ RelDs T w ds vs := by
  cases d with
  | dct ks' ds' =>
    cases h
    simp only [RelD] at r
    obtain ⟨a, vs, h1, h2, hl, _, h3⟩ := r
    exact ⟨a, vs, h1, h2, hl, h3⟩
  | loc n =>
    simp only [RelD] at r
    obtain ⟨a, h1, h2⟩ := r
    have h' : (match w.mu[n]? with
      | some (.dct ks vs) => some (ks, vs)
      | _ => none) = some (ks, ds) := h
    split at h'
    · rename_i hm
      cases h'
      obtain ⟨vs, h3, hl, h4⟩ := ok.obj _ _ _ hm h2
      exact ⟨a, vs, h1, .inl h3, hl, h4⟩
    · cases h'
  | _ => cases h
theorem valV_zip {w : Wo} {k : Str} : ∀ {ks : List Str} {ds : List D} {vs : List V} {d : D}, RelDs T w ds vs → lookD ks ds k = some d → ∃ v, valV (kz ks vs) (Sum.inr k) = some v ∧ RelD T w d v
  | [], _, _, _, _, h => by simp [lookD] at h
  | n :: ks, [], _, _, _, h => by simp [lookD] at h
  | n :: ks, e :: ds, vs, d, r, h => by
    simp only [RelDs] at r
    obtain ⟨v, l, rfl, h1, h2⟩ := r
    simp only [lookD] at h
    by_cases q : k = n
    · subst q
      rw [if_pos rfl] at h
      cases h
      exact ⟨v, by simp [valV, kz], h1⟩
    · rw [if_neg q] at h
      obtain ⟨u, hu, ru⟩ := valV_zip h2 h
      refine ⟨u, ?_, ru⟩
      have : decide ((Sum.inr n : Key) = Sum.inr k) = false := decide_eq_false fun e => q (by cases e; rfl)
      unfold valV kz at hu ⊢
      rw [List.map_cons, List.zip_cons_cons, List.find?_cons]
      simp only [this]
      exact hu
/-! ### d[k] -/
@[reducible] def gIxD : D → D → List O → Rs D := fun d i m => match i with
  | .str k => match derefD d m with
    | some p => match lookD p.1 p.2 k with
      | some v => .ok v m
      | none => .stk
    | none => .stk
  | _ => .stk
@[reducible] def gIxA : D → D → List O → Rs D := fun d i m => match i with
  | .str k => gIxD d (.str k) m
  | i => gIx d i m
theorem v_ixA (hr : Room k X.A) (ha : PE X a (rd (tx X) W f)) (hb : PE X b (rd (tx X) W g)) (hs : PlainIx b := by exact fun _ _ => rfl) (hs2 : NoSl b := by exact fun _ _ => rfl) : PE X (.Subscript a b pos) (rd (tx X) W (fBin gIxA f g)) := by
  refine pe_imp (pe_or (v_ix ha hb hs) (pe_dget (hu_of hr) ha hb hs2)) ?_
  rintro σ H Q ⟨w, l, rfl, ok, re, h⟩
  have right_ : Post (tx X) (RelD (tx X)) (wx (tx X) W σ) w (fBin gIxD f g l w.mu) Q → tDGet (rd (tx X) W f) (rd (tx X) W g) σ w.H Q := fun h => by
    refine go_e ok re h fun d w1 v x1 ok1 re1 r1 h1 => ?_
    refine go_e ok1 re1 h1 fun i w2 u x2 ok2 re2 r2 h2 => ?_
    unfold gIxD at h2
    split at h2
    · rename_i k2
      split at h2
      · rename_i p hp
        split at h2
        · rename_i z hz
          obtain ⟨A, vs, rfl, hA, hl, rvs⟩ := derefD_ok ok2 (r1.ex ok1 x2.toEx0) (ks := p.1) (ds := p.2) hp
          obtain ⟨y, hy, ry⟩ := valV_zip rvs hz
          simp only [RelD] at r2; subst r2
          exact ⟨A, y, rfl, .inl ⟨_, Sum.inr k2, hA, rfl, hy.symm⟩, h2.now ok2 ry⟩
        · exact h2.elim
      · exact h2.elim
    · exact h2.elim
  cases e1 : f l w.mu with
  | stk => simp only [fBin, e1, Rs.bind] at h; exact h.elim
  | ex c mm => simp only [fBin, e1, Rs.bind] at h; exact .inl ⟨w, l, rfl, ok, re, by simp only [fBin, e1, Rs.bind]; exact h⟩
  | ok d1 m1 =>
    cases e2 : g l m1 with
    | stk => simp only [fBin, e1, e2, Rs.bind] at h; exact h.elim
    | ex c mm => simp only [fBin, e1, e2, Rs.bind] at h; exact .inl ⟨w, l, rfl, ok, re, by simp only [fBin, e1, e2, Rs.bind]; exact h⟩
    | ok d2 m2 =>
      cases d2 with
      | str kk => exact .inr (right_ (by simp only [fBin, e1, e2, Rs.bind] at h ⊢; exact h))
      | _ => left; refine ⟨w, l, rfl, ok, re, ?_⟩; simp only [fBin, e1, e2, Rs.bind] at h ⊢; exact h

/-! ### {k: v, ..} -/
def trsOf (T : Tx) (W : WX) (ps : List (Str × FE)) : List (TE × TE) := ps.map fun p => (rd T W (fC (.str p.1)), rd T W p.2)
theorem pd_nil : PPs X pos [] [] (trsOf (tx X) W []) := pps_nil
theorem pd_cons {x : Str} {j : Nat} {p' : Pos} {ps : List (Str × FE)} {ks : List (Option Expr)} {vs : List Expr} (hv : PE X e (rd (tx X) W f)) (hr : PPs X pos ks vs (trsOf (tx X) W ps)) :
    PPs X pos (some (.Constant (.str x) j p') :: ks) (e :: vs) (trsOf (tx X) W ((x, f) :: ps)) := pps_cons v_str hv hr
@[reducible] def dctL : List (Str × FE) → Lc → List O → Rs (List D)
  | [], _, m => .ok [] m
  | p :: ps, r, m => match p.2 r m with
    | .ok d m => (match dctL ps r m with
      | .ok ds m => .ok (d :: ds) m
      | _ => .stk)
    | _ => .stk
theorem pairs_sem {s : St} {r : Lc} : ∀ {ps : List (Str × FE)} {w : Wo} {ds : List D} {m : List O} {Qp : List (V × V) → Hp → Prop}, Ok T w → RelE T w r s → dctL ps r w.mu = .ok ds m →
    (∀ w1 vs, Ex w w1 → Ok T w1 → w1.mu = m → RelDs T w1 ds vs → Qp ((ps.map fun p => V.str p.1).zip vs) w1.H) → tPairs (trsOf T W ps) s w.H Qp
  | [], w, ds, m, Qp, ok, re, h, hk => by
    cases h
    exact hk w [] .rfl' ok rfl .nil
  | p :: ps, w, ds, m, Qp, ok, re, h, hk => by
    simp only [dctL] at h
    cases e1 : p.2 r w.mu with
    | stk => rw [e1] at h; cases h
    | ex c mm => rw [e1] at h; cases h
    | ok d m1 =>
      rw [e1] at h
      simp only at h
      cases e2 : dctL ps r m1 with
      | stk => rw [e2] at h; cases h
      | ex c mm => rw [e2] at h; cases h
      | ok ds' m2 =>
        rw [e2] at h
        cases h
        show rd T W (fC (.str p.1)) s w.H _
        refine ⟨w, r, rfl, ok, re, fun w1 x x1 ok1 hm1 rx => ?_⟩
        simp only [RelD] at rx
        subst rx
        refine ⟨w1, r, rfl, ok1, re.ex ok x1.toEx0, ?_⟩
        rw [hm1, e1]
        intro w2 y x2 ok2 hm2 ry
        have re2 := (re.ex ok x1.toEx0).ex ok1 x2.toEx0
        refine pairs_sem (ps := ps) ok2 re2 (by rw [hm2]; exact e2) fun w3 vs x3 ok3 hm3 rvs => ?_
        exact hk w3 (y :: vs) ((x1.trans x2).trans x3) ok3 hm3 (.cons (ry.ex ok2 x3.toEx0) rvs)
def nodupS : List Str → Bool
  | [] => true
  | x :: xs => !xs.contains x && nodupS xs
@[reducible] def fDct (ps : List (Str × FE)) : FE := fun r m => match dctL ps r m with
  | .ok ds m => if (nodupS (ps.map (·.1)) && decide (ps.length ≤ 15)) = true then .ok (.dct (ps.map (·.1)) ds) m else .stk
  | _ => .stk
theorem dctL_len {r : Lc} : ∀ {ps : List (Str × FE)} {m m' : List O} {ds : List D}, dctL ps r m = .ok ds m' → ds.length = ps.length
  | [], _, _, _, h => by cases h; rfl
  | p :: ps, m, m', ds, h => by
    simp only [dctL] at h
    cases e1 : p.2 r m with
    | stk => rw [e1] at h; cases h
    | ex c mm => rw [e1] at h; cases h
    | ok d m1 =>
      rw [e1] at h
      simp only at h
      cases e2 : dctL ps r m1 with
      | stk => rw [e2] at h; cases h
      | ex c mm => rw [e2] at h; cases h
      | ok ds' m2 =>
        rw [e2] at h
        cases h
        simp [dctL_len e2]
theorem merge_zip : ∀ {ks : List Str} {vs : List V} {acc : List (Key × V)}, nodupS ks = true → (∀ x ∈ ks, ∀ p ∈ acc, p.1 ≠ (Sum.inr x : Key)) → vs.length = ks.length → mergeK acc (kz ks vs) = acc ++ kz ks vs
  | [], vs, acc, _, _, _ => by simp [mergeK, kz]
  | x :: ks, [], acc, _, _, hl => by simp at hl
  | x :: ks, v :: vs, acc, hn, hd, hl => by
    simp only [nodupS, Bool.and_eq_true] at hn
    have hnx : x ∉ ks := by simpa using hn.1
    have hput : putK acc (Sum.inr x : Key) v = acc ++ [((Sum.inr x : Key), v)] := by
      refine putK_new v ?_
      unfold valV
      rw [Option.map_eq_none_iff, List.find?_eq_none]
      intro p hp
      simpa using hd x List.mem_cons_self p hp
    show mergeK (putK acc (Sum.inr x : Key) v) (kz ks vs) = _
    rw [hput, merge_zip hn.2 (fun y hy p hp => ?_) (by simpa using hl)]
    · simp [kz]
    · rcases List.mem_append.mp hp with q | q
      · exact hd y (List.mem_cons_of_mem _ hy) p q
      · simp at q
        subst q
        intro e
        cases e
        exact hnx hy
theorem kz_map : ∀ (ks : List Str) (vs : List V), (ks.map V.str).zip vs = (kz ks vs).map fun kv => (kV kv.1, kv.2)
  | [], vs => by simp [kz]
  | k :: ks, [] => by simp [kz]
  | k :: ks, v :: vs => by
    have := kz_map ks vs
    unfold kz at this ⊢
    simp only [List.map_cons, List.zip_cons_cons, this]
    rfl
theorem v_dct {keys : List (Option Expr)} {values : List Expr} {ps : List (Str × FE)} (h : PPs X pos keys values (trsOf (tx X) W ps)) (hall : keys.all (·.isSome) = true := by rfl) (hl : keys.length = values.length := by rfl) (h0 : keys ≠ [] := by intro z; cases z) (h15 : keys.length ≤ 15 := by decide) :
    PE X (.Dict keys values pos) (rd (tx X) W (fDct ps)) := by
  refine pe_imp (pe_disp h hall hl h0 h15) ?_
  rintro σ H Q ⟨w, l, rfl, ok, re, h⟩
  intro p hp
  have hx : Ex0 w (w.hide p (.dK [])) := hide_ex ok hp
  have hok : Ok (tx X) (w.hide p (.dK [])) := hide_ok ok hp trivial
  cases e1 : dctL ps l w.mu with
  | stk => simp only [fDct, e1] at h; exact h.elim
  | ex c mm => simp only [fDct, e1] at h; exact h.elim
  | ok ds m1 =>
    simp only [fDct, e1] at h
    split at h
    case isFalse => exact h.elim
    rename_i hn
    rw [Bool.and_eq_true, decide_eq_true_eq] at hn
    refine pairs_sem (w := w.hide p (.dK [])) hok (re.ex ok hx) e1 fun w1 vs x1 ok1 hm1 rvs => ?_
    have hh : w1.hid p := by rw [x1.hidE]; exact .inl rfl
    have hp1 : w1.H p = some (.dK []) := (x1.hidK p (.inl rfl)).trans upd_same
    have hlen : vs.length = (ps.map (·.1)).length := by rw [rvs.length, dctL_len e1, List.length_map]
    have hz : ((ps.map fun p => V.str p.1).zip vs) = (kz (ps.map (·.1)) vs).map fun kv => (kV kv.1, kv.2) := by
      rw [← kz_map, List.map_map]; rfl
    refine ⟨hp1, kz (ps.map (·.1)) vs, hz, ?_, ?_⟩
    · unfold kz
      rw [List.length_zip]
      simp only [List.length_map]
      omega
    · rw [merge_zip hn.1 (fun _ _ p hp => by simp at hp) hlen, List.nil_append]
      have x2 : Ex0 w1 (w1.lay p (.dK (kz (ps.map (·.1)) vs))) := over_ex hh
      have ok2 := over_ok (o := .dK (kz (ps.map (·.1)) vs)) ok1 hh trivial
      have hs : ∀ a, w.hid a → (w1.lay p (.dK (kz (ps.map (·.1)) vs))).hid a := fun a ha => by
        show w1.hid a
        rw [x1.hidE]; exact .inr ha
      have x3 := show_ex hs
      have ok3 := show_ok ok2 hs
      have exa : Ex w ((w1.lay p (.dK (kz (ps.map (·.1)) vs))).show_ w.hid) :=
        ⟨((hx.trans x1.toEx0).trans x2).trans x3, rfl, fun a ha => by
          have ne : a ≠ p := hid_ne ok hp ha
          show upd w1.H p _ a = w.H a
          rw [upd_ne ne]
          have := x1.hidK a (.inr ha)
          rw [this]
          exact upd_ne ne⟩
      refine h _ (.ref p) exa ok3 hm1 ?_
      simp only [RelD]
      refine ⟨p, vs, rfl, .inl upd_same, hlen, ?_, (rvs.ex ok1 x2).ex ok2 x3⟩
      rintro (q | ⟨n, hn2, _⟩)
      · exact not_hid ok hp q
      · exact ok1.hidN p (List.mem_of_getElem? hn2) hh
/-- {} -/
@[reducible] def fDnew : FE := fun _ m => .ok (.loc m.length) (m ++ [.dct [] []])
@[reducible] def fDnil : FE := fun _ m => .ok (.dct [] []) m
theorem v_dnil : PE X (.Dict [] [] pos) (rd (tx X) W fDnil) := by
  refine pe_imp pe_dnewK ?_
  rintro σ H Q ⟨w, l, rfl, ok, re, h⟩ p hp
  exact h (w.lay p (.dK [])) (.ref p) (lay_ex ok hp) (lay_ok ok hp) rfl (by simp only [RelD]; exact ⟨p, [], rfl, .inl upd_same, rfl, not_live ok hp, .nil⟩)
theorem new_locD {W : Str → Wo → Prop} {w : Wo} {ks : List Str} {ds : List D} {vs : List V} {Q : VK} (ok : Ok T w) (r : RelDs T w ds vs) (hl : vs.length = ks.length) (h : Post T (RelD T) W w (.ok (.loc w.mu.length) (w.mu ++ [.dct ks ds])) Q) (p : Addr) (hp : w.H p = none) : Q (.ref p) (upd w.H p (.dK (kz ks vs))) :=
  h (w.new p (.dK (kz ks vs)) (.dct ks ds)) (.ref p) (new_ex ok hp) (new_ok ok hp ⟨vs, upd_same, hl, r.ex ok (new_ex ok hp).toEx0⟩) rfl (by
    simp only [RelD]; refine ⟨p, rfl, ?_⟩
    show (w.bt ++ [p])[w.mu.length]? = some p
    rw [ok.len]; simp)
theorem v_dnew : PE X (.Dict [] [] pos) (rd (tx X) W fDnew) := by
  refine pe_imp pe_dnewK ?_
  rintro σ H Q ⟨w, l, rfl, ok, re, h⟩ p hp
  exact new_locD ok (ks := []) (vs := []) .nil rfl h p hp
end FR
set_option Elab.async false
set_option linter.all false
set_option maxRecDepth 100000
set_option maxHeartbeats 4000000
/-! ## dicts: stores, copies, keys; insert; enumerate -/
namespace FR
open PySem PySem.Spec L2
set_option autoImplicit false
variable {X : Cx} {T : Tx} {W : WX} {f g h : FE} {fa : FA} {ft gt : FT} {a b c e o tg iter : Expr} {es rest : List Expr} {pos : Pos} {k : Nat} {st0 : Stmt} {sts : List Stmt} {m m' : FS}

/-! ### d[k] = v -/
@[reducible] def putDK (x : Str) (ks : List Str) : List Str := if ks.contains x = true then ks else ks ++ [x]
@[reducible] def repl {α : Type} (x : Str) (d : α) : List Str → List α → List α
  | k :: ks, v :: vs => (if k = x then d else v) :: repl x d ks vs
  | _, _ => []
@[reducible] def putDV {α : Type} (x : Str) (d : α) (ks : List Str) (vs : List α) : List α := if ks.contains x = true then repl x d ks vs else vs ++ [d]
theorem repl_zip {x : Str} {v : V} : ∀ {ks : List Str} {vs : List V}, vs.length = ks.length → (kz ks vs).map (fun kv => if kv.1 = (Sum.inr x : Key) then (kv.1, v) else kv) = kz ks (repl x v ks vs) ∧ (repl x v ks vs).length = ks.length
  | [], vs, h => by simp [kz, repl]
  | k :: ks, [], h => by simp at h
  | k :: ks, u :: vs, h => by
    obtain ⟨i1, i2⟩ := repl_zip (x := x) (v := v) (ks := ks) (vs := vs) (by simpa using h)
    unfold kz at i1 ⊢
    refine ⟨?_, by simp [i2]⟩
    simp only [List.map_cons, List.zip_cons_cons, i1]
    by_cases q : k = x
    · subst q; simp
    · have : (Sum.inr k : Key) ≠ Sum.inr x := fun e => q (by cases e; rfl)
      simp [q]
theorem any_zip {x : Str} : ∀ {ks : List Str} {vs : List V}, vs.length = ks.length → ((kz ks vs).any fun kv => decide (kv.1 = (Sum.inr x : Key))) = ks.contains x
  | [], vs, h => by simp [kz]
  | k :: ks, [], h => by simp at h
  | k :: ks, u :: vs, h => by
    have i := any_zip (x := x) (ks := ks) (vs := vs) (by simpa using h)
    unfold kz at i ⊢
    simp only [List.map_cons, List.zip_cons_cons, List.any_cons, i, List.contains_cons]
    congr 1
    by_cases q : k = x
    · subst q; simp
    · have : (Sum.inr k : Key) ≠ Sum.inr x := fun e => q (by cases e; rfl)
      simp [q, Ne.symm q]
theorem putK_zip {x : Str} {v : V} {ks : List Str} {vs : List V} (h : vs.length = ks.length) : putK (kz ks vs) (Sum.inr x : Key) v = kz (putDK x ks) (putDV x v ks vs) ∧ (putDV x v ks vs).length = (putDK x ks).length := by
  unfold putK
  rw [any_zip h]
  by_cases q : ks.contains x = true
  · obtain ⟨i1, i2⟩ := repl_zip (x := x) (v := v) h
    refine ⟨?_, ?_⟩
    · rw [if_pos q]
      simp only [putDK, putDV, if_pos q]
      exact i1
    · simp only [putDK, putDV, if_pos q]; exact i2
  · refine ⟨?_, ?_⟩
    · rw [if_neg q]
      simp only [putDK, putDV, if_neg q]
      unfold kz
      rw [List.map_append, List.zip_append (by simp [h])]
      rfl
    · simp only [putDK, putDV, if_neg q]; simp [h]
theorem repl_rel {w : Wo} {x : Str} {d : D} {v : V} (r : RelD T w d v) : ∀ {ks : List Str} {ds : List D} {vs : List V}, RelDs T w ds vs → RelDs T w (repl x d ks ds) (repl x v ks vs)
  | [], ds, vs, h => by simp only [repl]; exact .nil
  | k :: ks, [], vs, h => by simp only [RelDs] at h; subst h; exact .nil
  | k :: ks, e :: ds, vs, h => by
    simp only [RelDs] at h
    obtain ⟨u, l, rfl, h1, h2⟩ := h
    simp only [repl]
    by_cases q : k = x
    · rw [if_pos q, if_pos q]; exact .cons r (repl_rel r h2)
    · rw [if_neg q, if_neg q]; exact .cons h1 (repl_rel r h2)
theorem putDV_rel {w : Wo} {x : Str} {d : D} {v : V} (r : RelD T w d v) {ks : List Str} {ds : List D} {vs : List V} (h : RelDs T w ds vs) : RelDs T w (putDV x d ks ds) (putDV x v ks vs) := by
  by_cases q : ks.contains x = true
  · simp only [putDV, if_pos q]; exact repl_rel r h
  · simp only [putDV, if_neg q]; exact h.append (.cons r .nil)
@[reducible] def gPutD (o i d : D) (m : List O) : Option (List O) := match i with
  | .str x => match o with
    | .loc n => match m[n]? with
      | some (.dct ks vs) => if ks.length < 16777216 then some (m.set n (.dct (putDK x ks) (putDV x d ks vs))) else none
      | _ => none
    | _ => none
  | _ => none
@[reducible] def sPutD (fo fi f : FE) : FS := fun r m => (f r m).sq r fun d m => (fo r m).sq r fun o m => (fi r m).sq r fun i m => match gPutD o i d m with
  | some m => .ok (.nx r) m
  | none => .stk
theorem s_putD {o' : Expr} {i : Expr} {p' : Pos} {fo fi : FE} (hr : Room k X.A) (ho : PE X o' (rd (tx X) W fo)) (hi : PE X i (rd (tx X) W fi)) (he : PE X e (rd (tx X) W f))
    (ha : ∀ v, assign (.Subscript o' i p') X.env v = (do
      let ov ← holding [v] (eval o' X.env)
      let iv ← holding [v, ov] (eval i X.env)
      standAt p'
      holding [v, ov, iv] (setItem ov iv v)
      release [v, ov, iv] []) := by intro _; rfl)
    (hs : swapsWithSole [.Subscript o' i p'] e pos.line X.env = pure false := by rfl) (hw : swappedStores [.Subscript o' i p'] e X.env = pure none := by rfl)
    (h1 : (assignEach [.Subscript o' i p'] X.env).map (·.2) = [assign (.Subscript o' i p') X.env] := by rfl) :
    PS X (.Assign [.Subscript o' i p'] e pos) (rdS (tx X) W (sPutD fo fi f)) := by
  refine ps_imp (ps_asg he (pg_sub ho hi (set_dict (hu_of hr)) ha) hs hw h1) ?_
  rintro E s H ⟨w, r, rfl, ok, re, h⟩
  refine go_s ok re h fun d w1 v x1 ok1 re1 r1 h1 => ?_
  refine go_s ok1 re1 h1 fun o w2 ov x2 ok2 re2 r2 h2 => ?_
  refine go_s ok2 re2 h2 fun i w3 iv x3 ok3 re3 r3 h3 => ?_
  split at h3
  · rename_i mm hg
    unfold gPutD at hg
    split at hg
    · rename_i x
      split at hg
      · rename_i n
        split at hg
        · rename_i ks ds hm
          split at hg
          · rename_i hl
            cases hg
            simp only [RelD] at r3; subst r3
            have ro := r2.ex ok2 x3.toEx0
            simp only [RelD] at ro
            obtain ⟨p, rfl, hb⟩ := ro
            have rv := (r1.ex ok1 x2.toEx0).ex ok2 x3.toEx0
            obtain ⟨vs, hv, hlen, rvs⟩ := ok3.obj _ _ _ hm hb
            obtain ⟨e1, e2⟩ := putK_zip (x := x) (v := v) hlen
            have x4 : Ex w3 (w3.put n p (.dK (kz (putDK x ks) (putDV x v ks vs))) (.dct (putDK x ks) (putDV x d ks ds))) := put_ex ok3 hb hm (by simp)
            have ok4 := put_ok (o := .dK (kz (putDK x ks) (putDV x v ks vs))) (u := .dct (putDK x ks) (putDV x d ks ds)) ok3 hb hm (by simp) ⟨_, upd_same, e2, (putDV_rel rv rvs).ex ok3 x4.toEx0⟩
            refine ⟨p, _, rfl, .inl ⟨kz ks vs, Sum.inr x, hv, rfl, ?_, rfl⟩, ?_⟩
            · unfold kz; rw [List.length_zip, List.length_map, sizeLine_eq]; omega
            · rw [e1]
              exact h3 _ _ x4 ok4 rfl (re3.ex ok3 x4.toEx0)
          · cases hg
        · cases hg
      · cases hg
    · cases hg
  · exact h3.elim

/-! ### dict(d), list(d), type(d) -/
@[reducible] def bDictN : List D → List O → Rs D := fun ds m => match ds with
  | [d] => match derefD d m with
    | some p => .ok (.loc m.length) (m ++ [.dct p.1 p.2])
    | none => .stk
  | _ => .stk
@[reducible] def bDict : List D → List O → Rs D := fun ds m => match ds with
  | [d] => match derefD d m with
    | some p => .ok (.dct p.1 p.2) m
    | none => .stk
  | _ => .stk
theorem cb_dictN : Cb X (.type "dict") bDictN := by
  refine ⟨_, call_dictD, fun W w ds vs Q ok r h => ?_⟩
  unfold bDictN at h
  split at h
  · split at h
    · rename_i p hp
      replace r := r.one; obtain ⟨v, rfl, r⟩ := r
      obtain ⟨A, us, rfl, hA, hl, rvs⟩ := derefD_ok ok r (ks := p.1) (ds := p.2) hp
      exact ⟨A, _, rfl, hA, fun q hq => new_locD ok rvs hl h q hq⟩
    · exact h.elim
  · exact h.elim
theorem cb_dict : Cb X (.type "dict") bDict := by
  refine ⟨_, call_dictD, fun W w ds vs Q ok r h => ?_⟩
  unfold bDict at h
  split at h
  · split at h
    · rename_i p hp
      replace r := r.one; obtain ⟨v, rfl, r⟩ := r
      obtain ⟨A, us, rfl, hA, hl, rvs⟩ := derefD_ok ok r (ks := p.1) (ds := p.2) hp
      refine ⟨A, _, rfl, hA, fun q hq => ?_⟩
      exact h (w.lay q (.dK (kz p.1 us))) (.ref q) (lay_ex ok hq) (lay_ok ok hq) rfl (by simp only [RelD]; exact ⟨q, us, rfl, .inl upd_same, hl, not_live ok hq, rvs.ex ok (lay_ex ok hq).toEx0⟩)
    · exact h.elim
  · exact h.elim
theorem strs_rel {w : Wo} : ∀ (ks : List Str), RelDs T w (ks.map D.str) (ks.map V.str)
  | [] => .nil
  | k :: ks => .cons (by simp only [RelD]) (strs_rel ks)
theorem keys_zip {ks : List Str} {vs : List V} (h : vs.length = ks.length) : ((kz ks vs).map fun kv => kV kv.1) = ks.map V.str := by
  induction ks generalizing vs with
  | nil => simp [kz]
  | cons k ks ih =>
    cases vs with
    | nil => simp at h
    | cons v vs =>
      have := ih (vs := vs) (by simpa using h)
      unfold kz at this ⊢
      simp only [List.map_cons, List.zip_cons_cons, this]
      rfl
@[reducible] def bListD : List D → List O → Rs D := fun ds m => match ds with
  | [d] => match derefD d m with
    | some p => .ok (.lst (p.1.map D.str)) m
    | none => .stk
  | _ => .stk
@[reducible] def bListA : List D → List O → Rs D := fun ds m => match ds with
  | [.dct ks vs] => bListD [.dct ks vs] m
  | ds => bList ds m
theorem cb_listA (hc : X.calm = true) : Cb X (.type "list") bListA := by
  refine ⟨_, callr_or call_list_of (call_listD hc), fun W w ds vs Q ok r h => ?_⟩
  unfold bListA at h
  split at h
  · rename_i ks ds'
    right
    have h' : Post (tx X) (RelD (tx X)) W w (bListD [.dct ks ds'] w.mu) Q := h
    simp only [bListD, derefD] at h'
    replace r := r.one; obtain ⟨v, rfl, r⟩ := r
    obtain ⟨A, us, rfl, hA, hl, rvs⟩ := derefD_ok ok r (ks := ks) (ds := ds') rfl
    refine ⟨A, _, rfl, hA, fun q hq => ?_⟩
    rw [keys_zip hl]
    exact new_lst ok (strs_rel ks) h' q hq
  · left
    unfold bList at h
    split at h
    · split at h
      · rename_i xs ex
        replace r := r.one; obtain ⟨v, rfl, r⟩ := r
        obtain ⟨p, us, rfl, q1, q2⟩ := derefS_ok ok r ex
        exact ⟨p, us, rfl, q1, new_lst ok q2 h⟩
      · exact h.elim
    · exact h.elim
theorem call_typeD : CallR X (.type "type") (fun xs H Q => ∃ (a : Addr) (kvs : List (Key × V)), xs = [.ref a] ∧ Rd H a (.dK kvs) ∧ Q (.ty "dict") H) := by
  intro pins s σ H xs us Q I r h
  obtain ⟨a, kvs, rfl, hd, q⟩ := h
  obtain ⟨u, rfl, rx⟩ := vals1 r
  cases rx
  have ht : s.TypeIs (.ref a) "dict" := by
    rcases hd with e | ⟨o, e⟩
    · exact TyB.is (x := .ref a) (u := .ref a) I rfl (.dK e)
    · obtain ⟨_, hx, hexact, _⟩ := I.frzK e
      exact ⟨o, hx, hexact.1⟩
  exact call_type_of ht (by decide +kernel) ⟨.ty "dict", H, I, rfl, q⟩
@[reducible] def bTypeA : List D → List O → Rs D := fun ds m => match ds with
  | [.dct _ _] => .ok (.ty "dict") m
  | ds => bType ds m
theorem cb_typeA : Cb X (.type "type") bTypeA := by
  obtain ⟨r0, h0, s0⟩ := cb_type (X := X)
  refine ⟨_, callr_or h0 call_typeD, fun W w ds vs Q ok r h => ?_⟩
  unfold bTypeA at h
  split at h
  · rename_i ks ds'
    right
    replace r := r.one; obtain ⟨v, rfl, r⟩ := r
    obtain ⟨A, us, rfl, hA, hl, rvs⟩ := derefD_ok ok r (ks := ks) (ds := ds') rfl
    exact ⟨A, _, rfl, hA, h.now ok (by simp only [RelD])⟩
  · exact .inl (s0 W w ds vs Q ok r h)

/-! ### for k in d: the dict is locked from then on -/
def tLockV (t : TE) : TE := fun σ H Q => t σ H fun x H1 => ∃ d kvs, x = .ref d ∧ ((H1 d = some (.dK kvs) ∧ ∀ od, Q x (upd H1 d (.frz od (.dK kvs)))) ∨ ((∃ od, H1 d = some (.frz od (.dK kvs))) ∧ Q x H1))
theorem pe_lockV {t : TE} (h : PE X e t) : PE X e (tLockV t) := by
  refine ⟨fun pins s σ H Q I hw => ?_⟩
  refine thn (h.run pins s σ H _ I hw) fun u s1 ⟨x, H1, I1, rx, d, kvs, ex, q⟩ => ?_
  subst ex
  rcases q with ⟨hd, q⟩ | ⟨_, q⟩
  · obtain ⟨od, I2⟩ := I1.lock hd trivial
    exact ⟨.ref d, _, I2, rx, q od⟩
  · exact ⟨.ref d, H1, I1, rx, q⟩
theorem lock_ex {w : Wo} {d : Addr} {kvs : List (Key × V)} {od : Obj} (hd : w.H d = some (.dK kvs)) (nl : ¬ Live w d) : Ex w (w.lay d (.frz od (.dK kvs))) := by
  refine ⟨⟨⟨[], by simp [Wo.lay]⟩, fun a q => ?_, fun a u q _ => ?_, fun a _ q => q⟩, rfl, fun a ha => upd_ne fun e => nl (.inl (e ▸ ha))⟩
  · show upd w.H d _ a ≠ none
    unfold upd; split
    · simp
    · exact q
  · by_cases e : a = d
    · subst e
      cases u with
      | dK xs =>
        rcases q with q | ⟨o, q⟩
        · rw [hd] at q; cases q
          exact .inr ⟨od, upd_same⟩
        · rw [hd] at q; cases q
      | tup xs =>
        rcases q with q | ⟨o, q⟩ <;> (rw [hd] at q; cases q)
      | lst xs => rw [show Stb w.H a (.lst xs) = (w.H a = some (.lst xs)) from rfl, hd] at q; cases q
      | frz o u => rw [show Stb w.H a (.frz o u) = (w.H a = some (.frz o u)) from rfl, hd] at q; cases q
      | ins C dx fs => rw [show Stb w.H a (.ins C dx fs) = (w.H a = some (.ins C dx fs)) from rfl, hd] at q; cases q
      | _ => exact q.elim
    · exact Stb.upd e q
theorem lock_ok {w : Wo} (ok : Ok T w) {d : Addr} {kvs : List (Key × V)} {od : Obj} (hd : w.H d = some (.dK kvs)) (nl : ¬ Live w d) : Ok T (w.lay d (.frz od (.dK kvs))) := by
  have x := lock_ex (od := od) hd nl
  refine ⟨fun a ha => ?_, ok.hidN, ok.len, ok.nd, fun a ha => x.some_ a (ok.tr a ha), fun n o a hm hb => ?_⟩
  · obtain ⟨o, e, q⟩ := ok.hidT a ha
    exact ⟨o, (x.hidK a ha).trans e, q⟩
  · by_cases hdd : o = .dead
    · subst hdd; trivial
    · refine RelOb.ex ok x.toEx0 (ok.obj n o a hm hb) ?_
      exact upd_ne fun e => nl (.inr ⟨n, e ▸ hb, o, hm, hdd⟩)
theorem iter_keys_ok {w0 : Wo} {d : Addr} {od : Obj} {ks : List Str} {vs : List V} (hd : w0.H d = some (.frz od (.dK (kz ks vs)))) (nl : ¬ Live w0 d) (hl : vs.length = ks.length) : IterOk T (Itk d od (kz ks vs)) w0 (ks.map D.str) := by
  intro w ex ok
  have hd' : w.H d = some (.frz od (.dK (kz ks vs))) := ex.keep d (.frz od (.dK (kz ks vs))) hd nl
  have hlen : (kz ks vs).length = ks.length := by unfold kz; rw [List.length_zip, List.length_map, hl, Nat.min_self]
  refine ⟨fun i x hx => ?_, fun i hi => ⟨hd', by rw [hlen]; simpa using hi⟩⟩
  rw [List.getElem?_map] at hx
  cases e : ks[i]? with
  | none => rw [e] at hx; cases hx
  | some kk =>
    rw [e] at hx
    cases hx
    have hi := (List.getElem?_eq_some_iff.mp e).1
    refine ⟨⟨hd', by rw [hlen]; exact hi⟩, fun v H' y => ?_⟩
    obtain ⟨y1, k2, v2, y2, rfl⟩ := y
    refine yld_same ok y1 ?_
    unfold kz at y2
    rw [List.getElem?_zip_eq_some] at y2
    rw [List.getElem?_map, e] at y2
    obtain ⟨z1, _⟩ := y2
    cases z1
    simp only [RelD]
    rfl
@[reducible] def iKeysD (f : FE) : FI := fun r m => (f r m).bind fun d m => match d with
  | .dct ks _ => .ok (ks.map D.str) m
  | _ => .stk
theorem i_keysD (he : PE X e (rd (tx X) W f)) : PI X tg e (rdI (tx X) W (iKeysD f)) := by
  refine pi_imp (pi_keys (pe_lockV he)) ?_
  rintro σ H R ⟨w, l, rfl, ok, re, h⟩
  show rd (tx X) W f σ w.H _
  refine ⟨w, l, rfl, ok, re, ?_⟩
  cases e1 : f l w.mu with
  | stk => rw [iKeysD, e1] at h; exact h
  | ex c m => rw [iKeysD, e1] at h; exact h
  | ok d m =>
    rw [iKeysD, e1] at h
    simp only [Rs.bind] at h
    cases d with
    | dct ks ds =>
      intro w1 v x1 ok1 hm r1
      simp only [RelD] at r1
      obtain ⟨A, vs, rfl, hA, hl, nl, rvs⟩ := r1
      rcases hA with hA | ⟨od, hA⟩
      · refine ⟨A, _, rfl, .inl ⟨hA, fun od => ⟨A, od, rfl, .inl ⟨_, upd_same, ?_⟩⟩⟩⟩
        have x2 := lock_ex (od := od) hA nl
        have ok2 := lock_ok (od := od) ok1 hA nl
        exact h (w1.lay A (.frz od (.dK _))) _ (x1.trans x2) ok2 hm (iter_keys_ok upd_same nl hl)
      · exact ⟨A, _, rfl, .inr ⟨⟨od, hA⟩, A, od, rfl, .inl ⟨_, hA, h w1 _ x1 ok1 hm (iter_keys_ok hA nl hl)⟩⟩⟩
    | _ => exact h.elim

/-! ### xs.insert(i, y) -/
@[reducible] def fIns (fo : FE) (fa : FA) : FE := fun r m => (fo r m).bind fun o m => match derefL o m with
  | none => .stk
  | some _ => (fa r m).bind fun ds m => match o, ds with
    | .loc n, [.int i, d] => match m[n]? with
      | some (.lst xs) => if xs.length < 16777216 ∧ 0 ≤ i ∧ i < 4611686018427387904 then .ok .non (m.set n (.lst (xs.take i.toNat ++ [d] ++ xs.drop i.toNat))) else .stk
      | _ => .stk
    | _, _ => .stk
theorem v_ins {apos cpos : Pos} {fo : FE} (ho : PE X o (rd (tx X) W fo)) (ha : PA X (e :: es) (rdA (tx X) W fa))
    (hbase : attributeBase o "insert" X.env (eval o X.env) = eval o X.env := by rfl)
    (hfew : ((backTo cpos (starEach (e :: es) X.env)).all (fun x => !x.1) && (backToKw cpos (keywordEach [] X.env)).all (fun x => x.1.isSome)
      && decide ((e :: es).length + ([] : List Keyword).length + (if ([] : List Keyword).isEmpty then 0 else 1) < 30)) = true := by rfl)
    (hline : (apos.endLine == cpos.line) = true := by rfl) (hs : starEach (e :: es) X.env = (false, eval e X.env) :: starEach es X.env := by rfl) (hplain : (backTo cpos (starEach es X.env)).any (·.1) = false := by rfl) :
    PE X (.Call (.Attribute o "insert" apos) (e :: es) [] cpos) (rd (tx X) W (fIns fo fa)) := by
  refine pe_imp (pe_bm PySem.F.plainAttrs_list PySem.F.slot_list_insert PySem.F.type_list_insert mt_insert ho ha hbase hfew hline hs hplain) ?_
  rintro σ H Q ⟨w, l, rfl, ok, re, h⟩
  refine go_e ok re h fun d w1 v e1 ok1 re1 r1 h1 => ?_
  split at h1
  · exact h1.elim
  · rename_i xs0 hx0
    refine ⟨tyV_lst ok1 r1 hx0, ?_⟩
    refine go_a ok1 re1 h1 fun ds w2 vs e2 ok2 re2 r2 h2 => ?_
    split at h2
    · rename_i n i d'
      split at h2
      · rename_i xs hm
        split at h2
        · rename_i hl
          have r1' := r1.ex ok1 e2.toEx0
          simp only [RelD] at r1'
          obtain ⟨p, rfl, hb⟩ := r1'
          obtain ⟨u1, u2, rfl, q1, q2⟩ := r2.two
          simp only [RelD] at q1; subst q1
          obtain ⟨us, hv, rvs⟩ := ok2.obj _ _ _ hm hb
          obtain ⟨x4, ok4⟩ := put_lst ok2 hb hm (((rvs.take i.toNat).append (.cons q2 .nil)).append (rvs.drop i.toNat))
          exact ⟨p, us, i, u2, rfl, rfl, hv, by rw [sizeLine_eq, rvs.length]; exact hl.1, hl.2.1, by omega, h2 _ _ x4 ok4 rfl (by simp only [RelD])⟩
        · exact h2.elim
      · exact h2.elim
    · exact h2.elim

/-! ### enumerate of a list -/
@[reducible] def enumD : Nat → List D → List D
  | _, [] => []
  | n, d :: ds => .tup [.int (n : Nat), d] :: enumD (n + 1) ds
theorem enumD_get : ∀ {ds : List D} {n i : Nat} {x : D}, (enumD n ds)[i]? = some x → ∃ d, ds[i]? = some d ∧ x = .tup [.int ((n + i : Nat) : Int), d]
  | [], n, i, x, h => by simp [enumD] at h
  | d :: ds, n, 0, x, h => by simp [enumD] at h; exact ⟨d, rfl, h.symm⟩
  | d :: ds, n, i + 1, x, h => by
    simp only [enumD, List.getElem?_cons_succ] at h
    obtain ⟨d', h1, h2⟩ := enumD_get h
    exact ⟨d', by simpa using h1, by rw [h2, show n + 1 + i = n + (i + 1) by omega]⟩
theorem enumD_len : ∀ {ds : List D} {n : Nat}, (enumD n ds).length = ds.length
  | [], _ => rfl
  | d :: ds, n => by simp [enumD, enumD_len]
@[reducible] def iEnumD (f : FE) : FI := fun r m => (f r m).bind fun d m => match d with
  | .lst xs => .ok (enumD 0 xs) m
  | _ => .stk
theorem iter_enum {w0 : Wo} {p : Addr} {vs : List V} {ds : List D} (ok0 : Ok T w0) (h : w0.H p = some (.lst vs)) (nl : ¬ Live w0 p) (r : RelDs T w0 ds vs) : IterOk T (Ite T.K p) w0 (enumD 0 ds) := by
  intro w ex ok
  have hp : SqL T.K w.H p vs := SqL.of (ex.keep p (.lst vs) h nl)
  have r' := r.ex ok0 ex
  refine ⟨fun i x hx => ?_, fun i hi => ⟨vs, hp, by rw [r.length]; rw [enumD_len] at hi; exact hi⟩⟩
  obtain ⟨d, hd, rfl⟩ := enumD_get hx
  obtain ⟨v, hv, rv⟩ := r'.get hd
  refine ⟨⟨vs, v, hp, hv⟩, fun y H' hy => ?_⟩
  obtain ⟨t, x', rfl, ht, rfl, fx⟩ := hy
  have g := fx vs hp
  rw [hv] at g; cases g
  exact pair_ok ok ht (by simp only [RelD, Nat.zero_add]) rv
theorem i_enumD {p tpos : Pos} {elts : List Expr} {kk : Nat} (hm : X.mg "enumerate" = none) (he : PE X a (rd (tx X) W f)) (hg : Gl X "enumerate" := by rfl) (hs : starEach [a] X.env = [(false, eval a X.env)] := by rfl) :
    PI X (.Tuple elts kk tpos) (.Call (.Name "enumerate" p) [a] [] pos) (rdI (tx X) W (iEnumD f)) := by
  refine pi_imp (pi_enum hg hm (a_cons he a_nil (hs := hs)) hs) ?_
  rintro σ H R ⟨w, l, rfl, ok, re, h⟩
  show rdA (tx X) W (aCons f aNil) σ w.H _
  refine ⟨w, l, rfl, ok, re, ?_⟩
  cases e1 : f l w.mu with
  | stk => rw [iEnumD, e1] at h; exact h.elim
  | ex c m => rw [iEnumD, e1] at h; simp only [aCons, e1, Rs.bind]; exact h
  | ok d m =>
    rw [iEnumD, e1] at h
    simp only [Rs.bind] at h
    cases d with
    | lst xs =>
      simp only [aCons, aNil, e1, Rs.bind]
      intro w1 vs x1 ok1 hm1 r1
      replace r1 := RelDs.one (show RelDs (tx X) w1 [.lst xs] vs from r1)
      obtain ⟨v, rfl, q1⟩ := r1
      simp only [RelD] at q1
      obtain ⟨A, us, rfl, hA, nl, rvs⟩ := q1
      exact ⟨A, us, rfl, SqL.of hA, h w1 _ x1 ok1 hm1 (iter_enum ok1 hA nl rvs)⟩
    | _ => exact h.elim
theorem set_mid {α : Type} {r : List α} {i j : Nat} {x y z : α} (h : i ≠ j) : ((r.set i x).set j y).set i z = (r.set j y).set i z := by
  rw [List.set_comm _ _ h, List.set_set]
theorem fn_ruleN {P : Program} {w : World} {base : Heap} {x qual : Str} {st : Stmt} {f : Addr} {fd : FuncData} {N ps : List Str} {body : FS} {n nn : Nat} (F : L2.Fun T.K x qual st f fd) (S : FnScope N ps (defScope st)) (hn : ps.length = n) (hnn : N.length = nn)
    (hb : ∀ (cdv : Value) (A : Around) (outer : List Env) (s : Shared) (H : Hp) (E : XK), Room k (A.deeper (PyProof.Rows.envOfC qual (defScope st) s.heap.objs.size f cdv)) →
      PSs (cxF P w T base N qual (defScope st) f cdv A outer s H E) (defBody st) (rdS T (WF E) body)) :
    FnOk P w T.K T.mg base (L2.CX P w) (k + 1) f fd ps (spF T n (runF nn body)) := by
  subst hn hnn
  exact fn_rule F S hb
end FR
set_option Elab.async false
set_option linter.all false
set_option maxRecDepth 100000
set_option maxHeartbeats 4000000
/-! ## Two texts that agree where a slot holds a value; how a law's run is told by the kernel -/
namespace FR
open PySem PySem.Spec L2
set_option autoImplicit false
variable {i j : Nat} {v : D} {A A' B B' : FS} {f f' : FE} {t : FT} {p : Pt} {fi fi' : FI}

def Keep (i : Nat) (v : D) : Rt → Prop
  | .ok (.nx r) _ => r[i]? = some (some v)
  | .ok (.ct r) _ => r[i]? = some (some v)
  | .ok (.bk r) _ => r[i]? = some (some v)
  | _ => True
def Cg (i : Nat) (v : D) (A B : FS) : Prop := ∀ r m, r[i]? = some (some v) → A r m = B r m ∧ Keep i v (A r m)
def Ce (i : Nat) (v : D) (f g : FE) : Prop := ∀ r m, r[i]? = some (some v) → f r m = g r m
theorem ce_rfl : Ce i v f f := fun _ _ _ => rfl
theorem cg_seq (h1 : Cg i v A A') (h2 : Cg i v B B') : Cg i v (sSeq A B) (sSeq A' B') := by
  intro r m hr
  obtain ⟨e, k⟩ := h1 r m hr
  unfold sSeq
  rw [← e]
  cases hA : A r m with
  | stk => exact ⟨rfl, trivial⟩
  | ex c r' m' => exact ⟨rfl, trivial⟩
  | ok fl m' =>
    rw [hA] at k
    cases fl with
    | nx r' => exact h2 r' m' k
    | rt d => exact ⟨rfl, trivial⟩
    | bk r' => exact ⟨rfl, k⟩
    | ct r' => exact ⟨rfl, k⟩
theorem cg_set (hj : j ≠ i) (hf : Ce i v f f') : Cg i v (sSet j f) (sSet j f') := by
  intro r m hr
  unfold sSet
  rw [← hf r m hr]
  refine ⟨rfl, ?_⟩
  cases f r m with
  | stk => exact trivial
  | ex c m' => exact trivial
  | ok d m' =>
    show (r.set j (some d))[i]? = _
    rw [List.getElem?_set_ne hj]; exact hr
theorem cg_exp (hf : Ce i v f f') : Cg i v (sExp f) (sExp f') := by
  intro r m hr
  unfold sExp
  rw [← hf r m hr]
  refine ⟨rfl, ?_⟩
  cases f r m with
  | stk => exact trivial
  | ex c m' => exact trivial
  | ok d m' => exact hr
theorem cg_ret (hf : Ce i v f f') : Cg i v (sRet f) (sRet f') := by
  intro r m hr
  unfold sRet
  rw [← hf r m hr]
  refine ⟨rfl, ?_⟩
  cases f r m <;> exact trivial
theorem cg_nx : Cg i v sNx sNx := fun r m hr => ⟨rfl, hr⟩
theorem cg_if (h1 : Cg i v A A') (h2 : Cg i v B B') : Cg i v (sIf t A B) (sIf t A' B') := by
  intro r m hr
  unfold sIf
  cases t r m with
  | stk => exact ⟨rfl, trivial⟩
  | ex c m' => exact ⟨rfl, trivial⟩
  | ok z m' =>
    cases z with
    | true => exact h1 r m' hr
    | false => exact h2 r m' hr
theorem cg_putD {fo fi f : FE} : Cg i v (sPutD fo fi f) (sPutD fo fi f) := by
  intro r m hr
  refine ⟨rfl, ?_⟩
  unfold sPutD
  cases f r m with
  | stk => exact trivial
  | ex c m' => exact trivial
  | ok d m1 =>
    show Keep i v ((fo r m1).sq r _)
    cases fo r m1 with
    | stk => exact trivial
    | ex c m' => exact trivial
    | ok o m2 =>
      show Keep i v ((fi r m2).sq r _)
      cases fi r m2 with
      | stk => exact trivial
      | ex c m' => exact trivial
      | ok x m3 =>
        show Keep i v (match gPutD o x d m3 with | some m => Rt.ok (.nx r) m | none => .stk)
        split
        · exact hr
        · exact trivial
theorem setAll_keep : ∀ {is : List Nat} {r : Lc} {ds : List D}, i ∉ is → (setAll r is ds)[i]? = r[i]?
  | [], r, ds, _ => by cases ds <;> rfl
  | j :: is, r, [], _ => rfl
  | j :: is, r, d :: ds, h => by
    show (setAll (r.set j (some d)) is ds)[i]? = _
    rw [setAll_keep (fun q => h (List.mem_cons_of_mem _ q)), List.getElem?_set_ne fun e => h (by rw [e]; exact List.mem_cons_self)]
theorem asg_keep {r r' : Lc} {d : D} (hp : i ∉ p.slots) (h : asg p d r = some r') : r'[i]? = r[i]? := by
  unfold asg at h
  split at h
  · cases h
    rw [List.getElem?_set_ne fun e => hp (by simp [Pt.slots, e])]
  · split at h
    · cases h; exact setAll_keep hp
    · cases h
  · split at h
    · cases h; exact setAll_keep hp
    · cases h
  · cases h
theorem cg_asg (hp : i ∉ p.slots) (hf : Ce i v f f') : Cg i v (sAsg p f) (sAsg p f') := by
  intro r m hr
  unfold sAsg
  rw [← hf r m hr]
  refine ⟨rfl, ?_⟩
  cases f r m with
  | stk => exact trivial
  | ex c m' => exact trivial
  | ok d m' =>
    show Keep i v (match asg p d r with | some r' => Rt.ok (.nx r') m' | none => .stk)
    split
    · rename_i r' h
      show r'[i]? = _
      rw [asg_keep hp h]; exact hr
    · exact trivial
theorem forL_cg (hp : i ∉ p.slots) (hb : Cg i v A A') : ∀ ds, Cg i v (forL p A ds) (forL p A' ds)
  | [] => fun r m hr => ⟨rfl, hr⟩
  | d :: ds => fun r m hr => by
    simp only [forL]
    cases ea : asg p d r with
    | none => exact ⟨rfl, trivial⟩
    | some r1 =>
      have hr1 : r1[i]? = some (some v) := by rw [asg_keep hp ea]; exact hr
      obtain ⟨e, k⟩ := hb r1 m hr1
      simp only
      rw [← e]
      cases hA : A r1 m with
      | stk => exact ⟨rfl, trivial⟩
      | ex c r' m' => exact ⟨rfl, trivial⟩
      | ok fl m' =>
        rw [hA] at k
        cases fl with
        | nx r' => exact forL_cg hp hb ds r' m' k
        | ct r' => exact forL_cg hp hb ds r' m' k
        | rt d => exact ⟨rfl, trivial⟩
        | bk r' => exact ⟨rfl, k⟩
theorem cg_for (hp : i ∉ p.slots) (hi : ∀ r m, r[i]? = some (some v) → fi r m = fi' r m) (hb : Cg i v A A') : Cg i v (sFor p fi A) (sFor p fi' A') := by
  intro r m hr
  unfold sFor
  rw [← hi r m hr]
  cases fi r m with
  | stk => exact ⟨rfl, trivial⟩
  | ex c m' => exact ⟨rfl, trivial⟩
  | ok ds m' => exact forL_cg hp hb ds r m' hr
/-- a statement ahead that leaves the slot alone -/
theorem seq_keep {r : Lc} {m : List O} {w : D} (hi : i ≠ j) (hr : r[j]? = some (some w)) (h : ∀ r m, r[j]? = some (some w) → A r m = B r m) : sSeq (sSet i f) A r m = sSeq (sSet i f) B r m := by
  unfold sSeq sSet
  cases f r m with
  | ok d m' => exact h _ _ (by rw [List.getElem?_set_ne hi]; exact hr)
  | ex c m' => rfl
  | stk => rfl
/-- a slot is set to what is known, then -/
theorem seq_known {r : Lc} {m : List O} {d : D} (hf : f r m = .ok d m) (hl : i < r.length) (h : Cg i d A B) : sSeq (sSet i f) A r m = sSeq (sSet i (fC d)) B r m := by
  unfold sSeq sSet
  rw [hf]
  exact (h _ _ (by rw [List.getElem?_set]; simp [hl])).1
def chk : Rs D → Bool
  | .ok (.bl true) _ => true
  | _ => false
theorem chk_ok {x : Rs D} (h : chk x = true) : ∃ m, x = .ok (.bl true) m := by
  cases x with
  | ok d m =>
    cases d with
    | bl b => cases b with
      | true => exact ⟨m, rfl⟩
      | false => cases h
    | _ => cases h
  | ex c m => cases h
  | stk => cases h
/-- how a def's run ends -/
def fin : Rt → Rs D
  | .ok (.nx _) m => .ok .non m
  | .ok (.rt d) m => .ok d m
  | .ok _ _ => .stk
  | .ex c _ m => .ex c m
  | .stk => .stk
theorem runF_fin {n : Nat} {body : FS} (ds : List D) (m : List O) : runF n body ds m = fin (body (ds.map some ++ List.replicate (n - ds.length) none) m) := by
  unfold runF fin
  cases body (ds.map some ++ List.replicate (n - ds.length) none) m with
  | ok f m => cases f <;> rfl
  | ex c r m => rfl
  | stk => rfl
theorem atN' {α : Type} {xs : List α} {i : Int} (h0 : 0 ≤ i) : atI xs i = xs[i.toNat]? := by
  unfold atI ixN
  rw [if_pos h0]
  by_cases h : i < xs.length
  · rw [if_pos h]; rfl
  · rw [if_neg h, Option.bind_none]
    symm
    rw [List.getElem?_eq_none_iff]
    omega
theorem mod_ce {c k : Int} (hk : 0 < k) : Ce i (.int c) (fBin gMod (fVar i) (fC (.int k))) (fC (.int (c % k))) := by
  intro r m h
  have e : fVar i r m = .ok (.int c) m := by unfold fVar; rw [h]
  show (fVar i r m).bind _ = _
  rw [e]
  show (if decide (0 < k) = true then Rs.ok (D.int (c % k)) m else .stk) = _
  rw [if_pos (decide_eq_true hk)]
/-! ### expressions that agree -/
def Ca (i : Nat) (v : D) (f g : FA) : Prop := ∀ r m, r[i]? = some (some v) → f r m = g r m
theorem ca_rfl {fa : FA} : Ca i v fa fa := fun _ _ _ => rfl
theorem bind_congr {α β : Type} {x : Rs α} {k k' : α → List O → Rs β} (h : ∀ a m, k a m = k' a m) : x.bind k = x.bind k' := by
  cases x with
  | ok a m => exact h a m
  | ex c m => rfl
  | stk => rfl
theorem ce_bin {o : D → D → List O → Rs D} {g g' : FE} (h1 : Ce i v f f') (h2 : Ce i v g g') : Ce i v (fBin o f g) (fBin o f' g') := fun r m hr => by
  show (f r m).bind _ = (f' r m).bind _
  rw [h1 r m hr]
  refine bind_congr fun a m1 => ?_
  rw [h2 r m1 hr]
theorem ce_un {o : D → List O → Rs D} (h1 : Ce i v f f') : Ce i v (fUn o f) (fUn o f') := fun r m hr => by
  show (f r m).bind _ = (f' r m).bind _
  rw [h1 r m hr]
theorem ca_cons {fa fa' : FA} (h1 : Ce i v f f') (h2 : Ca i v fa fa') : Ca i v (aCons f fa) (aCons f' fa') := fun r m hr => by
  show (f r m).bind _ = (f' r m).bind _
  rw [h1 r m hr]
  refine bind_congr fun a m1 => ?_
  rw [h2 r m1 hr]
theorem ce_cb {o : List D → List O → Rs D} {fa fa' : FA} (h : Ca i v fa fa') : Ce i v (fCB o fa) (fCB o fa') := fun r m hr => by
  show (fa r m).bind _ = (fa' r m).bind _
  rw [h r m hr]
theorem ce_tup {fa fa' : FA} (h : Ca i v fa fa') : Ce i v (fTup fa) (fTup fa') := fun r m hr => by
  show (fa r m).bind _ = (fa' r m).bind _
  rw [h r m hr]
theorem ce_lst {fa fa' : FA} (h : Ca i v fa fa') : Ce i v (fLst fa) (fLst fa') := fun r m hr => by
  show (fa r m).bind _ = (fa' r m).bind _
  rw [h r m hr]
theorem ce_ins {g g' : FE} {fa fa' : FA} (h1 : Ce i v g g') (h : Ca i v fa fa') : Ce i v (fIns g fa) (fIns g' fa') := fun r m hr => by
  show (g r m).bind _ = (g' r m).bind _
  rw [h1 r m hr]
  refine bind_congr fun a m1 => ?_
  simp only [h r m1 hr]
def Cp (i : Nat) (v : D) (f g : FP) : Prop := ∀ r m, r[i]? = some (some v) → f r m = g r m
theorem cp_rfl {q : FP} : Cp i v q q := fun _ _ _ => rfl
theorem cp_so (h : Ce i v f f') : Cp i v (pSo f) (pSo f') := fun r m hr => by
  show (f r m).bind _ = (f' r m).bind _
  rw [h r m hr]
theorem ci_all (h : Ce i v f f') : ∀ r m, r[i]? = some (some v) → iAll f r m = iAll f' r m := fun r m hr => by
  show (f r m).bind _ = (f' r m).bind _
  rw [h r m hr]
theorem ce_sl {lo lo' hi hi' : FP} (h1 : Ce i v f f') (h2 : Cp i v lo lo') (h3 : Cp i v hi hi') : Ce i v (fSl f lo hi) (fSl f' lo' hi') := fun r m hr => by
  show (f r m).bind _ = (f' r m).bind _
  rw [h1 r m hr]
  refine bind_congr fun a m1 => ?_
  rw [h2 r m1 hr]
  refine bind_congr fun b m2 => ?_
  rw [h3 r m2 hr]
theorem seq_keep2 {r : Lc} {m : List O} {w : D} {n : Nat} (hi : i ≠ j) (hr : r[j]? = some (some w)) (hl : n < r.length) (h : ∀ r m, r[j]? = some (some w) → n < r.length → A r m = B r m) : sSeq (sSet i f) A r m = sSeq (sSet i f) B r m := by
  unfold sSeq sSet
  cases f r m with
  | ok d m' => exact h _ _ (by rw [List.getElem?_set_ne hi]; exact hr) (by simpa using hl)
  | ex c m' => rfl
  | stk => rfl
end FR
set_option Elab.async false
set_option linter.all false
set_option maxRecDepth 100000
set_option maxHeartbeats 4000000
/-! ## long tuples by a product -/
namespace FR
open PySem PySem.Spec L2
set_option autoImplicit false
variable {X : Cx} {T : Tx} {W : WX} {f g h : FE} {fa : FA} {ft gt : FT} {a b c e o tg iter : Expr} {es rest : List Expr} {pos : Pos} {k : Nat}
def rRepLong (K : PySem.W.Frag) : R2 := fun u v H Q => ∃ (A : Addr) (n : Int) (vs : List V), u = .ref A ∧ v = .int n ∧ SqT K H A vs ∧ vs ≠ [] ∧ (2 ≤ n ∧ n ≤ 10000 ∧ vs.length ≤ 100) ∧ ∀ p, H p = none → Q (.ref p) (upd H p (.tup (List.replicate n.toNat vs).flatten))
theorem op_repLong : OpR X (binaryOp .Mult) (rRepLong X.K) := by
  intro pins s sg H u v uu vv Q I ru rv h
  obtain ⟨A, n, vs, rfl, rfl, hT, hne, ⟨n1, n2, n3⟩, q⟩ := h
  cases ru
  obtain ⟨tk, rfl⟩ := rv
  obtain ⟨its, r, ⟨⟨oc, od, odt, osl⟩, ho, hc, nn, hd⟩, hs⟩ := I.tuple hT
  simp only at hc hd
  subst hc hd
  have el : its.length = vs.length := r.length.symm
  have e0 : its.toArray.isEmpty = false := by
    cases its with
    | nil => exact absurd (List.eq_nil_of_length_eq_zero el.symm) hne
    | cons _ _ => rfl
  have es : its.toArray.size = vs.length := by rw [List.size_toArray, el]
  have pr : ((its.toArray.size : Nat) : Int) * n ≤ 1000000 := by
    rw [es]
    have : ((vs.length : Nat) : Int) * n ≤ 100 * n := Int.mul_le_mul_of_nonneg_right (by omega) (by omega)
    omega
  have pn : n.toNat * vs.length ≤ 1000000 := by
    have : n.toNat * vs.length ≤ 10000 * 100 := Nat.mul_le_mul (by omega) n3
    omega
  have fl : (List.replicate n.toNat its).flatten.length ≤ sizeLine := by
    rw [PyProof.Rows.lm_len_rep_flat, el, sizeLine_eq]; omega
  have d0 : (decide (n < -(2 ^ 63)) || decide (n ≥ 2 ^ 63)) = false := by
    rw [decide_eq_false (by omega), decide_eq_false (by omega)]; rfl
  have d1 : (its.toArray.isEmpty || n == 1) = false := by
    rw [e0, Bool.false_or, beq_eq_false_iff_ne]; omega
  have d2 : (decide (n ≤ 0) || its.toArray.isEmpty) = false := by
    rw [e0, Bool.or_false, decide_eq_false (by omega)]
  have d4 : Builtin.Tuple.tupleTooMany (((its.toArray.size : Nat) : Int) * n) = false := by
    unfold Builtin.Tuple.tupleTooMany
    rw [sizeLine_eq, decide_eq_false (by omega)]
  have mul := tuple_mulW A its.toArray nn od osl n tk d0 d1 d2 (by omega) d4 (by rw [size_rep, List.size_toArray]; exact fl)
  refine wpAny_binaryOp_repeat_ref (T := "tuple") (U := "int") (by decide) ⟨_, ho, rfl⟩ (fun s' => typeIs_int s' n tk) noFill_tuple_mul F.fills_int_mul F.slot_int_rmul repeat_tuple F.slot_int_index.lookup ?_
  refine call_meets F.slot_int_rmul (typeIs_int s n tk) F.entry_int_rmul (F.args_int_rmul_2 _ _) (int_rmul_tuple n tk A its.toArray nn od osl) ⟨ho, rfl, ⟨_, ho, rfl⟩, ?_⟩
  refine call_meets F.slot_tuple_mul ⟨_, ho, rfl⟩ F.entry_tuple_mul (F.args_tuple_mul_2 _ _) mul ⟨ho, ?_⟩
  rw [size_rep]
  have Hp' := q _ (I.hok.fresh (Nat.le_refl _))
  have ob : ObjOk X.prog X.w (upd H s.heap.objs.size (.tup (List.replicate n.toNat vs).flatten)) (s.heap.push { cls := .type "tuple", data := .seq (List.replicate n.toNat its).flatten.toArray }) s.heap.objs.size (.tup (List.replicate n.toNat vs).flatten) :=
    ⟨by rw [PyProof.Rows.lm_len_rep_flat, sizeLine_eq]; omega, _, r.rep n.toNat, PyProof.Rows.IsTup.new _ _⟩
  exact ⟨.ref s.heap.objs.size, _, I.laid (t' := s.toks) (o := .tup (List.replicate n.toNat vs).flatten) (fun _ _ z => Heap.get?_push_of_some _ z) (Nat.le_refl _) ob, rfl, Hp'⟩
@[reducible] def gMulL : D → D → List O → Rs D := fun a b m => match a, b with
  | .tup xs, .int i => if xs ≠ [] ∧ 2 ≤ i ∧ i ≤ 10000 ∧ xs.length ≤ 100 then .ok (.tup (List.replicate i.toNat xs).flatten) m else .stk
  | _, _ => .stk
theorem v_mulL (ha : PE X a (rd (tx X) W f)) (hb : PE X b (rd (tx X) W g)) : PE X (.BinOp a .Mult b pos) (rd (tx X) W (fBin gMulL f g)) := by
  refine v_bin op_repLong (fun W w d e v u Q ok r1 r2 h => ?_) ha hb
  unfold gMulL at h
  split at h
  · split at h
    · rename_i xs i q
      simp only [RelD] at r1 r2; subst r2
      obtain ⟨p, vs, rfl, q1, q2⟩ := r1
      exact ⟨p, i, vs, rfl, rfl, q1, fun e => q.1 (q2.emp.mp e), ⟨q.2.1, q.2.2.1, by rw [q2.length]; exact q.2.2.2⟩, new_tup ok (q2.rep _) h⟩
    · exact h.elim
  · exact h.elim
end FR
set_option Elab.async false
set_option linter.all false
set_option maxRecDepth 100000
set_option maxHeartbeats 4000000
/-! ## own ==, isinstance with an own class -/
namespace FR
open PySem PySem.Spec L2
set_option autoImplicit false
variable {X : Cx} {T : Tx} {W : WX} {f g h : FE} {fa : FA} {ft gt : FT} {a b c e o tg iter : Expr} {es rest : List Expr} {pos : Pos} {k : Nat}

theorem env0_here {pins : List (Addr × Obj)} {s : Shared} {σ : St} {H : Hp} (I : Inv X pins σ H s) : Env0 X.prog X.w X.K X.mg X.base X.A X.stack s H := I.env0
def rEqO (T : Tx) (C : Addr) (oo : List D → List O → Rs D) : R2 := fun x y H Q => ∃ p dx fs, x = .ref p ∧ H p = some (.ins C dx fs) ∧ ((∃ q dy gs, y = .ref q ∧ H q = some (.ins C dy gs)) ∨ (∃ q ys, y = .ref q ∧ SqT T.K H q ys)) ∧
  spF T 2 oo [x, y] H (fun v H' => ∃ z : Bool, v = .bl z ∧ Q (.bl z) H') (fun _ _ _ => False)
theorem op_eqO {C fa' : Addr} {fd : FuncData} {ps : List Str} {oo : List D → List O → Rs D} (F : FnOk X.prog X.w X.K X.mg X.base (L2.CX X.prog X.w) k fa' fd ps (spF (tx X) 2 oo)) (hm : Meth X.K C "__eq__" fa') (hb : Binds X.K fd ps []) (hr : Room k X.A)
    (ns : PySem.W.subIn X.K (.type "tuple") (.ref C) = some false) : OpR X (compareOp .Eq) (rEqO (tx X) C oo) := by
  intro pins s σ H x y v u Q I rx ry h
  obtain ⟨p, dx, fs, rfl, hp, hy, hsp⟩ := h
  have hl := F.len _ _ _ _ hsp
  cases rx
  obtain ⟨mA, J, _⟩ := ins_get I.hok hp
  obtain ⟨od, J, _⟩ := J.look
  obtain ⟨m, hF⟩ := I.fr
  have run : ∀ q, y = .ref q → u = .ref q → wpAny (model X.prog X.w) X.A (call (.ref fa') [.ref p, .ref q]) (PySem.W.CmpBack (EP X pins σ Q)) X.xe s := by
    rintro q rfl rfl
    have r2 : Vals [V.ref p, V.ref q] [Value.ref p, Value.ref q] := .cons rfl (.cons rfl .nil)
    refine wpAny_call (codeAny_mono (F.run X.A X.stack s H ⟨[.ref p, .ref q], []⟩ [.ref p, .ref q] [.ref p, .ref q] _ _ hr I.env0 (by
      have := hb s [.ref p, .ref q] I.kIn (by simpa using hl)
      simpa using this) r2 hsp) fun r s' hq => ?_)
    cases r with
    | error e =>
      obtain ⟨a, B, H', cls, d, _, _, _, _, _, _, _, hE⟩ := hq
      exact hE.elim
    | ok fl =>
      cases fl with
      | ret w =>
        obtain ⟨z, H', I', rz, b, rfl, q⟩ := I.after hq
        cases rz
        exact ⟨.bl b, H', I', rfl, q⟩
      | next => exact False.elim hq
      | brk => exact False.elim hq
      | cont => exact False.elim hq
  show wpAny (model X.prog X.w) X.A (richCompare .Eq (.ref p) u) (EP X pins σ Q) X.xe s
  rcases hy with ⟨q, dy, gs, rfl, hq⟩ | ⟨q, ys, rfl, hq⟩
  · cases ry
    obtain ⟨mB, J', _⟩ := ins_get I.hok hq
    obtain ⟨od', J', _⟩ := J'.look
    exact PySem.W.cmp_K (op := .Eq) (tb := .ref C) hr.units0 hF I.ok.mod.kin J J'.type (by simp [PySem.W.notFirst]) hm.at_ hm.fn (run q rfl rfl)
  · cases ry
    have ht : PySem.W.Looks (model X.prog X.w) s.heap (typeOf (.ref q)) (.type "tuple") := by
      obtain ⟨its, rv, ⟨o, h1, h2, _⟩, hz⟩ := I.tuple hq
      exact h2 ▸ (PySem.W.Looks.ld h1).andThen .now
    exact PySem.W.cmp_K (op := .Eq) (tb := .type "tuple") hr.units0 hF I.ok.mod.kin J ht (by simp [PySem.W.notFirst, ns]) hm.at_ hm.fn (run q rfl rfl)
@[reducible] def isTup : D → Bool
  | .tup _ => true
  | _ => false
@[reducible] def gEqO (c : Str) (oo : List D → List O → Rs D) : D → D → List O → Rs D := fun a b m => if (isIns c "__eq__" a m && (isIns c "__eq__" b m || isTup b)) = true then (match oo [a, b] m with
  | .ok (.bl z) m => .ok (.bl z) m
  | _ => .stk) else .stk
theorem cm_eqO {c : Str} {oo : List D → List O → Rs D} (F : MtG X.prog X.w (tx X) X.base c "__eq__" k 1 oo) (hr : Room k X.A) (ns : ∀ C, X.mg c = some (.ref C) → PySem.W.subIn X.K (.type "tuple") (.ref C) = some false) : Cm X .Eq (gEqO c oo) := by
  obtain ⟨C, fa', fd, ps, hF, cg, hmt, hb⟩ := F.ex
  refine ⟨_, op_eqO hF hmt hb hr (ns C cg.g), fun W w d e v u Q ok r1 r2 h => ?_⟩
  unfold gEqO at h
  split at h
  case isFalse => exact h.elim
  rename_i hi
  rw [Bool.and_eq_true, Bool.or_eq_true] at hi
  obtain ⟨p, dx, fs, rfl, hp, _⟩ := isIns_ok cg ok r1 hi.1
  refine ⟨p, dx, fs, rfl, hp, ?_, w, [d, e], rfl, ok, .cons r1 (.cons r2 .nil), rfl, ?_⟩
  · rcases hi.2 with q | q
    · obtain ⟨p2, dy, gs, rfl, hp2, _⟩ := isIns_ok cg ok r2 q
      exact .inl ⟨p2, dy, gs, rfl, hp2⟩
    · cases e with
      | tup xs =>
        simp only [RelD] at r2
        obtain ⟨p2, ys, rfl, h2, _⟩ := r2
        exact .inr ⟨p2, ys, rfl, h2⟩
      | _ => cases q
  · cases eo : oo [d, e] w.mu with
    | stk => rw [eo] at h; exact h
    | ex c mm => rw [eo] at h; exact h.elim
    | ok z mm =>
      rw [eo] at h
      cases z with
      | bl b =>
        intro w2 v2 x2 ok2 hm2 r2'
        simp only [RelD] at r2'; subst r2'
        exact ⟨b, rfl, h w2 (.bl b) x2 ok2 hm2 (by simp only [RelD])⟩
      | _ => exact h.elim

/-! ### isinstance(x, C), C an own class -/
@[reducible] def bIsO (c : Str) : List D → List O → Rs D := fun ds m => match ds with
  | [d, .glo x] => if x = c then (if isIns c "__class__" d m = true then .ok (.bl true) m else if isTup d = true then .ok (.bl false) m else .stk) else .stk
  | _ => .stk
theorem cb_isO {c : Str} {C : Addr} (cg : ClG (tx X) c C) (ic : IcG (tx X) C) (k1 : PySem.W.kitOne X.K (.ref C) (.ref C) = some true) (k2 : PySem.W.kitOne X.K (.type "tuple") (.ref C) = some false) : Cb X (.builtin "isinstance") (bIsO c) := by
  refine ⟨_, call_isi, fun W w ds vs Q ok r h => ?_⟩
  unfold bIsO at h
  split at h
  · rename_i d x
    split at h
    case isFalse => exact h.elim
    rename_i hx
    subst hx
    obtain ⟨v, u, rfl, r1, r2⟩ := r.two
    simp only [RelD] at r2
    obtain ⟨A, rfl, hA⟩ := r2
    have e : A = C := by have q : some (Value.ref A) = some (Value.ref C) := hA.symm.trans cg.g; cases q; rfl
    subst e
    split at h
    · rename_i hi
      obtain ⟨p, dx, fs, rfl, hp, _⟩ := isIns_ok cg ok r1 hi
      exact ⟨.ref p, _, _, _, true, rfl, .own _, .base (.ins hp cg.cl ic.ha ic.hn ic.ht ic.hm), k1, h.now ok (by simp only [RelD])⟩
    · split at h
      · rename_i ht
        have et : ∃ t, tyD d w.mu = some t ∧ t = "tuple" := by
          cases d <;> first | exact ⟨_, rfl, rfl⟩ | cases ht
        obtain ⟨t, et, rfl⟩ := et
        exact ⟨v, _, _, _, false, rfl, .own _, tyD_tyx ok r1 et, k2, h.now ok (by simp only [RelD])⟩
      · exact h.elim
  · exact h.elim
end FR
set_option Elab.async false
set_option linter.all false
set_option maxRecDepth 100000
set_option maxHeartbeats 4000000
/-! ## making and methods by themselves -/
namespace FR
open PySem PySem.Spec L2
set_option autoImplicit false
variable {X : Cx} {T : Tx} {W : WX} {f g h : FE} {fa : FA} {ft gt : FT} {a b c e o tg iter : Expr} {es rest : List Expr} {pos : Pos} {k : Nat}

theorem MtG.iso {P : Program} {w : World} {base : Heap} {c x : Str} {k n : Nat} {o : List D → List O → Rs D} (F : MtG P w T base c x k n o) : MtG P w T base c x k n (FR.iso o) := by
  obtain ⟨C, f, fd, ps, h1, h2⟩ := F.ex
  exact ⟨C, f, fd, ps, h1.imp spF_iso, h2⟩
def fMakeI (c : Str) (o : List D → List O → Rs D) (fa : FA) : FE := fun r m => (fa r m).bind fun ds m => if noLocs ds = true then (match o (.loc 0 :: ds) [.ins c [] []] with
  | .ok .non m' => (match m' with
    | .ins c' ns vs :: _ => if noLocs vs = true then .ok (.ins c' ns vs) m else .stk
    | _ => .stk)
  | .ex c _ => .ex c m
  | _ => .stk) else .stk
theorem v_makeI {x : Str} {p : Pos} {n : Nat} {oo : List D → List O → Rs D} (F : MkG X.prog X.w (tx X) X.base x k n oo) (hr : Room (k + 1) X.A) (tk : Takes X W) (ha : PA X (e :: es) (rdA (tx X) W fa)) (hn : ∀ r m, ∀ ds m', fa r m = .ok ds m' → ds.length = n) (hg : Gl X x := by rfl)
    (hdb : (x == ("__debug__" : Str)) = false := by decide) (he : starEach (e :: es) X.env = (false, eval e X.env) :: starEach es X.env := by rfl) (hpl : (backTo pos (starEach es X.env)).any (·.1) = false := by rfl) :
    PE X (.Call (.Name x p) (e :: es) [] pos) (rd (tx X) W (fMakeI x oo fa)) := by
  obtain ⟨C, f, fd, ps, hF, hm, hk, hb⟩ := F.ex
  refine pe_imp (pe_mkS hk hF hr hg hm hb (E := fun σ => WE W σ) (fun σ => passAt tk σ) ha hdb he hpl) ?_
  rintro σ H Q ⟨w, l, rfl, ok, re, h⟩
  refine ⟨w, l, rfl, ok, re, ?_⟩
  unfold fMakeI at h
  cases e1 : fa l w.mu with
  | stk => rw [e1] at h; exact h
  | ex c mm => rw [e1] at h; exact h
  | ok ds mm =>
    rw [e1] at h
    intro w1 vs x1 ok1 hm1 r1
    subst hm1
    simp only [Rs.bind] at h
    split at h
    case isFalse => exact h.elim
    rename_i hnl
    intro a dx ha hdx hne
    -- the world of the call: nothing but the new object
    have ha0 : w1.inn.H a = none := ha
    have hdx0 : w1.inn.H dx = none := hdx
    have ok0 : Ok (tx X) w1.inn := inn_ok ok1
    have r0 : RelDs (tx X) w1.inn ds vs := RelDs.mv (w := w1) (w' := w1.inn) rfl (fun a h => inn_live.mp h) hnl r1
    have xa : Ex w1.inn (w1.inn.lay dx (.own a)) := lay_ex ok0 hdx0
    have oka : Ok (tx X) (w1.inn.lay dx (.own a)) := lay_ok ok0 hdx0
    have fra : (w1.inn.lay dx (.own a)).H a = none := by
      show upd w1.inn.H dx (.own a) a = none
      rw [upd_ne (Ne.symm hne)]; exact ha0
    have hu : RelOb (tx X) ((w1.inn.lay dx (.own a)).new a (.ins C dx []) (.ins x [] [])) a (.ins x [] []) := ⟨C, dx, [], hm, upd_same, rfl, .nil⟩
    have xb : Ex (w1.inn.lay dx (.own a)) ((w1.inn.lay dx (.own a)).new a (.ins C dx []) (.ins x [] [])) := new_ex oka fra
    have okb : Ok (tx X) ((w1.inn.lay dx (.own a)).new a (.ins C dx []) (.ins x [] [])) := new_ok oka fra hu
    have hbt : ((w1.inn.lay dx (.own a)).new a (.ins C dx []) (.ins x [] [])).bt[0]? = some a := rfl
    refine ⟨_, .loc 0 :: ds, rfl, okb, .cons ?_ (((r0.ex ok0 xa.toEx0)).ex oka xb.toEx0), by simp [hn _ _ _ _ e1], ?_⟩
    · simp only [RelD]; exact ⟨a, rfl, hbt⟩
    · have xab := xa.trans xb
      show Post (tx X) (RelD (tx X)) _ _ (oo (.loc 0 :: ds) [.ins x [] []]) _
      cases eo : oo (.loc 0 :: ds) [.ins x [] []] with
      | stk => rw [eo] at h; exact h
      | ex c m' =>
        rw [eo] at h
        intro w' e' ok' hm'
        exact h (w1.out w') (x1.trans (out_ex (xab.trans e'))) (out_ok ok1 (xab.trans e')) rfl
      | ok d m' =>
        rw [eo] at h
        intro w' v e' ok' hm' rv
        cases d <;> first | exact h.elim | skip
        simp only [RelD] at rv
        refine ⟨rv, ?_⟩
        simp only at h
        cases m' with
        | nil => exact h.elim
        | cons o1 m2 =>
          cases o1 with
          | ins c' ns us =>
            simp only at h
            split at h
            case isFalse => exact h.elim
            rename_i hnu
            have ex := out_ex (xab.trans e')
            have bt0 : w'.bt[0]? = some a := e'.bt hbt
            obtain ⟨C', dx', us', hc', hH, hlen, rus⟩ := ok'.obj 0 (.ins c' ns us) a (by rw [hm']; rfl) bt0
            refine h (w1.out w') (.ref a) (x1.trans ex) (out_ok ok1 (xab.trans e')) rfl ?_
            simp only [RelD]
            refine ⟨a, C', dx', us', rfl, hc', hH, hlen, fun l => not_live ok1 ha (out_live.mp l), RelDs.mv (w := w') (w' := w1.out w') rfl (fun b hb => ?_) hnu rus⟩
            refine .inl ?_
            rw [e'.hidE]
            exact out_live.mp hb
          | _ => exact h.elim
end FR
set_option Elab.async false
set_option linter.all false
set_option maxRecDepth 100000
set_option maxHeartbeats 4000000
namespace K01
open PySem PySem.Spec L2 FR
/-! ### the text by places -/
def top (i : Nat) : Stmt := PySem.Challenge.pw_columnkin_k01_no_schemas.main.body.getD i (.Pass ⟨0, 0, 0, 0⟩)
abbrev s_Schema___init__ : Stmt := inClass (top 13) 0
abbrev s_ways_within : Stmt := top 14
abbrev s_step_below : Stmt := top 15
abbrev s_levels_below : Stmt := top 16
abbrev s_leaf_of : Stmt := top 17
abbrev s_check_fields : Stmt := top 18
abbrev s_check_field : Stmt := top 19
abbrev s_is_name : Stmt := top 20
abbrev s__law_cell : Stmt := top 22
abbrev s__law_draws : Stmt := top 23
abbrev s__law_stream : Stmt := top 24
abbrev s__law_next : Stmt := top 25
abbrev s__law_fields : Stmt := top 26
abbrev s__law_leaf_count : Stmt := top 27
abbrev s__law_schema : Stmt := top 28
abbrev s__law_is_bad : Stmt := top 29
abbrev s_law : Stmt := top 30
/-! ### the module's constants -/
def c_KINDS : D := (.tup [(.str "int"), (.str "text"), (.str "flag")])
def c_LETTERS : D := (.str "abcdefghijklmnopqrstuvwxyz")
def c_LONGEST_NAME : D := (.int 10)
def c_MOST_DEEP : D := (.int 3)
def c_MOST_LEAVES : D := (.int 12)
def c_NAME_SIGNS : D := (.str "abcdefghijklmnopqrstuvwxyz0123456789_")
def c_RULES : D := (.tup [(.str "required"), (.str "optional"), (.str "repeated")])
def c_WHOLE_RECORD : D := (.tup [(.str ""), (.int 0), (.int 0)])
theorem bb_abs : bootBuiltins "abs" = some (.builtin "abs") := by decide +kernel
theorem bb_all : bootBuiltins "all" = some (.builtin "all") := by decide +kernel
theorem bb_int : bootBuiltins "int" = some (.type "int") := by decide +kernel
theorem bb_isinstance : bootBuiltins "isinstance" = some (.builtin "isinstance") := by decide +kernel
theorem bb_len : bootBuiltins "len" = some (.builtin "len") := by decide +kernel
theorem bb_list : bootBuiltins "list" = some (.type "list") := by decide +kernel
theorem bb_str : bootBuiltins "str" = some (.type "str") := by decide +kernel
theorem bb_sum : bootBuiltins "sum" = some (.builtin "sum") := by decide +kernel
theorem bb_tuple : bootBuiltins "tuple" = some (.type "tuple") := by decide +kernel
theorem bb_type : bootBuiltins "type" = some (.type "type") := by decide +kernel
/-! ### what the top has written -/
structure Tc (T : Tx) (a_Schema a_BadSchema a_KinError : Addr) : Prop where
  a_Schema_fields : NoAttr T.K a_Schema "fields"
  a_Schema_leaves : NoAttr T.K a_Schema "leaves"
  a_Schema_ways : NoAttr T.K a_Schema "ways"
  b_abs : T.mg "abs" = none
  b_all : T.mg "all" = none
  b_int : T.mg "int" = none
  b_isinstance : T.mg "isinstance" = none
  b_len : T.mg "len" = none
  b_list : T.mg "list" = none
  b_range : T.mg "range" = none
  b_str : T.mg "str" = none
  b_sum : T.mg "sum" = none
  b_tuple : T.mg "tuple" = none
  b_type : T.mg "type" = none
  c_KINDS : GV T "KINDS" c_KINDS
  c_LETTERS : GV T "LETTERS" c_LETTERS
  c_LONGEST_NAME : GV T "LONGEST_NAME" c_LONGEST_NAME
  c_MOST_DEEP : GV T "MOST_DEEP" c_MOST_DEEP
  c_MOST_LEAVES : GV T "MOST_LEAVES" c_MOST_LEAVES
  c_NAME_SIGNS : GV T "NAME_SIGNS" c_NAME_SIGNS
  c_RULES : GV T "RULES" c_RULES
  c_WHOLE_RECORD : GV T "WHOLE_RECORD" c_WHOLE_RECORD
  e_BadSchema : ExOk T "BadSchema" a_BadSchema
  d__law_cell : Df T "_law_cell" s__law_cell ["script", "k"]
  d__law_draws : Df T "_law_draws" s__law_draws ["cell", "count"]
  d__law_fields : Df T "_law_fields" s__law_fields ["stream", "depth", "least"]
  d__law_is_bad : Df T "_law_is_bad" s__law_is_bad ["fields"]
  d__law_leaf_count : Df T "_law_leaf_count" s__law_leaf_count ["kind"]
  d__law_next : Df T "_law_next" s__law_next ["stream", "many"]
  d__law_schema : Df T "_law_schema" s__law_schema ["script", "first"]
  d__law_stream : Df T "_law_stream" s__law_stream ["script", "first", "count"]
  d_check_field : Df T "check_field" s_check_field ["field"]
  d_check_fields : Df T "check_fields" s_check_fields ["fields"]
  d_is_name : Df T "is_name" s_is_name ["name"]
  d_leaf_of : Df T "leaf_of" s_leaf_of ["step", "kind"]
  d_levels_below : Df T "levels_below" s_levels_below ["repetition", "definition", "rule"]
  d_step_below : Df T "step_below" s_step_below ["step", "name", "rule"]
  d_ways_within : Df T "ways_within" s_ways_within ["fields", "around"]
  g_KinError : T.mg "KinError" = some (.ref a_KinError)
  k_Schema : ClG T "Schema" a_Schema
  m_Schema : ∃ f fd, L2.Fun T.K "__init__" "Schema.__init__" s_Schema___init__ f fd ∧ T.mg "Schema" = some (.ref a_Schema) ∧ Mk T.K a_Schema f ∧ Binds T.K fd ["self", "fields"] []
  s_BadSchema_KinError : PySem.W.kitOne T.K (.ref a_BadSchema) (.ref a_KinError) = some true
  x_BadSchema : ExcC T.K a_BadSchema
  y_BadSchema : ExAt T "BadSchema" a_BadSchema
section
variable {P : Program} {w : World} {T : Tx} {base : Heap} {a_Schema a_BadSchema a_KinError : Addr}
def b_leaf_of : FS := (sSeq (sAsg (.tp [2, 3, 4]) (fVar 0))
    (sRet (fTup (aCons (fVar 2) (aCons (fVar 1) (aCons (fVar 3) (aCons (fVar 4) aNil)))))))
def o_leaf_of := runF 5 b_leaf_of
theorem sc_leaf_of : FnScope ["step", "kind", "path", "repetition", "definition"] ["step", "kind"] (defScope s_leaf_of) := ⟨rfl, rfl, rfl, by decide +kernel, rfl, by decide +kernel, by decide +kernel⟩
theorem G_leaf_of (t : Tc T a_Schema a_BadSchema a_KinError) : FnG P w T base "leaf_of" 1 2 o_leaf_of := by
  refine g_rule (k := 0) (body := b_leaf_of) t.d_leaf_of sc_leaf_of rfl rfl ?_
  intro f cdv A outer s H E hr
  have nd : (["step", "kind", "path", "repetition", "definition"] : List Str).Nodup := sc_leaf_of.nd
  have tk : Takes (cxF P w T base ["step", "kind", "path", "repetition", "definition"] "leaf_of" (defScope s_leaf_of) f cdv A outer s H E) (WF E) := takes_of rfl rfl rfl rfl
  show PSs (cxF P w T base ["step", "kind", "path", "repetition", "definition"] "leaf_of" (defScope s_leaf_of) f cdv A outer s H E) (defBody s_leaf_of) (rdS (tx (cxF P w T base ["step", "kind", "path", "repetition", "definition"] "leaf_of" (defScope s_leaf_of) f cdv A outer s H E)) (WF E) b_leaf_of)
  exact (ss_cons (s_asg (v_var (i := 0)) (g_tp rfl (gs_cons (g_nm (i := 2) nd) (gs_cons (g_nm (i := 3) nd) (gs_cons (g_nm (i := 4) nd) gs_nil)))))
    (ss_one (s_ret (v_tup (a_cons (v_var (i := 2)) (a_cons (v_var (i := 1)) (a_cons (v_var (i := 3)) (a_cons (v_var (i := 4)) a_nil))))))))
def b_is_name : FS := (sSeq (sIf (tOr_ (tVal (fBin gIsNot (fCB bType (aCons (fVar 0) aNil)) (fC (.ty "str")))) (tNot_ (tVal (fChain gLe gLe (fC (.int 1)) (fCB bLen (aCons (fVar 0) aNil)) (fC c_LONGEST_NAME))))) (sRet (fC (.bl false))) sNx)
    (sRet (fAnd (fBin gIn (fBin gIx (fVar 0) (fC (.int 0))) (fC c_LETTERS)) (fCB bAll (aCons (fLc [1] (.nm 1) (iAll (fVar 0)) tTrue (fBin gIn (fVar 1) (fC c_NAME_SIGNS))) aNil)))))
def o_is_name := runF 2 b_is_name
theorem sc_is_name : FnScope ["name", "sign"] ["name"] (defScope s_is_name) := ⟨rfl, rfl, rfl, by decide +kernel, rfl, by decide +kernel, by decide +kernel⟩
theorem G_is_name (t : Tc T a_Schema a_BadSchema a_KinError) : FnG P w T base "is_name" 1 1 o_is_name := by
  refine g_rule (k := 0) (body := b_is_name) t.d_is_name sc_is_name rfl rfl ?_
  intro f cdv A outer s H E hr
  have nd : (["name", "sign"] : List Str).Nodup := sc_is_name.nd
  have tk : Takes (cxF P w T base ["name", "sign"] "is_name" (defScope s_is_name) f cdv A outer s H E) (WF E) := takes_of rfl rfl rfl rfl
  show PSs (cxF P w T base ["name", "sign"] "is_name" (defScope s_is_name) f cdv A outer s H E) (defBody s_is_name) (rdS (tx (cxF P w T base ["name", "sign"] "is_name" (defScope s_is_name) f cdv A outer s H E)) (WF E) b_is_name)
  exact (ss_cons (s_if (t_w (w_or (t_cmp (nomark _) cm_isNot (v_typ (cb_type) t.b_type bb_type (a_cons (v_var (i := 0)) a_nil)) (v_bty rfl t.b_str bb_str)) (w_or1 (t_not (t_chain (by with_unfolding_all rfl) cm_le cm_le v_int (v_blt (cb_len) t.b_len bb_len (a_cons (v_var (i := 0)) a_nil)) (v_glob rfl t.c_LONGEST_NAME)))))) (ss_one (s_ret v_bl)) ss_nil)
    (ss_one (s_ret (v_and (v_cmp (by rfl) cm_in (v_ix (v_var (i := 0)) v_int) (v_glob rfl t.c_LETTERS)) (v_one (v_blt (cb_all rfl) t.b_all bb_all (a_cons (v_lc (own := [("sign", 1)]) (p := (.nm 1)) (by decide) rfl nd (i_all (v_var (i := 0))) (blkOk_by (N := ["name", "sign"]) (sc := defScope s_is_name) (by decide +kernel)) (fun _ _ _ _ _ => (g_nm (i := 1) nd)) (fun _ _ _ _ _ => ts_nil) (fun _ _ _ _ _ => (v_cmp (by rfl) cm_in (v_var (i := 1)) (v_glob rfl t.c_NAME_SIGNS)))) a_nil)))))))
def b_check_field : FS := (sSeq (sIf (tOr_ (tVal (fBin gIsNot (fCB bType (aCons (fVar 0) aNil)) (fC (.ty "tuple")))) (tVal (fBin gNe (fCB bLen (aCons (fVar 0) aNil)) (fC (.int 3))))) (sRaise "BadSchema") sNx)
    (sSeq (sAsg (.tp [1, 2, 3]) (fVar 0))
    (sSeq (sIf (tNot_ (tTru (fCB o_is_name (aCons (fVar 1) aNil)))) (sRaise "BadSchema") sNx)
    (sSeq (sIf (tOr_ (tVal (fBin gIsNot (fCB bType (aCons (fVar 2) aNil)) (fC (.ty "str")))) (tVal (fBin gNotIn (fVar 2) (fC c_RULES)))) (sRaise "BadSchema") sNx)
    (sIf (tAnd_ (tVal (fBin gIsNot (fCB bType (aCons (fVar 3) aNil)) (fC (.ty "tuple")))) (tOr_ (tVal (fBin gIsNot (fCB bType (aCons (fVar 3) aNil)) (fC (.ty "str")))) (tVal (fBin gNotIn (fVar 3) (fC c_KINDS))))) (sRaise "BadSchema") sNx)))))
def o_check_field := runF 4 b_check_field
theorem sc_check_field : FnScope ["field", "name", "rule", "kind"] ["field"] (defScope s_check_field) := ⟨rfl, rfl, rfl, by decide +kernel, rfl, by decide +kernel, by decide +kernel⟩
theorem G_check_field (t : Tc T a_Schema a_BadSchema a_KinError) : FnG P w T base "check_field" 2 1 o_check_field := by
  have G_is_name := @G_is_name P w T base a_Schema a_BadSchema a_KinError t
  refine g_rule (k := 1) (body := b_check_field) t.d_check_field sc_check_field rfl rfl ?_
  intro f cdv A outer s H E hr
  have nd : (["field", "name", "rule", "kind"] : List Str).Nodup := sc_check_field.nd
  have tk : Takes (cxF P w T base ["field", "name", "rule", "kind"] "check_field" (defScope s_check_field) f cdv A outer s H E) (WF E) := takes_of rfl rfl rfl rfl
  show PSs (cxF P w T base ["field", "name", "rule", "kind"] "check_field" (defScope s_check_field) f cdv A outer s H E) (defBody s_check_field) (rdS (tx (cxF P w T base ["field", "name", "rule", "kind"] "check_field" (defScope s_check_field) f cdv A outer s H E)) (WF E) b_check_field)
  exact (ss_cons (s_if (t_w (w_or (t_cmp (nomark _) cm_isNot (v_typ (cb_type) t.b_type bb_type (a_cons (v_var (i := 0)) a_nil)) (v_bty rfl t.b_tuple bb_tuple)) (w_or1 (t_cmp (nomark _) (cm_ne hr) (v_blt (cb_len) t.b_len bb_len (a_cons (v_var (i := 0)) a_nil)) v_int)))) (ss_one (s_raise rfl tk t.e_BadSchema)) ss_nil)
    (ss_cons (s_asg (v_var (i := 0)) (g_tp rfl (gs_cons (g_nm (i := 1) nd) (gs_cons (g_nm (i := 2) nd) (gs_cons (g_nm (i := 3) nd) gs_nil)))))
    (ss_cons (s_if (t_not (t_tru (v_call G_is_name (hr.mono (by omega)) tk (a_cons (v_var (i := 1)) a_nil) (al_cons al_nil)))) (ss_one (s_raise rfl tk t.e_BadSchema)) ss_nil)
    (ss_cons (s_if (t_w (w_or (t_cmp (nomark _) cm_isNot (v_typ (cb_type) t.b_type bb_type (a_cons (v_var (i := 2)) a_nil)) (v_bty rfl t.b_str bb_str)) (w_or1 (t_cmp (by rfl) cm_notIn (v_var (i := 2)) (v_glob rfl t.c_RULES))))) (ss_one (s_raise rfl tk t.e_BadSchema)) ss_nil)
    (ss_one (s_if (t_w (w_and (t_cmp (nomark _) cm_isNot (v_typ (cb_type) t.b_type bb_type (a_cons (v_var (i := 3)) a_nil)) (v_bty rfl t.b_tuple bb_tuple)) (w_and1 (t_w (w_or (t_cmp (nomark _) cm_isNot (v_typ (cb_type) t.b_type bb_type (a_cons (v_var (i := 3)) a_nil)) (v_bty rfl t.b_str bb_str)) (w_or1 (t_cmp (by rfl) cm_notIn (v_var (i := 3)) (v_glob rfl t.c_KINDS)))))))) (ss_one (s_raise rfl tk t.e_BadSchema)) ss_nil))))))
def b_check_fields : FS := (sSeq (sIf (tOr_ (tVal (fBin gIsNot (fCB bType (aCons (fVar 0) aNil)) (fC (.ty "tuple")))) (tVal (fBin gEq (fCB bLen (aCons (fVar 0) aNil)) (fC (.int 0))))) (sRaise "BadSchema") sNx)
    (sSeq (sFor (.nm 1) (iAll (fVar 0)) (sExp (fCB o_check_field (aCons (fVar 1) aNil))))
    (sIf (tVal (fBin gNe (fLenSet [1] (.nm 1) (iAll (fVar 0)) tTrue (fBin gIx (fVar 1) (fC (.int 0)))) (fCB bLen (aCons (fVar 0) aNil)))) (sRaise "BadSchema") sNx)))
def o_check_fields := runF 2 b_check_fields
theorem sc_check_fields : FnScope ["fields", "field"] ["fields"] (defScope s_check_fields) := ⟨rfl, rfl, rfl, by decide +kernel, rfl, by decide +kernel, by decide +kernel⟩
theorem G_check_fields (t : Tc T a_Schema a_BadSchema a_KinError) : FnG P w T base "check_fields" 3 1 o_check_fields := by
  have G_check_field := @G_check_field P w T base a_Schema a_BadSchema a_KinError t
  refine g_rule (k := 2) (body := b_check_fields) t.d_check_fields sc_check_fields rfl rfl ?_
  intro f cdv A outer s H E hr
  have nd : (["fields", "field"] : List Str).Nodup := sc_check_fields.nd
  have tk : Takes (cxF P w T base ["fields", "field"] "check_fields" (defScope s_check_fields) f cdv A outer s H E) (WF E) := takes_of rfl rfl rfl rfl
  show PSs (cxF P w T base ["fields", "field"] "check_fields" (defScope s_check_fields) f cdv A outer s H E) (defBody s_check_fields) (rdS (tx (cxF P w T base ["fields", "field"] "check_fields" (defScope s_check_fields) f cdv A outer s H E)) (WF E) b_check_fields)
  exact (ss_cons (s_if (t_w (w_or (t_cmp (nomark _) cm_isNot (v_typ (cb_type) t.b_type bb_type (a_cons (v_var (i := 0)) a_nil)) (v_bty rfl t.b_tuple bb_tuple)) (w_or1 (t_cmp (nomark _) (cm_eq hr) (v_blt (cb_len) t.b_len bb_len (a_cons (v_var (i := 0)) a_nil)) v_int)))) (ss_one (s_raise rfl tk t.e_BadSchema)) ss_nil)
    (ss_cons (s_for (passes_of rfl) rfl (i_all (v_var (i := 0))) (g_nm (i := 1) nd) (ss_one (s_exp (v_call G_check_field (hr.mono (by omega)) tk (a_cons (v_var (i := 1)) a_nil) (al_cons al_nil)))))
    (ss_one (s_if (t_cmp (nomark _) (cm_ne hr) (v_lenSet (own := [("field", 1)]) (p := (.nm 1)) (by decide) t.b_len bb_len rfl nd (i_all (v_var (i := 0))) (blkOk_by (N := ["fields", "field"]) (sc := defScope s_check_fields) (by decide +kernel)) (fun _ _ _ _ _ => (g_nm (i := 1) nd)) (fun _ _ _ _ _ => ts_nil) (fun _ _ _ _ _ => (v_ix (v_var (i := 1)) v_int))) (v_blt (cb_len) t.b_len bb_len (a_cons (v_var (i := 0)) a_nil))) (ss_one (s_raise rfl tk t.e_BadSchema)) ss_nil))))
def b_levels_below : FS := (sRet (fTup (aCons (fIf (tVal (fBin gEq (fVar 2) (fC (.str "repeated")))) (fBin gAdd (fVar 0) (fC (.int 1))) (fVar 0)) (aCons (fIf (tVal (fBin gEq (fVar 2) (fC (.str "required")))) (fVar 1) (fBin gAdd (fVar 1) (fC (.int 1)))) aNil))))
def o_levels_below := runF 3 b_levels_below
theorem sc_levels_below : FnScope ["repetition", "definition", "rule"] ["repetition", "definition", "rule"] (defScope s_levels_below) := ⟨rfl, rfl, rfl, by decide +kernel, rfl, by decide +kernel, by decide +kernel⟩
theorem G_levels_below (t : Tc T a_Schema a_BadSchema a_KinError) : FnG P w T base "levels_below" 1 3 o_levels_below := by
  refine g_rule (k := 0) (body := b_levels_below) t.d_levels_below sc_levels_below rfl rfl ?_
  intro f cdv A outer s H E hr
  have nd : (["repetition", "definition", "rule"] : List Str).Nodup := sc_levels_below.nd
  have tk : Takes (cxF P w T base ["repetition", "definition", "rule"] "levels_below" (defScope s_levels_below) f cdv A outer s H E) (WF E) := takes_of rfl rfl rfl rfl
  show PSs (cxF P w T base ["repetition", "definition", "rule"] "levels_below" (defScope s_levels_below) f cdv A outer s H E) (defBody s_levels_below) (rdS (tx (cxF P w T base ["repetition", "definition", "rule"] "levels_below" (defScope s_levels_below) f cdv A outer s H E)) (WF E) b_levels_below)
  exact (ss_one (s_ret (v_tup (a_cons (v_if (t_cmp (nomark _) (cm_eq hr) (v_var (i := 2)) v_str) (v_add (v_var (i := 0)) v_int) (v_var (i := 0))) (a_cons (v_if (t_cmp (nomark _) (cm_eq hr) (v_var (i := 2)) v_str) (v_var (i := 1)) (v_add (v_var (i := 1)) v_int)) a_nil)))))
def b_step_below : FS := (sSeq (sAsg (.tp [3, 4, 5]) (fVar 0))
    (sSeq (sAsg (.tp [6, 7]) (fCB o_levels_below (aCons (fVar 4) (aCons (fVar 5) (aCons (fVar 2) aNil)))))
    (sRet (fTup (aCons (fIf (tTru (fVar 3)) (fJs ((fUn gFmt (fVar 3)) :: ((fC (.str ".")) :: ((fUn gFmt (fVar 1)) :: [])))) (fVar 1)) (aCons (fVar 6) (aCons (fVar 7) aNil)))))))
def o_step_below := runF 8 b_step_below
theorem sc_step_below : FnScope ["step", "name", "rule", "path", "group_repetition", "group_definition", "repetition", "definition"] ["step", "name", "rule"] (defScope s_step_below) := ⟨rfl, rfl, rfl, by decide +kernel, rfl, by decide +kernel, by decide +kernel⟩
theorem G_step_below (t : Tc T a_Schema a_BadSchema a_KinError) : FnG P w T base "step_below" 2 3 o_step_below := by
  have G_levels_below := @G_levels_below P w T base a_Schema a_BadSchema a_KinError t
  refine g_rule (k := 1) (body := b_step_below) t.d_step_below sc_step_below rfl rfl ?_
  intro f cdv A outer s H E hr
  have nd : (["step", "name", "rule", "path", "group_repetition", "group_definition", "repetition", "definition"] : List Str).Nodup := sc_step_below.nd
  have tk : Takes (cxF P w T base ["step", "name", "rule", "path", "group_repetition", "group_definition", "repetition", "definition"] "step_below" (defScope s_step_below) f cdv A outer s H E) (WF E) := takes_of rfl rfl rfl rfl
  show PSs (cxF P w T base ["step", "name", "rule", "path", "group_repetition", "group_definition", "repetition", "definition"] "step_below" (defScope s_step_below) f cdv A outer s H E) (defBody s_step_below) (rdS (tx (cxF P w T base ["step", "name", "rule", "path", "group_repetition", "group_definition", "repetition", "definition"] "step_below" (defScope s_step_below) f cdv A outer s H E)) (WF E) b_step_below)
  exact (ss_cons (s_asg (v_var (i := 0)) (g_tp rfl (gs_cons (g_nm (i := 3) nd) (gs_cons (g_nm (i := 4) nd) (gs_cons (g_nm (i := 5) nd) gs_nil)))))
    (ss_cons (s_asg (v_call G_levels_below (hr.mono (by omega)) tk (a_cons (v_var (i := 4)) (a_cons (v_var (i := 5)) (a_cons (v_var (i := 2)) a_nil))) (al_cons (al_cons (al_cons al_nil)))) (g_tp rfl (gs_cons (g_nm (i := 6) nd) (gs_cons (g_nm (i := 7) nd) gs_nil))))
    (ss_one (s_ret (v_tup (a_cons (v_if (t_tru (v_var (i := 3))) (v_js (j_cons (v_fmt (v_var (i := 3))) (j_cons v_str (j_cons (v_fmt (v_var (i := 1))) j_nil)))) (v_var (i := 1))) (a_cons (v_var (i := 6)) (a_cons (v_var (i := 7)) a_nil))))))))
def b_ways_within (o_ways_within : List D → List O → Rs D) : FS := (sSeq (sIf (tVal (fBin gGt (fCB bLen (aCons (fVar 1) aNil)) (fC c_MOST_DEEP))) (sRaise "BadSchema") sNx)
    (sSeq (sExp (fCB o_check_fields (aCons (fVar 0) aNil)))
    (sSeq (sSet 2 (fNew aNil))
    (sSeq (sFor (.tp [3, 4, 5]) (iAll (fVar 0)) (sSeq (sSet 6 (fTup (aStar (fVar 1) (aCons (fCB o_step_below (aCons (fBin gIx (fVar 1) (fUn gNeg (fC (.int 1)))) (aCons (fVar 3) (aCons (fVar 4) aNil)))) aNil))))
    (sIf (tVal (fBin gIs (fCB bType (aCons (fVar 5) aNil)) (fC (.ty "tuple")))) (sExp (fExt (fVar 2) (aCons (fCB o_ways_within (aCons (fVar 5) (aCons (fVar 6) aNil))) aNil))) (sExp (fApp (fVar 2) (aCons (fTup (aCons (fVar 6) (aCons (fVar 5) aNil))) aNil))))))
    (sSeq (sIf (tVal (fBin gGt (fCB bLen (aCons (fVar 2) aNil)) (fC c_MOST_LEAVES))) (sRaise "BadSchema") sNx)
    (sRet (fFrz (fVar 2))))))))
def r_ways_within : Nat → List D → List O → Rs D
  | 0 => fun _ _ => .stk
  | n + 1 => runF 7 (b_ways_within (r_ways_within n))
def o_ways_within := r_ways_within 6
theorem sc_ways_within : FnScope ["fields", "around", "found", "name", "rule", "kind", "way"] ["fields", "around"] (defScope s_ways_within) := ⟨rfl, rfl, rfl, by decide +kernel, rfl, by decide +kernel, by decide +kernel⟩
theorem Gr_ways_within (t : Tc T a_Schema a_BadSchema a_KinError) : ∀ n : Nat, FnG P w T base "ways_within" (3 + n) 2 (r_ways_within n)
  | 0 => by obtain ⟨f, fd, F, hm, b⟩ := t.d_ways_within.ex; exact ⟨f, fd, _, fn_zero, hm, F.kp, b⟩
  | n + 1 => by
    have G_check_fields := @G_check_fields P w T base a_Schema a_BadSchema a_KinError t
    have G_step_below := @G_step_below P w T base a_Schema a_BadSchema a_KinError t
    have G_ways_within := Gr_ways_within t n
    refine g_rule (k := 3 + n) (body := b_ways_within (r_ways_within n)) t.d_ways_within sc_ways_within rfl rfl ?_
    intro f cdv A outer s H E hr
    have nd : (["fields", "around", "found", "name", "rule", "kind", "way"] : List Str).Nodup := sc_ways_within.nd
    have tk : Takes (cxF P w T base ["fields", "around", "found", "name", "rule", "kind", "way"] "ways_within" (defScope s_ways_within) f cdv A outer s H E) (WF E) := takes_of rfl rfl rfl rfl
    show PSs (cxF P w T base ["fields", "around", "found", "name", "rule", "kind", "way"] "ways_within" (defScope s_ways_within) f cdv A outer s H E) (defBody s_ways_within) (rdS (tx (cxF P w T base ["fields", "around", "found", "name", "rule", "kind", "way"] "ways_within" (defScope s_ways_within) f cdv A outer s H E)) (WF E) (b_ways_within (r_ways_within n)))
    exact (ss_cons (s_if (t_cmp (nomark _) cm_gt (v_blt (cb_len) t.b_len bb_len (a_cons (v_var (i := 1)) a_nil)) (v_glob rfl t.c_MOST_DEEP)) (ss_one (s_raise rfl tk t.e_BadSchema)) ss_nil)
    (ss_cons (s_exp (v_call G_check_fields (hr.mono (by omega)) tk (a_cons (v_var (i := 0)) a_nil) (al_cons al_nil)))
    (ss_cons (s_set (i := 2) nd (v_new a_nil))
    (ss_cons (s_for (passes_of rfl) rfl (i_all (v_var (i := 0))) (g_tp rfl (gs_cons (g_nm (i := 3) nd) (gs_cons (g_nm (i := 4) nd) (gs_cons (g_nm (i := 5) nd) gs_nil)))) (ss_cons (s_set (i := 6) nd (v_tup (a_star (v_var (i := 1)) (a_cons (v_call G_step_below (hr.mono (by omega)) tk (a_cons (v_ix (v_var (i := 1)) (v_neg v_int)) (a_cons (v_var (i := 3)) (a_cons (v_var (i := 4)) a_nil))) (al_cons (al_cons (al_cons al_nil)))) a_nil))))
    (ss_one (s_if (t_cmp (nomark _) cm_is (v_typ (cb_type) t.b_type bb_type (a_cons (v_var (i := 5)) a_nil)) (v_bty rfl t.b_tuple bb_tuple)) (ss_one (s_exp (v_ext (v_var (i := 2)) (a_cons (v_call G_ways_within (hr.mono (by omega)) tk (a_cons (v_var (i := 5)) (a_cons (v_var (i := 6)) a_nil)) (al_cons (al_cons al_nil))) a_nil)))) (ss_one (s_exp (v_app (v_var (i := 2)) (a_cons (v_tup (a_cons (v_var (i := 6)) (a_cons (v_var (i := 5)) a_nil))) a_nil))))))))
    (ss_cons (s_if (t_cmp (nomark _) cm_gt (v_blt (cb_len) t.b_len bb_len (a_cons (v_var (i := 2)) a_nil)) (v_glob rfl t.c_MOST_LEAVES)) (ss_one (s_raise rfl tk t.e_BadSchema)) ss_nil)
    (ss_one (s_ret (v_frz (v_var (i := 2))))))))))
theorem G_ways_within (t : Tc T a_Schema a_BadSchema a_KinError) : FnG P w T base "ways_within" 9 2 o_ways_within := Gr_ways_within t 6
def b_Schema___init__ : FS := (sSeq (sSet 2 (fCB o_ways_within (aCons (fVar 1) (aCons (fTup (aCons (fC c_WHOLE_RECORD) aNil)) aNil))))
    (sSeq (sFldS "Schema" "fields" (fVar 0) (fVar 1))
    (sSeq (sFldS "Schema" "ways" (fVar 0) (fCB bTuple (aCons (fLc [3, 4] (.tp [3, 4]) (iAll (fVar 2)) tTrue (fVar 3)) aNil)))
    (sFldS "Schema" "leaves" (fVar 0) (fCB bTuple (aCons (fLc [3, 4] (.tp [3, 4]) (iAll (fVar 2)) tTrue (fCB o_leaf_of (aCons (fBin gIx (fVar 3) (fUn gNeg (fC (.int 1)))) (aCons (fVar 4) aNil)))) aNil))))))
def o_Schema___init__ := runF 5 b_Schema___init__
theorem sc_Schema___init__ : FnScope ["self", "fields", "found", "way", "kind"] ["self", "fields"] (defScope s_Schema___init__) := ⟨rfl, rfl, rfl, by decide +kernel, rfl, by decide +kernel, by decide +kernel⟩
set_option maxHeartbeats 4000000 in
theorem G_Schema (t : Tc T a_Schema a_BadSchema a_KinError) : MkG P w T base "Schema" 10 1 o_Schema___init__ := by
  have G_leaf_of := @G_leaf_of P w T base a_Schema a_BadSchema a_KinError t
  have G_ways_within := @G_ways_within P w T base a_Schema a_BadSchema a_KinError t
  obtain ⟨f, fd, F, hm, mk, b⟩ := t.m_Schema
  refine ⟨a_Schema, f, fd, ["self", "fields"], fn_rule (k := 9) (body := b_Schema___init__) F sc_Schema___init__ ?_, hm, mk, b⟩
  intro cdv A outer s H E hr
  have nd : (["self", "fields", "found", "way", "kind"] : List Str).Nodup := sc_Schema___init__.nd
  have tk : Takes (cxF P w T base ["self", "fields", "found", "way", "kind"] "Schema.__init__" (defScope s_Schema___init__) f cdv A outer s H E) (WF E) := takes_of rfl rfl rfl rfl
  show PSs (cxF P w T base ["self", "fields", "found", "way", "kind"] "Schema.__init__" (defScope s_Schema___init__) f cdv A outer s H E) (defBody s_Schema___init__) (rdS (tx (cxF P w T base ["self", "fields", "found", "way", "kind"] "Schema.__init__" (defScope s_Schema___init__) f cdv A outer s H E)) (WF E) b_Schema___init__)
  exact (ss_cons (s_set (i := 2) nd (v_call G_ways_within (hr.mono (by omega)) tk (a_cons (v_var (i := 1)) (a_cons (v_tup (a_cons (v_glob rfl t.c_WHOLE_RECORD) a_nil)) a_nil)) (al_cons (al_cons al_nil))))
    (ss_cons (s_fld t.k_Schema t.a_Schema_fields (v_var (i := 0)) (v_var (i := 1)))
    (ss_cons (s_fld t.k_Schema t.a_Schema_ways (v_var (i := 0)) (v_typ (cb_tuple) t.b_tuple bb_tuple (a_cons (v_lc (own := [("way", 3), ("kind", 4)]) (p := (.tp [3, 4])) (by decide) rfl nd (i_all (v_var (i := 2))) (blkOk_by (N := ["self", "fields", "found", "way", "kind"]) (sc := defScope s_Schema___init__) (by decide +kernel)) (fun _ _ _ _ _ => (g_tp rfl (gs_cons (g_nm (i := 3) nd) (gs_cons (g_nm (i := 4) nd) gs_nil)))) (fun _ _ _ _ _ => ts_nil) (fun _ _ _ _ _ => (v_var (i := 3)))) a_nil)))
    (ss_one (s_fld t.k_Schema t.a_Schema_leaves (v_var (i := 0)) (v_typ (cb_tuple) t.b_tuple bb_tuple (a_cons (v_lc (own := [("way", 3), ("kind", 4)]) (p := (.tp [3, 4])) (by decide) rfl nd (i_all (v_var (i := 2))) (blkOk_by (N := ["self", "fields", "found", "way", "kind"]) (sc := defScope s_Schema___init__) (by decide +kernel)) (fun _ _ _ _ _ => (g_tp rfl (gs_cons (g_nm (i := 3) nd) (gs_cons (g_nm (i := 4) nd) gs_nil)))) (fun _ _ _ _ _ => ts_nil) (fun _ _ _ _ _ => (v_call G_leaf_of (hr.mono (by omega)) tk0 (a_cons (v_ix (v_var (i := 3)) (v_neg v_int)) (a_cons (v_var (i := 4)) a_nil)) (al_cons (al_cons al_nil))))) a_nil)))))))
def o_Schema := o_Schema___init__
def b__law_cell : FS := (sSeq (sIf (tVal (fBin gLt (fVar 1) (fCB bLen (aCons (fVar 0) aNil)))) (sRet (fCB bInt (aCons (fBin gIx (fVar 0) (fVar 1)) aNil))) sNx)
    (sRet (fC (.int 0))))
def o__law_cell := runF 2 b__law_cell
theorem sc__law_cell : FnScope ["script", "k"] ["script", "k"] (defScope s__law_cell) := ⟨rfl, rfl, rfl, by decide +kernel, rfl, by decide +kernel, by decide +kernel⟩
theorem G__law_cell (t : Tc T a_Schema a_BadSchema a_KinError) : FnG P w T base "_law_cell" 1 2 o__law_cell := by
  refine g_rule (k := 0) (body := b__law_cell) t.d__law_cell sc__law_cell rfl rfl ?_
  intro f cdv A outer s H E hr
  have nd : (["script", "k"] : List Str).Nodup := sc__law_cell.nd
  have tk : Takes (cxF P w T base ["script", "k"] "_law_cell" (defScope s__law_cell) f cdv A outer s H E) (WF E) := takes_of rfl rfl rfl rfl
  show PSs (cxF P w T base ["script", "k"] "_law_cell" (defScope s__law_cell) f cdv A outer s H E) (defBody s__law_cell) (rdS (tx (cxF P w T base ["script", "k"] "_law_cell" (defScope s__law_cell) f cdv A outer s H E)) (WF E) b__law_cell)
  exact (ss_cons (s_if (t_cmp (nomark _) cm_lt (v_var (i := 1)) (v_blt (cb_len) t.b_len bb_len (a_cons (v_var (i := 0)) a_nil))) (ss_one (s_ret (v_typ (cb_int) t.b_int bb_int (a_cons (v_ix (v_var (i := 0)) (v_var (i := 1))) a_nil)))) ss_nil)
    (ss_one (s_ret v_int)))
def b__law_draws : FS := (sSeq (sSet 2 (fCB bAbs (aCons (fCB bInt (aCons (fVar 0) aNil)) aNil)))
    (sSeq (sSet 3 (fBin gGe (fVar 2) (fBin gPow (fC (.int 10)) (fC (.int 18)))))
    (sSeq (sSet 4 (fNew aNil))
    (sSeq (sFor (.nm 5) (iR1 (aCons (fC (.int 60)) aNil)) (sIf (tAnd_ (tVal (fBin gLt (fVar 5) (fVar 1))) (tTru (fVar 3))) (sSeq (sExp (fApp (fVar 4) (aCons (fBin gMod (fVar 2) (fC (.int 60))) aNil)))
    (sSet 2 (fBin gFdiv (fVar 2) (fC (.int 60))))) (sIf (tVal (fBin gLt (fVar 5) (fVar 1))) (sSeq (sSet 6 (fBin gMod (fBin gAdd (fBin gAdd (fBin gMul (fCB bInt (aCons (fVar 2) aNil)) (fC (.int 48271))) (fBin gMul (fVar 5) (fC (.int 69621)))) (fC (.int 11))) (fC (.int 2147483647))))
    (sSeq (sSet 6 (fBin gMod (fBin gAdd (fBin gAdd (fBin gMul (fCB bInt (aCons (fVar 6) aNil)) (fCB bInt (aCons (fVar 6) aNil))) (fBin gMul (fVar 5) (fC (.int 7919)))) (fC (.int 5))) (fC (.int 998244353))))
    (sExp (fApp (fVar 4) (aCons (fBin gMod (fCB bInt (aCons (fVar 6) aNil)) (fC (.int 60))) aNil))))) sNx)))
    (sRet (fFrz (fVar 4)))))))
def o__law_draws := runF 7 b__law_draws
theorem sc__law_draws : FnScope ["cell", "count", "number", "great", "found", "k", "mixed"] ["cell", "count"] (defScope s__law_draws) := ⟨rfl, rfl, rfl, by decide +kernel, rfl, by decide +kernel, by decide +kernel⟩
theorem G__law_draws (t : Tc T a_Schema a_BadSchema a_KinError) : FnG P w T base "_law_draws" 1 2 o__law_draws := by
  refine g_rule (k := 0) (body := b__law_draws) t.d__law_draws sc__law_draws rfl rfl ?_
  intro f cdv A outer s H E hr
  have nd : (["cell", "count", "number", "great", "found", "k", "mixed"] : List Str).Nodup := sc__law_draws.nd
  have tk : Takes (cxF P w T base ["cell", "count", "number", "great", "found", "k", "mixed"] "_law_draws" (defScope s__law_draws) f cdv A outer s H E) (WF E) := takes_of rfl rfl rfl rfl
  show PSs (cxF P w T base ["cell", "count", "number", "great", "found", "k", "mixed"] "_law_draws" (defScope s__law_draws) f cdv A outer s H E) (defBody s__law_draws) (rdS (tx (cxF P w T base ["cell", "count", "number", "great", "found", "k", "mixed"] "_law_draws" (defScope s__law_draws) f cdv A outer s H E)) (WF E) b__law_draws)
  exact (ss_cons (s_set (i := 2) nd (v_blt (cb_abs) t.b_abs bb_abs (a_cons (v_typ (cb_int) t.b_int bb_int (a_cons (v_var (i := 0)) a_nil)) a_nil)))
    (ss_cons (s_set (i := 3) nd (v_cmp (nomark _) cm_ge (v_var (i := 2)) (v_pow v_int v_int)))
    (ss_cons (s_set (i := 4) nd (v_new a_nil))
    (ss_cons (s_for (passes_of rfl) rfl (i_r1 t.b_range (a_cons v_int a_nil)) (g_nm (i := 5) nd) (ss_one (s_if (t_w (w_and (t_cmp (nomark _) cm_lt (v_var (i := 5)) (v_var (i := 1))) (w_and1 (t_tru (v_var (i := 3)))))) (ss_cons (s_exp (v_app (v_var (i := 4)) (a_cons (v_mod (v_var (i := 2)) v_int) a_nil)))
    (ss_one (s_set (i := 2) nd (v_fdiv (v_var (i := 2)) v_int)))) (ss_one (s_if (t_cmp (nomark _) cm_lt (v_var (i := 5)) (v_var (i := 1))) (ss_cons (s_set (i := 6) nd (v_mod (v_add (v_add (v_mulA (v_typ (cb_int) t.b_int bb_int (a_cons (v_var (i := 2)) a_nil)) v_int) (v_mulA (v_var (i := 5)) v_int)) v_int) v_int))
    (ss_cons (s_set (i := 6) nd (v_mod (v_add (v_add (v_mulA (v_typ (cb_int) t.b_int bb_int (a_cons (v_var (i := 6)) a_nil)) (v_typ (cb_int) t.b_int bb_int (a_cons (v_var (i := 6)) a_nil))) (v_mulA (v_var (i := 5)) v_int)) v_int) v_int))
    (ss_one (s_exp (v_app (v_var (i := 4)) (a_cons (v_mod (v_typ (cb_int) t.b_int bb_int (a_cons (v_var (i := 6)) a_nil)) v_int) a_nil)))))) ss_nil)))))
    (ss_one (s_ret (v_frz (v_var (i := 4)))))))))
def b__law_stream : FS := (sSeq (sSet 3 (fNew aNil))
    (sSeq (sFor (.nm 4) (iR1 (aCons (fVar 2) aNil)) (sExp (fExt (fVar 3) (aCons (fCB o__law_draws (aCons (fCB o__law_cell (aCons (fVar 0) (aCons (fBin gAdd (fVar 1) (fVar 4)) aNil))) (aCons (fC (.int 12)) aNil))) aNil))))
    (sRet (fLst (aCons (fFrz (fVar 3)) (aCons (fNew (aCons (fC (.int 0)) aNil)) aNil))))))
def o__law_stream := runF 5 b__law_stream
theorem sc__law_stream : FnScope ["script", "first", "count", "found", "k"] ["script", "first", "count"] (defScope s__law_stream) := ⟨rfl, rfl, rfl, by decide +kernel, rfl, by decide +kernel, by decide +kernel⟩
theorem G__law_stream (t : Tc T a_Schema a_BadSchema a_KinError) : FnG P w T base "_law_stream" 2 3 o__law_stream := by
  have G__law_cell := @G__law_cell P w T base a_Schema a_BadSchema a_KinError t
  have G__law_draws := @G__law_draws P w T base a_Schema a_BadSchema a_KinError t
  refine g_rule (k := 1) (body := b__law_stream) t.d__law_stream sc__law_stream rfl rfl ?_
  intro f cdv A outer s H E hr
  have nd : (["script", "first", "count", "found", "k"] : List Str).Nodup := sc__law_stream.nd
  have tk : Takes (cxF P w T base ["script", "first", "count", "found", "k"] "_law_stream" (defScope s__law_stream) f cdv A outer s H E) (WF E) := takes_of rfl rfl rfl rfl
  show PSs (cxF P w T base ["script", "first", "count", "found", "k"] "_law_stream" (defScope s__law_stream) f cdv A outer s H E) (defBody s__law_stream) (rdS (tx (cxF P w T base ["script", "first", "count", "found", "k"] "_law_stream" (defScope s__law_stream) f cdv A outer s H E)) (WF E) b__law_stream)
  exact (ss_cons (s_set (i := 3) nd (v_new a_nil))
    (ss_cons (s_for (passes_of rfl) rfl (i_r1 t.b_range (a_cons (v_var (i := 2)) a_nil)) (g_nm (i := 4) nd) (ss_one (s_exp (v_ext (v_var (i := 3)) (a_cons (v_call G__law_draws (hr.mono (by omega)) tk (a_cons (v_call G__law_cell (hr.mono (by omega)) tk (a_cons (v_var (i := 0)) (a_cons (v_add (v_var (i := 1)) (v_var (i := 4))) a_nil)) (al_cons (al_cons al_nil))) (a_cons v_int a_nil)) (al_cons (al_cons al_nil))) a_nil)))))
    (ss_one (s_ret (v_lst (a_cons (v_frz (v_var (i := 3))) (a_cons (v_new (a_cons v_int a_nil)) a_nil)))))))
def b__law_next : FS := (sSeq (sSet 2 (fBin gIx (fVar 0) (fC (.int 0))))
    (sSeq (sSet 3 (fBin gIx (fVar 0) (fC (.int 1))))
    (sSeq (sSet 4 (fBin gMod (fCB bInt (aCons (fBin gIx (fVar 2) (fBin gMod (fCB bInt (aCons (fBin gIx (fVar 3) (fC (.int 0))) aNil)) (fCB bLen (aCons (fVar 2) aNil)))) aNil)) (fVar 1)))
    (sSeq (sPut (fVar 3) (fC (.int 0)) (fBin gAdd (fBin gIx (fVar 3) (fC (.int 0))) (fC (.int 1))))
    (sRet (fVar 4))))))
def o__law_next := runF 5 b__law_next
theorem sc__law_next : FnScope ["stream", "many", "digits", "place", "value"] ["stream", "many"] (defScope s__law_next) := ⟨rfl, rfl, rfl, by decide +kernel, rfl, by decide +kernel, by decide +kernel⟩
theorem G__law_next (t : Tc T a_Schema a_BadSchema a_KinError) : FnG P w T base "_law_next" 1 2 o__law_next := by
  refine g_rule (k := 0) (body := b__law_next) t.d__law_next sc__law_next rfl rfl ?_
  intro f cdv A outer s H E hr
  have nd : (["stream", "many", "digits", "place", "value"] : List Str).Nodup := sc__law_next.nd
  have tk : Takes (cxF P w T base ["stream", "many", "digits", "place", "value"] "_law_next" (defScope s__law_next) f cdv A outer s H E) (WF E) := takes_of rfl rfl rfl rfl
  show PSs (cxF P w T base ["stream", "many", "digits", "place", "value"] "_law_next" (defScope s__law_next) f cdv A outer s H E) (defBody s__law_next) (rdS (tx (cxF P w T base ["stream", "many", "digits", "place", "value"] "_law_next" (defScope s__law_next) f cdv A outer s H E)) (WF E) b__law_next)
  exact (ss_cons (s_set (i := 2) nd (v_ix (v_var (i := 0)) v_int))
    (ss_cons (s_set (i := 3) nd (v_ix (v_var (i := 0)) v_int))
    (ss_cons (s_set (i := 4) nd (v_mod (v_typ (cb_int) t.b_int bb_int (a_cons (v_ix (v_var (i := 2)) (v_mod (v_typ (cb_int) t.b_int bb_int (a_cons (v_ix (v_var (i := 3)) v_int) a_nil)) (v_blt (cb_len) t.b_len bb_len (a_cons (v_var (i := 2)) a_nil)))) a_nil)) (v_var (i := 1))))
    (ss_cons (s_put (v_var (i := 3)) v_int (v_add (v_ix (v_var (i := 3)) v_int) v_int))
    (ss_one (s_ret (v_var (i := 4))))))))
def b__law_fields (o__law_fields : List D → List O → Rs D) : FS := (sSeq (sSet 3 (fLst (aCons (fC (.str "id")) (aCons (fC (.str "name")) (aCons (fC (.str "a_1")) (aCons (fC (.str "tags")) (aCons (fC (.str "x")) (aCons (fC (.str "list2")) aNil))))))))
    (sSeq (sSet 4 (fNew aNil))
    (sSeq (sFor (.nm 5) (iR1 (aCons (fBin gAdd (fVar 2) (fCB o__law_next (aCons (fVar 0) (aCons (fC (.int 3)) aNil)))) aNil)) (sSeq (sSet 6 (fBin gIx (fLst (aCons (fC (.str "required")) (aCons (fC (.str "optional")) (aCons (fC (.str "repeated")) aNil)))) (fCB o__law_next (aCons (fVar 0) (aCons (fC (.int 3)) aNil)))))
    (sSeq (sSet 7 (fBin gIx (fLst (aCons (fC (.str "int")) (aCons (fC (.str "text")) (aCons (fC (.str "flag")) (aCons (fC (.str "int")) aNil))))) (fCB o__law_next (aCons (fVar 0) (aCons (fC (.int 4)) aNil)))))
    (sSeq (sIf (tAnd_ (tVal (fBin gLt (fVar 1) (fC (.int 3)))) (tVal (fBin gEq (fCB o__law_next (aCons (fVar 0) (aCons (fC (.int 3)) aNil))) (fC (.int 0))))) (sSet 7 (fCB o__law_fields (aCons (fVar 0) (aCons (fBin gAdd (fVar 1) (fC (.int 1))) (aCons (fC (.int 1)) aNil))))) sNx)
    (sExp (fApp (fVar 4) (aCons (fTup (aCons (fBin gIx (fVar 3) (fVar 5)) (aCons (fVar 6) (aCons (fVar 7) aNil)))) aNil)))))))
    (sRet (fCB bTuple (aCons (fVar 4) aNil))))))
def r__law_fields : Nat → List D → List O → Rs D
  | 0 => fun _ _ => .stk
  | n + 1 => runF 8 (b__law_fields (r__law_fields n))
def o__law_fields := r__law_fields 6
theorem sc__law_fields : FnScope ["stream", "depth", "least", "names", "found", "k", "rule", "kind"] ["stream", "depth", "least"] (defScope s__law_fields) := ⟨rfl, rfl, rfl, by decide +kernel, rfl, by decide +kernel, by decide +kernel⟩
theorem Gr__law_fields (t : Tc T a_Schema a_BadSchema a_KinError) : ∀ n : Nat, FnG P w T base "_law_fields" (1 + n) 3 (r__law_fields n)
  | 0 => by obtain ⟨f, fd, F, hm, b⟩ := t.d__law_fields.ex; exact ⟨f, fd, _, fn_zero, hm, F.kp, b⟩
  | n + 1 => by
    have G__law_next := @G__law_next P w T base a_Schema a_BadSchema a_KinError t
    have G__law_fields := Gr__law_fields t n
    refine g_rule (k := 1 + n) (body := b__law_fields (r__law_fields n)) t.d__law_fields sc__law_fields rfl rfl ?_
    intro f cdv A outer s H E hr
    have nd : (["stream", "depth", "least", "names", "found", "k", "rule", "kind"] : List Str).Nodup := sc__law_fields.nd
    have tk : Takes (cxF P w T base ["stream", "depth", "least", "names", "found", "k", "rule", "kind"] "_law_fields" (defScope s__law_fields) f cdv A outer s H E) (WF E) := takes_of rfl rfl rfl rfl
    show PSs (cxF P w T base ["stream", "depth", "least", "names", "found", "k", "rule", "kind"] "_law_fields" (defScope s__law_fields) f cdv A outer s H E) (defBody s__law_fields) (rdS (tx (cxF P w T base ["stream", "depth", "least", "names", "found", "k", "rule", "kind"] "_law_fields" (defScope s__law_fields) f cdv A outer s H E)) (WF E) (b__law_fields (r__law_fields n)))
    exact (ss_cons (s_set (i := 3) nd (v_lst (a_cons v_str (a_cons v_str (a_cons v_str (a_cons v_str (a_cons v_str (a_cons v_str a_nil))))))))
    (ss_cons (s_set (i := 4) nd (v_new a_nil))
    (ss_cons (s_for (passes_of rfl) rfl (i_r1 t.b_range (a_cons (v_add (v_var (i := 2)) (v_call G__law_next (hr.mono (by omega)) tk (a_cons (v_var (i := 0)) (a_cons v_int a_nil)) (al_cons (al_cons al_nil)))) a_nil)) (g_nm (i := 5) nd) (ss_cons (s_set (i := 6) nd (v_ix (v_lst (a_cons v_str (a_cons v_str (a_cons v_str a_nil)))) (v_call G__law_next (hr.mono (by omega)) tk (a_cons (v_var (i := 0)) (a_cons v_int a_nil)) (al_cons (al_cons al_nil)))))
    (ss_cons (s_set (i := 7) nd (v_ix (v_lst (a_cons v_str (a_cons v_str (a_cons v_str (a_cons v_str a_nil))))) (v_call G__law_next (hr.mono (by omega)) tk (a_cons (v_var (i := 0)) (a_cons v_int a_nil)) (al_cons (al_cons al_nil)))))
    (ss_cons (s_if (t_w (w_and (t_cmp (nomark _) cm_lt (v_var (i := 1)) v_int) (w_and1 (t_cmp (nomark _) (cm_eq hr) (v_call G__law_next (hr.mono (by omega)) tk (a_cons (v_var (i := 0)) (a_cons v_int a_nil)) (al_cons (al_cons al_nil))) v_int)))) (ss_one (s_set (i := 7) nd (v_call G__law_fields (hr.mono (by omega)) tk (a_cons (v_var (i := 0)) (a_cons (v_add (v_var (i := 1)) v_int) (a_cons v_int a_nil))) (al_cons (al_cons (al_cons al_nil)))))) ss_nil)
    (ss_one (s_exp (v_app (v_var (i := 4)) (a_cons (v_tup (a_cons (v_ix (v_var (i := 3)) (v_var (i := 5))) (a_cons (v_var (i := 6)) (a_cons (v_var (i := 7)) a_nil)))) a_nil))))))))
    (ss_one (s_ret (v_typ (cb_tuple) t.b_tuple bb_tuple (a_cons (v_var (i := 4)) a_nil)))))))
theorem G__law_fields (t : Tc T a_Schema a_BadSchema a_KinError) : FnG P w T base "_law_fields" 7 3 o__law_fields := Gr__law_fields t 6
def b__law_leaf_count (o__law_leaf_count : List D → List O → Rs D) : FS := (sSeq (sIf (tTru (fCB bIsi (aCons (fVar 0) (aCons (fC (.ty "str")) aNil)))) (sRet (fC (.int 1))) sNx)
    (sRet (fCB bSum (aCons (fLc [1] (.nm 1) (iAll (fVar 0)) tTrue (fCB o__law_leaf_count (aCons (fBin gIx (fVar 1) (fC (.int 2))) aNil))) aNil))))
def r__law_leaf_count : Nat → List D → List O → Rs D
  | 0 => fun _ _ => .stk
  | n + 1 => runF 2 (b__law_leaf_count (r__law_leaf_count n))
def o__law_leaf_count := r__law_leaf_count 6
theorem sc__law_leaf_count : FnScope ["kind", "field"] ["kind"] (defScope s__law_leaf_count) := ⟨rfl, rfl, rfl, by decide +kernel, rfl, by decide +kernel, by decide +kernel⟩
theorem Gr__law_leaf_count (t : Tc T a_Schema a_BadSchema a_KinError) : ∀ n : Nat, FnG P w T base "_law_leaf_count" (0 + n) 1 (r__law_leaf_count n)
  | 0 => by obtain ⟨f, fd, F, hm, b⟩ := t.d__law_leaf_count.ex; exact ⟨f, fd, _, fn_zero, hm, F.kp, b⟩
  | n + 1 => by
    have G__law_leaf_count := Gr__law_leaf_count t n
    refine g_rule (k := 0 + n) (body := b__law_leaf_count (r__law_leaf_count n)) t.d__law_leaf_count sc__law_leaf_count rfl rfl ?_
    intro f cdv A outer s H E hr
    have nd : (["kind", "field"] : List Str).Nodup := sc__law_leaf_count.nd
    have tk : Takes (cxF P w T base ["kind", "field"] "_law_leaf_count" (defScope s__law_leaf_count) f cdv A outer s H E) (WF E) := takes_of rfl rfl rfl rfl
    show PSs (cxF P w T base ["kind", "field"] "_law_leaf_count" (defScope s__law_leaf_count) f cdv A outer s H E) (defBody s__law_leaf_count) (rdS (tx (cxF P w T base ["kind", "field"] "_law_leaf_count" (defScope s__law_leaf_count) f cdv A outer s H E)) (WF E) (b__law_leaf_count (r__law_leaf_count n)))
    exact (ss_cons (s_if (t_tru (v_blt (cb_isi) t.b_isinstance bb_isinstance (a_cons (v_var (i := 0)) (a_cons (v_bty rfl t.b_str bb_str) a_nil)))) (ss_one (s_ret v_int)) ss_nil)
    (ss_one (s_ret (v_blt (cb_sum rfl) t.b_sum bb_sum (a_cons (v_lc (own := [("field", 1)]) (p := (.nm 1)) (by decide) rfl nd (i_all (v_var (i := 0))) (blkOk_by (N := ["kind", "field"]) (sc := defScope s__law_leaf_count) (by decide +kernel)) (fun _ _ _ _ _ => (g_nm (i := 1) nd)) (fun _ _ _ _ _ => ts_nil) (fun _ _ _ _ _ => (v_call G__law_leaf_count (hr.mono (by omega)) tk0 (a_cons (v_ix (v_var (i := 1)) v_int) a_nil) (al_cons al_nil)))) a_nil)))))
theorem G__law_leaf_count (t : Tc T a_Schema a_BadSchema a_KinError) : FnG P w T base "_law_leaf_count" 6 1 o__law_leaf_count := Gr__law_leaf_count t 6
def b__law_schema : FS := (sSeq (sSet 2 (fCB o__law_fields (aCons (fCB o__law_stream (aCons (fVar 0) (aCons (fVar 1) (aCons (fC (.int 4)) aNil)))) (aCons (fC (.int 1)) (aCons (fC (.int 1)) aNil)))))
    (sSeq (sIf (tVal (fBin gGt (fCB bSum (aCons (fLc [3] (.nm 3) (iAll (fVar 2)) tTrue (fCB o__law_leaf_count (aCons (fBin gIx (fVar 3) (fC (.int 2))) aNil))) aNil)) (fC (.int 12)))) (sRet (fSl (fVar 2) pNo (pSo (fC (.int 1))))) sNx)
    (sRet (fVar 2))))
def o__law_schema := runF 4 b__law_schema
theorem sc__law_schema : FnScope ["script", "first", "fields", "field"] ["script", "first"] (defScope s__law_schema) := ⟨rfl, rfl, rfl, by decide +kernel, rfl, by decide +kernel, by decide +kernel⟩
theorem G__law_schema (t : Tc T a_Schema a_BadSchema a_KinError) : FnG P w T base "_law_schema" 8 2 o__law_schema := by
  have G__law_fields := @G__law_fields P w T base a_Schema a_BadSchema a_KinError t
  have G__law_leaf_count := @G__law_leaf_count P w T base a_Schema a_BadSchema a_KinError t
  have G__law_stream := @G__law_stream P w T base a_Schema a_BadSchema a_KinError t
  refine g_rule (k := 7) (body := b__law_schema) t.d__law_schema sc__law_schema rfl rfl ?_
  intro f cdv A outer s H E hr
  have nd : (["script", "first", "fields", "field"] : List Str).Nodup := sc__law_schema.nd
  have tk : Takes (cxF P w T base ["script", "first", "fields", "field"] "_law_schema" (defScope s__law_schema) f cdv A outer s H E) (WF E) := takes_of rfl rfl rfl rfl
  show PSs (cxF P w T base ["script", "first", "fields", "field"] "_law_schema" (defScope s__law_schema) f cdv A outer s H E) (defBody s__law_schema) (rdS (tx (cxF P w T base ["script", "first", "fields", "field"] "_law_schema" (defScope s__law_schema) f cdv A outer s H E)) (WF E) b__law_schema)
  exact (ss_cons (s_set (i := 2) nd (v_call G__law_fields (hr.mono (by omega)) tk (a_cons (v_call G__law_stream (hr.mono (by omega)) tk (a_cons (v_var (i := 0)) (a_cons (v_var (i := 1)) (a_cons v_int a_nil))) (al_cons (al_cons (al_cons al_nil)))) (a_cons v_int (a_cons v_int a_nil))) (al_cons (al_cons (al_cons al_nil)))))
    (ss_cons (s_if (t_cmp (nomark _) cm_gt (v_blt (cb_sum rfl) t.b_sum bb_sum (a_cons (v_lc (own := [("field", 3)]) (p := (.nm 3)) (by decide) rfl nd (i_all (v_var (i := 2))) (blkOk_by (N := ["script", "first", "fields", "field"]) (sc := defScope s__law_schema) (by decide +kernel)) (fun _ _ _ _ _ => (g_nm (i := 3) nd)) (fun _ _ _ _ _ => ts_nil) (fun _ _ _ _ _ => (v_call G__law_leaf_count (hr.mono (by omega)) tk0 (a_cons (v_ix (v_var (i := 3)) v_int) a_nil) (al_cons al_nil)))) a_nil)) v_int) (ss_one (s_ret (v_sl (v_var (i := 2)) p_no (p_so v_int)))) ss_nil)
    (ss_one (s_ret (v_var (i := 2))))))
def ms__law_is_bad_0 (a : Addr) : FS := (sRet (fCB (bIsE a (.glo "KinError")) (aCons (fVar 1) (aCons (fC (.glo "KinError")) aNil))))
def M__law_is_bad_0 : FS := fun r m => gone 1 (noex ((sRet (fC (.bl true))) (r.set 1 none) m))
theorem hM__law_is_bad_0 : ∀ a r m, 1 < r.length → gone 1 (noex (ms__law_is_bad_0 a (r.set 1 (some (.exc a))) m)) = M__law_is_bad_0 r m ∨ M__law_is_bad_0 r m = .stk := by
  intro a r m h
  left
  simp [ms__law_is_bad_0, M__law_is_bad_0, List.getElem?_set, h, sRet, fCB, fC, fVar, aCons, aNil, bIsE, Rs.bind, Rs.sq, noex, gone, fAnd, fUn]
def b__law_is_bad : FS := (sSeq (sTry "BadSchema" (sExp (fFrz (fMake "Schema" o_Schema (aCons (fVar 0) aNil)))) (fun r m => if 1 < r.length then M__law_is_bad_0 r m else .stk))
    (sRet (fC (.bl false))))
def o__law_is_bad := runF 2 b__law_is_bad
theorem sc__law_is_bad : FnScope ["fields", "e"] ["fields"] (defScope s__law_is_bad) := ⟨rfl, rfl, rfl, by decide +kernel, rfl, by decide +kernel, by decide +kernel⟩
theorem G__law_is_bad (t : Tc T a_Schema a_BadSchema a_KinError) : FnG P w T base "_law_is_bad" 12 1 o__law_is_bad := by
  have G_Schema := @G_Schema P w T base a_Schema a_BadSchema a_KinError t
  refine g_rule (k := 11) (body := b__law_is_bad) t.d__law_is_bad sc__law_is_bad rfl rfl ?_
  intro f cdv A outer s H E hr
  have nd : (["fields", "e"] : List Str).Nodup := sc__law_is_bad.nd
  have tk : Takes (cxF P w T base ["fields", "e"] "_law_is_bad" (defScope s__law_is_bad) f cdv A outer s H E) (WF E) := takes_of rfl rfl rfl rfl
  show PSs (cxF P w T base ["fields", "e"] "_law_is_bad" (defScope s__law_is_bad) f cdv A outer s H E) (defBody s__law_is_bad) (rdS (tx (cxF P w T base ["fields", "e"] "_law_is_bad" (defScope s__law_is_bad) f cdv A outer s H E)) (WF E) b__law_is_bad)
  exact (ss_cons (s_tryAs (i := 1) (ms := ms__law_is_bad_0) (M := M__law_is_bad_0) rfl rfl nd t.y_BadSchema tk (fun W pn xe tkT hpT => (ss_one (s_exp (v_frz (v_make G_Schema (hr.mono (by omega)) tkT (a_cons (v_var (i := 0)) a_nil) (al_cons al_nil)))))) (fun a oe pn hz hd => (ss_one (s_ret (v_blt (cb_isE (c := (.glo "KinError")) t.x_BadSchema hz hd ⟨_, t.g_KinError, t.s_BadSchema_KinError⟩) t.b_isinstance bb_isinstance (a_cons (v_var (i := 1)) (a_cons (v_glob rfl (gv_ref t.g_KinError)) a_nil)))))) hM__law_is_bad_0)
    (ss_one (s_ret v_bl)))
def b_law : FS := (sSeq (sSet 1 (fCB o__law_schema (aCons (fVar 0) (aCons (fC (.int 0)) aNil))))
    (sSeq (sSet 2 (fTup (aCons (fC (.str "z9")) (aCons (fC (.str "required")) (aCons (fC (.str "int")) aNil)))))
    (sSeq (sSet 3 (fNew (aCons (fTup aNil) (aCons (fLst (aCons (fVar 2) aNil)) (aCons (fTup (aCons (fTup aNil) aNil)) (aCons (fTup (aCons (fVar 2) (aCons (fVar 2) aNil))) (aCons (fTup (aCons (fCB bList (aCons (fVar 2) aNil)) aNil)) (aCons (fTup (aCons (fTup (aCons (fC (.str "z9")) (aCons (fC (.str "required")) aNil))) aNil)) (aCons (fTup (aCons (fBin gAdd (fVar 2) (fTup (aCons (fC (.int 1)) aNil))) aNil)) (aCons (fC .non) (aCons (fTup (aCons (fC .non) aNil)) aNil)))))))))))
    (sSeq (sFor (.nm 4) (iAll (fLst (aCons (fC (.str "")) (aCons (fC (.str "A")) (aCons (fC (.str "9z")) (aCons (fC (.str "_z")) (aCons (fC (.str "abcdefghijk")) (aCons (fC (.str "a b")) (aCons (fC (.str "aB")) (aCons (fC (.str "a.b")) (aCons (fC (.str "a-b")) (aCons (fC (.str "a_B")) (aCons (fC (.str "a9.")) (aCons (fC (.int 5)) (aCons (fC .non) aNil))))))))))))))) (sExp (fApp (fVar 3) (aCons (fTup (aCons (fTup (aCons (fVar 4) (aCons (fC (.str "required")) (aCons (fC (.str "int")) aNil)))) aNil)) aNil))))
    (sSeq (sFor (.nm 5) (iAll (fLst (aCons (fC (.str "needed")) (aCons (fC (.str "")) (aCons (fC .non) (aCons (fC (.int 1)) aNil)))))) (sExp (fApp (fVar 3) (aCons (fTup (aCons (fTup (aCons (fC (.str "z9")) (aCons (fVar 5) (aCons (fC (.str "int")) aNil)))) aNil)) aNil))))
    (sSeq (sFor (.nm 6) (iAll (fLst (aCons (fC (.str "float")) (aCons (fC (.str "")) (aCons (fC .non) (aCons (fC (.int 7)) (aCons (fTup aNil) (aCons (fLst (aCons (fVar 2) aNil)) (aCons (fTup (aCons (fVar 2) (aCons (fVar 2) aNil))) aNil))))))))) (sExp (fApp (fVar 3) (aCons (fTup (aCons (fTup (aCons (fC (.str "z9")) (aCons (fC (.str "optional")) (aCons (fVar 6) aNil)))) aNil)) aNil))))
    (sSeq (sSet 7 (fTup (aCons (fTup (aCons (fC (.str "p")) (aCons (fC (.str "optional")) (aCons (fTup (aCons (fTup (aCons (fC (.str "q")) (aCons (fC (.str "repeated")) (aCons (fTup (aCons (fTup (aCons (fC (.str "r")) (aCons (fC (.str "optional")) (aCons (fC (.str "int")) aNil)))) aNil)) aNil)))) aNil)) aNil)))) aNil)))
    (sSeq (sSet 8 (fCB bTuple (aCons (fLc [9] (.nm 9) (iR1 (aCons (fC (.int 13)) aNil)) tTrue (fTup (aCons (fBin gIx (fC (.str "abcdefghijklm")) (fVar 9)) (aCons (fC (.str "optional")) (aCons (fC (.str "flag")) aNil))))) aNil)))
    (sSeq (sFor (.nm 10) (iAll (fFrz (fVar 3))) (sIf (tOr_ (tNot_ (tTru (fCB o__law_is_bad (aCons (fVar 10) aNil)))) (tNot_ (tTru (fCB o__law_is_bad (aCons (fTup (aCons (fTup (aCons (fC (.str "g")) (aCons (fC (.str "repeated")) (aCons (fVar 10) aNil)))) aNil)) aNil))))) (sRet (fC (.bl false))) sNx))
    (sSeq (sIf (tOr_ (tNot_ (tTru (fCB o__law_is_bad (aCons (fTup (aCons (fTup (aCons (fC (.str "o")) (aCons (fC (.str "required")) (aCons (fVar 7) aNil)))) aNil)) aNil)))) (tOr_ (tNot_ (tTru (fCB o__law_is_bad (aCons (fVar 8) aNil)))) (tNot_ (tTru (fCB o__law_is_bad (aCons (fTup (aCons (fTup (aCons (fC (.str "g")) (aCons (fC (.str "optional")) (aCons (fVar 8) aNil)))) aNil)) aNil)))))) (sRet (fC (.bl false))) sNx)
    (sRet (fUn gNot (fOr (fCB o__law_is_bad (aCons (fVar 1) aNil)) (fOr (fCB o__law_is_bad (aCons (fVar 7) aNil)) (fOr (fCB o__law_is_bad (aCons (fSl (fVar 8) pNo (pSo (fC (.int 12)))) aNil)) (fCB o__law_is_bad (aCons (fTup (aCons (fTup (aCons (fBin gMul (fC (.str "a")) (fC (.int 10))) (aCons (fC (.str "repeated")) (aCons (fSl (fVar 8) (pSo (fC (.int 1))) pNo) aNil)))) aNil)) aNil)))))))))))))))))
def o_law := runF 11 b_law
theorem sc_law : FnScope ["script", "fields", "good", "wrong", "name", "rule", "kind", "deep", "many", "k", "bad"] ["script"] (defScope s_law) := ⟨rfl, rfl, rfl, by decide +kernel, rfl, by decide +kernel, by decide +kernel⟩
theorem G_law (t : Tc T a_Schema a_BadSchema a_KinError) {f : Addr} {fd : FuncData} (F : L2.Fun T.K "law" "law" s_law f fd) : FnOk P w T.K T.mg base (L2.CX P w) 13 f fd ["script"] (spF T 1 o_law) := by
  have G__law_is_bad := @G__law_is_bad P w T base a_Schema a_BadSchema a_KinError t
  have G__law_schema := @G__law_schema P w T base a_Schema a_BadSchema a_KinError t
  refine fn_ruleN (n := 1) (nn := 11) (k := 12) (body := b_law) F sc_law rfl rfl ?_
  intro cdv A outer s H E hr
  have nd : (["script", "fields", "good", "wrong", "name", "rule", "kind", "deep", "many", "k", "bad"] : List Str).Nodup := sc_law.nd
  have tk : Takes (cxF P w T base ["script", "fields", "good", "wrong", "name", "rule", "kind", "deep", "many", "k", "bad"] "law" (defScope s_law) f cdv A outer s H E) (WF E) := takes_of rfl rfl rfl rfl
  show PSs (cxF P w T base ["script", "fields", "good", "wrong", "name", "rule", "kind", "deep", "many", "k", "bad"] "law" (defScope s_law) f cdv A outer s H E) (defBody s_law) (rdS (tx (cxF P w T base ["script", "fields", "good", "wrong", "name", "rule", "kind", "deep", "many", "k", "bad"] "law" (defScope s_law) f cdv A outer s H E)) (WF E) b_law)
  exact (ss_cons (s_set (i := 1) nd (v_call G__law_schema (hr.mono (by omega)) tk (a_cons (v_var (i := 0)) (a_cons v_int a_nil)) (al_cons (al_cons al_nil))))
    (ss_cons (s_set (i := 2) nd (v_tup (a_cons v_str (a_cons v_str (a_cons v_str a_nil)))))
    (ss_cons (s_set (i := 3) nd (v_new (a_cons (v_tup a_nil) (a_cons (v_lst (a_cons (v_var (i := 2)) a_nil)) (a_cons (v_tup (a_cons (v_tup a_nil) a_nil)) (a_cons (v_tup (a_cons (v_var (i := 2)) (a_cons (v_var (i := 2)) a_nil))) (a_cons (v_tup (a_cons (v_typ (cb_list) t.b_list bb_list (a_cons (v_var (i := 2)) a_nil)) a_nil)) (a_cons (v_tup (a_cons (v_tup (a_cons v_str (a_cons v_str a_nil))) a_nil)) (a_cons (v_tup (a_cons (v_add (v_var (i := 2)) (v_tup (a_cons v_int a_nil))) a_nil)) (a_cons v_non (a_cons (v_tup (a_cons v_non a_nil)) a_nil)))))))))))
    (ss_cons (s_for (passes_of rfl) rfl (i_all (v_lst (a_cons v_str (a_cons v_str (a_cons v_str (a_cons v_str (a_cons v_str (a_cons v_str (a_cons v_str (a_cons v_str (a_cons v_str (a_cons v_str (a_cons v_str (a_cons v_int (a_cons v_non a_nil))))))))))))))) (g_nm (i := 4) nd) (ss_one (s_exp (v_app (v_var (i := 3)) (a_cons (v_tup (a_cons (v_tup (a_cons (v_var (i := 4)) (a_cons v_str (a_cons v_str a_nil)))) a_nil)) a_nil)))))
    (ss_cons (s_for (passes_of rfl) rfl (i_all (v_lst (a_cons v_str (a_cons v_str (a_cons v_non (a_cons v_int a_nil)))))) (g_nm (i := 5) nd) (ss_one (s_exp (v_app (v_var (i := 3)) (a_cons (v_tup (a_cons (v_tup (a_cons v_str (a_cons (v_var (i := 5)) (a_cons v_str a_nil)))) a_nil)) a_nil)))))
    (ss_cons (s_for (passes_of rfl) rfl (i_all (v_lst (a_cons v_str (a_cons v_str (a_cons v_non (a_cons v_int (a_cons (v_tup a_nil) (a_cons (v_lst (a_cons (v_var (i := 2)) a_nil)) (a_cons (v_tup (a_cons (v_var (i := 2)) (a_cons (v_var (i := 2)) a_nil))) a_nil))))))))) (g_nm (i := 6) nd) (ss_one (s_exp (v_app (v_var (i := 3)) (a_cons (v_tup (a_cons (v_tup (a_cons v_str (a_cons v_str (a_cons (v_var (i := 6)) a_nil)))) a_nil)) a_nil)))))
    (ss_cons (s_set (i := 7) nd (v_tup (a_cons (v_tup (a_cons v_str (a_cons v_str (a_cons (v_tup (a_cons (v_tup (a_cons v_str (a_cons v_str (a_cons (v_tup (a_cons (v_tup (a_cons v_str (a_cons v_str (a_cons v_str a_nil)))) a_nil)) a_nil)))) a_nil)) a_nil)))) a_nil)))
    (ss_cons (s_set (i := 8) nd (v_typ (cb_tuple) t.b_tuple bb_tuple (a_cons (v_lc (own := [("k", 9)]) (p := (.nm 9)) (by decide) rfl nd (i_r1 t.b_range (a_cons v_int a_nil)) (blkOk_by (N := ["script", "fields", "good", "wrong", "name", "rule", "kind", "deep", "many", "k", "bad"]) (sc := defScope s_law) (by decide +kernel)) (fun _ _ _ _ _ => (g_nm (i := 9) nd)) (fun _ _ _ _ _ => ts_nil) (fun _ _ _ _ _ => (v_tup (a_cons (v_ix v_str (v_var (i := 9))) (a_cons v_str (a_cons v_str a_nil)))))) a_nil)))
    (ss_cons (s_for (passes_of rfl) rfl (i_all (v_frz (v_var (i := 3)))) (g_nm (i := 10) nd) (ss_one (s_if (t_w (w_or (t_not (t_tru (v_call G__law_is_bad (hr.mono (by omega)) tk (a_cons (v_var (i := 10)) a_nil) (al_cons al_nil)))) (w_or1 (t_not (t_tru (v_call G__law_is_bad (hr.mono (by omega)) tk (a_cons (v_tup (a_cons (v_tup (a_cons v_str (a_cons v_str (a_cons (v_var (i := 10)) a_nil)))) a_nil)) a_nil) (al_cons al_nil))))))) (ss_one (s_ret v_bl)) ss_nil)))
    (ss_cons (s_if (t_w (w_or (t_not (t_tru (v_call G__law_is_bad (hr.mono (by omega)) tk (a_cons (v_tup (a_cons (v_tup (a_cons v_str (a_cons v_str (a_cons (v_var (i := 7)) a_nil)))) a_nil)) a_nil) (al_cons al_nil)))) (w_or (t_not (t_tru (v_call G__law_is_bad (hr.mono (by omega)) tk (a_cons (v_var (i := 8)) a_nil) (al_cons al_nil)))) (w_or1 (t_not (t_tru (v_call G__law_is_bad (hr.mono (by omega)) tk (a_cons (v_tup (a_cons (v_tup (a_cons v_str (a_cons v_str (a_cons (v_var (i := 8)) a_nil)))) a_nil)) a_nil) (al_cons al_nil)))))))) (ss_one (s_ret v_bl)) ss_nil)
    (ss_one (s_ret (v_not (v_or (v_call G__law_is_bad (hr.mono (by omega)) tk (a_cons (v_var (i := 1)) a_nil) (al_cons al_nil)) (v_or (v_call G__law_is_bad (hr.mono (by omega)) tk (a_cons (v_var (i := 7)) a_nil) (al_cons al_nil)) (v_or (v_call G__law_is_bad (hr.mono (by omega)) tk (a_cons (v_sl (v_var (i := 8)) p_no (p_so v_int)) a_nil) (al_cons al_nil)) (v_one (v_call G__law_is_bad (hr.mono (by omega)) tk (a_cons (v_tup (a_cons (v_tup (a_cons (v_mulA v_str v_int) (a_cons v_str (a_cons (v_sl (v_var (i := 8)) (p_so v_int) p_no) a_nil)))) a_nil)) a_nil) (al_cons al_nil)))))))))))))))))))
end
end K01
set_option Elab.async false
set_option linter.all false
set_option maxRecDepth 100000
set_option maxHeartbeats 4000000
namespace K01
open PySem PySem.Spec L2 FR
/-! ### the head -/
def hFn : List He.DefD := [
  ⟨("Schema", some "__init__"), "__init__", "Schema.__init__", defArgs s_Schema___init__, defBody s_Schema___init__, defScope s_Schema___init__, [], []⟩,
  ⟨("ways_within", none), "ways_within", "ways_within", defArgs s_ways_within, defBody s_ways_within, defScope s_ways_within, [], []⟩,
  ⟨("step_below", none), "step_below", "step_below", defArgs s_step_below, defBody s_step_below, defScope s_step_below, [], []⟩,
  ⟨("levels_below", none), "levels_below", "levels_below", defArgs s_levels_below, defBody s_levels_below, defScope s_levels_below, [], []⟩,
  ⟨("leaf_of", none), "leaf_of", "leaf_of", defArgs s_leaf_of, defBody s_leaf_of, defScope s_leaf_of, [], []⟩,
  ⟨("check_fields", none), "check_fields", "check_fields", defArgs s_check_fields, defBody s_check_fields, defScope s_check_fields, [], []⟩,
  ⟨("check_field", none), "check_field", "check_field", defArgs s_check_field, defBody s_check_field, defScope s_check_field, [], []⟩,
  ⟨("is_name", none), "is_name", "is_name", defArgs s_is_name, defBody s_is_name, defScope s_is_name, [], []⟩,
  ⟨("_law_cell", none), "_law_cell", "_law_cell", defArgs s__law_cell, defBody s__law_cell, defScope s__law_cell, [], []⟩,
  ⟨("_law_draws", none), "_law_draws", "_law_draws", defArgs s__law_draws, defBody s__law_draws, defScope s__law_draws, [], []⟩,
  ⟨("_law_stream", none), "_law_stream", "_law_stream", defArgs s__law_stream, defBody s__law_stream, defScope s__law_stream, [], []⟩,
  ⟨("_law_next", none), "_law_next", "_law_next", defArgs s__law_next, defBody s__law_next, defScope s__law_next, [], []⟩,
  ⟨("_law_fields", none), "_law_fields", "_law_fields", defArgs s__law_fields, defBody s__law_fields, defScope s__law_fields, [], []⟩,
  ⟨("_law_leaf_count", none), "_law_leaf_count", "_law_leaf_count", defArgs s__law_leaf_count, defBody s__law_leaf_count, defScope s__law_leaf_count, [], []⟩,
  ⟨("_law_schema", none), "_law_schema", "_law_schema", defArgs s__law_schema, defBody s__law_schema, defScope s__law_schema, [], []⟩,
  ⟨("_law_is_bad", none), "_law_is_bad", "_law_is_bad", defArgs s__law_is_bad, defBody s__law_is_bad, defScope s__law_is_bad, [], []⟩,
  ⟨("law", none), "law", "law", defArgs s_law, defBody s_law, defScope s_law, [], []⟩]
def hFa : List He.Fa := [
  .noat "Schema" "fields",
  .noat "Schema" "leaves",
  .noat "Schema" "ways",
  .free "abs",
  .free "all",
  .free "int",
  .free "isinstance",
  .free "len",
  .free "list",
  .free "range",
  .free "str",
  .free "sum",
  .free "tuple",
  .free "type",
  .glo "BadSchema",
  .exc "BadSchema",
  .glo "_law_cell",
  .glo "_law_draws",
  .glo "_law_fields",
  .glo "_law_is_bad",
  .glo "_law_leaf_count",
  .glo "_law_next",
  .glo "_law_schema",
  .glo "_law_stream",
  .glo "check_field",
  .glo "check_fields",
  .glo "is_name",
  .glo "leaf_of",
  .glo "levels_below",
  .glo "step_below",
  .glo "ways_within",
  .glo "KinError",
  .glo "Schema",
  .cls "Schema",
  .mkr "Schema",
  .exm "BadSchema" "BadSchema" true,
  .glo "law"]
def hXs : List Fx := [
  .con "KINDS" c_KINDS,
  .con "LETTERS" c_LETTERS,
  .con "LONGEST_NAME" c_LONGEST_NAME,
  .con "MOST_DEEP" c_MOST_DEEP,
  .con "MOST_LEAVES" c_MOST_LEAVES,
  .con "NAME_SIGNS" c_NAME_SIGNS,
  .con "RULES" c_RULES,
  .con "WHOLE_RECORD" c_WHOLE_RECORD,
  .kit "BadSchema" "KinError" true,
  .xc "BadSchema"]
abbrev R : PySem.W.OpenRow := PySem.W.OpenLaw.row PySem.Challenge.rw_columnkin_k01_no_schemas
abbrev hk : PySem.W.Hook := hookY 6 hFa hFn hXs
def loose : List Str := ("_wall" : Str) :: ("KinError" : Str) :: ("BadSchema" : Str) :: ("KINDS" : Str) :: ("RULES" : Str) :: ("LETTERS" : Str) :: ("NAME_SIGNS" : Str) :: ("LONGEST_NAME" : Str) :: ("MOST_DEEP" : Str) :: ("MOST_LEAVES" : Str) :: ("WHOLE_RECORD" : Str) :: ("Schema" : Str) :: ("ways_within" : Str) :: ("step_below" : Str) :: ("levels_below" : Str) :: ("leaf_of" : Str) :: ("check_fields" : Str) :: ("check_field" : Str) :: ("is_name" : Str) :: ("_law_cell" : Str) :: ("_law_draws" : Str) :: ("_law_stream" : Str) :: ("_law_next" : Str) :: ("_law_fields" : Str) :: ("_law_leaf_count" : Str) :: ("_law_schema" : Str) :: ("_law_is_bad" : Str) :: []
theorem run (w : World) : HandSHeadRun.RunEq R (PySem.W.view R.prog [30]) hk (obY 6 hFa hFn hXs) 9000 loose w := by
  intro os
  kernel_rfl
theorem facts {P : Program} {w : World} {K : PySem.W.Frag} {h : Heap} {mg : Str → Option Value} {f : Addr} (KX : K.In h) (G : h.Ns mainGlobals mg) (hfa : mg ("law" : Str) = some (.ref f)) (cc : He.SaysD hFa hFn K) (cx : (hXs.all fun z => z.ok K) = true) :
    ∃ fd : FuncData, (∀ (s : Shared) (u : Value), BindsTo s fd ⟨[u], []⟩ [("script", u)]) ∧ ∀ base : Heap, FnOk P w K mg base (L2.CX P w) 13 f fd ["script"] (spF ⟨K, mg⟩ 1 o_law) := by
  obtain ⟨fd_Schema___init__, F_Schema___init__⟩ := cc.def_ 0 (d := ⟨("Schema", some "__init__"), "__init__", "Schema.__init__", defArgs s_Schema___init__, defBody s_Schema___init__, defScope s_Schema___init__, [], []⟩) rfl
  have F_Schema___init__ : L2.Fun K "__init__" "Schema.__init__" s_Schema___init__ (He.ma K (He.ga K "Schema") "__init__") fd_Schema___init__ := funOf F_Schema___init__
  have B_Schema___init__ := F_Schema___init__.binds (ps := ["self", "fields"]) fun _ _ _ _ _ _ us hl => match us, hl with | [_, _], _ => rfl
  obtain ⟨fd_ways_within, F_ways_within⟩ := cc.def_ 1 (d := ⟨("ways_within", none), "ways_within", "ways_within", defArgs s_ways_within, defBody s_ways_within, defScope s_ways_within, [], []⟩) rfl
  have F_ways_within : L2.Fun K "ways_within" "ways_within" s_ways_within (He.ga K "ways_within") fd_ways_within := funOf F_ways_within
  have B_ways_within := F_ways_within.binds (ps := ["fields", "around"]) fun _ _ _ _ _ _ us hl => match us, hl with | [_, _], _ => rfl
  obtain ⟨fd_step_below, F_step_below⟩ := cc.def_ 2 (d := ⟨("step_below", none), "step_below", "step_below", defArgs s_step_below, defBody s_step_below, defScope s_step_below, [], []⟩) rfl
  have F_step_below : L2.Fun K "step_below" "step_below" s_step_below (He.ga K "step_below") fd_step_below := funOf F_step_below
  have B_step_below := F_step_below.binds (ps := ["step", "name", "rule"]) fun _ _ _ _ _ _ us hl => match us, hl with | [_, _, _], _ => rfl
  obtain ⟨fd_levels_below, F_levels_below⟩ := cc.def_ 3 (d := ⟨("levels_below", none), "levels_below", "levels_below", defArgs s_levels_below, defBody s_levels_below, defScope s_levels_below, [], []⟩) rfl
  have F_levels_below : L2.Fun K "levels_below" "levels_below" s_levels_below (He.ga K "levels_below") fd_levels_below := funOf F_levels_below
  have B_levels_below := F_levels_below.binds (ps := ["repetition", "definition", "rule"]) fun _ _ _ _ _ _ us hl => match us, hl with | [_, _, _], _ => rfl
  obtain ⟨fd_leaf_of, F_leaf_of⟩ := cc.def_ 4 (d := ⟨("leaf_of", none), "leaf_of", "leaf_of", defArgs s_leaf_of, defBody s_leaf_of, defScope s_leaf_of, [], []⟩) rfl
  have F_leaf_of : L2.Fun K "leaf_of" "leaf_of" s_leaf_of (He.ga K "leaf_of") fd_leaf_of := funOf F_leaf_of
  have B_leaf_of := F_leaf_of.binds (ps := ["step", "kind"]) fun _ _ _ _ _ _ us hl => match us, hl with | [_, _], _ => rfl
  obtain ⟨fd_check_fields, F_check_fields⟩ := cc.def_ 5 (d := ⟨("check_fields", none), "check_fields", "check_fields", defArgs s_check_fields, defBody s_check_fields, defScope s_check_fields, [], []⟩) rfl
  have F_check_fields : L2.Fun K "check_fields" "check_fields" s_check_fields (He.ga K "check_fields") fd_check_fields := funOf F_check_fields
  have B_check_fields := F_check_fields.binds (ps := ["fields"]) fun _ _ _ _ _ _ us hl => match us, hl with | [_], _ => rfl
  obtain ⟨fd_check_field, F_check_field⟩ := cc.def_ 6 (d := ⟨("check_field", none), "check_field", "check_field", defArgs s_check_field, defBody s_check_field, defScope s_check_field, [], []⟩) rfl
  have F_check_field : L2.Fun K "check_field" "check_field" s_check_field (He.ga K "check_field") fd_check_field := funOf F_check_field
  have B_check_field := F_check_field.binds (ps := ["field"]) fun _ _ _ _ _ _ us hl => match us, hl with | [_], _ => rfl
  obtain ⟨fd_is_name, F_is_name⟩ := cc.def_ 7 (d := ⟨("is_name", none), "is_name", "is_name", defArgs s_is_name, defBody s_is_name, defScope s_is_name, [], []⟩) rfl
  have F_is_name : L2.Fun K "is_name" "is_name" s_is_name (He.ga K "is_name") fd_is_name := funOf F_is_name
  have B_is_name := F_is_name.binds (ps := ["name"]) fun _ _ _ _ _ _ us hl => match us, hl with | [_], _ => rfl
  obtain ⟨fd__law_cell, F__law_cell⟩ := cc.def_ 8 (d := ⟨("_law_cell", none), "_law_cell", "_law_cell", defArgs s__law_cell, defBody s__law_cell, defScope s__law_cell, [], []⟩) rfl
  have F__law_cell : L2.Fun K "_law_cell" "_law_cell" s__law_cell (He.ga K "_law_cell") fd__law_cell := funOf F__law_cell
  have B__law_cell := F__law_cell.binds (ps := ["script", "k"]) fun _ _ _ _ _ _ us hl => match us, hl with | [_, _], _ => rfl
  obtain ⟨fd__law_draws, F__law_draws⟩ := cc.def_ 9 (d := ⟨("_law_draws", none), "_law_draws", "_law_draws", defArgs s__law_draws, defBody s__law_draws, defScope s__law_draws, [], []⟩) rfl
  have F__law_draws : L2.Fun K "_law_draws" "_law_draws" s__law_draws (He.ga K "_law_draws") fd__law_draws := funOf F__law_draws
  have B__law_draws := F__law_draws.binds (ps := ["cell", "count"]) fun _ _ _ _ _ _ us hl => match us, hl with | [_, _], _ => rfl
  obtain ⟨fd__law_stream, F__law_stream⟩ := cc.def_ 10 (d := ⟨("_law_stream", none), "_law_stream", "_law_stream", defArgs s__law_stream, defBody s__law_stream, defScope s__law_stream, [], []⟩) rfl
  have F__law_stream : L2.Fun K "_law_stream" "_law_stream" s__law_stream (He.ga K "_law_stream") fd__law_stream := funOf F__law_stream
  have B__law_stream := F__law_stream.binds (ps := ["script", "first", "count"]) fun _ _ _ _ _ _ us hl => match us, hl with | [_, _, _], _ => rfl
  obtain ⟨fd__law_next, F__law_next⟩ := cc.def_ 11 (d := ⟨("_law_next", none), "_law_next", "_law_next", defArgs s__law_next, defBody s__law_next, defScope s__law_next, [], []⟩) rfl
  have F__law_next : L2.Fun K "_law_next" "_law_next" s__law_next (He.ga K "_law_next") fd__law_next := funOf F__law_next
  have B__law_next := F__law_next.binds (ps := ["stream", "many"]) fun _ _ _ _ _ _ us hl => match us, hl with | [_, _], _ => rfl
  obtain ⟨fd__law_fields, F__law_fields⟩ := cc.def_ 12 (d := ⟨("_law_fields", none), "_law_fields", "_law_fields", defArgs s__law_fields, defBody s__law_fields, defScope s__law_fields, [], []⟩) rfl
  have F__law_fields : L2.Fun K "_law_fields" "_law_fields" s__law_fields (He.ga K "_law_fields") fd__law_fields := funOf F__law_fields
  have B__law_fields := F__law_fields.binds (ps := ["stream", "depth", "least"]) fun _ _ _ _ _ _ us hl => match us, hl with | [_, _, _], _ => rfl
  obtain ⟨fd__law_leaf_count, F__law_leaf_count⟩ := cc.def_ 13 (d := ⟨("_law_leaf_count", none), "_law_leaf_count", "_law_leaf_count", defArgs s__law_leaf_count, defBody s__law_leaf_count, defScope s__law_leaf_count, [], []⟩) rfl
  have F__law_leaf_count : L2.Fun K "_law_leaf_count" "_law_leaf_count" s__law_leaf_count (He.ga K "_law_leaf_count") fd__law_leaf_count := funOf F__law_leaf_count
  have B__law_leaf_count := F__law_leaf_count.binds (ps := ["kind"]) fun _ _ _ _ _ _ us hl => match us, hl with | [_], _ => rfl
  obtain ⟨fd__law_schema, F__law_schema⟩ := cc.def_ 14 (d := ⟨("_law_schema", none), "_law_schema", "_law_schema", defArgs s__law_schema, defBody s__law_schema, defScope s__law_schema, [], []⟩) rfl
  have F__law_schema : L2.Fun K "_law_schema" "_law_schema" s__law_schema (He.ga K "_law_schema") fd__law_schema := funOf F__law_schema
  have B__law_schema := F__law_schema.binds (ps := ["script", "first"]) fun _ _ _ _ _ _ us hl => match us, hl with | [_, _], _ => rfl
  obtain ⟨fd__law_is_bad, F__law_is_bad⟩ := cc.def_ 15 (d := ⟨("_law_is_bad", none), "_law_is_bad", "_law_is_bad", defArgs s__law_is_bad, defBody s__law_is_bad, defScope s__law_is_bad, [], []⟩) rfl
  have F__law_is_bad : L2.Fun K "_law_is_bad" "_law_is_bad" s__law_is_bad (He.ga K "_law_is_bad") fd__law_is_bad := funOf F__law_is_bad
  have B__law_is_bad := F__law_is_bad.binds (ps := ["fields"]) fun _ _ _ _ _ _ us hl => match us, hl with | [_], _ => rfl
  obtain ⟨fd_law, F_law⟩ := cc.def_ 16 (d := ⟨("law", none), "law", "law", defArgs s_law, defBody s_law, defScope s_law, [], []⟩) rfl
  have F_law : L2.Fun K "law" "law" s_law (He.ga K "law") fd_law := funOf F_law
  have e := hfa.symm.trans (He.glo_ok KX G (cc.fact 36 (f := .glo "law") rfl))
  cases e
  have t : Tc ⟨K, mg⟩ (He.ga K "Schema") (He.ga K "BadSchema") (He.ga K "KinError") := {
    a_Schema_fields := He.noat_ok (cc.fact 0 (f := .noat "Schema" "fields") rfl),
    a_Schema_leaves := He.noat_ok (cc.fact 1 (f := .noat "Schema" "leaves") rfl),
    a_Schema_ways := He.noat_ok (cc.fact 2 (f := .noat "Schema" "ways") rfl),
    b_abs := He.free_ok KX G (cc.fact 3 (f := .free "abs") rfl),
    b_all := He.free_ok KX G (cc.fact 4 (f := .free "all") rfl),
    b_int := He.free_ok KX G (cc.fact 5 (f := .free "int") rfl),
    b_isinstance := He.free_ok KX G (cc.fact 6 (f := .free "isinstance") rfl),
    b_len := He.free_ok KX G (cc.fact 7 (f := .free "len") rfl),
    b_list := He.free_ok KX G (cc.fact 8 (f := .free "list") rfl),
    b_range := He.free_ok KX G (cc.fact 9 (f := .free "range") rfl),
    b_str := He.free_ok KX G (cc.fact 10 (f := .free "str") rfl),
    b_sum := He.free_ok KX G (cc.fact 11 (f := .free "sum") rfl),
    b_tuple := He.free_ok KX G (cc.fact 12 (f := .free "tuple") rfl),
    b_type := He.free_ok KX G (cc.fact 13 (f := .free "type") rfl),
    c_KINDS := con_ok (T := ⟨K, mg⟩) KX G (List.all_eq_true.mp cx (.con "KINDS" c_KINDS) (List.mem_of_getElem? (i := 0) rfl)),
    c_LETTERS := con_ok (T := ⟨K, mg⟩) KX G (List.all_eq_true.mp cx (.con "LETTERS" c_LETTERS) (List.mem_of_getElem? (i := 1) rfl)),
    c_LONGEST_NAME := con_ok (T := ⟨K, mg⟩) KX G (List.all_eq_true.mp cx (.con "LONGEST_NAME" c_LONGEST_NAME) (List.mem_of_getElem? (i := 2) rfl)),
    c_MOST_DEEP := con_ok (T := ⟨K, mg⟩) KX G (List.all_eq_true.mp cx (.con "MOST_DEEP" c_MOST_DEEP) (List.mem_of_getElem? (i := 3) rfl)),
    c_MOST_LEAVES := con_ok (T := ⟨K, mg⟩) KX G (List.all_eq_true.mp cx (.con "MOST_LEAVES" c_MOST_LEAVES) (List.mem_of_getElem? (i := 4) rfl)),
    c_NAME_SIGNS := con_ok (T := ⟨K, mg⟩) KX G (List.all_eq_true.mp cx (.con "NAME_SIGNS" c_NAME_SIGNS) (List.mem_of_getElem? (i := 5) rfl)),
    c_RULES := con_ok (T := ⟨K, mg⟩) KX G (List.all_eq_true.mp cx (.con "RULES" c_RULES) (List.mem_of_getElem? (i := 6) rfl)),
    c_WHOLE_RECORD := con_ok (T := ⟨K, mg⟩) KX G (List.all_eq_true.mp cx (.con "WHOLE_RECORD" c_WHOLE_RECORD) (List.mem_of_getElem? (i := 7) rfl)),
    e_BadSchema := exok_ok (T := ⟨K, mg⟩) KX G (cc.fact 14 (f := .glo "BadSchema") rfl) (cc.fact 15 (f := .exc "BadSchema") rfl),
    d__law_cell := ⟨⟨_, _, F__law_cell, He.glo_ok KX G (cc.fact 16 (f := .glo "_law_cell") rfl), B__law_cell⟩⟩,
    d__law_draws := ⟨⟨_, _, F__law_draws, He.glo_ok KX G (cc.fact 17 (f := .glo "_law_draws") rfl), B__law_draws⟩⟩,
    d__law_fields := ⟨⟨_, _, F__law_fields, He.glo_ok KX G (cc.fact 18 (f := .glo "_law_fields") rfl), B__law_fields⟩⟩,
    d__law_is_bad := ⟨⟨_, _, F__law_is_bad, He.glo_ok KX G (cc.fact 19 (f := .glo "_law_is_bad") rfl), B__law_is_bad⟩⟩,
    d__law_leaf_count := ⟨⟨_, _, F__law_leaf_count, He.glo_ok KX G (cc.fact 20 (f := .glo "_law_leaf_count") rfl), B__law_leaf_count⟩⟩,
    d__law_next := ⟨⟨_, _, F__law_next, He.glo_ok KX G (cc.fact 21 (f := .glo "_law_next") rfl), B__law_next⟩⟩,
    d__law_schema := ⟨⟨_, _, F__law_schema, He.glo_ok KX G (cc.fact 22 (f := .glo "_law_schema") rfl), B__law_schema⟩⟩,
    d__law_stream := ⟨⟨_, _, F__law_stream, He.glo_ok KX G (cc.fact 23 (f := .glo "_law_stream") rfl), B__law_stream⟩⟩,
    d_check_field := ⟨⟨_, _, F_check_field, He.glo_ok KX G (cc.fact 24 (f := .glo "check_field") rfl), B_check_field⟩⟩,
    d_check_fields := ⟨⟨_, _, F_check_fields, He.glo_ok KX G (cc.fact 25 (f := .glo "check_fields") rfl), B_check_fields⟩⟩,
    d_is_name := ⟨⟨_, _, F_is_name, He.glo_ok KX G (cc.fact 26 (f := .glo "is_name") rfl), B_is_name⟩⟩,
    d_leaf_of := ⟨⟨_, _, F_leaf_of, He.glo_ok KX G (cc.fact 27 (f := .glo "leaf_of") rfl), B_leaf_of⟩⟩,
    d_levels_below := ⟨⟨_, _, F_levels_below, He.glo_ok KX G (cc.fact 28 (f := .glo "levels_below") rfl), B_levels_below⟩⟩,
    d_step_below := ⟨⟨_, _, F_step_below, He.glo_ok KX G (cc.fact 29 (f := .glo "step_below") rfl), B_step_below⟩⟩,
    d_ways_within := ⟨⟨_, _, F_ways_within, He.glo_ok KX G (cc.fact 30 (f := .glo "ways_within") rfl), B_ways_within⟩⟩,
    g_KinError := He.glo_ok KX G (cc.fact 31 (f := .glo "KinError") rfl),
    k_Schema := clg_ok (T := ⟨K, mg⟩) KX G (cc.fact 32 (f := .glo "Schema") rfl) (cc.fact 33 (f := .cls "Schema") rfl),
    m_Schema := ⟨_, _, F_Schema___init__, He.glo_ok KX G (cc.fact 32 (f := .glo "Schema") rfl), He.mkr_ok (cc.fact 34 (f := .mkr "Schema") rfl), B_Schema___init__⟩,
    s_BadSchema_KinError := kit_ok (T := ⟨K, mg⟩) (List.all_eq_true.mp cx (.kit "BadSchema" "KinError" true) (List.mem_of_getElem? (i := 8) rfl)),
    x_BadSchema := xc_ok (T := ⟨K, mg⟩) (List.all_eq_true.mp cx (.xc "BadSchema") (List.mem_of_getElem? (i := 9) rfl)),
    y_BadSchema := exat_ok (T := ⟨K, mg⟩) KX G (cc.fact 14 (f := .glo "BadSchema") rfl) (cc.fact 35 (f := .exm "BadSchema" "BadSchema" true) rfl) }
  exact ⟨fd_law, binds_one F_law (fun _ _ _ _ _ _ _ => rfl), fun base => G_law (T := ⟨K, mg⟩) t F_law⟩
end K01
set_option Elab.async false
set_option linter.all false
set_option maxRecDepth 100000
set_option maxHeartbeats 4000000
namespace FR
open PySem PySem.Spec L2
theorem atN {α : Type} {xs : List α} {i : Int} (h0 : 0 ≤ i) : atI xs i = xs[i.toNat]? := by
  unfold atI ixN
  rw [if_pos h0]
  by_cases h : i < xs.length
  · rw [if_pos h]; rfl
  · rw [if_neg h, Option.bind_none]
    symm
    rw [List.getElem?_eq_none_iff]
    omega
theorem at0 {α : Type} {x : α} {xs : List α} : atI (x :: xs) 0 = some x := by rw [atN (by decide)]; rfl
theorem at1 {α : Type} {x y : α} {xs : List α} : atI (x :: y :: xs) 1 = some y := by rw [atN (by decide)]; rfl
theorem at2 {α : Type} {x y z : α} {xs : List α} : atI (x :: y :: z :: xs) 2 = some z := by rw [atN (by decide)]; rfl
theorem atLast {α : Type} {x : α} {xs : List α} : atI (xs ++ [x]) (-1) = some x := by
  unfold atI ixN
  rw [if_neg (by decide), if_pos (by simp; omega)]
  have e : ((-1 : Int) + ((xs ++ [x]).length : Int)).toNat = xs.length := by simp; omega
  rw [Option.bind_some, e]
  simp
theorem ix0 {n : Nat} : ixN (n + 1) 0 = some 0 := by simp [ixN]
theorem getL {α : Type} {m : List α} {x : α} : (m ++ [x])[m.length]? = some x := by simp
theorem setL {α : Type} {m : List α} {x y : α} : (m ++ [x]).set m.length y = m ++ [y] := by simp
theorem rangeD_get {n : Int} {i : Nat} {d : D} (h : (rangeD 0 n)[i]? = some d) : d = .int (i : Int) ∧ (i : Int) < n := by
  unfold rangeD at h
  rw [List.getElem?_map] at h
  by_cases hl : i < (n - 0).toNat
  · rw [List.getElem?_range hl] at h
    simp at h
    exact ⟨h.symm, by omega⟩
  · rw [List.getElem?_eq_none (by simpa using hl)] at h
    cases h
theorem rangeD_len {n : Int} : (rangeD 0 n).length = n.toNat := by simp [rangeD]
theorem forL_inv {p : Pt} {body : FS} (I : Nat → Lc → List O → Prop) : ∀ (ds : List D) (k : Nat) (r : Lc) (m : List O), I k r m →
    (∀ (i : Nat) (d : D) (r : Lc) (m : List O), ds[i]? = some d → I (k + i) r m → ∃ r1 r2 m2, asg p d r = some r1 ∧ body r1 m = .ok (.nx r2) m2 ∧ I (k + i + 1) r2 m2) →
    ∃ r' m', forL p body ds r m = .ok (.nx r') m' ∧ I (k + ds.length) r' m'
  | [], k, r, m, h0, hs => ⟨r, m, rfl, h0⟩
  | d :: ds, k, r, m, h0, hs => by
    obtain ⟨r1, r2, m2, e1, e2, h1⟩ := hs 0 d r m rfl h0
    obtain ⟨r', m', e3, h3⟩ := forL_inv I ds (k + 1) r2 m2 h1 fun i d r m hd hI => by
      have := hs (i + 1) d r m (by simpa using hd) (by rw [show k + (i + 1) = k + 1 + i by omega]; exact hI)
      rw [show k + (i + 1) + 1 = k + 1 + i + 1 by omega] at this
      exact this
    refine ⟨r', m', ?_, by rw [List.length_cons, show k + (ds.length + 1) = k + 1 + ds.length by omega]; exact h3⟩
    simp only [forL, e1, e2, e3]
/-- what stood in the store stands there still -/
def Fr (m m' : List O) : Prop := ∀ (i : Nat) (o : O), m[i]? = some o → m'[i]? = some o
theorem Fr.rfl' {m : List O} : Fr m m := fun _ _ h => h
theorem Fr.trans {a b c : List O} (h : Fr a b) (g : Fr b c) : Fr a c := fun i o e => g i o (h i o e)
theorem Fr.app {m x : List O} : Fr m (m ++ x) := fun i o e => by
  have := (List.getElem?_eq_some_iff.mp e).1
  rw [List.getElem?_append_left this]; exact e
theorem Fr.len {m m' : List O} (h : Fr m m') : m.length ≤ m'.length := by
  by_cases e : m.length = 0
  · omega
  · have : m[m.length - 1]? = some (m[m.length - 1]'(by omega)) := List.getElem?_eq_getElem _
    have := (List.getElem?_eq_some_iff.mp (h _ _ this)).1
    omega
theorem Fr.set {m m' : List O} {n : Nat} {o : O} (h : Fr m m') (hn : m.length ≤ n) : Fr m (m'.set n o) := fun i x e => by
  have := (List.getElem?_eq_some_iff.mp e).1
  rw [List.getElem?_set_ne (by omega)]
  exact h i x e
def Digs (ds : List D) : Prop := ∀ d ∈ ds, ∃ i : Int, d = .int i ∧ 0 ≤ i
theorem Digs.app {a b : List D} (h : Digs a) (g : Digs b) : Digs (a ++ b) := fun d hd => by
  rcases List.mem_append.mp hd with z | z
  · exact h d z
  · exact g d z
theorem Digs.one {i : Int} (h : 0 ≤ i) : Digs [.int i] := fun d hd => by
  rcases List.mem_singleton.mp hd with rfl
  exact ⟨i, rfl, h⟩
end FR
namespace K01
open PySem PySem.Spec L2 FR
theorem cell_ok {m : List O} {ns : List Int} {k : Int} (h0 : 0 ≤ k) : ∃ c, o__law_cell [.scr ns, .int k] m = .ok (.int c) m := by
  by_cases h : k < ns.length
  · obtain ⟨c, hc⟩ : ∃ c, atI ns k = some c := by
      rw [atN h0]
      exact ⟨_, List.getElem?_eq_getElem (by omega)⟩
    exact ⟨c, by simp [o__law_cell, runF, b__law_cell, sSeq, sIf, sRet, sNx, tVal, Rs.sq, Rs.bind, fBin, fVar, fC, gIx, gLt, gI, fCB, aCons, aNil, bInt, bLen, h, hc]⟩
  · exact ⟨0, by simp [o__law_cell, runF, b__law_cell, sSeq, sIf, sRet, sNx, tVal, Rs.sq, Rs.bind, fBin, fVar, fC, gIx, gLt, gI, fCB, aCons, aNil, bInt, bLen, h]⟩
theorem seq_nx {a b : FS} {r r' : Lc} {m m' : List O} (h : a r m = .ok (.nx r') m') : sSeq a b r m = b r' m' := by unfold sSeq; rw [h]
theorem if_t {t : FT} {a b : FS} {r : Lc} {m m' : List O} (h : t r m = .ok true m') : sIf t a b r m = a r m' := by unfold sIf; rw [h]; rfl
theorem if_f {t : FT} {a b : FS} {r : Lc} {m m' : List O} (h : t r m = .ok false m') : sIf t a b r m = b r m' := by unfold sIf; rw [h]; rfl
theorem A1 (c n i : Int) (x g q : Option D) (m : List O) : (sSet 6 (fBin gMod (fBin gAdd (fBin gAdd (fBin gMul (fCB bInt (aCons (fVar 2) aNil)) (fC (.int 48271))) (fBin gMul (fVar 5) (fC (.int 69621)))) (fC (.int 11))) (fC (.int 2147483647)))) [some (.int c), some (.int 12), some (.int n), g, q, some (.int i), x] m =
  .ok (.nx [some (.int c), some (.int 12), some (.int n), g, q, some (.int i), some (.int ((n * 48271 + (i : Int) * 69621 + 11) % 2147483647))]) m := by
  simp [sSet, Rs.sq, Rs.bind, fBin, fVar, fC, fCB, bInt, gAdd, gMul, gMod, gI, aCons, aNil]
theorem A2 (c n i y : Int) (g q : Option D) (m : List O) (h1 : -18446744073709551616 < y) (h2 : y < 18446744073709551616) : (sSet 6 (fBin gMod (fBin gAdd (fBin gAdd (fBin gMul (fCB bInt (aCons (fVar 6) aNil)) (fCB bInt (aCons (fVar 6) aNil))) (fBin gMul (fVar 5) (fC (.int 7919)))) (fC (.int 5))) (fC (.int 998244353)))) [some (.int c), some (.int 12), some (.int n), g, q, some (.int i), some (.int y)] m =
  .ok (.nx [some (.int c), some (.int 12), some (.int n), g, q, some (.int i), some (.int ((y * y + (i : Int) * 7919 + 5) % 998244353))]) m := by
  simp [sSet, Rs.sq, Rs.bind, fBin, fVar, fC, fCB, bInt, gAdd, gMul, gMod, gI, aCons, aNil, h1, h2]
theorem draws_ok {m : List O} {c : Int} : ∃ ds, o__law_draws [.int c, .int 12] m = .ok (.lst ds) (m ++ [.dead]) ∧ Digs ds ∧ 0 < ds.length ∧ ds.length ≤ 60 := by
  obtain ⟨n0, hn0, hn⟩ : ∃ n0 : Int, (if c < 0 then -c else c) = n0 ∧ 0 ≤ n0 := ⟨_, rfl, by split <;> omega⟩
  obtain ⟨g, hg⟩ : ∃ g, decide (1000000000000000000 ≤ n0) = g := ⟨_, rfl⟩
  have key := forL_inv (p := .nm 5) (body := (sIf (tAnd_ (tVal (fBin gLt (fVar 5) (fVar 1))) (tTru (fVar 3))) (sSeq (sExp (fApp (fVar 4) (aCons (fBin gMod (fVar 2) (fC (.int 60))) aNil)))
    (sSet 2 (fBin gFdiv (fVar 2) (fC (.int 60))))) (sIf (tVal (fBin gLt (fVar 5) (fVar 1))) (sSeq (sSet 6 (fBin gMod (fBin gAdd (fBin gAdd (fBin gMul (fCB bInt (aCons (fVar 2) aNil)) (fC (.int 48271))) (fBin gMul (fVar 5) (fC (.int 69621)))) (fC (.int 11))) (fC (.int 2147483647))))
    (sSeq (sSet 6 (fBin gMod (fBin gAdd (fBin gAdd (fBin gMul (fCB bInt (aCons (fVar 6) aNil)) (fCB bInt (aCons (fVar 6) aNil))) (fBin gMul (fVar 5) (fC (.int 7919)))) (fC (.int 5))) (fC (.int 998244353))))
    (sExp (fApp (fVar 4) (aCons (fBin gMod (fCB bInt (aCons (fVar 6) aNil)) (fC (.int 60))) aNil))))) sNx)))
    (fun i r mm => ∃ (ds : List D) (n : Int) (k x : Option D), r = [some (.int c), some (.int 12), some (.int n), some (.bl g), some (.loc m.length), k, x] ∧ 0 ≤ n ∧ mm = m ++ [.lst ds] ∧ Digs ds ∧ ds.length ≤ i ∧ (0 < i → 0 < ds.length))
    (rangeD 0 60) 0 [some (.int c), some (.int 12), some (.int n0), some (.bl g), some (.loc m.length), none, none] (m ++ [.lst []]) ⟨[], n0, none, none, rfl, hn, rfl, (fun d hd => by cases hd), Nat.le_refl _, fun h => absurd h (by decide)⟩ ?_
  · obtain ⟨r', m', e, ds, n, k, x, rfl, _, rfl, hd, hl, h0⟩ := key
    rw [rangeD_len] at hl h0
    refine ⟨ds, ?_, hd, h0 (by decide), by simpa using hl⟩
    simp [o__law_draws, runF, b__law_draws, sSeq, sSet, sFor, sRet, Rs.sq, Rs.bind, fBin, fVar, fC, fUn, fFrz, fNew, iR1, gGe, gI, gPow, fCB, aCons, aNil, bInt, bAbs, gFrz, hn0, hg, e]
  · rintro i d r mm hd ⟨ds, n, k, x, rfl, hn1, rfl, hds, hl, h0⟩
    obtain ⟨rfl, hi⟩ := rangeD_get hd
    have hlt : ds.length < 16777216 := by omega
    refine ⟨[some (.int c), some (.int 12), some (.int n), some (.bl g), some (.loc m.length), some (.int i), x], ?_⟩
    simp only [asg, List.set_cons_succ, List.set_cons_zero, true_and]
    by_cases h12 : (i : Int) < 12
    · cases g with
      | true =>
        refine ⟨[some (.int c), some (.int 12), some (.int (n / 60)), some (.bl true), some (.loc m.length), some (.int i), x], m ++ [.lst (ds ++ [.int (n % 60)])], ?_, ?_⟩
        · simp [sSeq, sSet, sExp, sIf, fApp, derefL, tAnd_, tVal, tTru, truD, Rs.sq, Rs.bind, fBin, fVar, fC, gFdiv, gMod, gLt, gI, aCons, aNil, h12, getL, hlt]
        · exact ⟨_, _, _, _, rfl, by omega, rfl, hds.app (.one (by omega)), by simp; omega, fun _ => by simp⟩
      | false =>
        obtain ⟨y, hy, hy1, hy2⟩ : ∃ y, (n * 48271 + (i : Int) * 69621 + 11) % 2147483647 = y ∧ -18446744073709551616 < y ∧ y < 18446744073709551616 := ⟨_, rfl, by omega, by omega⟩
        obtain ⟨z, hz, hz0⟩ : ∃ z, (y * y + (i : Int) * 7919 + 5) % 998244353 = z ∧ 0 ≤ z := ⟨_, rfl, by omega⟩
        refine ⟨[some (.int c), some (.int 12), some (.int n), some (.bl false), some (.loc m.length), some (.int i), some (.int z)], m ++ [.lst (ds ++ [.int (z % 60)])], ?_, ?_⟩
        · refine (if_f (m' := m ++ [.lst ds]) ?_).trans ((if_t (m' := m ++ [.lst ds]) ?_).trans ((seq_nx (A1 _ _ _ _ _ _ _)).trans ((seq_nx (A2 _ _ _ _ _ _ _ (by rw [hy]; exact hy1) (by rw [hy]; exact hy2))).trans ?_)))
          · simp [tAnd_, tVal, tTru, truD, Rs.bind, fBin, fVar, fC, gLt, gI, h12]
          · simp [tVal, Rs.bind, fBin, fVar, fC, gLt, gI, h12]
          · rw [hy, hz]
            generalize hq : m.length = q
            have e1 : (m ++ [O.lst ds])[q]? = some (O.lst ds) := by rw [← hq]; exact getL
            have e2 : ∀ o, (m ++ [O.lst ds]).set q o = m ++ [o] := by rw [← hq]; exact fun o => setL
            simp [sExp, Rs.sq, Rs.bind, fApp, derefL, fBin, fVar, fC, fCB, bInt, gMod, gI, aCons, aNil, e1, e2, hlt]
        · exact ⟨_, _, _, _, rfl, hn1, rfl, hds.app (.one (by omega)), by simp; omega, fun _ => by simp⟩
    · refine ⟨[some (.int c), some (.int 12), some (.int n), some (.bl g), some (.loc m.length), some (.int i), x], m ++ [.lst ds], ?_, ?_⟩
      · simp [sSeq, sSet, sExp, sIf, sNx, fApp, derefL, tAnd_, tVal, tTru, truD, Rs.sq, Rs.bind, fBin, fVar, fC, gFdiv, gMod, gLt, gI, aCons, aNil, h12, getL]
      · exact ⟨_, _, _, _, rfl, hn1, rfl, hds, by omega, fun _ => h0 (by omega)⟩
end K01
set_option Elab.async false
set_option linter.all false
set_option maxRecDepth 100000
set_option maxHeartbeats 4000000
namespace FR
open PySem PySem.Spec L2
theorem lt_of_get {m : List O} {q : Nat} {o : O} (h : m[q]? = some o) : q < m.length := (List.getElem?_eq_some_iff.mp h).1
theorem get_app {m x : List O} {q : Nat} {o : O} (h : m[q]? = some o) : (m ++ x)[q]? = some o := by rw [List.getElem?_append_left (lt_of_get h)]; exact h
theorem get_set {m : List O} {q : Nat} {o u : O} (h : m[q]? = some o) : (m.set q u)[q]? = some u := by rw [List.getElem?_set]; simp [lt_of_get h]
theorem get_set_ne {m : List O} {q p : Nat} {u : O} (h : q ≠ p) : (m.set q u)[p]? = m[p]? := List.getElem?_set_ne h
end FR
namespace K01
open PySem PySem.Spec L2 FR
theorem stream_ok {m : List O} {ns : List Int} {first count : Int} (h0 : 0 ≤ first) (hc : 0 < count) (hc2 : count ≤ 1000) : ∃ ds p m', o__law_stream [.scr ns, .int first, .int count] m = .ok (.lst [.lst ds, .loc p]) m' ∧ Fr m m' ∧ m.length ≤ p ∧ m'[p]? = some (.lst [.int 0]) ∧ Digs ds ∧ 0 < ds.length := by
  have key := forL_inv (p := .nm 4) (body := (sExp (fExt (fVar 3) (aCons (fCB o__law_draws (aCons (fCB o__law_cell (aCons (fVar 0) (aCons (fBin gAdd (fVar 1) (fVar 4)) aNil))) (aCons (fC (.int 12)) aNil))) aNil))))
    (fun i r mm => ∃ (ds : List D) (k : Option D), r = [some (.scr ns), some (.int first), some (.int count), some (.loc m.length), k] ∧ mm[m.length]? = some (.lst ds) ∧ Fr m mm ∧ Digs ds ∧ ds.length ≤ 60 * i ∧ (0 < i → 0 < ds.length))
    (rangeD 0 count) 0 [some (.scr ns), some (.int first), some (.int count), some (.loc m.length), none] (m ++ [.lst []]) ⟨[], none, rfl, getL, Fr.app, (fun d hd => by cases hd), Nat.le_refl _, fun h => absurd h (by decide)⟩ ?_
  · obtain ⟨r', m', e, ds, k, rfl, hq, hf, hd, hl, hz⟩ := key
    rw [rangeD_len] at hl hz
    generalize hqq : m.length = q at hq e
    refine ⟨ds, (m'.set q .dead).length, m'.set q .dead ++ [.lst [.int 0]], ?_, (hf.set (by omega)).trans Fr.app, ?_, getL, hd, hz (by omega)⟩
    · have hcc : (-(2 ^ 62) : Int) ≤ count ∧ count < 2 ^ 62 := by omega
      have e0 : (iR1 (aCons (fVar 2) aNil)) [some (.scr ns), some (.int first), some (.int count), some (.loc q), none] (m ++ [.lst []]) = .ok (rangeD 0 count) (m ++ [.lst []]) := by
        simp [iR1, aCons, aNil, fVar, Rs.bind, hcc]
        omega
      have e1 : (sSet 3 (fNew aNil)) [some (.scr ns), some (.int first), some (.int count), none, none] m = .ok (.nx [some (.scr ns), some (.int first), some (.int count), some (.loc q), none]) (m ++ [.lst []]) := by
        rw [← hqq]; simp [sSet, fNew, aNil, Rs.sq, Rs.bind]
      have e2 : (sFor (.nm 4) (iR1 (aCons (fVar 2) aNil)) (sExp (fExt (fVar 3) (aCons (fCB o__law_draws (aCons (fCB o__law_cell (aCons (fVar 0) (aCons (fBin gAdd (fVar 1) (fVar 4)) aNil))) (aCons (fC (.int 12)) aNil))) aNil)))) [some (.scr ns), some (.int first), some (.int count), some (.loc q), none] (m ++ [.lst []]) = .ok (.nx [some (.scr ns), some (.int first), some (.int count), some (.loc q), k]) m' := by
        simp only [sFor, Rs.sq, e0, e]
      have e3 : b__law_stream [some (.scr ns), some (.int first), some (.int count), none, none] m = .ok (.rt (.lst [.lst ds, .loc (m'.set q .dead).length])) (m'.set q .dead ++ [.lst [.int 0]]) := by
        refine (seq_nx e1).trans ((seq_nx e2).trans ?_)
        simp [sRet, Rs.sq, Rs.bind, fLst, aCons, aNil, fFrz, fUn, gFrz, fVar, fNew, fC, hq]
      show runF 5 b__law_stream [.scr ns, .int first, .int count] m = _
      unfold runF
      rw [show ([D.scr ns, .int first, .int count].map some ++ List.replicate (5 - [D.scr ns, .int first, .int count].length) none) = [some (.scr ns), some (.int first), some (.int count), none, none] from rfl, e3]
    · have := hf.len
      rw [List.length_set]; omega
  · rintro i d r mm hd ⟨ds, k, rfl, hq, hf, hds, hl, hz⟩
    obtain ⟨rfl, hi⟩ := rangeD_get hd
    obtain ⟨c, hcell⟩ := cell_ok (m := mm) (ns := ns) (k := first + (i : Int)) (by omega)
    obtain ⟨ds', hdr, hd', hp', hl'⟩ := draws_ok (m := mm) (c := c)
    refine ⟨[some (.scr ns), some (.int first), some (.int count), some (.loc m.length), some (.int i)], [some (.scr ns), some (.int first), some (.int count), some (.loc m.length), some (.int i)], (mm ++ [O.dead]).set m.length (.lst (ds ++ ds')), ?_, ?_, ?_⟩
    · simp [asg]
    · generalize m.length = q at hq
      have g1 : (mm ++ [O.dead])[q]? = some (.lst ds) := get_app hq
      have hs : ds.length + ds'.length ≤ 16777216 := by omega
      simp [sExp, fExt, Rs.sq, Rs.bind, fVar, fCB, aCons, aNil, fC, fBin, gAdd, derefL, hq, hcell, hdr, g1, hs]
    · exact ⟨_, _, rfl, get_set (get_app hq), (hf.trans Fr.app).set (Nat.le_refl _), hds.app hd', by simp; omega, fun _ => by simp; omega⟩
end K01
set_option Elab.async false
set_option linter.all false
set_option maxRecDepth 100000
set_option maxHeartbeats 4000000
namespace FR
open PySem PySem.Spec L2
/-- .. but at p -/
def FrB (p : Nat) (m m' : List O) : Prop := ∀ (i : Nat) (o : O), i ≠ p → m[i]? = some o → m'[i]? = some o
theorem FrB.rfl' {p : Nat} {m : List O} : FrB p m m := fun _ _ _ h => h
theorem FrB.trans {p : Nat} {a b c : List O} (h : FrB p a b) (g : FrB p b c) : FrB p a c := fun i o n e => g i o n (h i o n e)
theorem Fr.b {p : Nat} {a b : List O} (h : Fr a b) : FrB p a b := fun i o n e => h i o e
theorem FrB.put {p : Nat} {m : List O} {u : O} : FrB p m (m.set p u) := fun i o n e => by rw [get_set_ne (Ne.symm n)]; exact e
def nameD : D → Str
  | .tup (.str n :: _) => n
  | _ => Str.empty
def kindD : D → D
  | .tup [_, _, k] => k
  | d => d
def lvK : Nat → D → Nat
  | _, .str _ => 1
  | n + 1, .tup fs => (fs.map fun f => lvK n (kindD f)).sum
  | _, _ => 0
end FR
namespace K01
open PySem PySem.Spec L2 FR
def RULES3 : List Str := ["required", "optional", "repeated"]
def KINDS3 : List Str := ["int", "text", "flag"]
def nmOk (n : Str) : Prop := n.length ≤ 10 ∧ ∀ m, o_is_name [.str n] m = .ok (.bl true) m
def FOk (R : D → Prop) (d : D) : Prop := ∃ nm rl kd, d = .tup [.str nm, .str rl, kd] ∧ nmOk nm ∧ rl ∈ RULES3 ∧ R kd
def FsOk (R : D → Prop) (fs : List D) : Prop := fs ≠ [] ∧ fs.length ≤ 4000 ∧ (∀ d ∈ fs, FOk R d) ∧ (fs.map nameD).Nodup
def KOk : Nat → D → Prop
  | _, .str k => k ∈ KINDS3
  | n + 1, .tup fs => FsOk (KOk n) fs
  | _, _ => False
theorem next_any {m : List O} {ds : List D} {p : Nat} {pos many : Int} (h : m[p]? = some (.lst [.int pos])) (hp : 0 ≤ pos) (hl : 0 < ds.length) (hd : Digs ds) (hm : 0 < many) :
    ∃ v : Int, 0 ≤ v ∧ v < many ∧ o__law_next [.lst [.lst ds, .loc p], .int many] m = .ok (.int v) (m.set p (.lst [.int (pos + 1)])) := by
  have hl' : (0 : Int) < ds.length := by omega
  have h0 : 0 ≤ pos % (ds.length : Int) := Int.emod_nonneg _ (by omega)
  have h1 : pos % (ds.length : Int) < ds.length := Int.emod_lt_of_pos _ hl'
  obtain ⟨d, e⟩ : ∃ d, ds[(pos % (ds.length : Int)).toNat]? = some d := ⟨_, List.getElem?_eq_getElem (by omega)⟩
  obtain ⟨i, rfl, hi⟩ := hd d (List.mem_of_getElem? e)
  refine ⟨i % many, Int.emod_nonneg _ (by omega), Int.emod_lt_of_pos _ hm, ?_⟩
  have ha : atI ds (pos % (ds.length : Int)) = some (.int i) := by rw [atN h0]; exact e
  have ha0 : ∀ {α : Type} (x : α) xs, atI (x :: xs) 0 = some x := fun _ _ => at0
  simp [o__law_next, runF, b__law_next, sSeq, sSet, sPut, sRet, Rs.sq, Rs.bind, fBin, fVar, fC, gIx, gMod, gI, gAdd, fCB, aCons, aNil, bInt, bLen, derefS, derefL, gPut, at0, at1, ix0, h, hm, hl, hl', ha]
def NAMES6 : List D := [.str "id", .str "name", .str "a_1", .str "tags", .str "x", .str "list2"]
def N3 : List Str := ["id", "name", "a_1"]
theorem nm_id : nmOk "id" := ⟨by decide, fun _ => rfl⟩
theorem nm_name : nmOk "name" := ⟨by decide, fun _ => rfl⟩
theorem nm_a1 : nmOk "a_1" := ⟨by decide, fun _ => rfl⟩
theorem lv_str {n : Nat} {k : Str} : lvK n (.str k) = 1 := by cases n <;> rfl
theorem kok_str {n : Nat} {k : Str} (h : k ∈ KINDS3) : KOk n (.str k) := by cases n <;> exact h
/-- a drawn tuple of fields -/
structure Drawn (j : Nat) (fs : List D) : Prop where
  ok : FsOk (KOk j) fs
  len : fs.length ≤ 3
  lv : ∀ d ∈ fs, lvK j (kindD d) ≤ 3 ^ j
theorem sum_le {α : Type} (f : α → Nat) (b : Nat) : ∀ l : List α, (∀ x ∈ l, f x ≤ b) → (l.map f).sum ≤ l.length * b
  | [], _ => by simp
  | x :: xs, h => by
    have := sum_le f b xs fun y hy => h y (List.mem_cons_of_mem _ hy)
    have h0 := h x List.mem_cons_self
    rw [List.map_cons, List.sum_cons, List.length_cons, Nat.succ_mul]
    omega
def LoopF (rec : List D → List O → Rs D) : FS := (sSeq (sSet 6 (fBin gIx (fLst (aCons (fC (.str "required")) (aCons (fC (.str "optional")) (aCons (fC (.str "repeated")) aNil)))) (fCB o__law_next (aCons (fVar 0) (aCons (fC (.int 3)) aNil)))))
    (sSeq (sSet 7 (fBin gIx (fLst (aCons (fC (.str "int")) (aCons (fC (.str "text")) (aCons (fC (.str "flag")) (aCons (fC (.str "int")) aNil))))) (fCB o__law_next (aCons (fVar 0) (aCons (fC (.int 4)) aNil)))))
    (sSeq (sIf (tAnd_ (tVal (fBin gLt (fVar 1) (fC (.int 3)))) (tVal (fBin gEq (fCB o__law_next (aCons (fVar 0) (aCons (fC (.int 3)) aNil))) (fC (.int 0))))) (sSet 7 (fCB rec (aCons (fVar 0) (aCons (fBin gAdd (fVar 1) (fC (.int 1))) (aCons (fC (.int 1)) aNil))))) sNx)
    (sExp (fApp (fVar 4) (aCons (fTup (aCons (fBin gIx (fVar 3) (fVar 5)) (aCons (fVar 6) (aCons (fVar 7) aNil)))) aNil))))))
theorem fields_body (rec : List D → List O → Rs D) : b__law_fields rec = (sSeq (sSet 3 (fLst (aCons (fC (.str "id")) (aCons (fC (.str "name")) (aCons (fC (.str "a_1")) (aCons (fC (.str "tags")) (aCons (fC (.str "x")) (aCons (fC (.str "list2")) aNil))))))))
    (sSeq (sSet 4 (fNew aNil))
    (sSeq (sFor (.nm 5) (iR1 (aCons (fBin gAdd (fVar 2) (fCB o__law_next (aCons (fVar 0) (aCons (fC (.int 3)) aNil)))) aNil)) (LoopF rec))
    (sRet (fCB bTuple (aCons (fVar 4) aNil)))))) := rfl
theorem eq_int {a b : Int} {m : List O} : gEq (.int a) (.int b) m = .ok (.bl (decide (a = b))) m := by
  have e : (a == b) = decide (a = b) := by by_cases h : a = b <;> simp [h]
  have s1 : ∀ z : Int, SeqAt.shaped (.int z) = true := fun _ => rfl
  simp only [gEq, gEqW, toPy, s1, Bool.and_self, if_true, PyData.eqv, e]
  rfl
theorem next_x {m : List O} {ds : List D} {p : Nat} {pos many : Int} (h : m[p]? = some (.lst [.int pos])) (hp : 0 ≤ pos) (hl : 0 < ds.length) (hd : Digs ds) (hm : 0 < many) :
    ∃ (v : Int) (m' : List O), 0 ≤ v ∧ v < many ∧ o__law_next [.lst [.lst ds, .loc p], .int many] m = .ok (.int v) m' ∧ m'[p]? = some (.lst [.int (pos + 1)]) ∧ FrB p m m' := by
  obtain ⟨v, a, b, e⟩ := next_any h hp hl hd hm
  exact ⟨v, _, a, b, e, get_set h, FrB.put⟩
theorem get_rule {v : Int} (h0 : 0 ≤ v) (h3 : v < 3) : ∃ rl ∈ RULES3, atI [D.str "required", .str "optional", .str "repeated"] v = some (.str rl) := by
  rw [atN h0]
  have : v = 0 ∨ v = 1 ∨ v = 2 := by omega
  rcases this with rfl | rfl | rfl
  · exact ⟨"required", by decide, rfl⟩
  · exact ⟨"optional", by decide, rfl⟩
  · exact ⟨"repeated", by decide, rfl⟩
theorem get_kind {v : Int} (h0 : 0 ≤ v) (h3 : v < 4) : ∃ rl ∈ KINDS3, atI [D.str "int", .str "text", .str "flag", .str "int"] v = some (.str rl) := by
  rw [atN h0]
  have : v = 0 ∨ v = 1 ∨ v = 2 ∨ v = 3 := by omega
  rcases this with rfl | rfl | rfl | rfl
  · exact ⟨"int", by decide, rfl⟩
  · exact ⟨"text", by decide, rfl⟩
  · exact ⟨"flag", by decide, rfl⟩
  · exact ⟨"int", by decide, rfl⟩
theorem get_name {i : Nat} (h : i < 3) : ∃ nm, nmOk nm ∧ N3[i]? = some nm ∧ atI NAMES6 (i : Int) = some (.str nm) := by
  rw [atN (by omega)]
  have : i = 0 ∨ i = 1 ∨ i = 2 := by omega
  rcases this with rfl | rfl | rfl
  · exact ⟨"id", nm_id, rfl, rfl⟩
  · exact ⟨"name", nm_name, rfl, rfl⟩
  · exact ⟨"a_1", nm_a1, rfl, rfl⟩
def RecOk (rec : List D → List O → Rs D) (j : Nat) : Prop := ∀ (m : List O) (ds : List D) (p : Nat) (pos : Int), m[p]? = some (.lst [.int pos]) → 0 ≤ pos → 0 < ds.length → Digs ds →
  ∃ fs m' pos', rec [.lst [.lst ds, .loc p], .int (3 - (j : Int)), .int 1] m = .ok (.tup fs) m' ∧ m'[p]? = some (.lst [.int pos']) ∧ 0 ≤ pos' ∧ FrB p m m' ∧ Drawn j fs
theorem turn_ok {rec : List D → List O → Rs D} {j : Nat} (hj : j ≤ 2) (hr : ∀ j', j = j' + 1 → RecOk rec j') {m : List O} {ds : List D} {p q : Nat} {pos : Int} {i : Nat} {fs : List D} {x6 x7 : Option D} (hp : m[p]? = some (.lst [.int pos])) (hpos : 0 ≤ pos) (hl : 0 < ds.length) (hd : Digs ds) (hi : i < 3)
    (hq : m[q]? = some (.lst fs)) (hpq : p ≠ q) (hfs : fs.length = i) :
    ∃ nm rl kd m' pos', LoopF rec [some (.lst [.lst ds, .loc p]), some (.int (3 - (j : Int))), some (.int 1), some (.lst NAMES6), some (.loc q), some (.int i), x6, x7] m =
      .ok (.nx [some (.lst [.lst ds, .loc p]), some (.int (3 - (j : Int))), some (.int 1), some (.lst NAMES6), some (.loc q), some (.int i), some (.str rl), some kd]) (m'.set q (.lst (fs ++ [.tup [.str nm, .str rl, kd]]))) ∧
      N3[i]? = some nm ∧ m'[p]? = some (.lst [.int pos']) ∧ 0 ≤ pos' ∧ FrB p m m' ∧ m'[q]? = some (.lst fs) ∧ FOk (KOk j) (.tup [.str nm, .str rl, kd]) ∧ lvK j kd ≤ 3 ^ j := by
  obtain ⟨nm, hnm, hn3, hat⟩ := get_name hi
  obtain ⟨v1, m1, a1, b1, e1, hp1, f1⟩ := next_x (many := 3) hp hpos hl hd (by decide)
  obtain ⟨rl, hrl, hg1⟩ := get_rule a1 b1
  obtain ⟨v2, m2, a2, b2, e2, hp2, f2'⟩ := next_x (many := 4) hp1 (by omega) hl hd (by decide)
  obtain ⟨kn, hkn, hg2⟩ := get_kind a2 b2
  have f2 : FrB p m m2 := f1.trans f2'
  have s1 : (sSet 6 (fBin gIx (fLst (aCons (fC (.str "required")) (aCons (fC (.str "optional")) (aCons (fC (.str "repeated")) aNil)))) (fCB o__law_next (aCons (fVar 0) (aCons (fC (.int 3)) aNil))))) [some (.lst [.lst ds, .loc p]), some (.int (3 - (j : Int))), some (.int 1), some (.lst NAMES6), some (.loc q), some (.int i), x6, x7] m =
      .ok (.nx [some (.lst [.lst ds, .loc p]), some (.int (3 - (j : Int))), some (.int 1), some (.lst NAMES6), some (.loc q), some (.int i), some (.str rl), x7]) m1 := by
    simp [sSet, Rs.sq, Rs.bind, fBin, fLst, aCons, aNil, fC, fCB, fVar, e1, gIx, derefS, hg1]
  have s2 : (sSet 7 (fBin gIx (fLst (aCons (fC (.str "int")) (aCons (fC (.str "text")) (aCons (fC (.str "flag")) (aCons (fC (.str "int")) aNil))))) (fCB o__law_next (aCons (fVar 0) (aCons (fC (.int 4)) aNil))))) [some (.lst [.lst ds, .loc p]), some (.int (3 - (j : Int))), some (.int 1), some (.lst NAMES6), some (.loc q), some (.int i), some (.str rl), x7] m1 =
      .ok (.nx [some (.lst [.lst ds, .loc p]), some (.int (3 - (j : Int))), some (.int 1), some (.lst NAMES6), some (.loc q), some (.int i), some (.str rl), some (.str kn)]) m2 := by
    simp [sSet, Rs.sq, Rs.bind, fBin, fLst, aCons, aNil, fC, fCB, fVar, e2, gIx, derefS, hg2]
  -- the group, or not
  have s3 : ∃ kd m' pos', (sIf (tAnd_ (tVal (fBin gLt (fVar 1) (fC (.int 3)))) (tVal (fBin gEq (fCB o__law_next (aCons (fVar 0) (aCons (fC (.int 3)) aNil))) (fC (.int 0))))) (sSet 7 (fCB rec (aCons (fVar 0) (aCons (fBin gAdd (fVar 1) (fC (.int 1))) (aCons (fC (.int 1)) aNil))))) sNx)
        [some (.lst [.lst ds, .loc p]), some (.int (3 - (j : Int))), some (.int 1), some (.lst NAMES6), some (.loc q), some (.int i), some (.str rl), some (.str kn)] m2 =
      .ok (.nx [some (.lst [.lst ds, .loc p]), some (.int (3 - (j : Int))), some (.int 1), some (.lst NAMES6), some (.loc q), some (.int i), some (.str rl), some kd]) m' ∧ m'[p]? = some (.lst [.int pos']) ∧ 0 ≤ pos' ∧ FrB p m2 m' ∧ KOk j kd ∧ lvK j kd ≤ 3 ^ j := by
    have one : 1 ≤ 3 ^ j := Nat.pos_of_ne_zero (by simp)
    cases j with
    | zero =>
      refine ⟨.str kn, m2, _, ?_, hp2, by omega, FrB.rfl', kok_str hkn, by rw [lv_str]; exact one⟩
      refine (if_f (m' := m2) ?_).trans rfl
      simp [tAnd_, tVal, Rs.bind, fBin, fVar, fC, gLt, gI]
    | succ j =>
      obtain ⟨v3, m3, a3, b3, e3, hp3, f3⟩ := next_x (many := 3) hp2 (by omega) hl hd (by decide)
      have lt3 : (3 : Int) - ((j + 1 : Nat) : Int) < 3 := by omega
      have tst : (tAnd_ (tVal (fBin gLt (fVar 1) (fC (.int 3)))) (tVal (fBin gEq (fCB o__law_next (aCons (fVar 0) (aCons (fC (.int 3)) aNil))) (fC (.int 0)))))
        [some (.lst [.lst ds, .loc p]), some (.int (3 - ((j + 1 : Nat) : Int))), some (.int 1), some (.lst NAMES6), some (.loc q), some (.int i), some (.str rl), some (.str kn)] m2 = .ok (decide (v3 = 0)) m3 := by
        simp only [tAnd_, tVal, Rs.bind, fBin, fVar, fC, fCB, aCons, aNil, List.getElem?_cons_zero, List.getElem?_cons_succ, gLt, gI, e3, eq_int, if_true, lt3, decide_true]
      by_cases h : v3 = 0
      · obtain ⟨fs', m', pos', er, g1, g2, g3, dr⟩ := hr j rfl _ ds p _ hp3 (by omega) hl hd
        refine ⟨.tup fs', m', pos', ?_, g1, g2, f3.trans g3, dr.ok, ?_⟩
        · refine (if_t (tst.trans (by rw [decide_eq_true h]))).trans ?_
          have ej : (3 : Int) - ((j + 1 : Nat) : Int) + 1 = 3 - (j : Int) := by omega
          simp only [sSet, Rs.sq, Rs.bind, fCB, aCons, aNil, fVar, fC, fBin, gAdd, List.getElem?_cons_zero, List.getElem?_cons_succ, ej, er]
          rfl
        · have h3 := sum_le (fun f => lvK j (kindD f)) (3 ^ j) fs' dr.lv
          have h4 : fs'.length * 3 ^ j ≤ 3 * 3 ^ j := Nat.mul_le_mul_right _ dr.len
          show (fs'.map fun f => lvK j (kindD f)).sum ≤ 3 ^ (j + 1)
          rw [Nat.pow_succ]
          omega
      · refine ⟨.str kn, _, _, ?_, hp3, by omega, f3, kok_str hkn, by rw [lv_str]; exact one⟩
        exact (if_f (tst.trans (by rw [decide_eq_false h]))).trans rfl
  obtain ⟨kd, m', pos', e4, g1, g2, g3, g4, g5⟩ := s3
  have hq' : m'[q]? = some (.lst fs) := g3 _ _ (Ne.symm hpq) (f2 _ _ (Ne.symm hpq) hq)
  refine ⟨nm, rl, kd, m', pos', ?_, hn3, g1, g2, f2.trans g3, hq', ⟨nm, rl, kd, rfl, hnm, hrl, g4⟩, g5⟩
  refine (seq_nx s1).trans ((seq_nx s2).trans ((seq_nx e4).trans ?_))
  have hlt : fs.length < 16777216 := by omega
  simp only [sExp, fApp, Rs.sq, Rs.bind, fVar, fTup, fBin, aCons, aNil, List.getElem?_cons_zero, List.getElem?_cons_succ, derefL, hq']
  simp [gIx, derefS, hat, hlt, hq']
end K01
set_option Elab.async false
set_option linter.all false
set_option maxRecDepth 100000
set_option maxHeartbeats 4000000
namespace K01
open PySem PySem.Spec L2 FR
theorem fields_step {rec : List D → List O → Rs D} {j : Nat} (hj : j ≤ 2) (hr : ∀ j', j = j' + 1 → RecOk rec j') : RecOk (runF 8 (b__law_fields rec)) j := by
  intro m ds p pos hp hpos hl hd
  have hpm : p < m.length := lt_of_get hp
  obtain ⟨q, hq⟩ : ∃ q, m.length = q := ⟨_, rfl⟩
  obtain ⟨v, m2, a1, b1, e1, hp2, f1⟩ := next_x (m := m ++ [.lst []]) (many := 3) (get_app hp) hpos hl hd (by decide)
  have fq : FrB p m m2 := (Fr.app.b).trans f1
  have hq2 : m2[q]? = some (.lst []) := f1 _ _ (by omega) (by rw [← hq]; exact getL)
  have key := forL_inv (p := .nm 5) (body := LoopF rec)
    (fun i r mm => ∃ (fs : List D) (pos' : Int) (x5 x6 x7 : Option D), r = [some (.lst [.lst ds, .loc p]), some (.int (3 - (j : Int))), some (.int 1), some (.lst NAMES6), some (.loc q), x5, x6, x7] ∧ mm[p]? = some (.lst [.int pos']) ∧ 0 ≤ pos' ∧ FrB p m mm ∧ mm[q]? = some (.lst fs) ∧ fs.length = i ∧ fs.map nameD = N3.take i ∧ ∀ d ∈ fs, FOk (KOk j) d ∧ lvK j (kindD d) ≤ 3 ^ j)
    (rangeD 0 (1 + v)) 0 [some (.lst [.lst ds, .loc p]), some (.int (3 - (j : Int))), some (.int 1), some (.lst NAMES6), some (.loc q), none, none, none] m2 ⟨[], _, none, none, none, rfl, hp2, by omega, fq, hq2, rfl, rfl, fun d h => by cases h⟩ ?_
  · obtain ⟨r', m', e, fs, pos', x5, x6, x7, rfl, g1, g2, g3, g4, g5, g6, g7⟩ := key
    rw [rangeD_len] at g5 g6
    have hn : 1 ≤ 0 + (1 + v).toNat ∧ 0 + (1 + v).toNat ≤ 3 := by omega
    generalize 0 + (1 + v).toNat = n at g5 g6 hn
    refine ⟨fs, m', pos', ?_, g1, g2, g3, ⟨⟨?_, by omega, fun d h => (g7 d h).1, ?_⟩, by omega, fun d h => (g7 d h).2⟩⟩
    · have s1 : (sSet 3 (fLst (aCons (fC (.str "id")) (aCons (fC (.str "name")) (aCons (fC (.str "a_1")) (aCons (fC (.str "tags")) (aCons (fC (.str "x")) (aCons (fC (.str "list2")) aNil)))))))) [some (.lst [.lst ds, .loc p]), some (.int (3 - (j : Int))), some (.int 1), none, none, none, none, none] m =
          .ok (.nx [some (.lst [.lst ds, .loc p]), some (.int (3 - (j : Int))), some (.int 1), some (.lst NAMES6), none, none, none, none]) m := by
        simp [sSet, Rs.sq, Rs.bind, fLst, aCons, aNil, fC, NAMES6]
      have s2 : (sSet 4 (fNew aNil)) [some (.lst [.lst ds, .loc p]), some (.int (3 - (j : Int))), some (.int 1), some (.lst NAMES6), none, none, none, none] m =
          .ok (.nx [some (.lst [.lst ds, .loc p]), some (.int (3 - (j : Int))), some (.int 1), some (.lst NAMES6), some (.loc q), none, none, none]) (m ++ [.lst []]) := by
        rw [← hq]; simp [sSet, fNew, aNil, Rs.sq, Rs.bind]
      have hcc : (-(2 ^ 62) : Int) ≤ 1 + v ∧ 1 + v < 2 ^ 62 := by omega
      have s3 : (sFor (.nm 5) (iR1 (aCons (fBin gAdd (fVar 2) (fCB o__law_next (aCons (fVar 0) (aCons (fC (.int 3)) aNil)))) aNil)) (LoopF rec)) [some (.lst [.lst ds, .loc p]), some (.int (3 - (j : Int))), some (.int 1), some (.lst NAMES6), some (.loc q), none, none, none] (m ++ [.lst []]) =
          .ok (.nx [some (.lst [.lst ds, .loc p]), some (.int (3 - (j : Int))), some (.int 1), some (.lst NAMES6), some (.loc q), x5, x6, x7]) m' := by
        have s0 : (iR1 (aCons (fBin gAdd (fVar 2) (fCB o__law_next (aCons (fVar 0) (aCons (fC (.int 3)) aNil)))) aNil)) [some (.lst [.lst ds, .loc p]), some (.int (3 - (j : Int))), some (.int 1), some (.lst NAMES6), some (.loc q), none, none, none] (m ++ [.lst []]) = .ok (rangeD 0 (1 + v)) m2 := by
          simp only [iR1, aCons, aNil, fBin, fVar, fC, fCB, Rs.bind, List.getElem?_cons_zero, List.getElem?_cons_succ, e1, gAdd, if_pos hcc]
        simp only [sFor, Rs.sq, s0, e]
      have s4 : b__law_fields rec [some (.lst [.lst ds, .loc p]), some (.int (3 - (j : Int))), some (.int 1), none, none, none, none, none] m = .ok (.rt (.tup fs)) m' := by
        rw [fields_body]
        refine (seq_nx s1).trans ((seq_nx s2).trans ((seq_nx s3).trans ?_))
        simp [sRet, Rs.sq, Rs.bind, fCB, aCons, aNil, fVar, bTuple, derefL, g4]
      show runF 8 (b__law_fields rec) [.lst [.lst ds, .loc p], .int (3 - (j : Int)), .int 1] m = _
      unfold runF
      rw [show ([D.lst [.lst ds, .loc p], .int (3 - (j : Int)), .int 1].map some ++ List.replicate (8 - [D.lst [.lst ds, .loc p], .int (3 - (j : Int)), .int 1].length) none) = [some (.lst [.lst ds, .loc p]), some (.int (3 - (j : Int))), some (.int 1), none, none, none, none, none] from rfl, s4]
    · intro h
      rw [h] at g5
      simp at g5
      omega
    · rw [g6]
      have : n = 1 ∨ n = 2 ∨ n = 3 := by omega
      rcases this with rfl | rfl | rfl <;> decide
  · rintro i d r mm hdd ⟨fs, pos', x5, x6, x7, rfl, g1, g2, g3, g4, g5, g6, g7⟩
    obtain ⟨rfl, hi⟩ := rangeD_get hdd
    rw [Nat.zero_add] at g5 g6
    obtain ⟨nm, rl, kd, m', pos'', t1, t2, t3, t4, t5, t6, t7, t8⟩ := turn_ok (rec := rec) (x6 := x6) (x7 := x7) (i := i) hj hr g1 g2 hl hd (by omega) g4 (by omega) g5
    refine ⟨_, _, _, ?_, t1, fs ++ [.tup [.str nm, .str rl, kd]], pos'', _, _, _, rfl, ?_, t4, ?_, get_set t6, by simp [g5], ?_, ?_⟩
    · simp [asg]
    · rw [get_set_ne (by omega)]; exact t3
    · intro k o hk ho
      rw [get_set_ne (by have := lt_of_get ho; omega)]
      exact t5 k o hk (g3 k o hk ho)
    · rw [List.map_append, g6, Nat.zero_add]
      rw [List.take_add_one, t2]
      rfl
    · intro d hdm
      rcases List.mem_append.mp hdm with z | z
      · exact g7 d z
      · rcases List.mem_singleton.mp z with rfl
        exact ⟨t7, t8⟩
theorem fields_ok : ∀ (j n : Nat), j ≤ 2 → j < n → RecOk (r__law_fields n) j
  | 0, n + 1, hj, hn => fields_step hj fun j' h => by omega
  | j + 1, n + 1, hj, hn => fields_step hj fun j' h => by
    have : j' = j := by omega
    subst this
    exact fields_ok j' n (by omega) (by omega)
end K01
set_option Elab.async false
set_option linter.all false
set_option maxRecDepth 100000
set_option maxHeartbeats 4000000
namespace FR
open PySem PySem.Spec L2
theorem compL_map {p : Pt} {t : FT} {f : FE} {r : Lc} {m : List O} (g : D → D) : ∀ ds : List D, (∀ d ∈ ds, ∃ r1, asg p d r = some r1 ∧ t r1 m = .ok true m ∧ f r1 m = .ok (g d) m) → compL p t f r ds m = .ok (ds.map g) m
  | [], _ => rfl
  | d :: ds, h => by
    obtain ⟨r1, e1, e2, e3⟩ := h d List.mem_cons_self
    have ih := compL_map (p := p) (t := t) (f := f) (r := r) (m := m) g ds fun x hx => h x (List.mem_cons_of_mem _ hx)
    simp only [compL, e1, e2, e3, ih, Rs.bind, List.map_cons]
theorem intsD_map {α : Type} (h : α → Int) : ∀ ds : List α, intsD (ds.map fun d => .int (h d)) = some (ds.map h)
  | [] => rfl
  | d :: ds => by simp only [List.map_cons, intsD, intsD_map h ds]; rfl
theorem sum_cast {α : Type} (h : α → Nat) : ∀ ds : List α, (ds.map fun d => (h d : Int)).sum = (((ds.map h).sum : Nat) : Int)
  | [] => rfl
  | d :: ds => by
    have := sum_cast h ds
    simp only [List.map_cons, List.sum_cons, this]
    omega
end FR
namespace K01
open PySem PySem.Spec L2 FR
def RecC (rec : List D → List O → Rs D) (n : Nat) : Prop := ∀ (kd : D) (m : List O), KOk n kd → rec [kd] m = .ok (.int (lvK n kd : Nat)) m
theorem fok_parts {R : D → Prop} {d : D} (h : FOk R d) : ∃ nm rl kd, d = .tup [.str nm, .str rl, kd] ∧ kindD d = kd ∧ nameD d = nm ∧ nmOk nm ∧ rl ∈ RULES3 ∧ R kd := by
  obtain ⟨nm, rl, kd, rfl, a, b, c⟩ := h
  exact ⟨nm, rl, kd, rfl, rfl, rfl, a, b, c⟩
theorem fields_sum {rec : List D → List O → Rs D} {n i : Nat} {r : Lc} {m : List O} {fs : List D} (hr : RecC rec n) (h : FsOk (KOk n) fs) (hi : i < r.length) :
    compL (.nm i) tTrue (fCB rec (aCons (fBin gIx (fVar i) (fC (.int 2))) aNil)) r fs m = .ok (fs.map fun f => .int (lvK n (kindD f) : Nat)) m := by
  refine compL_map (fun f => .int (lvK n (kindD f) : Nat)) fs fun d hd => ⟨r.set i (some d), rfl, rfl, ?_⟩
  obtain ⟨nm, rl, kd, rfl, e, _, _, _, hk⟩ := fok_parts (h.2.2.1 d hd)
  rw [e]
  have hg : (r.set i (some (D.tup [.str nm, .str rl, kd])))[i]? = some (some (D.tup [.str nm, .str rl, kd])) := by rw [List.getElem?_set]; simp [hi]
  simp only [fCB, aCons, aNil, fBin, fVar, fC, Rs.bind, hg, gIx, derefS, at2]
  exact hr kd m hk
theorem kit_ts : kitB "tuple" "str" = some false := by decide +kernel
theorem kit_ss : kitB "str" "str" = some true := by decide +kernel
theorem count_ok : ∀ (f n : Nat), n < f → RecC (r__law_leaf_count f) n
  | f + 1, n, hn => by
    intro kd m hk
    show runF 2 (b__law_leaf_count (r__law_leaf_count f)) [kd] m = _
    cases kd with
    | str k =>
      rw [lv_str]
      simp [runF, b__law_leaf_count, sSeq, sIf, sRet, Rs.sq, Rs.bind, tTru, truD, fCB, aCons, aNil, fC, fVar, bIsi, tyD, kit_ss]
    | tup fs =>
      cases n with
      | zero => exact hk.elim
      | succ n =>
        have hk : FsOk (KOk n) fs := hk
        have ih := count_ok f n (by omega)
        have e1 := fields_sum (i := 1) (r := [some (.tup fs), none]) (m := m) ih hk (by simp)
        have hl : fs.length ≤ 16777215 := by have := hk.2.1; omega
        have e2 : (fLc [1] (.nm 1) (iAll (fVar 0)) tTrue (fCB (r__law_leaf_count f) (aCons (fBin gIx (fVar 1) (fC (.int 2))) aNil))) [some (.tup fs), none] m = .ok (.lst (fs.map fun f => .int (lvK n (kindD f) : Nat))) m := by
          simp only [fLc, iAll, fVar, Rs.bind, List.getElem?_cons_zero, if_pos hl, wipeL, List.set_cons_succ, List.set_cons_zero]
          rw [e1]
        have e3 : (sIf (tTru (fCB bIsi (aCons (fVar 0) (aCons (fC (.ty "str")) aNil)))) (sRet (fC (.int 1))) sNx) [some (.tup fs), none] m = .ok (.nx [some (.tup fs), none]) m := by
          simp [sIf, sNx, Rs.sq, Rs.bind, tTru, truD, fCB, aCons, aNil, fC, fVar, bIsi, tyD, kit_ts]
        have e4 : b__law_leaf_count (r__law_leaf_count f) [some (.tup fs), none] m = .ok (.rt (.int (lvK (n + 1) (.tup fs) : Nat))) m := by
          refine (seq_nx e3).trans ?_
          simp only [sRet, Rs.sq, fCB, aCons, aNil, Rs.bind, e2, bSum, bOvI, derefL, intsD_map, sum_cast]
          rfl
        unfold runF
        rw [show ([D.tup fs].map some ++ List.replicate (2 - [D.tup fs].length) none) = [some (.tup fs), none] from rfl, e4]
    | _ => first | exact hk.elim | (cases n <;> exact hk.elim)
def leaves (n : Nat) (fs : List D) : Nat := (fs.map fun f => lvK n (kindD f)).sum
/-- a schema as the laws draw it -/
structure Schm (fs : List D) : Prop where
  ok : FsOk (KOk 2) fs
  lv : leaves 2 fs ≤ 12
theorem schema_ok {m : List O} {ns : List Int} {first : Int} (h0 : 0 ≤ first) : ∃ fs m', o__law_schema [.scr ns, .int first] m = .ok (.tup fs) m' ∧ Fr m m' ∧ Schm fs := by
  obtain ⟨ds, p, m1, e1, f1, hp, hg, hd, hl⟩ := stream_ok (m := m) (ns := ns) h0 (show (0 : Int) < 4 by decide) (by decide)
  obtain ⟨fs, m2, pos', e2, g1, g2, g3, dr⟩ := fields_ok 2 6 (by decide) (by decide) m1 ds p 0 hg (by decide) hl hd
  have fr : Fr m m2 := fun i o e => g3 i o (by have := lt_of_get e; omega) (f1 i o e)
  have ec : (fLc [3] (.nm 3) (iAll (fVar 2)) tTrue (fCB o__law_leaf_count (aCons (fBin gIx (fVar 3) (fC (.int 2))) aNil))) [some (.scr ns), some (.int first), some (.tup fs), none] m2 = .ok (.lst (fs.map fun f => .int (lvK 2 (kindD f) : Nat))) m2 := by
    have hl : fs.length ≤ 16777215 := by have := dr.len; omega
    simp only [fLc, iAll, fVar, Rs.bind, List.getElem?_cons_zero, List.getElem?_cons_succ, if_pos hl, wipeL, List.set_cons_succ, List.set_cons_zero]
    rw [fields_sum (rec := o__law_leaf_count) (i := 3) (r := [some (.scr ns), some (.int first), some (.tup fs), none]) (m := m2) (count_ok 6 2 (by decide)) dr.ok (by simp)]
  have s1 : (sSet 2 (fCB o__law_fields (aCons (fCB o__law_stream (aCons (fVar 0) (aCons (fVar 1) (aCons (fC (.int 4)) aNil)))) (aCons (fC (.int 1)) (aCons (fC (.int 1)) aNil))))) [some (.scr ns), some (.int first), none, none] m = .ok (.nx [some (.scr ns), some (.int first), some (.tup fs), none]) m2 := by
    have e2' : o__law_fields [D.lst [D.lst ds, D.loc p], D.int 1, D.int 1] m1 = .ok (.tup fs) m2 := e2
    simp only [sSet, Rs.sq, Rs.bind, fCB, aCons, aNil, fVar, fC, List.getElem?_cons_zero, List.getElem?_cons_succ, e1, e2']
    rfl
  have tst : (tVal (fBin gGt (fCB bSum (aCons (fLc [3] (.nm 3) (iAll (fVar 2)) tTrue (fCB o__law_leaf_count (aCons (fBin gIx (fVar 3) (fC (.int 2))) aNil))) aNil)) (fC (.int 12)))) [some (.scr ns), some (.int first), some (.tup fs), none] m2 = .ok (decide (12 < leaves 2 fs)) m2 := by
    simp only [tVal, fBin, fCB, aCons, aNil, Rs.bind, ec, bSum, bOvI, derefL, intsD_map, sum_cast, fC, gGt, gI, if_true]
    show Rs.ok (decide ((12 : Int) < ((leaves 2 fs : Nat) : Int))) m2 = _
    rw [show decide ((12 : Int) < ((leaves 2 fs : Nat) : Int)) = decide (12 < leaves 2 fs) from decide_eq_decide.mpr (by omega)]
  obtain ⟨x, rest, rfl⟩ : ∃ x rest, fs = x :: rest := by
    cases fs with
    | nil => exact absurd rfl dr.ok.1
    | cons x r => exact ⟨x, r, rfl⟩
  by_cases h12 : 12 < leaves 2 (x :: rest)
  · refine ⟨[x], m2, ?_, fr, ⟨⟨by simp, by simp, fun d hd => dr.ok.2.2.1 d (by rcases List.mem_singleton.mp hd with rfl; exact List.mem_cons_self), by simp⟩, ?_⟩⟩
    · have s2 : b__law_schema [some (.scr ns), some (.int first), none, none] m = .ok (.rt (.tup [x])) m2 := by
        refine (seq_nx s1).trans ?_
        unfold sSeq
        rw [if_t (tst.trans (by rw [decide_eq_true h12]))]
        have ecut : cutD (x :: rest) none (some 1) = [x] := by simp [cutD, HT.sIx]
        simp [sRet, Rs.sq, Rs.bind, fSl, fVar, pNo, pSo, fC, gSl, ecut]
      show runF 4 b__law_schema [.scr ns, .int first] m = _
      unfold runF
      rw [show ([D.scr ns, .int first].map some ++ List.replicate (4 - [D.scr ns, .int first].length) none) = [some (.scr ns), some (.int first), none, none] from rfl, s2]
    · have := dr.lv x List.mem_cons_self
      simp [leaves]
      omega
  · refine ⟨x :: rest, m2, ?_, fr, ⟨dr.ok, by omega⟩⟩
    have s2 : b__law_schema [some (.scr ns), some (.int first), none, none] m = .ok (.rt (.tup (x :: rest))) m2 := by
      refine (seq_nx s1).trans ?_
      unfold sSeq
      rw [if_f (tst.trans (by rw [decide_eq_false h12]))]
      simp [sNx, sRet, Rs.sq, fVar]
    show runF 4 b__law_schema [.scr ns, .int first] m = _
    unfold runF
    rw [show ([D.scr ns, .int first].map some ++ List.replicate (4 - [D.scr ns, .int first].length) none) = [some (.scr ns), some (.int first), none, none] from rfl, s2]
end K01
set_option Elab.async false
set_option linter.all false
set_option maxRecDepth 100000
set_option maxHeartbeats 4000000
namespace FR
open PySem PySem.Spec L2
theorem ne_int {a b : Int} {m : List O} : gNe (.int a) (.int b) m = .ok (.bl (!decide (a = b))) m := by
  have e : (a == b) = decide (a = b) := by by_cases h : a = b <;> simp [h]
  have s1 : ∀ z : Int, SeqAt.shaped (.int z) = true := fun _ => rfl
  simp only [gNe, gEqW, toPy, s1, Bool.and_self, if_true, PyData.eqv, e]
theorem int_eq {a b : Int} {m : List O} : gEq (.int a) (.int b) m = .ok (.bl (decide (a = b))) m := by
  have e : (a == b) = decide (a = b) := by by_cases h : a = b <;> simp [h]
  have s1 : ∀ z : Int, SeqAt.shaped (.int z) = true := fun _ => rfl
  simp only [gEq, gEqW, toPy, s1, Bool.and_self, if_true, PyData.eqv, e]
  rfl
theorem setN_nodup : ∀ (xs seen : List Str), xs.Nodup → (∀ x ∈ xs, x ∉ seen) → setN xs seen = seen.length + xs.length
  | [], seen, _, _ => rfl
  | x :: xs, seen, h, h2 => by
    have hx := h2 x List.mem_cons_self
    simp only [setN, if_neg hx]
    rw [setN_nodup xs (x :: seen) (List.nodup_cons.mp h).2 fun y hy => ?_]
    · simp; omega
    · rw [List.mem_cons]
      rintro (rfl | q)
      · exact (List.nodup_cons.mp h).1 hy
      · exact h2 y (List.mem_cons_of_mem _ hy) q
theorem strsD_map : ∀ xs : List Str, strsD (xs.map D.str) = some xs
  | [] => rfl
  | x :: xs => by simp only [List.map_cons, strsD, strsD_map xs]; rfl
end FR
namespace K01
open PySem PySem.Spec L2 FR
theorem check_field_ok {n : Nat} {d : D} {m : List O} (h : FOk (KOk n) d) : o_check_field [d] m = .ok .non m := by
  obtain ⟨nm, rl, kd, rfl, hn, hr, hk⟩ := h
  have hnm := hn.2 m
  have s1 : (sIf (tOr_ (tVal (fBin gIsNot (fCB bType (aCons (fVar 0) aNil)) (fC (.ty "tuple")))) (tVal (fBin gNe (fCB bLen (aCons (fVar 0) aNil)) (fC (.int 3))))) (sRaise "BadSchema") sNx) [some (.tup [.str nm, .str rl, kd]), none, none, none] m = .ok (.nx [some (.tup [.str nm, .str rl, kd]), none, none, none]) m := by
    refine (if_f (m' := m) ?_).trans rfl
    simp only [tOr_, tVal, fBin, fCB, aCons, aNil, fVar, fC, Rs.bind, List.getElem?_cons_zero, bType, tyD, gIsNot, gIsW, bLen, derefS, ne_int, decide_true, Bool.not_true, List.length_cons, List.length_nil]
    rfl
  have s2 : (sAsg (.tp [1, 2, 3]) (fVar 0)) [some (.tup [.str nm, .str rl, kd]), none, none, none] m = .ok (.nx [some (.tup [.str nm, .str rl, kd]), some (.str nm), some (.str rl), some kd]) m := rfl
  have s3 : (sIf (tNot_ (tTru (fCB o_is_name (aCons (fVar 1) aNil)))) (sRaise "BadSchema") sNx) [some (.tup [.str nm, .str rl, kd]), some (.str nm), some (.str rl), some kd] m = .ok (.nx [some (.tup [.str nm, .str rl, kd]), some (.str nm), some (.str rl), some kd]) m := by
    refine (if_f (m' := m) ?_).trans rfl
    simp only [tNot_, tTru, fCB, aCons, aNil, fVar, Rs.bind, List.getElem?_cons_zero, List.getElem?_cons_succ, hnm, truD]
    rfl
  have s4 : (sIf (tOr_ (tVal (fBin gIsNot (fCB bType (aCons (fVar 2) aNil)) (fC (.ty "str")))) (tVal (fBin gNotIn (fVar 2) (fC c_RULES)))) (sRaise "BadSchema") sNx) [some (.tup [.str nm, .str rl, kd]), some (.str nm), some (.str rl), some kd] m = .ok (.nx [some (.tup [.str nm, .str rl, kd]), some (.str nm), some (.str rl), some kd]) m := by
    refine (if_f (m' := m) ?_).trans rfl
    have hr2 : rl = "required" ∨ rl = "optional" ∨ rl = "repeated" := by simpa [RULES3] using hr
    rcases hr2 with rfl | rfl | rfl <;> rfl
  have s5 : (sIf (tAnd_ (tVal (fBin gIsNot (fCB bType (aCons (fVar 3) aNil)) (fC (.ty "tuple")))) (tOr_ (tVal (fBin gIsNot (fCB bType (aCons (fVar 3) aNil)) (fC (.ty "str")))) (tVal (fBin gNotIn (fVar 3) (fC c_KINDS))))) (sRaise "BadSchema") sNx) [some (.tup [.str nm, .str rl, kd]), some (.str nm), some (.str rl), some kd] m = .ok (.nx [some (.tup [.str nm, .str rl, kd]), some (.str nm), some (.str rl), some kd]) m := by
    refine (if_f (m' := m) ?_).trans rfl
    cases kd with
    | str k =>
      have hk2 : k ∈ KINDS3 := by cases n <;> exact hk
      have hk3 : k = "int" ∨ k = "text" ∨ k = "flag" := by simpa [KINDS3] using hk2
      rcases hk3 with rfl | rfl | rfl <;> rfl
    | tup g => rfl
    | _ => first | exact hk.elim | (cases n <;> exact hk.elim)
  have s6 : b_check_field [some (.tup [.str nm, .str rl, kd]), none, none, none] m = .ok (.nx [some (.tup [.str nm, .str rl, kd]), some (.str nm), some (.str rl), some kd]) m :=
    (seq_nx s1).trans ((seq_nx s2).trans ((seq_nx s3).trans ((seq_nx s4).trans s5)))
  show runF 4 b_check_field [.tup [.str nm, .str rl, kd]] m = _
  unfold runF
  rw [show ([D.tup [.str nm, .str rl, kd]].map some ++ List.replicate (4 - [D.tup [.str nm, .str rl, kd]].length) none) = [some (.tup [.str nm, .str rl, kd]), none, none, none] from rfl, s6]
theorem check_fields_ok {n : Nat} {fs : List D} {m : List O} (h : FsOk (KOk n) fs) : o_check_fields [.tup fs] m = .ok .non m := by
  obtain ⟨h0, h1, h2, h3⟩ := h
  have hl : (fs.length : Int) ≠ 0 := by
    intro e
    exact h0 (List.length_eq_zero_iff.mp (by omega))
  have s1 : (sIf (tOr_ (tVal (fBin gIsNot (fCB bType (aCons (fVar 0) aNil)) (fC (.ty "tuple")))) (tVal (fBin gEq (fCB bLen (aCons (fVar 0) aNil)) (fC (.int 0))))) (sRaise "BadSchema") sNx) [some (.tup fs), none] m = .ok (.nx [some (.tup fs), none]) m := by
    refine (if_f (m' := m) ?_).trans rfl
    simp only [tOr_, tVal, fBin, fCB, aCons, aNil, fVar, fC, Rs.bind, List.getElem?_cons_zero, bType, tyD, gIsNot, gIsW, bLen, derefS, int_eq, decide_eq_false hl]
    rfl
  have s2 : ∃ x, (sFor (.nm 1) (iAll (fVar 0)) (sExp (fCB o_check_field (aCons (fVar 1) aNil)))) [some (.tup fs), none] m = .ok (.nx [some (.tup fs), x]) m := by
    obtain ⟨r', m', e, x, rfl, rfl⟩ := forL_inv (p := .nm 1) (body := (sExp (fCB o_check_field (aCons (fVar 1) aNil)))) (fun i r mm => ∃ x, r = [some (.tup fs), x] ∧ mm = m) fs 0 [some (.tup fs), none] m ⟨none, rfl, rfl⟩ fun i d r mm hd ⟨x, hr, hm⟩ => by
      subst hr hm
      refine ⟨[some (.tup fs), some d], [some (.tup fs), some d], mm, by simp [asg], ?_, _, rfl, rfl⟩
      have := check_field_ok (m := mm) (h2 d (List.mem_of_getElem? hd))
      simp only [sExp, Rs.sq, fCB, aCons, aNil, fVar, Rs.bind, List.getElem?_cons_zero, List.getElem?_cons_succ, this]
    exact ⟨x, by simp only [sFor, iAll, fVar, Rs.bind, Rs.sq, List.getElem?_cons_zero, e]⟩
  obtain ⟨x, s2⟩ := s2
  have s3 : (sIf (tVal (fBin gNe (fLenSet [1] (.nm 1) (iAll (fVar 0)) tTrue (fBin gIx (fVar 1) (fC (.int 0)))) (fCB bLen (aCons (fVar 0) aNil)))) (sRaise "BadSchema") sNx) [some (.tup fs), x] m = .ok (.nx [some (.tup fs), x]) m := by
    refine (if_f (m' := m) ?_).trans rfl
    have e1 : compL (.nm 1) tTrue (fBin gIx (fVar 1) (fC (.int 0))) [some (.tup fs), none] fs m = .ok (fs.map fun d => D.str (nameD d)) m := by
      refine compL_map (fun d => .str (nameD d)) fs fun d hd => ⟨[some (.tup fs), some d], rfl, rfl, ?_⟩
      obtain ⟨nm, rl, kd, rfl, _, en, _, _, _⟩ := fok_parts (h2 d hd)
      rw [en]
      simp only [fBin, fVar, fC, Rs.bind, List.getElem?_cons_zero, List.getElem?_cons_succ, gIx, derefS, at0]
    have e2 : strsD (fs.map fun d => D.str (nameD d)) = some (fs.map nameD) := by
      have := strsD_map (fs.map nameD)
      rw [List.map_map] at this
      exact this
    have e3 : setN (fs.map nameD) [] = fs.length := by
      rw [setN_nodup _ _ h3 (by simp)]
      simp
    simp only [tVal, fBin, fLenSet, iAll, fVar, Rs.bind, List.getElem?_cons_zero, if_pos h1, wipeL, List.set_cons_succ, List.set_cons_zero, e1, e2, e3, fCB, aCons, aNil, bLen, derefS, ne_int, decide_true, Bool.not_true]
  have s4 : b_check_fields [some (.tup fs), none] m = .ok (.nx [some (.tup fs), x]) m := (seq_nx s1).trans ((seq_nx s2).trans s3)
  show runF 2 b_check_fields [.tup fs] m = _
  unfold runF
  rw [show ([D.tup fs].map some ++ List.replicate (2 - [D.tup fs].length) none) = [some (.tup fs), none] from rfl, s4]
end K01
set_option Elab.async false
set_option linter.all false
set_option maxRecDepth 100000
set_option maxHeartbeats 4000000
namespace FR
open PySem PySem.Spec L2
def ruleD : D → Str
  | .tup [_, .str r, _] => r
  | _ => Str.empty
/-- a step of a way -/
def Step (b : Nat) (d : D) : Prop := ∃ p r z, d = .tup [.str p, .int r, .int z] ∧ p.length ≤ b
def stepB : D → Str → Str → D
  | .tup [.str p, .int r, .int z], nm, rl => .tup [.str (if p.length = 0 then nm else Str.empty ++ p ++ "." ++ nm), .int (if rl = "repeated" then r + 1 else r), .int (if rl = "required" then z else z + 1)]
  | d, _, _ => d
def waysF : Nat → List D → List D → D → List D
  | 0, fs, ar, st => fs.flatMap fun f => [.tup [.tup (ar ++ [stepB st (nameD f) (ruleD f)]), kindD f]]
  | n + 1, fs, ar, st => fs.flatMap fun f => match kindD f with
    | .tup g => waysF n g (ar ++ [stepB st (nameD f) (ruleD f)]) (stepB st (nameD f) (ruleD f))
    | kd => [.tup [.tup (ar ++ [stepB st (nameD f) (ruleD f)]), kd]]
theorem str_app_len (a b : Str) : (a ++ b).length = a.length + b.length := by
  show (a.cps ++ b.cps).size = _
  rw [Array.size_append]; rfl
theorem str_eq {a b : Str} {m : List O} (s1 : SeqAt.shaped (.str a) = true) (s2 : SeqAt.shaped (.str b) = true) : gEq (.str a) (.str b) m = .ok (.bl (decide (a = b))) m := by
  have e : (a == b) = decide (a = b) := by by_cases h : a = b <;> simp [h]
  simp only [gEq, gEqW, toPy, s1, s2, Bool.and_self, if_true, PyData.eqv, e]
  rfl
theorem Step.mono {a b : Nat} {d : D} (h : Step a d) (l : a ≤ b) : Step b d := by
  obtain ⟨p, r, z, e, q⟩ := h
  exact ⟨p, r, z, e, Nat.le_trans q l⟩
end FR
namespace K01
open PySem PySem.Spec L2 FR
theorem stepB_step {b : Nat} {st : D} {nm rl : Str} (h : Step b st) (hn : nm.length ≤ 10) : Step (b + 11) (stepB st nm rl) := by
  obtain ⟨p, r, z, rfl, hp⟩ := h
  refine ⟨_, _, _, rfl, ?_⟩
  split
  · omega
  · rw [str_app_len, str_app_len, str_app_len, show (Str.empty).length = 0 from rfl, show ((".") : Str).length = 1 from by decide]
    omega
theorem levels_ok {r z : Int} {rl : Str} {m : List O} (hr : rl ∈ RULES3) : o_levels_below [.int r, .int z, .str rl] m = .ok (.tup [.int (if rl = "repeated" then r + 1 else r), .int (if rl = "required" then z else z + 1)]) m := by
  have hr2 : rl = "required" ∨ rl = "optional" ∨ rl = "repeated" := by simpa [RULES3] using hr
  have hs1 : SeqAt.shaped (.str rl) = true := by rcases hr2 with rfl | rfl | rfl <;> decide +kernel
  have hs2 : SeqAt.shaped (.str "repeated") = true := by decide +kernel
  have hs3 : SeqAt.shaped (.str "required") = true := by decide +kernel
  have e2 : (fIf (tVal (fBin gEq (fVar 2) (fC (.str "repeated")))) (fBin gAdd (fVar 0) (fC (.int 1))) (fVar 0)) [some (.int r), some (.int z), some (.str rl)] m = .ok (.int (if rl = "repeated" then r + 1 else r)) m := by
    by_cases h0 : rl = "repeated"
    · simp only [fIf, tVal, fBin, fVar, fC, Rs.bind, List.getElem?_cons_zero, List.getElem?_cons_succ, str_eq hs1 hs2, decide_eq_true h0, if_pos h0, if_true, gAdd]
    · simp only [fIf, tVal, fBin, fVar, fC, Rs.bind, List.getElem?_cons_zero, List.getElem?_cons_succ, str_eq hs1 hs2, decide_eq_false h0, if_neg h0, gAdd]
      rfl
  have e3 : (fIf (tVal (fBin gEq (fVar 2) (fC (.str "required")))) (fVar 1) (fBin gAdd (fVar 1) (fC (.int 1)))) [some (.int r), some (.int z), some (.str rl)] m = .ok (.int (if rl = "required" then z else z + 1)) m := by
    by_cases h0 : rl = "required"
    · simp only [fIf, tVal, fBin, fVar, fC, Rs.bind, List.getElem?_cons_zero, List.getElem?_cons_succ, str_eq hs1 hs3, decide_eq_true h0, if_pos h0, if_true, gAdd]
    · simp only [fIf, tVal, fBin, fVar, fC, Rs.bind, List.getElem?_cons_zero, List.getElem?_cons_succ, str_eq hs1 hs3, decide_eq_false h0, if_neg h0, gAdd]
      rfl
  have s2 : b_levels_below [some (.int r), some (.int z), some (.str rl)] m = .ok (.rt (.tup [.int (if rl = "repeated" then r + 1 else r), .int (if rl = "required" then z else z + 1)])) m := by
    unfold b_levels_below
    simp only [sRet, Rs.sq, fTup, aCons, aNil, Rs.bind, e2, e3]
    rfl
  show runF 3 b_levels_below [.int r, .int z, .str rl] m = _
  unfold runF
  rw [show ([D.int r, .int z, .str rl].map some ++ List.replicate (3 - [D.int r, .int z, .str rl].length) none) = [some (.int r), some (.int z), some (.str rl)] from rfl, s2]
theorem step_ok {b : Nat} {st : D} {nm rl : Str} {m : List O} (h : Step b st) (hb : b ≤ 1000) (hn : nm.length ≤ 10) (hr : rl ∈ RULES3) : o_step_below [st, .str nm, .str rl] m = .ok (stepB st nm rl) m := by
  obtain ⟨p, r, z, rfl, hp⟩ := h
  have s1 : (sAsg (.tp [3, 4, 5]) (fVar 0)) [some (.tup [.str p, .int r, .int z]), some (.str nm), some (.str rl), none, none, none, none, none] m = .ok (.nx [some (.tup [.str p, .int r, .int z]), some (.str nm), some (.str rl), some (.str p), some (.int r), some (.int z), none, none]) m := rfl
  have s1b : (sAsg (.tp [6, 7]) (fCB o_levels_below (aCons (fVar 4) (aCons (fVar 5) (aCons (fVar 2) aNil))))) [some (.tup [.str p, .int r, .int z]), some (.str nm), some (.str rl), some (.str p), some (.int r), some (.int z), none, none] m = .ok (.nx [some (.tup [.str p, .int r, .int z]), some (.str nm), some (.str rl), some (.str p), some (.int r), some (.int z), some (.int (if rl = "repeated" then r + 1 else r)), some (.int (if rl = "required" then z else z + 1))]) m := by
    show (Rs.sq (o_levels_below [.int r, .int z, .str rl] m) _ _) = _
    rw [levels_ok hr]
    rfl
  have l1 : p.length ≤ 16777216 := by omega
  have l2 : nm.length ≤ 16777216 := by omega
  have d1 : ((".") : Str).length = 1 := by decide
  have l3 : (Str.empty ++ p).length ≤ 16777216 := by rw [str_app_len, show (Str.empty).length = 0 from rfl]; omega
  have l4 : (Str.empty ++ p ++ ".").length ≤ 16777216 := by rw [str_app_len, str_app_len, show (Str.empty).length = 0 from rfl, d1]; omega
  have l5 : (Str.empty ++ p ++ "." ++ nm).length ≤ 16777216 := by rw [str_app_len, str_app_len, str_app_len, show (Str.empty).length = 0 from rfl, d1]; omega
  have e1 : ∀ x y, (fIf (tTru (fVar 3)) (fJs ((fUn gFmt (fVar 3)) :: ((fC (.str ".")) :: ((fUn gFmt (fVar 1)) :: [])))) (fVar 1)) [some (.tup [.str p, .int r, .int z]), some (.str nm), some (.str rl), some (.str p), some (.int r), some (.int z), some x, some y] m = .ok (.str (if p.length = 0 then nm else Str.empty ++ p ++ "." ++ nm)) m := by
    intro x y
    by_cases h0 : p.length = 0
    · rw [if_pos h0]
      have hz : ((p.length : Int) != 0) = false := by rw [h0]; rfl
      simp only [fIf, tTru, fVar, Rs.bind, List.getElem?_cons_zero, List.getElem?_cons_succ, truD, if_pos l1, hz]
      rfl
    · rw [if_neg h0]
      have hz : ((p.length : Int) != 0) = true := by simp; omega
      simp only [fIf, tTru, fVar, fC, fUn, gFmt, Rs.bind, List.getElem?_cons_zero, List.getElem?_cons_succ, truD, if_pos l1, hz, if_true, fJs, jsL, if_pos l3, if_pos l4, if_pos l2, if_pos l5]
  have s2 : b_step_below [some (.tup [.str p, .int r, .int z]), some (.str nm), some (.str rl), none, none, none, none, none] m = .ok (.rt (stepB (.tup [.str p, .int r, .int z]) nm rl)) m := by
    refine (seq_nx s1).trans ((seq_nx s1b).trans ?_)
    simp only [sRet, Rs.sq, fTup, aCons, aNil, Rs.bind, e1]
    rfl
  show runF 8 b_step_below [.tup [.str p, .int r, .int z], .str nm, .str rl] m = _
  unfold runF
  rw [show ([D.tup [.str p, .int r, .int z], .str nm, .str rl].map some ++ List.replicate (8 - [D.tup [.str p, .int r, .int z], .str nm, .str rl].length) none) = [some (.tup [.str p, .int r, .int z]), some (.str nm), some (.str rl), none, none, none, none, none] from rfl, s2]
theorem ways_len : ∀ (n : Nat) (fs ar : List D) (st : D), FsOk (KOk n) fs → (waysF n fs ar st).length = leaves n fs := by
  intro n
  induction n with
  | zero =>
    intro fs ar st h
    unfold waysF leaves
    rw [List.length_flatMap]
    congr 1
    refine List.map_congr_left fun f hf => ?_
    obtain ⟨nm, rl, kd, rfl, ek, _, _, _, hk⟩ := fok_parts (h.2.2.1 f hf)
    rw [ek]
    cases kd with
    | str k => rfl
    | _ => first | exact hk.elim
  | succ n ih =>
    intro fs ar st h
    unfold waysF leaves
    rw [List.length_flatMap]
    congr 1
    refine List.map_congr_left fun f hf => ?_
    obtain ⟨nm, rl, kd, rfl, ek, _, _, _, hk⟩ := fok_parts (h.2.2.1 f hf)
    rw [ek]
    cases kd with
    | str k => rfl
    | tup g => exact ih g _ _ hk
    | _ => exact hk.elim
/-- what ways_within gives is a list of (way, kind), the way's last a step -/
def WayOk (w : D) : Prop := ∃ way st kd, w = .tup [.tup (way ++ [st]), kd] ∧ Step 100 st
theorem ways_shape : ∀ (n b : Nat) (fs ar : List D) (st : D), FsOk (KOk n) fs → Step b st → b + 11 * (n + 1) ≤ 100 → ∀ w ∈ waysF n fs ar st, WayOk w := by
  intro n
  induction n with
  | zero =>
    intro b fs ar st h hs hb w hw
    unfold waysF at hw
    obtain ⟨f, hf, hw⟩ := List.mem_flatMap.mp hw
    rcases List.mem_singleton.mp hw with rfl
    obtain ⟨nm, rl, kd, rfl, ek, en, hn, _, hk⟩ := fok_parts (h.2.2.1 f hf)
    have h1 : Step (b + 11) (stepB st (nameD (.tup [.str nm, .str rl, kd])) (ruleD (.tup [.str nm, .str rl, kd]))) := stepB_step hs (by rw [en]; exact hn.1)
    exact ⟨_, _, _, rfl, h1.mono (by omega)⟩
  | succ n ih =>
    intro b fs ar st h hs hb w hw
    unfold waysF at hw
    obtain ⟨f, hf, hw⟩ := List.mem_flatMap.mp hw
    obtain ⟨nm, rl, kd, rfl, ek, en, hn, _, hk⟩ := fok_parts (h.2.2.1 f hf)
    have h1 : Step (b + 11) (stepB st (nameD (.tup [.str nm, .str rl, kd])) (ruleD (.tup [.str nm, .str rl, kd]))) := stepB_step hs (by rw [en]; exact hn.1)
    rw [ek] at hw
    cases kd with
    | str k =>
      rcases List.mem_singleton.mp hw with rfl
      exact ⟨_, _, _, rfl, h1.mono (by omega)⟩
    | tup g => exact ih (b + 11) g _ _ hk h1 (by omega) w hw
    | _ => exact hk.elim
end K01
set_option Elab.async false
set_option linter.all false
set_option maxRecDepth 100000
set_option maxHeartbeats 4000000
namespace FR
open PySem PySem.Spec L2
def oneF : Nat → List D → D → D → List D
  | 0, ar, st, f => [.tup [.tup (ar ++ [stepB st (nameD f) (ruleD f)]), kindD f]]
  | n + 1, ar, st, f => match kindD f with
    | .tup g => waysF n g (ar ++ [stepB st (nameD f) (ruleD f)]) (stepB st (nameD f) (ruleD f))
    | kd => [.tup [.tup (ar ++ [stepB st (nameD f) (ruleD f)]), kd]]
theorem ways_one {n : Nat} {fs ar : List D} {st : D} : waysF n fs ar st = fs.flatMap (oneF n ar st) := by
  cases n <;> rfl
theorem flat_take {n : Nat} {fs ar : List D} {st f : D} {i : Nat} (h : fs[i]? = some f) : (fs.take (i + 1)).flatMap (oneF n ar st) = (fs.take i).flatMap (oneF n ar st) ++ oneF n ar st f := by
  rw [List.take_add_one, h, List.flatMap_append]
  simp
theorem flat_le {n : Nat} {fs ar : List D} {st : D} {i : Nat} : ((fs.take i).flatMap (oneF n ar st)).length ≤ (waysF n fs ar st).length := by
  rw [ways_one]
  conv => rhs; rw [← List.take_append_drop i fs, List.flatMap_append, List.length_append]
  omega
end FR
namespace K01
open PySem PySem.Spec L2 FR
def RecW (rec : List D → List O → Rs D) (n : Nat) : Prop := ∀ (fs ar0 : List D) (st : D) (m : List O), FsOk (KOk n) fs → Step (11 * (ar0.length + 1)) st → ar0.length + 1 + n ≤ 3 → leaves n fs ≤ 12 →
  ∃ m', rec [.tup fs, .tup (ar0 ++ [st])] m = .ok (.lst (waysF n fs (ar0 ++ [st]) st)) m' ∧ Fr m m'
def LoopW (rec : List D → List O → Rs D) : FS := (sSeq (sSet 6 (fTup (aStar (fVar 1) (aCons (fCB o_step_below (aCons (fBin gIx (fVar 1) (fUn gNeg (fC (.int 1)))) (aCons (fVar 3) (aCons (fVar 4) aNil)))) aNil))))
    (sIf (tVal (fBin gIs (fCB bType (aCons (fVar 5) aNil)) (fC (.ty "tuple")))) (sExp (fExt (fVar 2) (aCons (fCB rec (aCons (fVar 5) (aCons (fVar 6) aNil))) aNil))) (sExp (fApp (fVar 2) (aCons (fTup (aCons (fVar 6) (aCons (fVar 5) aNil))) aNil)))))
theorem ways_body (rec : List D → List O → Rs D) : b_ways_within rec = (sSeq (sIf (tVal (fBin gGt (fCB bLen (aCons (fVar 1) aNil)) (fC c_MOST_DEEP))) (sRaise "BadSchema") sNx)
    (sSeq (sExp (fCB o_check_fields (aCons (fVar 0) aNil)))
    (sSeq (sSet 2 (fNew aNil))
    (sSeq (sFor (.tp [3, 4, 5]) (iAll (fVar 0)) (LoopW rec))
    (sSeq (sIf (tVal (fBin gGt (fCB bLen (aCons (fVar 2) aNil)) (fC c_MOST_LEAVES))) (sRaise "BadSchema") sNx)
    (sRet (fFrz (fVar 2)))))))) := rfl
theorem ways_turn {rec : List D → List O → Rs D} {n : Nat} (hr : ∀ n', n = n' + 1 → RecW rec n') {fs ar0 ws : List D} {st f : D} {mm : List O} {q : Nat} {x6 : Option D} (hs : Step (11 * (ar0.length + 1)) st) (ha : ar0.length + 1 + n ≤ 3) (hf : FOk (KOk n) f)
    (hq : mm[q]? = some (.lst ws)) (hw : ws.length + (oneF n (ar0 ++ [st]) st f).length ≤ 1000) (hw2 : (oneF n (ar0 ++ [st]) st f).length ≤ 12) :
    ∃ nm rl x6' mm', f = .tup [.str nm, .str rl, kindD f] ∧ LoopW rec [some (.tup fs), some (.tup (ar0 ++ [st])), some (.loc q), some (.str nm), some (.str rl), some (kindD f), x6] mm =
      .ok (.nx [some (.tup fs), some (.tup (ar0 ++ [st])), some (.loc q), some (.str nm), some (.str rl), some (kindD f), x6']) (mm'.set q (.lst (ws ++ oneF n (ar0 ++ [st]) st f))) ∧ Fr mm mm' := by
  obtain ⟨nm, rl, kd, rfl, ek, en, hn, hrl, hk⟩ := fok_parts hf
  have er : ruleD (.tup [.str nm, .str rl, kd]) = rl := rfl
  have hstep := step_ok (m := mm) (rl := rl) hs (by omega) hn.1 hrl
  have hst := stepB_step (rl := rl) hs hn.1
  have hl : (ar0 ++ [st] ++ [stepB st nm rl]).length ≤ 16777216 := by simp; omega
  have s1 : (sSet 6 (fTup (aStar (fVar 1) (aCons (fCB o_step_below (aCons (fBin gIx (fVar 1) (fUn gNeg (fC (.int 1)))) (aCons (fVar 3) (aCons (fVar 4) aNil)))) aNil)))) [some (.tup fs), some (.tup (ar0 ++ [st])), some (.loc q), some (.str nm), some (.str rl), some kd, x6] mm =
      .ok (.nx [some (.tup fs), some (.tup (ar0 ++ [st])), some (.loc q), some (.str nm), some (.str rl), some kd, some (.tup (ar0 ++ [st] ++ [stepB st nm rl]))]) mm := by
    simp only [sSet, Rs.sq, Rs.bind, fTup, aStar, aCons, aNil, fCB, fBin, fUn, fC, fVar, gNeg, List.getElem?_cons_zero, List.getElem?_cons_succ, derefS, gIx, atLast, hstep, if_pos hl]
    rfl
  rw [ek]
  refine ⟨nm, rl, some (.tup (ar0 ++ [st] ++ [stepB st nm rl])), ?_⟩
  cases kd with
  | str k =>
    have e1 : oneF n (ar0 ++ [st]) st (.tup [.str nm, .str rl, .str k]) = [.tup [.tup (ar0 ++ [st] ++ [stepB st nm rl]), .str k]] := by cases n <;> rfl
    refine ⟨mm, rfl, ?_, Fr.rfl'⟩
    rw [e1]
    refine (seq_nx s1).trans ((if_f (m' := mm) ?_).trans ?_)
    · simp only [tVal, fBin, fCB, aCons, aNil, fVar, fC, Rs.bind, List.getElem?_cons_zero, List.getElem?_cons_succ, bType, tyD, gIs, gIsW]
      rfl
    · have hlt : ws.length < 16777216 := by omega
      have hl2 : ∀ a b : D, [a, b].length ≤ 16777216 := fun a b => by simp
      simp only [sExp, fApp, Rs.sq, Rs.bind, fVar, fTup, aCons, aNil, List.getElem?_cons_zero, List.getElem?_cons_succ, derefL, hq, if_pos hlt, if_pos (hl2 _ _)]
  | tup g =>
    cases n with
    | zero => exact hk.elim
    | succ n =>
      have e1 : oneF (n + 1) (ar0 ++ [st]) st (.tup [.str nm, .str rl, .tup g]) = waysF n g (ar0 ++ [st] ++ [stepB st nm rl]) (stepB st nm rl) := rfl
      rw [e1] at hw hw2 ⊢
      have hk : FsOk (KOk n) g := hk
      obtain ⟨m', er, fr⟩ := hr n rfl g (ar0 ++ [st]) (stepB st nm rl) mm hk (by rw [List.length_append, List.length_singleton]; exact hst.mono (by omega)) (by rw [List.length_append, List.length_singleton]; omega) (by rw [← ways_len n g (ar0 ++ [st] ++ [stepB st nm rl]) (stepB st nm rl) hk]; omega)
      refine ⟨m', rfl, ?_, fr⟩
      refine (seq_nx s1).trans ((if_t (m' := mm) ?_).trans ?_)
      · simp only [tVal, fBin, fCB, aCons, aNil, fVar, fC, Rs.bind, List.getElem?_cons_zero, List.getElem?_cons_succ, bType, tyD, gIs, gIsW]
        rfl
      · have hlt : ws.length + (waysF n g (ar0 ++ [st] ++ [stepB st nm rl]) (stepB st nm rl)).length ≤ 16777216 := by omega
        have hq' := fr _ _ hq
        simp only [sExp, fExt, Rs.sq, Rs.bind, fVar, fCB, aCons, aNil, List.getElem?_cons_zero, List.getElem?_cons_succ, derefL, hq, er, hq', if_pos hlt]
  | _ => first | exact hk.elim | (cases n <;> exact hk.elim)
theorem ways_step {rec : List D → List O → Rs D} {n : Nat} (hr : ∀ n', n = n' + 1 → RecW rec n') : RecW (runF 7 (b_ways_within rec)) n := by
  intro fs ar0 st m h hs ha hlv
  obtain ⟨q, hq⟩ : ∃ q, m.length = q := ⟨_, rfl⟩
  have hwl := ways_len n fs (ar0 ++ [st]) st h
  have key := forL_inv (p := .tp [3, 4, 5]) (body := LoopW rec)
    (fun i r mm => ∃ x3 x4 x5 x6 : Option D, r = [some (.tup fs), some (.tup (ar0 ++ [st])), some (.loc q), x3, x4, x5, x6] ∧ mm[q]? = some (.lst ((fs.take i).flatMap (oneF n (ar0 ++ [st]) st))) ∧ Fr m mm)
    fs 0 [some (.tup fs), some (.tup (ar0 ++ [st])), some (.loc q), none, none, none, none] (m ++ [.lst []]) ⟨none, none, none, none, rfl, by rw [← hq]; exact getL, Fr.app⟩ ?_
  · obtain ⟨r', m', e, x3, x4, x5, x6, rfl, g1, g2⟩ := key
    rw [Nat.zero_add, List.take_length, ← ways_one] at g1
    refine ⟨m'.set q .dead, ?_, g2.set (by omega)⟩
    have s1 : (sIf (tVal (fBin gGt (fCB bLen (aCons (fVar 1) aNil)) (fC c_MOST_DEEP))) (sRaise "BadSchema") sNx) [some (.tup fs), some (.tup (ar0 ++ [st])), none, none, none, none, none] m = .ok (.nx [some (.tup fs), some (.tup (ar0 ++ [st])), none, none, none, none, none]) m := by
      refine (if_f (m' := m) ?_).trans rfl
      have hd : decide ((3 : Int) < ((ar0 ++ [st]).length : Int)) = false := decide_eq_false (by simp; omega)
      simp only [tVal, fBin, fCB, aCons, aNil, fVar, fC, Rs.bind, List.getElem?_cons_zero, List.getElem?_cons_succ, bLen, derefS, c_MOST_DEEP, gGt, gI, if_true, hd]
    have s2 : (sExp (fCB o_check_fields (aCons (fVar 0) aNil))) [some (.tup fs), some (.tup (ar0 ++ [st])), none, none, none, none, none] m = .ok (.nx [some (.tup fs), some (.tup (ar0 ++ [st])), none, none, none, none, none]) m := by
      simp only [sExp, Rs.sq, fCB, aCons, aNil, fVar, Rs.bind, List.getElem?_cons_zero, check_fields_ok h]
    have s3 : (sSet 2 (fNew aNil)) [some (.tup fs), some (.tup (ar0 ++ [st])), none, none, none, none, none] m = .ok (.nx [some (.tup fs), some (.tup (ar0 ++ [st])), some (.loc q), none, none, none, none]) (m ++ [.lst []]) := by
      rw [← hq]; simp [sSet, fNew, aNil, Rs.sq, Rs.bind]
    have s4 : (sFor (.tp [3, 4, 5]) (iAll (fVar 0)) (LoopW rec)) [some (.tup fs), some (.tup (ar0 ++ [st])), some (.loc q), none, none, none, none] (m ++ [.lst []]) = .ok (.nx [some (.tup fs), some (.tup (ar0 ++ [st])), some (.loc q), x3, x4, x5, x6]) m' := by
      simp only [sFor, iAll, fVar, Rs.bind, Rs.sq, List.getElem?_cons_zero, e]
    have s5 : (sIf (tVal (fBin gGt (fCB bLen (aCons (fVar 2) aNil)) (fC c_MOST_LEAVES))) (sRaise "BadSchema") sNx) [some (.tup fs), some (.tup (ar0 ++ [st])), some (.loc q), x3, x4, x5, x6] m' = .ok (.nx [some (.tup fs), some (.tup (ar0 ++ [st])), some (.loc q), x3, x4, x5, x6]) m' := by
      refine (if_f (m' := m') ?_).trans rfl
      have hd : decide ((12 : Int) < ((waysF n fs (ar0 ++ [st]) st).length : Int)) = false := decide_eq_false (by omega)
      simp only [tVal, fBin, fCB, aCons, aNil, fVar, fC, Rs.bind, List.getElem?_cons_zero, List.getElem?_cons_succ, bLen, derefS, g1, c_MOST_LEAVES, gGt, gI, if_true, hd]
    have s6 : b_ways_within rec [some (.tup fs), some (.tup (ar0 ++ [st])), none, none, none, none, none] m = .ok (.rt (.lst (waysF n fs (ar0 ++ [st]) st))) (m'.set q .dead) := by
      rw [ways_body]
      refine (seq_nx s1).trans ((seq_nx s2).trans ((seq_nx s3).trans ((seq_nx s4).trans ((seq_nx s5).trans ?_))))
      simp only [sRet, Rs.sq, fFrz, fUn, fVar, Rs.bind, List.getElem?_cons_zero, List.getElem?_cons_succ, gFrz, g1]
    show runF 7 (b_ways_within rec) [.tup fs, .tup (ar0 ++ [st])] m = _
    unfold runF
    rw [show ([D.tup fs, .tup (ar0 ++ [st])].map some ++ List.replicate (7 - [D.tup fs, .tup (ar0 ++ [st])].length) none) = [some (.tup fs), some (.tup (ar0 ++ [st])), none, none, none, none, none] from rfl, s6]
  · rintro i d r mm hd ⟨x3, x4, x5, x6, rfl, g1, g2⟩
    rw [Nat.zero_add] at g1
    have hft := flat_take (n := n) (ar := ar0 ++ [st]) (st := st) hd
    have hle := flat_le (n := n) (fs := fs) (ar := ar0 ++ [st]) (st := st) (i := i + 1)
    rw [hft, List.length_append, hwl] at hle
    obtain ⟨nm, rl, x6', mm', ed, et, fr⟩ := ways_turn (fs := fs) (x6 := x6) hr hs ha (h.2.2.1 d (List.mem_of_getElem? hd)) g1 (by omega) (by omega)
    refine ⟨[some (.tup fs), some (.tup (ar0 ++ [st])), some (.loc q), some (.str nm), some (.str rl), some (kindD d), x6], _, _, ?_, et, _, _, _, _, rfl, ?_, (g2.trans fr).set (by omega)⟩
    · rw [ed]
      simp [asg, setAll, kindD]
    · rw [Nat.zero_add, hft]
      exact get_set (fr _ _ g1)
theorem ways_ok : ∀ (n f : Nat), n < f → RecW (r_ways_within f) n
  | n, 0, h => absurd h (by omega)
  | 0, f + 1, h => ways_step fun n' q => by omega
  | n + 1, f + 1, h => ways_step fun n' q => by
    have : n' = n := by omega
    subst this
    exact ways_ok n' f (by omega)
end K01
set_option Elab.async false
set_option linter.all false
set_option maxRecDepth 100000
set_option maxHeartbeats 4000000
namespace FR
open PySem PySem.Spec L2
def leafOf : D → D → D
  | .tup [a, b, c], kd => .tup [a, kd, b, c]
  | d, _ => d
def wayD : D → D
  | .tup [way, _] => way
  | d => d
def leafD : D → D
  | .tup [.tup way, kd] => leafOf (way.getLastD .non) kd
  | d => d
theorem FrB.fr {q : Nat} {m m' : List O} (h : FrB q m m') {k : Nat} (hk : k ≤ q) {m0 : List O} (hf : Fr m0 m) (hl : m0.length = k) : Fr m0 m' := fun i o e => h i o (by have := lt_of_get e; omega) (hf i o e)
end FR
namespace K01
open PySem PySem.Spec L2 FR
theorem leaf_of_ok {b : Nat} {st kd : D} {m : List O} (h : Step b st) : o_leaf_of [st, kd] m = .ok (leafOf st kd) m := by
  obtain ⟨p, r, z, rfl, _⟩ := h
  have h4 : [D.str p, kd, .int r, .int z].length ≤ 16777216 := by simp
  have e : b_leaf_of [some (.tup [.str p, .int r, .int z]), some kd, none, none, none] m = .ok (.rt (.tup [.str p, kd, .int r, .int z])) m := by
    refine (seq_nx (r' := [some (.tup [.str p, .int r, .int z]), some kd, some (.str p), some (.int r), some (.int z)]) (m' := m) rfl).trans ?_
    simp only [sRet, Rs.sq, fTup, aCons, aNil, fVar, Rs.bind, List.getElem?_cons_zero, List.getElem?_cons_succ, if_pos h4]
  show runF 5 b_leaf_of [.tup [.str p, .int r, .int z], kd] m = _
  unfold runF
  rw [show ([D.tup [.str p, .int r, .int z], kd].map some ++ List.replicate (5 - [D.tup [.str p, .int r, .int z], kd].length) none) = [some (.tup [.str p, .int r, .int z]), some kd, none, none, none] from rfl, e]
  rfl
theorem whole_step : Step (11 * (([] : List D).length + 1)) c_WHOLE_RECORD := ⟨"", 0, 0, rfl, by decide⟩
def waysS (n : Nat) (fs : List D) : List D := waysF n fs [c_WHOLE_RECORD] c_WHOLE_RECORD
theorem init_ok {n : Nat} {fs : List D} {m : List O} {q : Nat} (hn : n ≤ 2) (h : FsOk (KOk n) fs) (hl : leaves n fs ≤ 12) (hq : m[q]? = some (.ins "Schema" [] [])) :
    ∃ m', o_Schema [.loc q, .tup fs] m = .ok .non m' ∧ m'[q]? = some (.ins "Schema" ["fields", "ways", "leaves"] [.tup fs, .tup ((waysS n fs).map wayD), .tup ((waysS n fs).map leafD)]) ∧ FrB q m m' := by
  obtain ⟨m1, e1, f1⟩ := ways_ok n 6 (by omega) fs [] c_WHOLE_RECORD m h whole_step (by simp; omega) hl
  have wl : (waysS n fs).length ≤ 16777215 := by
    have := ways_len n fs [c_WHOLE_RECORD] c_WHOLE_RECORD h
    unfold waysS; omega
  have wok := ways_shape n 11 fs [c_WHOLE_RECORD] c_WHOLE_RECORD h whole_step (by omega)
  have q1 := f1 _ _ hq
  have s1 : (sSet 2 (fCB o_ways_within (aCons (fVar 1) (aCons (fTup (aCons (fC c_WHOLE_RECORD) aNil)) aNil)))) [some (.loc q), some (.tup fs), none, none, none] m = .ok (.nx [some (.loc q), some (.tup fs), some (.lst (waysS n fs)), none, none]) m1 := by
    have h1 : [c_WHOLE_RECORD].length ≤ 16777216 := by simp
    have e1' : o_ways_within [.tup fs, .tup [c_WHOLE_RECORD]] m = .ok (.lst (waysS n fs)) m1 := e1
    simp only [sSet, Rs.sq, fCB, aCons, aNil, fTup, fVar, fC, Rs.bind, List.getElem?_cons_zero, List.getElem?_cons_succ, if_pos h1, e1']
    rfl
  let r3 : Lc := [some (.loc q), some (.tup fs), some (.lst (waysS n fs)), none, none]
  have s2 : (sFldS "Schema" "fields" (fVar 0) (fVar 1)) r3 m1 = .ok (.nx r3) (m1.set q (.ins "Schema" ["fields"] [.tup fs])) := by
    simp only [sFldS, r3, Rs.sq, fVar, List.getElem?_cons_zero, List.getElem?_cons_succ, gPutF, q1]
    rfl
  have q2 := get_set (u := .ins "Schema" ["fields"] [.tup fs]) q1
  generalize hm2 : m1.set q (.ins "Schema" ["fields"] [.tup fs]) = m2 at s2 q2
  have f2 : FrB q m m2 := hm2 ▸ f1.b.trans FrB.put
  have c1 : compL (.tp [3, 4]) tTrue (fVar 3) r3 (waysS n fs) m2 = .ok ((waysS n fs).map wayD) m2 := by
    refine compL_map wayD _ fun w hw => ?_
    obtain ⟨way, st, kd, rfl, _⟩ := wok w hw
    exact ⟨[some (.loc q), some (.tup fs), some (.lst (waysS n fs)), some (.tup (way ++ [st])), some kd], rfl, rfl, rfl⟩
  have s3 : (sFldS "Schema" "ways" (fVar 0) (fCB bTuple (aCons (fLc [3, 4] (.tp [3, 4]) (iAll (fVar 2)) tTrue (fVar 3)) aNil))) r3 m2 = .ok (.nx r3) (m2.set q (.ins "Schema" ["fields", "ways"] [.tup fs, .tup ((waysS n fs).map wayD)])) := by
    have e : (fLc [3, 4] (.tp [3, 4]) (iAll (fVar 2)) tTrue (fVar 3)) r3 m2 = .ok (.lst ((waysS n fs).map wayD)) m2 := by
      simp only [fLc, iAll, fVar, r3, Rs.bind, List.getElem?_cons_zero, List.getElem?_cons_succ, if_pos wl, wipeL, List.set_cons_succ, List.set_cons_zero]
      rw [c1]
    simp only [sFldS, fCB, aCons, aNil, Rs.sq, Rs.bind, e, bTuple, derefL]
    simp only [r3, fVar, List.getElem?_cons_zero, gPutF, q2]
    rfl
  have q3 := get_set (u := .ins "Schema" ["fields", "ways"] [.tup fs, .tup ((waysS n fs).map wayD)]) q2
  generalize hm3 : m2.set q (.ins "Schema" ["fields", "ways"] [.tup fs, .tup ((waysS n fs).map wayD)]) = m3 at s3 q3
  have f3 : FrB q m m3 := hm3 ▸ f2.trans FrB.put
  have c2 : compL (.tp [3, 4]) tTrue (fCB o_leaf_of (aCons (fBin gIx (fVar 3) (fUn gNeg (fC (.int 1)))) (aCons (fVar 4) aNil))) r3 (waysS n fs) m3 = .ok ((waysS n fs).map leafD) m3 := by
    refine compL_map leafD _ fun w hw => ?_
    obtain ⟨way, st, kd, rfl, hst⟩ := wok w hw
    refine ⟨[some (.loc q), some (.tup fs), some (.lst (waysS n fs)), some (.tup (way ++ [st])), some kd], rfl, rfl, ?_⟩
    have hlast : leafD (.tup [.tup (way ++ [st]), kd]) = leafOf st kd := by
      simp [leafD]
    rw [hlast]
    simp only [fCB, aCons, aNil, fBin, fUn, fC, fVar, gNeg, Rs.bind, List.getElem?_cons_zero, List.getElem?_cons_succ, gIx, derefS, atLast]
    exact leaf_of_ok hst
  have s4 : (sFldS "Schema" "leaves" (fVar 0) (fCB bTuple (aCons (fLc [3, 4] (.tp [3, 4]) (iAll (fVar 2)) tTrue (fCB o_leaf_of (aCons (fBin gIx (fVar 3) (fUn gNeg (fC (.int 1)))) (aCons (fVar 4) aNil)))) aNil))) r3 m3 = .ok (.nx r3) (m3.set q (.ins "Schema" ["fields", "ways", "leaves"] [.tup fs, .tup ((waysS n fs).map wayD), .tup ((waysS n fs).map leafD)])) := by
    have e : (fLc [3, 4] (.tp [3, 4]) (iAll (fVar 2)) tTrue (fCB o_leaf_of (aCons (fBin gIx (fVar 3) (fUn gNeg (fC (.int 1)))) (aCons (fVar 4) aNil)))) r3 m3 = .ok (.lst ((waysS n fs).map leafD)) m3 := by
      have i1 : (iAll (fVar 2)) r3 m3 = .ok (waysS n fs) m3 := rfl
      simp only [fLc, i1, Rs.bind, if_pos wl]
      rw [show wipeL r3 [3, 4] = r3 from rfl, c2]
    simp only [sFldS, fCB, aCons, aNil, Rs.sq, Rs.bind] at e ⊢
    rw [e]
    simp only [bTuple, derefL, r3, fVar, List.getElem?_cons_zero, gPutF, q3]
    rfl
  refine ⟨_, ?_, get_set q3, f3.trans FrB.put⟩
  have s5 : b_Schema___init__ [some (.loc q), some (.tup fs), none, none, none] m = .ok (.nx r3) (m3.set q (.ins "Schema" ["fields", "ways", "leaves"] [.tup fs, .tup ((waysS n fs).map wayD), .tup ((waysS n fs).map leafD)])) :=
    (seq_nx s1).trans ((seq_nx s2).trans ((seq_nx s3).trans s4))
  show runF 5 b_Schema___init__ [.loc q, .tup fs] m = _
  unfold runF
  rw [show ([D.loc q, .tup fs].map some ++ List.replicate (5 - [D.loc q, .tup fs].length) none) = [some (.loc q), some (.tup fs), none, none, none] from rfl, s5]
theorem good_ok {n : Nat} {fs : List D} {m : List O} (hn : n ≤ 2) (h : FsOk (KOk n) fs) (hl : leaves n fs ≤ 12) : ∃ m', o__law_is_bad [.tup fs] m = .ok (.bl false) m' := by
  obtain ⟨m', e, hq, _⟩ := init_ok (m := m ++ [.ins "Schema" [] []]) (q := m.length) hn h hl getL
  have s1 : (sTry "BadSchema" (sExp (fFrz (fMake "Schema" o_Schema (aCons (fVar 0) aNil)))) (fun r m => if 1 < r.length then M__law_is_bad_0 r m else .stk)) [some (.tup fs), none] m = .ok (.nx [some (.tup fs), none]) (m'.set m.length .dead) := by
    simp only [sTry, sExp, Rs.sq, fFrz, fUn, fMake, aCons, aNil, fVar, Rs.bind, List.getElem?_cons_zero, e, gFrz, hq]
  refine ⟨m'.set m.length .dead, ?_⟩
  have s2 : b__law_is_bad [some (.tup fs), none] m = .ok (.rt (.bl false)) (m'.set m.length .dead) := (seq_nx s1).trans rfl
  show runF 2 b__law_is_bad [.tup fs] m = _
  unfold runF
  rw [show ([D.tup fs].map some ++ List.replicate (2 - [D.tup fs].length) none) = [some (.tup fs), none] from rfl, s2]
end K01
set_option Elab.async false
set_option linter.all false
set_option maxRecDepth 100000
set_option maxHeartbeats 4000000
namespace K01
open PySem PySem.Spec L2 FR
theorem runF_ex {n : Nat} {body : FS} {ds : List D} {m m' : List O} {c : Str} {r' : Lc} (h : body (ds.map some ++ List.replicate (n - ds.length) none) m = .ex c r' m') : runF n body ds m = .ex c m' := by
  unfold runF
  rw [h]
def Raises (o : List O → Rs D) : Prop := ∀ m, ∃ m', o m = .ex "BadSchema" m'
/-- ways_within raises -/
def WR (rec : List D → List O → Rs D) (d : D) (ar : List D) : Prop := Raises fun m => rec [d, .tup ar] m
def CR (d : D) : Prop := Raises fun m => o_check_fields [d] m
theorem seq_ex {a b : FS} {r r' : Lc} {m m' : List O} {c : Str} (h : a r m = .ex c r' m') : sSeq a b r m = .ex c r' m' := by unfold sSeq; rw [h]
theorem deep_test {d : D} {ar : List D} {m : List O} : (tVal (fBin gGt (fCB bLen (aCons (fVar 1) aNil)) (fC c_MOST_DEEP))) [some d, some (.tup ar), none, none, none, none, none] m = .ok (decide (3 < ar.length)) m := by
  have e : decide ((3 : Int) < (ar.length : Int)) = decide (3 < ar.length) := decide_eq_decide.mpr (by omega)
  simp only [tVal, fBin, fCB, aCons, aNil, fVar, fC, Rs.bind, List.getElem?_cons_zero, List.getElem?_cons_succ, bLen, derefS, c_MOST_DEEP, gGt, gI, if_true, e]
theorem wr_run {rec : List D → List O → Rs D} {d : D} {ar : List D} (h : ∀ m, ∃ r' m', b_ways_within rec [some d, some (.tup ar), none, none, none, none, none] m = .ex "BadSchema" r' m') : WR (runF 7 (b_ways_within rec)) d ar := by
  intro m
  obtain ⟨r', m', e⟩ := h m
  refine ⟨m', ?_⟩
  show runF 7 (b_ways_within rec) [d, .tup ar] m = _
  unfold runF
  rw [show ([d, .tup ar].map some ++ List.replicate (7 - [d, .tup ar].length) none) = [some d, some (.tup ar), none, none, none, none, none] from rfl, e]
/-- the fields themselves are no fields -/
theorem wr_check {rec : List D → List O → Rs D} {d : D} {ar : List D} (ha : ar.length ≤ 3) (h : CR d) : WR (runF 7 (b_ways_within rec)) d ar := wr_run fun m => by
  obtain ⟨m', e⟩ := h m
  refine ⟨?r, m', ?h⟩
  case h =>
  rw [ways_body]
  refine (seq_nx (m' := m) ((if_f (m' := m) ?_).trans rfl)).trans (seq_ex ?_)
  · rw [deep_test, decide_eq_false (by omega)]
  · have e : o_check_fields [d] m = .ex "BadSchema" m' := e
    simp only [sExp, Rs.sq, fCB, aCons, aNil, fVar, Rs.bind, List.getElem?_cons_zero, e]
    rfl
theorem wr_deep {rec : List D → List O → Rs D} {d : D} {ar : List D} (ha : 3 < ar.length) : WR (runF 7 (b_ways_within rec)) d ar := wr_run fun m => by
  refine ⟨[some d, some (.tup ar), none, none, none, none, none], m, ?_⟩
  rw [ways_body]
  refine seq_ex ((if_t (m' := m) ?_).trans rfl)
  rw [deep_test, decide_eq_true (by omega)]
/-- a group in it is none -/
theorem wr_group {rec : List D → List O → Rs D} {ar0 : List D} {st : D} {nm rl : Str} {g : List D} (ha : ar0.length < 3) (hs : Step 100 st) (hn : nm.length ≤ 10) (hr : rl ∈ RULES3) (hc : ∀ m, o_check_fields [.tup [.tup [.str nm, .str rl, .tup g]]] m = .ok .non m)
    (h : WR rec (.tup g) (ar0 ++ [st] ++ [stepB st nm rl])) : WR (runF 7 (b_ways_within rec)) (.tup [.tup [.str nm, .str rl, .tup g]]) (ar0 ++ [st]) := wr_run fun m => by
  obtain ⟨m', e⟩ := h (m ++ [.lst []])
  have e : rec [.tup g, .tup (ar0 ++ [st] ++ [stepB st nm rl])] (m ++ [.lst []]) = .ex "BadSchema" m' := e
  have hstep := step_ok (m := m ++ [.lst []]) (rl := rl) hs (by omega) hn hr
  have hl : (ar0 ++ [st] ++ [stepB st nm rl]).length ≤ 16777216 := by simp; omega
  have hq0 : (m ++ [O.lst []])[m.length]? = some (.lst []) := getL
  refine ⟨?r, m', ?h⟩
  case h =>
  rw [ways_body]
  refine (seq_nx (m' := m) ((if_f (m' := m) ?_).trans rfl)).trans ((seq_nx (m' := m) (r' := [some (.tup [.tup [.str nm, .str rl, .tup g]]), some (.tup (ar0 ++ [st])), none, none, none, none, none]) ?_).trans ((seq_nx (r' := [some (.tup [.tup [.str nm, .str rl, .tup g]]), some (.tup (ar0 ++ [st])), some (.loc m.length), none, none, none, none]) (m' := m ++ [.lst []]) ?_).trans (seq_ex ?_)))
  · rw [deep_test, decide_eq_false (by simp; omega)]
  · simp only [sExp, Rs.sq, fCB, aCons, aNil, fVar, Rs.bind, List.getElem?_cons_zero, hc]
  · simp [sSet, fNew, aNil, Rs.sq, Rs.bind]
  · have s1 : (sSet 6 (fTup (aStar (fVar 1) (aCons (fCB o_step_below (aCons (fBin gIx (fVar 1) (fUn gNeg (fC (.int 1)))) (aCons (fVar 3) (aCons (fVar 4) aNil)))) aNil)))) [some (.tup [.tup [.str nm, .str rl, .tup g]]), some (.tup (ar0 ++ [st])), some (.loc m.length), some (.str nm), some (.str rl), some (.tup g), none] (m ++ [.lst []]) =
        .ok (.nx [some (.tup [.tup [.str nm, .str rl, .tup g]]), some (.tup (ar0 ++ [st])), some (.loc m.length), some (.str nm), some (.str rl), some (.tup g), some (.tup (ar0 ++ [st] ++ [stepB st nm rl]))]) (m ++ [.lst []]) := by
      simp only [sSet, Rs.sq, Rs.bind, fTup, aStar, aCons, aNil, fCB, fBin, fUn, fC, fVar, gNeg, List.getElem?_cons_zero, List.getElem?_cons_succ, derefS, gIx, atLast, hstep, if_pos hl]
      rfl
    have s2 : LoopW rec [some (.tup [.tup [.str nm, .str rl, .tup g]]), some (.tup (ar0 ++ [st])), some (.loc m.length), some (.str nm), some (.str rl), some (.tup g), none] (m ++ [.lst []]) = .ex "BadSchema" [some (.tup [.tup [.str nm, .str rl, .tup g]]), some (.tup (ar0 ++ [st])), some (.loc m.length), some (.str nm), some (.str rl), some (.tup g), some (.tup (ar0 ++ [st] ++ [stepB st nm rl]))] m' := by
      refine (seq_nx s1).trans ((if_t (m' := m ++ [.lst []]) ?_).trans ?_)
      · simp only [tVal, fBin, fCB, aCons, aNil, fVar, fC, Rs.bind, List.getElem?_cons_zero, List.getElem?_cons_succ, bType, tyD, gIs, gIsW]
        rfl
      · simp only [sExp, fExt, Rs.sq, Rs.bind, fVar, fCB, aCons, aNil, List.getElem?_cons_zero, List.getElem?_cons_succ, derefL, hq0, e]
    have e0 : asg (.tp [3, 4, 5]) (.tup [.str nm, .str rl, .tup g]) [some (.tup [.tup [.str nm, .str rl, .tup g]]), some (.tup (ar0 ++ [st])), some (.loc m.length), none, none, none, none] = some [some (.tup [.tup [.str nm, .str rl, .tup g]]), some (.tup (ar0 ++ [st])), some (.loc m.length), some (.str nm), some (.str rl), some (.tup g), none] := rfl
    simp only [sFor, iAll, fVar, Rs.bind, Rs.sq, List.getElem?_cons_zero, forL, e0, s2]
    rfl
theorem wr_many {rec : List D → List O → Rs D} {fs ar0 : List D} {st : D} (h : FsOk (KOk 0) fs) (hl : 12 < fs.length) (hl2 : fs.length ≤ 500) (ha : ar0.length < 3) (hs : Step (11 * (ar0.length + 1)) st) : WR (runF 7 (b_ways_within rec)) (.tup fs) (ar0 ++ [st]) := wr_run fun m => by
  have hone : ∀ f, (oneF 0 (ar0 ++ [st]) st f).length = 1 := fun f => rfl
  have hws : ∀ i, ((fs.take i).flatMap (oneF 0 (ar0 ++ [st]) st)).length = min i fs.length := fun i => by
    have hall : ∀ l : List D, (l.flatMap (oneF 0 (ar0 ++ [st]) st)).length = l.length := fun l => by
      induction l with
      | nil => rfl
      | cons x xs ih => rw [List.flatMap_cons, List.length_append, ih, hone]; simp; omega
    rw [hall, List.length_take]
  have key := forL_inv (p := .tp [3, 4, 5]) (body := LoopW rec)
    (fun i r mm => ∃ x3 x4 x5 x6 : Option D, r = [some (.tup fs), some (.tup (ar0 ++ [st])), some (.loc m.length), x3, x4, x5, x6] ∧ mm[m.length]? = some (.lst ((fs.take i).flatMap (oneF 0 (ar0 ++ [st]) st))))
    fs 0 [some (.tup fs), some (.tup (ar0 ++ [st])), some (.loc m.length), none, none, none, none] (m ++ [.lst []]) ⟨none, none, none, none, rfl, getL⟩ ?_
  · obtain ⟨r', m', e, x3, x4, x5, x6, rfl, g1⟩ := key
    rw [Nat.zero_add, List.take_length] at g1
    have hlen : (fs.flatMap (oneF 0 (ar0 ++ [st]) st)).length = fs.length := by
      have := hws fs.length
      rw [List.take_length] at this
      omega
    refine ⟨[some (.tup fs), some (.tup (ar0 ++ [st])), some (.loc m.length), x3, x4, x5, x6], m', ?_⟩
    rw [ways_body]
    refine (seq_nx (m' := m) ((if_f (m' := m) ?_).trans rfl)).trans ((seq_nx (m' := m) (r' := [some (.tup fs), some (.tup (ar0 ++ [st])), none, none, none, none, none]) ?_).trans ((seq_nx (r' := [some (.tup fs), some (.tup (ar0 ++ [st])), some (.loc m.length), none, none, none, none]) (m' := m ++ [.lst []]) ?_).trans ((seq_nx (r' := [some (.tup fs), some (.tup (ar0 ++ [st])), some (.loc m.length), x3, x4, x5, x6]) (m' := m') ?_).trans (seq_ex ((if_t (m' := m') ?_).trans rfl)))))
    · rw [deep_test, decide_eq_false (by simp; omega)]
    · simp only [sExp, Rs.sq, fCB, aCons, aNil, fVar, Rs.bind, List.getElem?_cons_zero, check_fields_ok h]
    · simp [sSet, fNew, aNil, Rs.sq, Rs.bind]
    · simp only [sFor, iAll, fVar, Rs.bind, Rs.sq, List.getElem?_cons_zero, e]
    · have hd : decide ((12 : Int) < ((fs.flatMap (oneF 0 (ar0 ++ [st]) st)).length : Int)) = true := decide_eq_true (by omega)
      simp only [tVal, fBin, fCB, aCons, aNil, fVar, fC, Rs.bind, List.getElem?_cons_zero, List.getElem?_cons_succ, bLen, derefS, g1, c_MOST_LEAVES, gGt, gI, if_true, hd]
  · rintro i d r mm hd ⟨x3, x4, x5, x6, rfl, g1⟩
    rw [Nat.zero_add] at g1
    have hft := flat_take (n := 0) (ar := ar0 ++ [st]) (st := st) hd
    obtain ⟨nm, rl, x6', mm', ed, et, fr⟩ := ways_turn (n := 0) (rec := rec) (fs := fs) (x6 := x6) (fun n' q => by omega) hs (by omega) (h.2.2.1 d (List.mem_of_getElem? hd)) g1 (by rw [hws, hone]; omega) (by rw [hone]; omega)
    refine ⟨[some (.tup fs), some (.tup (ar0 ++ [st])), some (.loc m.length), some (.str nm), some (.str rl), some (kindD d), x6], _, _, ?_, et, _, _, _, _, rfl, ?_⟩
    · rw [ed]
      simp [asg, setAll, kindD]
    · rw [Nat.zero_add, hft]
      exact get_set (fr _ _ g1)
def Bad (d : D) : Prop := ∀ m, ∃ m', o__law_is_bad [d] m = .ok (.bl true) m'
theorem bad_of {d : D} (h : WR (r_ways_within 6) d [c_WHOLE_RECORD]) : Bad d := fun m => by
  obtain ⟨m', e⟩ := h (m ++ [.ins "Schema" [] []])
  have e : o_ways_within [d, .tup [c_WHOLE_RECORD]] (m ++ [.ins "Schema" [] []]) = .ex "BadSchema" m' := e
  have h1 : [c_WHOLE_RECORD].length ≤ 16777216 := by simp
  have s1 : o_Schema [.loc m.length, d] (m ++ [.ins "Schema" [] []]) = .ex "BadSchema" m' := by
    have s2 : b_Schema___init__ [some (.loc m.length), some d, none, none, none] (m ++ [.ins "Schema" [] []]) = .ex "BadSchema" [some (.loc m.length), some d, none, none, none] m' := by
      refine seq_ex ?_
      simp only [sSet, Rs.sq, fCB, aCons, aNil, fTup, fVar, fC, Rs.bind, List.getElem?_cons_zero, List.getElem?_cons_succ, if_pos h1, e]
    exact runF_ex (n := 5) (ds := [.loc m.length, d]) s2
  refine ⟨m', ?_⟩
  have s3 : (sTry "BadSchema" (sExp (fFrz (fMake "Schema" o_Schema (aCons (fVar 0) aNil)))) (fun r m => if 1 < r.length then M__law_is_bad_0 r m else .stk)) [some d, none] m = .ok (.rt (.bl true)) m' := by
    simp [sTry, sExp, Rs.sq, fFrz, fUn, fMake, aCons, aNil, fVar, Rs.bind, s1, M__law_is_bad_0, sRet, fC, noex, gone]
  have s4 : b__law_is_bad [some d, none] m = .ok (.rt (.bl true)) m' := by
    unfold b__law_is_bad sSeq
    rw [s3]
  show runF 2 b__law_is_bad [d] m = _
  unfold runF
  rw [show ([d].map some ++ List.replicate (2 - [d].length) none) = [some d, none] from rfl, s4]
theorem test1 : CR (.tup []) := fun m => ⟨m, rfl⟩
theorem test2 : CR (.tup [.tup [.str "a b", .str "required", .str "int"]]) := fun m => ⟨m, rfl⟩
theorem test3 : CR (.tup [.tup [.str "z9", .str "required", .str "int"], .tup [.str "z9", .str "required", .str "int"]]) := fun m => ⟨m, rfl⟩
end K01
set_option Elab.async false
set_option linter.all false
set_option maxRecDepth 100000
set_option maxHeartbeats 4000000
namespace K01
open PySem PySem.Spec L2 FR
def good : D := .tup [.str "z9", .str "required", .str "int"]
def inG (b : D) : D := .tup [.tup [.str "g", .str "repeated", b]]
def wrong0 : List D := [.tup [], .lst [good], .tup [.tup []], .tup [good, good], .tup [.lst [.str "z9", .str "required", .str "int"]], .tup [.tup [.str "z9", .str "required"]], .tup [.tup [.str "z9", .str "required", .str "int", .int 1]], .non, .tup [.non]]
def names13 : List D := [.str "", .str "A", .str "9z", .str "_z", .str "abcdefghijk", .str "a b", .str "aB", .str "a.b", .str "a-b", .str "a_B", .str "a9.", .int 5, .non]
def rules4 : List D := [.str "needed", .str "", .non, .int 1]
def kinds7 : List D := [.str "float", .str "", .non, .int 7, .tup [], .lst [good], .tup [good, good]]
def wName (x : D) : D := .tup [.tup [x, .str "required", .str "int"]]
def wRule (x : D) : D := .tup [.tup [.str "z9", x, .str "int"]]
def wKind (x : D) : D := .tup [.tup [.str "z9", .str "optional", x]]
def wrong : List D := wrong0 ++ names13.map wName ++ rules4.map wRule ++ kinds7.map wKind
def deep : D := .tup [.tup [.str "p", .str "optional", .tup [.tup [.str "q", .str "repeated", .tup [.tup [.str "r", .str "optional", .str "int"]]]]]]
theorem whole_100 : Step 100 c_WHOLE_RECORD := ⟨"", 0, 0, rfl, by decide⟩
theorem in_rules_rep : (("repeated" : Str)) ∈ RULES3 := by decide
theorem in_rules_opt : (("optional" : Str)) ∈ RULES3 := by decide
theorem in_rules_req : (("required" : Str)) ∈ RULES3 := by decide
/-- at the top: the fields are none -/
theorem bad_top {d : D} (h : CR d) : Bad d := bad_of (wr_check (by decide) h)
/-- .. in a group -/
theorem bad_in1 {g : List D} (h : CR (.tup g)) (hc : ∀ m, o_check_fields [inG (.tup g)] m = .ok .non m) : Bad (inG (.tup g)) :=
  bad_of (wr_group (ar0 := []) (by decide) whole_100 (by decide) in_rules_rep hc (wr_check (by decide) h))
theorem bad_kind {g : List D} (h : CR (.tup g)) (hc : ∀ m, o_check_fields [wKind (.tup g)] m = .ok .non m) : Bad (wKind (.tup g)) :=
  bad_of (wr_group (ar0 := []) (by decide) whole_100 (by decide) in_rules_opt hc (wr_check (by decide) h))
theorem bad_kind_in {g : List D} (h : CR (.tup g)) (hc : ∀ m, o_check_fields [wKind (.tup g)] m = .ok .non m) (hd : ∀ m, o_check_fields [inG (wKind (.tup g))] m = .ok .non m) : Bad (inG (wKind (.tup g))) :=
  bad_of (wr_group (ar0 := []) (by decide) whole_100 (by decide) in_rules_rep hd (wr_group (ar0 := [c_WHOLE_RECORD]) (by decide) ((stepB_step (b := 0) ⟨"", 0, 0, rfl, by decide⟩ (by decide)).mono (by decide)) (by decide) in_rules_opt hc (wr_check (by decide) h)))
theorem all_wrong0 : ∀ b ∈ wrong0, Bad b ∧ Bad (inG b) := by
  unfold wrong0
  simp only [List.forall_mem_cons]
  refine ⟨⟨bad_top fun m => ⟨m, rfl⟩, bad_in1 (fun m => ⟨m, rfl⟩) fun m => rfl⟩, ⟨bad_top fun m => ⟨m, rfl⟩, bad_top fun m => ⟨m, rfl⟩⟩, ⟨bad_top fun m => ⟨m, rfl⟩, bad_in1 (fun m => ⟨m, rfl⟩) fun m => rfl⟩, ⟨bad_top fun m => ⟨m, rfl⟩, bad_in1 (fun m => ⟨m, rfl⟩) fun m => rfl⟩, ⟨bad_top fun m => ⟨m, rfl⟩, bad_in1 (fun m => ⟨m, rfl⟩) fun m => rfl⟩, ⟨bad_top fun m => ⟨m, rfl⟩, bad_in1 (fun m => ⟨m, rfl⟩) fun m => rfl⟩, ⟨bad_top fun m => ⟨m, rfl⟩, bad_in1 (fun m => ⟨m, rfl⟩) fun m => rfl⟩, ⟨bad_top fun m => ⟨m, rfl⟩, bad_top fun m => ⟨m, rfl⟩⟩, ⟨bad_top fun m => ⟨m, rfl⟩, bad_in1 (fun m => ⟨m, rfl⟩) fun m => rfl⟩, ?_⟩
  intro b h
  cases h
theorem all_names : ∀ x ∈ names13, Bad (wName x) ∧ Bad (inG (wName x)) := by
  unfold names13
  simp only [List.forall_mem_cons]
  refine ⟨?_, ?_, ?_, ?_, ?_, ?_, ?_, ?_, ?_, ?_, ?_, ?_, ?_, fun b h => by cases h⟩ <;> exact ⟨bad_top fun m => ⟨m, rfl⟩, bad_in1 (fun m => ⟨m, rfl⟩) fun m => rfl⟩
theorem all_rules : ∀ x ∈ rules4, Bad (wRule x) ∧ Bad (inG (wRule x)) := by
  unfold rules4
  simp only [List.forall_mem_cons]
  refine ⟨?_, ?_, ?_, ?_, fun b h => by cases h⟩ <;> exact ⟨bad_top fun m => ⟨m, rfl⟩, bad_in1 (fun m => ⟨m, rfl⟩) fun m => rfl⟩
theorem all_kinds : ∀ x ∈ kinds7, Bad (wKind x) ∧ Bad (inG (wKind x)) := by
  unfold kinds7
  simp only [List.forall_mem_cons]
  refine ⟨⟨bad_top fun m => ⟨m, rfl⟩, bad_in1 (fun m => ⟨m, rfl⟩) fun m => rfl⟩, ⟨bad_top fun m => ⟨m, rfl⟩, bad_in1 (fun m => ⟨m, rfl⟩) fun m => rfl⟩, ⟨bad_top fun m => ⟨m, rfl⟩, bad_in1 (fun m => ⟨m, rfl⟩) fun m => rfl⟩, ⟨bad_top fun m => ⟨m, rfl⟩, bad_in1 (fun m => ⟨m, rfl⟩) fun m => rfl⟩,
    ⟨bad_kind (fun m => ⟨m, rfl⟩) fun m => rfl, bad_kind_in (fun m => ⟨m, rfl⟩) (fun m => rfl) fun m => rfl⟩, ⟨bad_top fun m => ⟨m, rfl⟩, bad_in1 (fun m => ⟨m, rfl⟩) fun m => rfl⟩, ⟨bad_kind (fun m => ⟨m, rfl⟩) fun m => rfl, bad_kind_in (fun m => ⟨m, rfl⟩) (fun m => rfl) fun m => rfl⟩, fun b h => by cases h⟩
theorem all_wrong : ∀ b ∈ wrong, Bad b ∧ Bad (inG b) := by
  intro b h
  unfold wrong at h
  rcases List.mem_append.mp h with h | h
  · rcases List.mem_append.mp h with h | h
    · rcases List.mem_append.mp h with h | h
      · exact all_wrong0 b h
      · obtain ⟨x, hx, rfl⟩ := List.mem_map.mp h
        exact all_names x hx
    · obtain ⟨x, hx, rfl⟩ := List.mem_map.mp h
      exact all_rules x hx
  · obtain ⟨x, hx, rfl⟩ := List.mem_map.mp h
    exact all_kinds x hx
end K01
set_option Elab.async false
set_option linter.all false
set_option maxRecDepth 100000
set_option maxHeartbeats 4000000
namespace K01
open PySem PySem.Spec L2 FR
def leafO (s : Str) : D := .tup [.str s, .str "optional", .str "flag"]
def manyS : List Str := ["a", "b", "c", "d", "e", "f", "g", "h", "i", "j", "k", "l", "m"]
def manyL : List D := manyS.map leafO
theorem nm_letter : ∀ s ∈ manyS, nmOk s := by
  unfold manyS
  simp only [List.forall_mem_cons]
  exact ⟨⟨by decide, fun _ => rfl⟩, ⟨by decide, fun _ => rfl⟩, ⟨by decide, fun _ => rfl⟩, ⟨by decide, fun _ => rfl⟩, ⟨by decide, fun _ => rfl⟩, ⟨by decide, fun _ => rfl⟩, ⟨by decide, fun _ => rfl⟩, ⟨by decide, fun _ => rfl⟩, ⟨by decide, fun _ => rfl⟩, ⟨by decide, fun _ => rfl⟩, ⟨by decide, fun _ => rfl⟩, ⟨by decide, fun _ => rfl⟩, ⟨by decide, fun _ => rfl⟩, fun b h => by cases h⟩
theorem flag_in : (("flag" : Str)) ∈ KINDS3 := by decide
theorem int_in : (("int" : Str)) ∈ KINDS3 := by decide
theorem fok_leaf {s : Str} (h : nmOk s) : FOk (KOk 0) (leafO s) := ⟨s, _, _, rfl, h, in_rules_opt, flag_in⟩
theorem fs_letters {l : List Str} (h : ∀ s ∈ l, s ∈ manyS) (h0 : l ≠ []) (hl : l.length ≤ 100) (hn : l.Nodup) : FsOk (KOk 0) (l.map leafO) := by
  refine ⟨by simpa using h0, by rw [List.length_map]; omega, fun d hd => ?_, ?_⟩
  · obtain ⟨s, hs, rfl⟩ := List.mem_map.mp hd
    exact fok_leaf (nm_letter s (h s hs))
  · rw [List.map_map]
    have e : l.map (nameD ∘ leafO) = l := by
      have : nameD ∘ leafO = id := rfl
      rw [this, List.map_id]
    rw [e]
    exact hn
theorem many_ok : FsOk (KOk 0) manyL := fs_letters (fun s h => h) (by decide) (by decide) (by decide +kernel)
theorem many12_ok : FsOk (KOk 0) ((manyS.take 12).map leafO) := fs_letters (fun s h => List.mem_of_mem_take h) (by decide) (by decide) (by decide +kernel)
theorem many1_ok : FsOk (KOk 0) ((manyS.drop 1).map leafO) := fs_letters (fun s h => List.mem_of_mem_drop h) (by decide) (by decide) (by decide +kernel)
theorem fs_one {n : Nat} {nm rl : Str} {kd : D} (hn : nmOk nm) (hr : rl ∈ RULES3) (hk : KOk n kd) : FsOk (KOk n) [.tup [.str nm, .str rl, kd]] :=
  ⟨by simp, by simp, fun d hd => by rcases List.mem_singleton.mp hd with rfl; exact ⟨_, _, _, rfl, hn, hr, hk⟩, by simp⟩
theorem bad_deep : Bad (.tup [.tup [.str "o", .str "required", deep]]) :=
  bad_of (wr_group (ar0 := []) (by decide) whole_100 (by decide) in_rules_req (fun m => rfl)
    (wr_group (ar0 := [c_WHOLE_RECORD]) (by decide) ((stepB_step (b := 0) ⟨"", 0, 0, rfl, by decide⟩ (by decide)).mono (by decide)) (by decide) in_rules_opt (fun m => rfl)
      (wr_group (ar0 := [c_WHOLE_RECORD, _]) (by simp) ((stepB_step (b := 11) (stepB_step (b := 0) ⟨"", 0, 0, rfl, by decide⟩ (by decide)) (by decide)).mono (by decide)) (by decide) in_rules_rep (fun m => rfl) (wr_deep (by simp)))))
theorem bad_many : Bad (.tup manyL) := bad_of (wr_many (ar0 := []) many_ok (by decide) (by decide) (by decide) whole_step)
theorem bad_gmany : Bad (.tup [.tup [.str "g", .str "optional", .tup manyL]]) :=
  bad_of (wr_group (ar0 := []) (by decide) whole_100 (by decide) in_rules_opt (fun m => rfl) (wr_many (ar0 := [c_WHOLE_RECORD]) many_ok (by decide) (by decide) (by decide) ((stepB_step (b := 0) ⟨"", 0, 0, rfl, by decide⟩ (by decide)).mono (by decide))))
theorem nm_r : nmOk "r" := ⟨by decide, fun _ => rfl⟩
theorem nm_p : nmOk "p" := ⟨by decide, fun _ => rfl⟩
theorem nm_q : nmOk "q" := ⟨by decide, fun _ => rfl⟩
theorem nm_a10 : nmOk "aaaaaaaaaa" := ⟨by decide, fun _ => rfl⟩
theorem good_deep (m : List O) : ∃ m', o__law_is_bad [deep] m = .ok (.bl false) m' :=
  good_ok (n := 2) (by decide) (fs_one nm_p in_rules_opt (fs_one (n := 1) nm_q in_rules_rep (fs_one (n := 0) nm_r in_rules_opt int_in))) (by decide +kernel)
theorem good_12 (m : List O) : ∃ m', o__law_is_bad [.tup ((manyS.take 12).map leafO)] m = .ok (.bl false) m' := good_ok (n := 0) (by decide) many12_ok (by decide +kernel)
theorem good_a10 (m : List O) : ∃ m', o__law_is_bad [.tup [.tup [.str "aaaaaaaaaa", .str "repeated", .tup ((manyS.drop 1).map leafO)]]] m = .ok (.bl false) m' :=
  good_ok (n := 1) (by decide) (fs_one (n := 1) nm_a10 in_rules_rep many1_ok) (by decide +kernel)
theorem app_loop {i q : Nat} {f : FE} {R : Lc} (w : D → D) (h3 : ∀ y, (R.set i y)[3]? = some (some (.loc q))) (hf : ∀ x m, f (R.set i (some x)) m = .ok (w x) m) (xs : List D) (y : Option D) (m : List O) (ws : List D) (hq : m[q]? = some (.lst ws)) (hb : ws.length + xs.length ≤ 1000) :
    ∃ y' m', forL (.nm i) (sExp (fApp (fVar 3) (aCons f aNil))) xs (R.set i y) m = .ok (.nx (R.set i y')) m' ∧ m'[q]? = some (.lst (ws ++ xs.map w)) := by
  obtain ⟨r', m', e, y', rfl, g⟩ := forL_inv (p := .nm i) (body := (sExp (fApp (fVar 3) (aCons f aNil)))) (fun j r mm => ∃ y, r = R.set i y ∧ mm[q]? = some (.lst (ws ++ (xs.take j).map w))) xs 0 (R.set i y) m ⟨y, rfl, by simpa using hq⟩ fun j d r mm hd ⟨y1, hr, g⟩ => by
    subst hr
    rw [Nat.zero_add] at g
    refine ⟨R.set i (some d), R.set i (some d), mm.set q (.lst (ws ++ (xs.take j).map w ++ [w d])), by simp [asg], ?_, _, rfl, ?_⟩
    · have hl : (ws ++ (xs.take j).map w).length < 16777216 := by
        rw [List.length_append, List.length_map, List.length_take]
        omega
      simp only [sExp, fApp, Rs.sq, Rs.bind, aCons, aNil, fVar, h3, derefL, g, hf, if_pos hl]
    · rw [Nat.zero_add, get_set g, List.take_add_one, hd]
      simp
  refine ⟨y', m', e, ?_⟩
  rw [Nat.zero_add, List.take_length] at g
  exact g
end K01
set_option Elab.async false
set_option linter.all false
set_option maxRecDepth 100000
set_option maxHeartbeats 4000000
namespace K01
open PySem PySem.Spec L2 FR
theorem runF_rt {n : Nat} {body : FS} {ds : List D} {m m' : List O} {d : D} (h : body (ds.map some ++ List.replicate (n - ds.length) none) m = .ok (.rt d) m') : runF n body ds m = .ok d m' := by
  unfold runF
  rw [h]
theorem for_app {i : Nat} {fi : FI} {f : FE} {R : Lc} {q : Nat} {xs ws : List D} {m : List O} (w : D → D) (hi : fi R m = .ok xs m) (h0 : R.set i none = R) (h3 : ∀ y, (R.set i y)[3]? = some (some (.loc q))) (hf : ∀ x m, f (R.set i (some x)) m = .ok (w x) m) (hq : m[q]? = some (.lst ws)) (hb : ws.length + xs.length ≤ 1000) :
    ∃ y' m', sFor (.nm i) fi (sExp (fApp (fVar 3) (aCons f aNil))) R m = .ok (.nx (R.set i y')) m' ∧ m'[q]? = some (.lst (ws ++ xs.map w)) := by
  obtain ⟨y', m', e, g⟩ := app_loop w h3 hf xs none m ws hq hb
  rw [h0] at e
  exact ⟨y', m', by simp only [sFor, Rs.sq, hi, e], g⟩
theorem test_bad {f : FA} {d : D} {r : Lc} {m m' : List O} {b : Bool} (hf : f r m = .ok [d] m) (h : o__law_is_bad [d] m = .ok (.bl b) m') : (tNot_ (tTru (fCB o__law_is_bad f))) r m = .ok (!b) m' := by
  simp only [tNot_, tTru, fCB, Rs.bind, hf, h, truD]
theorem pure_law (ns : List Int) (hns : ns.length ≤ 63) : ∃ m, o_law [.scr ns] [] = .ok (.bl true) m := by
  obtain ⟨fs, m1, e1, _, sch⟩ := schema_ok (m := []) (ns := ns) (first := 0) (by decide)
  suffices h : ∃ m', b_law [some (.scr ns), none, none, none, none, none, none, none, none, none, none] [] = .ok (.rt (.bl true)) m' by
    obtain ⟨m', e⟩ := h
    exact ⟨m', runF_rt (n := 11) (ds := [.scr ns]) e⟩
  have hq3 : (m1 ++ [O.lst wrong0])[m1.length]? = some (.lst wrong0) := getL
  obtain ⟨y4, m4, e4, q4⟩ := for_app (i := 4) (fi := (iAll (fLst (aCons (fC (.str "")) (aCons (fC (.str "A")) (aCons (fC (.str "9z")) (aCons (fC (.str "_z")) (aCons (fC (.str "abcdefghijk")) (aCons (fC (.str "a b")) (aCons (fC (.str "aB")) (aCons (fC (.str "a.b")) (aCons (fC (.str "a-b")) (aCons (fC (.str "a_B")) (aCons (fC (.str "a9.")) (aCons (fC (.int 5)) (aCons (fC .non) aNil)))))))))))))))) (f := (fTup (aCons (fTup (aCons (fVar 4) (aCons (fC (.str "required")) (aCons (fC (.str "int")) aNil)))) aNil)))
    (R := [some (.scr ns), some (.tup fs), some good, some (.loc m1.length), none, none, none, none, none, none, none]) (xs := names13) wName rfl rfl (fun y => rfl) (fun x m => rfl) hq3 (by decide)
  obtain ⟨y5, m5, e5, q5⟩ := for_app (i := 5) (fi := (iAll (fLst (aCons (fC (.str "needed")) (aCons (fC (.str "")) (aCons (fC .non) (aCons (fC (.int 1)) aNil))))))) (f := (fTup (aCons (fTup (aCons (fC (.str "z9")) (aCons (fVar 5) (aCons (fC (.str "int")) aNil)))) aNil)))
    (R := [some (.scr ns), some (.tup fs), some good, some (.loc m1.length), y4, none, none, none, none, none, none]) (xs := rules4) wRule rfl rfl (fun y => rfl) (fun x m => rfl) q4 (by decide)
  obtain ⟨y6, m6, e6, q6⟩ := for_app (i := 6) (fi := (iAll (fLst (aCons (fC (.str "float")) (aCons (fC (.str "")) (aCons (fC .non) (aCons (fC (.int 7)) (aCons (fTup aNil) (aCons (fLst (aCons (fVar 2) aNil)) (aCons (fTup (aCons (fVar 2) (aCons (fVar 2) aNil))) aNil)))))))))) (f := (fTup (aCons (fTup (aCons (fC (.str "z9")) (aCons (fC (.str "optional")) (aCons (fVar 6) aNil)))) aNil)))
    (R := [some (.scr ns), some (.tup fs), some good, some (.loc m1.length), y4, y5, none, none, none, none, none]) (xs := kinds7) wKind rfl rfl (fun y => rfl) (fun x m => rfl) q5 (by decide)
  have q6 : m6[m1.length]? = some (.lst wrong) := q6
  -- every wrong one
  have e9 : ∃ y9 m9, (sFor (.nm 10) (iAll (fFrz (fVar 3))) (sIf (tOr_ (tNot_ (tTru (fCB o__law_is_bad (aCons (fVar 10) aNil)))) (tNot_ (tTru (fCB o__law_is_bad (aCons (fTup (aCons (fTup (aCons (fC (.str "g")) (aCons (fC (.str "repeated")) (aCons (fVar 10) aNil)))) aNil)) aNil))))) (sRet (fC (.bl false))) sNx))
      [some (.scr ns), some (.tup fs), some good, some (.loc m1.length), y4, y5, y6, some deep, some (.tup manyL), none, none] m6 = .ok (.nx [some (.scr ns), some (.tup fs), some good, some (.loc m1.length), y4, y5, y6, some deep, some (.tup manyL), none, y9]) m9 := by
    obtain ⟨r', m', e, y, rfl⟩ := forL_inv (p := .nm 10) (body := (sIf (tOr_ (tNot_ (tTru (fCB o__law_is_bad (aCons (fVar 10) aNil)))) (tNot_ (tTru (fCB o__law_is_bad (aCons (fTup (aCons (fTup (aCons (fC (.str "g")) (aCons (fC (.str "repeated")) (aCons (fVar 10) aNil)))) aNil)) aNil))))) (sRet (fC (.bl false))) sNx))
      (fun j r mm => ∃ y, r = [some (.scr ns), some (.tup fs), some good, some (.loc m1.length), y4, y5, y6, some deep, some (.tup manyL), none, y]) wrong 0 [some (.scr ns), some (.tup fs), some good, some (.loc m1.length), y4, y5, y6, some deep, some (.tup manyL), none, none] (m6.set m1.length .dead) ⟨none, rfl⟩ fun j d r mm hd ⟨y1, hr⟩ => by
      subst hr
      obtain ⟨b1, b2⟩ := all_wrong d (List.mem_of_getElem? hd)
      obtain ⟨ma, ea⟩ := b1 mm
      obtain ⟨mb, eb⟩ := b2 ma
      refine ⟨[some (.scr ns), some (.tup fs), some good, some (.loc m1.length), y4, y5, y6, some deep, some (.tup manyL), none, some d], [some (.scr ns), some (.tup fs), some good, some (.loc m1.length), y4, y5, y6, some deep, some (.tup manyL), none, some d], mb, rfl, ?_, _, rfl⟩
      refine (if_f (m' := mb) ?_).trans rfl
      have t1 := test_bad (f := (aCons (fVar 10) aNil)) (r := [some (.scr ns), some (.tup fs), some good, some (.loc m1.length), y4, y5, y6, some deep, some (.tup manyL), none, some d]) rfl ea
      have t2 := test_bad (f := (aCons (fTup (aCons (fTup (aCons (fC (.str "g")) (aCons (fC (.str "repeated")) (aCons (fVar 10) aNil)))) aNil)) aNil)) (r := [some (.scr ns), some (.tup fs), some good, some (.loc m1.length), y4, y5, y6, some deep, some (.tup manyL), none, some d]) rfl eb
      simp only [tOr_, Rs.bind, t1, t2, Bool.not_true]
      rfl
    refine ⟨y, m', ?_⟩
    have i1 : (iAll (fFrz (fVar 3))) [some (.scr ns), some (.tup fs), some good, some (.loc m1.length), y4, y5, y6, some deep, some (.tup manyL), none, none] m6 = .ok wrong (m6.set m1.length .dead) := by
      simp only [iAll, fFrz, fUn, fVar, Rs.bind, List.getElem?_cons_zero, List.getElem?_cons_succ, gFrz, q6]
    simp only [sFor, Rs.sq, i1, e]
  obtain ⟨y9, m9, e9⟩ := e9
  obtain ⟨ma, ea⟩ := bad_deep m9
  obtain ⟨mb, eb⟩ := bad_many ma
  obtain ⟨mc, ec⟩ := bad_gmany mb
  obtain ⟨md, ed⟩ := good_ok (m := mc) (by decide) sch.ok sch.lv
  obtain ⟨me, ee⟩ := good_deep md
  obtain ⟨mf, ef⟩ := good_12 me
  obtain ⟨mg, eg⟩ := good_a10 mf
  refine ⟨mg, ?_⟩
  unfold b_law
  refine (seq_nx (r' := [some (.scr ns), some (.tup fs), none, none, none, none, none, none, none, none, none]) (m' := m1) ?_).trans ?_
  · simp only [sSet, Rs.sq, fCB, aCons, aNil, fVar, fC, Rs.bind, List.getElem?_cons_zero, e1]
    rfl
  refine (seq_nx (r' := [some (.scr ns), some (.tup fs), some good, none, none, none, none, none, none, none, none]) (m' := m1) rfl).trans ?_
  refine (seq_nx (r' := [some (.scr ns), some (.tup fs), some good, some (.loc m1.length), none, none, none, none, none, none, none]) (m' := m1 ++ [.lst wrong0]) rfl).trans ?_
  refine (seq_nx e4).trans ((seq_nx e5).trans ((seq_nx e6).trans ?_))
  refine (seq_nx (r' := [some (.scr ns), some (.tup fs), some good, some (.loc m1.length), y4, y5, y6, some deep, none, none, none]) (m' := m6) rfl).trans ?_
  refine (seq_nx (r' := [some (.scr ns), some (.tup fs), some good, some (.loc m1.length), y4, y5, y6, some deep, some (.tup manyL), none, none]) (m' := m6) rfl).trans ?_
  refine (seq_nx e9).trans ?_
  refine (seq_nx (r' := [some (.scr ns), some (.tup fs), some good, some (.loc m1.length), y4, y5, y6, some deep, some (.tup manyL), none, y9]) (m' := mc) ?_).trans ?_
  · refine (if_f (m' := mc) ?_).trans rfl
    have t1 := test_bad (f := (aCons (fTup (aCons (fTup (aCons (fC (.str "o")) (aCons (fC (.str "required")) (aCons (fVar 7) aNil)))) aNil)) aNil)) (r := [some (.scr ns), some (.tup fs), some good, some (.loc m1.length), y4, y5, y6, some deep, some (.tup manyL), none, y9]) rfl ea
    have t2 := test_bad (f := (aCons (fVar 8) aNil)) (r := [some (.scr ns), some (.tup fs), some good, some (.loc m1.length), y4, y5, y6, some deep, some (.tup manyL), none, y9]) rfl eb
    have t3 := test_bad (f := (aCons (fTup (aCons (fTup (aCons (fC (.str "g")) (aCons (fC (.str "optional")) (aCons (fVar 8) aNil)))) aNil)) aNil)) (r := [some (.scr ns), some (.tup fs), some good, some (.loc m1.length), y4, y5, y6, some deep, some (.tup manyL), none, y9]) rfl ec
    simp only [tOr_, Rs.bind, t1, t2, t3, Bool.not_true]
    rfl
  · have a1 : (aCons (fVar 1) aNil) [some (.scr ns), some (.tup fs), some good, some (.loc m1.length), y4, y5, y6, some deep, some (.tup manyL), none, y9] mc = .ok [.tup fs] mc := rfl
    have a2 : (aCons (fVar 7) aNil) [some (.scr ns), some (.tup fs), some good, some (.loc m1.length), y4, y5, y6, some deep, some (.tup manyL), none, y9] md = .ok [deep] md := rfl
    have a3 : (aCons (fSl (fVar 8) pNo (pSo (fC (.int 12)))) aNil) [some (.scr ns), some (.tup fs), some good, some (.loc m1.length), y4, y5, y6, some deep, some (.tup manyL), none, y9] me = .ok [.tup ((manyS.take 12).map leafO)] me := rfl
    have a4 : (aCons (fTup (aCons (fTup (aCons (fBin gMul (fC (.str "a")) (fC (.int 10))) (aCons (fC (.str "repeated")) (aCons (fSl (fVar 8) (pSo (fC (.int 1))) pNo) aNil)))) aNil)) aNil) [some (.scr ns), some (.tup fs), some good, some (.loc m1.length), y4, y5, y6, some deep, some (.tup manyL), none, y9] mf = .ok [.tup [.tup [.str "aaaaaaaaaa", .str "repeated", .tup ((manyS.drop 1).map leafO)]]] mf := rfl
    simp only [sRet, Rs.sq, fUn, fOr, fCB, Rs.bind, a1, ed, a2, ee, a3, ef, a4, eg, gNot, Bool.not_false]
end K01
set_option Elab.async false
set_option linter.all false
set_option maxRecDepth 100000
set_option maxHeartbeats 0
open PySem PySem.W PySem.Calls PyProof.Rows
theorem PySem.Challenge.cw_columnkin_k01_no_schemas_holds : PySem.Challenge.rw_columnkin_k01_no_schemas.Holds := by
  w_on; o_law
  refine HandSHeadRun.head_any (r := OpenLaw.row PySem.Challenge.rw_columnkin_k01_no_schemas) (q := view (OpenLaw.row PySem.Challenge.rw_columnkin_k01_no_schemas).prog [30]) (H := K01.hk) (ob := FR.obY 6 K01.hFa K01.hFn K01.hXs) (M := 9000) (loose := K01.loose) (d := HandSHeadRun.topDef (OpenLaw.row PySem.Challenge.rw_columnkin_k01_no_schemas).prog 30) (kwd := []) FR.obY_eq
    (by kernel_rfl) (fun s => by kernel_rfl) K01.run (by kernel_rfl) (by kernel_rfl) (by kernel_rfl) (by rfl) (by first | assumption | decide +kernel) (by decide +kernel) ⟨rfl, rfl, rfl, rfl, rfl, by decide +kernel⟩ ?hw ?hc
  case hw => w_witness2
  case hc =>
    refine FR.law_fin (l := PySem.Challenge.rw_columnkin_k01_no_schemas) (k := 13) rfl (by kernel_rfl) ⟨rfl, by decide, by decide⟩ K01.pure_law ?_
    intro w mg fa h Y G hmg0
    obtain ⟨K, KX, cc, cx⟩ := Y
    have hmg : mg ("law" : PySem.Str) = some (.ref fa) := by
      have e : (HandSHeadRun.topDef (OpenLaw.row PySem.Challenge.rw_columnkin_k01_no_schemas).prog 30).name = ("law" : PySem.Str) := by kernel_rfl
      rw [← e]
      exact hmg0
    obtain ⟨fd, hb, hF⟩ := K01.facts (P := (PySem.Challenge.rw_columnkin_k01_no_schemas).prog) (w := w) KX G hmg cc cx
    exact ⟨K, fd, KX, hb, fun base _ _ => hF base⟩
